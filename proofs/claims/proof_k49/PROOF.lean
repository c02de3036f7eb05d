import PyProof.Rows.All
import Wide.All
import OpenK.AllK
import Wide.FinOn
import Lean
import PyProof.EqAt
import PyProof.EqKinds
import PyProof.TupleCall
import PySem.Challenge.RW_ringbase_k49_forests_counted
set_option Elab.async false
set_option linter.all false
set_option maxRecDepth 100000
abbrev gC:=@decide_eq_true
abbrev j9:=@decide_eq_false
abbrev Am:=@of_decide_eq_true
abbrev ve:=@List.mem_append_right
abbrev sA:=@List.mem_cons_of_mem
abbrev Cy:=@List.mem_of_getElem?
abbrev Cq:=@List.getElem?_eq_some_iff
abbrev Gz:=@Option.map_eq_some_iff
abbrev GA:=@List.mem_append_left
abbrev bq:=List (PySem.Addr×PySem.Obj)
abbrev iB:=PySem.Value->PySem.Shared->Prop
abbrev iS:=PySem.Str->Option PySem.Value
abbrev bF:=PySem.W.Frag
namespace L2
open PySem PySem.Spec PyProof.Rows
abbrev jd:=@wpAny_bind
abbrev Key:=Sum Int Str
def DK:Key->Value->Bool
 | .inl k,v=>Value.isInt k v
 | .inr x,v=>Value.isStrOf x v
def Ky(w:World):Key->Int
 | .inl k=>hashInt k
 | .inr x=>hashStr w x
theorem bZ:∀{k:Key} {v:Value},DK k v=true->(∃ i t,k=Sum.inl i/\v=Value.int i t)\/(∃ x t,k=Sum.inr x/\v=Value.str x t)
 | .inl i,v,h=>by
   obtain⟨t,e⟩:=Value.isInt_shape (k:=i) (v:=v) h;exact .inl ⟨i,t,rfl,e⟩
 | .inr x,v,h=>by
   obtain⟨t,e⟩:=Value.isStrOf_shape (x:=x) (v:=v) h;exact .inr ⟨x,t,rfl,e⟩
theorem Eu(a b:Int):decide ((Sum.inl a:Key)=Sum.inl b)=(a==b):=by
 by_cases e:a=b
 ·subst e;simp
 ·have h : ¬(Sum.inl a:Key)=Sum.inl b:=fun q=>e (Sum.inl.inj q)
  rw[j9 h];exact(beq_eq_false_iff_ne.mpr e).symm
theorem Ew(a b:Str):decide ((Sum.inr a:Key)=Sum.inr b)=decide (a=b):=by
 by_cases e:a=b
 ·subst e;simp
 ·have h : ¬(Sum.inr a:Key)=Sum.inr b:=fun q=>e (Sum.inr.inj q)
  rw[j9 h,j9 e]
theorem Ex(a:Int)(b:Str):decide ((Sum.inl a:Key)=Sum.inr b)=false:=j9 (fun q=>nomatch q)
theorem Ey(a:Str)(b:Int):decide ((Sum.inr a:Key)=Sum.inl b)=false:=j9 (fun q=>nomatch q)
def xZ(prog:Program)(w:World):PySem.KeyKind prog w Key where
 is:=DK
 hash:=Ky w
 inj:=fun v a b ha hb=>by
  rcases bZ ha with⟨i,t,rfl,rfl⟩|⟨x,t,rfl,rfl⟩
  ·rcases bZ hb with⟨j,u,rfl,e⟩|⟨y,u,rfl,e⟩
   ·injection e with e1 _;rw[e1]
   ·exact nomatch e
  ·rcases bZ hb with⟨j,u,rfl,e⟩|⟨y,u,rfl,e⟩
   ·exact nomatch e
   ·injection e with e1 _;rw[e1]
 byValue:=fun k v h=>by
  rcases bZ h with⟨i,t,rfl,rfl⟩|⟨x,t,rfl,rfl⟩<;>rfl
 pyHash:=fun hv h=>by
  rcases bZ hv with⟨i,t,rfl,rfl⟩|⟨x,t,rfl,rfl⟩
  ·exact wpAny_pyHash_int h
  ·exact wpAny_pyHash_str h
 eqBool:=fun hu hv h=>by
  rcases bZ hu with⟨i,t,rfl,rfl⟩|⟨x,t,rfl,rfl⟩
  ·rcases bZ hv with⟨j,u,rfl,rfl⟩|⟨y,u,rfl,rfl⟩
   ·rw[Eu]at h;exact wpAny_eqBool_int h
   ·rw[Ex]at h;exact SeqAt.EqAt.int_str i t y u _ _ _ _ h
  ·rcases bZ hv with⟨j,u,rfl,rfl⟩|⟨y,u,rfl,rfl⟩
   ·rw[Ey]at h;exact SeqAt.EqAt.str_int x t j u _ _ _ _ h
   ·rw[Ew]at h;exact wpAny_eqBool_str h
 «strs»:=fun k x t v h=>by
  rcases bZ h with⟨i,u,rfl,e⟩|⟨y,u,rfl,e⟩
  ·exact nomatch e
  ·injection e with e1 _
   subst e1;cases v<;>rfl
inductive V where
 | fH | bl (b:Bool) | int (i:Int) | str (x:Str) | Ar (b:Array UInt8) | Gh (b:UInt64) | ref (a:Addr) | ty (n:String)
 deriving DecidableEq
def RelV:V->Value->Prop
 | .fH,u=>u=Value.none
 | .bl b,u=>u=Value.bool b
 | .int i,u=>∃ t,u=Value.int i t
 | .str x,u=>∃ t,u=Value.str x t
 | .Ar b,u=>∃ t,u=Value.bytes b t
 | .Gh b,u=>∃ t,u=Value.float b t
 | .ref a,u=>u=Value.ref a
 | .ty n,u=>u=Value.type n
abbrev Vals:List V->List Value->Prop:=Paired RelV
theorem Vals.length{xs:List V}{us:List Value}(r:Vals xs us):xs.length=us.length:=Paired.length r
theorem Vals.get:∀{xs:List V} {us:List Value} {i:Nat} {x:V},Vals xs us->xs[i]?=some x->∃ u,us[i]?=some u/\RelV x u
 | _,_,_,_,.nil,e=>by simp at e
 | _,_,0,_,.cons r _,e=>by simp at e;subst e;exact⟨_,rfl,r⟩
 | _,_,i+1,x,.cons _ t,e=>by
   obtain⟨u,h1,h2⟩:=Vals.get (i:=i) (x:=x) t (by simpa using e)
   exact⟨u,by simpa using h1,h2⟩
theorem Vals.set{x:V}{u:Value}(r:RelV x u):∀{xs:List V} {us:List Value} (i:Nat),Vals xs us->Vals (xs.set i x) (us.set i u)
 | _,_,_,.nil=>.nil
 | _,_,0,.cons _ t=>.cons r t
 | _,_,i+1,.cons q t=>.cons q (Vals.set r i t)
theorem Vals.append:∀{xs ys:List V} {us ws:List Value},Vals xs us->Vals ys ws->Vals (xs++ys) (us++ws)
 | _,_,_,_,.nil,s=>s
 | _,_,_,_,.cons r t,s=>.cons r (Vals.append t s)
theorem Vals.take:∀{xs:List V} {us:List Value} (n:Nat),Vals xs us->Vals (xs.take n) (us.take n)
 | _,_,0,_=>.nil
 | _,_,_+1,.nil=>.nil
 | _,_,n+1,.cons r t=>.cons r (Vals.take n t)
theorem Vals.drop:∀{xs:List V} {us:List Value} (n:Nat),Vals xs us->Vals (xs.drop n) (us.drop n)
 | _,_,0,r=>r
 | _,_,_+1,.nil=>.nil
 | _,_,n+1,.cons _ t=>Vals.drop n t
def Ez:Option V->Option Value->Prop
 | some v,some u=>RelV v u
 | none,none=>True
 | _,_=>False
def KV{κ:Type}:List (κ×V)->List (κ×Value)->Prop:=Paired fun(p:κ×V) (q:κ×Value)=>p.1=q.1/\RelV p.2 q.2
def kV:Key->V
 | .inl i=>.int i
 | .inr x=>.str x
inductive HO where
 | lst (xs:List V)
 | tup (xs:List V)
 | dK (kvs:List (Key×V)) | dT (kvs:List (List Key×V))
 | set (S:Int->Bool) (n:Nat)
 | ins (C dx:Addr) (fs:List (Str×V))
 | own (x:Addr)
 | xd (fs:List (Str×V))
 | met (f x:Addr)
 | wX (lo hi:Int)
 | w4 (o:Obj) (u:HO)
 | DL (ps:Array Value)
 | ext (φ:Heap->Prop)
abbrev Hp:=Addr->Option HO
def upd(H:Hp)(a:Addr)(o:HO):Hp:=fun b=>if b=a then some o else H b
theorem aj{H:Hp}{a:Addr}{o:HO}:upd H a o a=some o:=by unfold upd;rw[if_pos rfl]
theorem aL{H:Hp}{a b:Addr}{o:HO}(h:b≠a):upd H a o b=H b:=by unfold upd;rw[if_neg h]
theorem GB{H:Hp}{a b:Addr}{o u:HO}(h:H a=some o)(h' : H b=some u)(d:o≠u):a≠b:=by
 intro e;subst e;rw[h]at h';exact d (Option.some.inj h')
theorem bS{H:Hp}{a b:Addr}{o:HO}(h:H a=some o)(h' : H b=none):a≠b:=by
 intro e;subst e;rw[h]at h';cases h'
def Cz(qs:Array Value):Str:=match (qs[0]?:Option Value) with | some (Value.str q _)=>q | _=>""
section
variable (P:Program)(w:World)
def cC(H:Hp)(h:Heap)(a:Addr):HO->Prop
 | .lst xs=>xs.length<=sizeLine/\∃(its:List Value) (n:Nat),Vals xs its/\h.get? a=some { cls:=.type "list",data:=.seq its.toArray n}
 | .tup xs=>xs.length<=sizeLine/\∃ its:List Value,Vals xs its/\IsTup h a its.toArray
 | .dK kvs=>kvs.length<=sizeLine/\(a==sysModules)=false/\∃ vs,KV kvs vs/\h.DictOf (xZ P w) a vs
 | .dT kvs=>kvs.length<=sizeLine/\(a==sysModules)=false/\∃ xs:List (List Key×Addr×Value),
  Paired (fun(p:List Key×V) (q:List Key×Addr×Value)=>p.1=q.1/\H q.2.1=some (.tup (p.1.map kV))/\RelV p.2 q.2.2) kvs xs/\
  ∃ o es ep,h.get? a=some o/\o.ExactDict/\o.data = .dict es ep/\es.toList=xs.map (entryOfKey (tupleKind (xZ P w)))/\(xs.map (·.1)).Nodup
 | .set S n=>h.SetOf (intKind P w) a S n
 | .ins C dx fs=>H dx=some (.own a)/\fs.length<=1000/\dx≠a/\h.get? a=some (PySem.W.instObj C dx)/\
  ∃ mA,h.Ns1 dx mA/\(∀ f,Ez (fs.lookup f) (mA f))/\PySem.Within mA (fs.map (·.1))
 | .own _=>∃ o,h.get? a=some o
 | .xd fs=>∃ mA,h.Ns1 a mA/\∀ f,Ez (fs.lookup f) (mA f)
 | .wX lo hi=>∃ t u v,h.get? a=some { cls:=.type "range",data:=.fields #[.int lo t,.int hi u,.int 1 v]}
 | .w4 o u=>h.get? a=some o/\cC H h a u
 | .DL qs=>∃ ps:Array Value,h.get? a=some { cls:=.none,data:=.fields ps}/\((qs.size=3/\(ps = #[]\/∃ c,ps = #[qs.getD 1 .none,qs.getD 2 .none,.ref c]/\H c=some (.own a)/\h.CodeRec (.ref c) (Cz qs)))\/∃ q l k,qs = #[q,l,k]++ps/\ps.size=3)
 | .met f x=>h.get? a=some (PySem.W.methodObj (.ref f) (.ref x))
 | .ext φ=>φ h/\(∃ o,h.get? a=some o)/\∀ h1 h2:Heap,φ h1->(∀ o,h1.get? a=some o->h2.get? a=some o)->φ h2
def nH(H:Hp)(h:Heap):Prop:=∀ a o,H a=some o->cC P w H h a o
end
section
variable {P:Program}{w:World}{H H' : Hp}{h h' : Heap}{a:Addr}{o:HO}
theorem cC.lt(x:cC P w H h a o):a<h.objs.size:=by
 cases o with
 | lst xs=>obtain⟨_,_,_,_,e⟩:=x;exact Heap.lt_size e
 | tup xs=>obtain⟨_,_,_,p⟩:=x;exact p.lt
 | dK kvs=>obtain⟨_,_,_,_,o,_,_,e,_⟩:=x;exact Heap.lt_size e
 | dT kvs=>obtain⟨_,_,_,_,o,_,_,e,_⟩:=x;exact Heap.lt_size e
 | set S n=>obtain⟨o,_,_,_,e,_⟩:=x;exact Heap.lt_size e
 | ins C dx fs=>obtain⟨_,_,_,e,_⟩:=x;exact Heap.lt_size e
 | own y=>obtain⟨_,e⟩:=x;exact Heap.lt_size e
 | xd fs=>obtain⟨_,⟨_,_,_,e,_⟩,_⟩:=x;exact Heap.lt_size e
 | wX lo hi=>obtain⟨_,_,_,e⟩:=x;exact Heap.lt_size e
 | w4 ob u=>obtain⟨e,_⟩:=x;exact Heap.lt_size e
 | DL ps=>obtain⟨_,e,_⟩:=x;exact Heap.lt_size e
 | met f y=>exact Heap.lt_size (show h.get? a=some _ from x)
 | ext φ=>obtain⟨_,⟨_,e⟩,_⟩:=x;exact Heap.lt_size e
theorem Paired.EA{α β:Type}{F G:α->β->Prop}:∀{l₁:List α} {l₂:List β},Paired F l₁ l₂->(∀ a b,F a b->G a b)->Paired G l₁ l₂
 | _,_,.nil,_=>.nil
 | _,_,.cons r t,f=>.cons (f _ _ r) (Paired.EA t f)
theorem Paired.imp'{α β:Type}{F G:α->β->Prop}(f:∀ a b,F a b->G a b){l₁:List α}{l₂:List β}(r:Paired F l₁ l₂):Paired G l₁ l₂:=Paired.EA r f
theorem cC.stay(x:cC P w H h a o)(k:∀ b u,(b=a\/H b=some (.own a))->h.get? b=some u->h'.get? b=some u)
 (ho:∀ b,H b=some (.own a)->H' b=some (.own a)) (ht:∀ b xs,H b=some (.tup xs)->H' b=some (.tup xs)):cC P w H' h' a o:=by
 induction o with
 | lst xs=>obtain⟨z,its,n,r,e⟩:=x;exact⟨z,its,n,r,k _ _ (.inl rfl) e⟩
 | tup xs=>obtain⟨z,its,r,ob,e,c⟩:=x;exact⟨z,its,r,ob,k _ _ (.inl rfl) e,c⟩
 | dK kvs=>obtain⟨z,y,vs,r,ob,es,ep,e,c⟩:=x;exact⟨z,y,vs,r,ob,es,ep,k _ _ (.inl rfl) e,c⟩
 | dT kvs =>
   obtain⟨z,y,xs,r,ob,es,ep,e,c⟩:=x;exact⟨z,y,xs,Paired.EA r fun p q z=>⟨z.1,ht _ _ z.2.1,z.2.2⟩,ob,es,ep,k _ _ (.inl rfl) e,c⟩
 | set S n=>obtain⟨ob,es,ep,t,e,c⟩:=x;exact⟨ob,es,ep,t,k _ _ (.inl rfl) e,c⟩
 | ins C dx fs =>
   obtain⟨d,z,ne,e,mA,⟨od,es,ep,e2,c⟩,r⟩:=x;exact⟨ho _ d,z,ne,k _ _ (.inl rfl) e,mA,⟨od,es,ep,k _ _ (.inr d) e2,c⟩,r⟩
 | own y=>obtain⟨ob,e⟩:=x;exact⟨ob,k _ _ (.inl rfl) e⟩
 | xd fs=>obtain⟨mA,⟨od,es,ep,e,c⟩,r⟩:=x;exact⟨mA,⟨od,es,ep,k _ _ (.inl rfl) e,c⟩,r⟩
 | wX lo hi=>obtain⟨t,u,v,e⟩:=x;exact⟨t,u,v,k _ _ (.inl rfl) e⟩
 | w4 ob u ih=>obtain⟨e,q⟩:=x;exact⟨k _ _ (.inl rfl) e,ih q⟩
 | DL qs =>
   obtain⟨ps,e,f⟩:=x;refine⟨ps,k _ _ (.inl rfl) e,?_⟩;rcases f with⟨hz,f|⟨c,e1,e2,c',oc,vs,tq,hc,ho',hd,hv⟩⟩|f
   ·exact .inl ⟨hz,.inl f⟩
   ·cases hc;exact .inl ⟨hz,.inr ⟨c,e1,ho _ e2,c,oc,vs,tq,rfl,k _ _ (.inr e2) ho',hd,hv⟩⟩
   ·exact .inr f
 | met f y =>
   have e:h.get? a=some (PySem.W.methodObj (.ref f) (.ref y)):=x;show h'.get? a=some (PySem.W.methodObj (.ref f) (.ref y));exact k a _ (.inl rfl) e
 | ext φ=>obtain⟨p,⟨o,e⟩,st⟩:=x;exact⟨st _ _ p fun o q=>k _ _ (.inl rfl) q,⟨o,k _ _ (.inl rfl) e⟩,st⟩
theorem nH.lt(x:nH P w H h)(e:H a=some o):a<h.objs.size:=(x a o e).lt
theorem nH.fresh(x:nH P w H h)(e:h.objs.size<=a):H a=none:=by
 cases q:H a with
 | none=>rfl
 | some u=>exact absurd (Nat.lt_of_lt_of_le (x.lt q) e) (Nat.lt_irrefl _)
theorem nH.kept(x:nH P w H h)(k:∀ b u,h.get? b=some u->h'.get? b=some u):nH P w H h':=fun a o e =>
 (x a o e).stay (fun b u _ q=>k b u q) (fun _ q=>q) fun _ _ q=>q
theorem nH.laid(x:nH P w H h)(k:∀ b u,h.get? b=some u->h'.get? b=some u)(hp:h.objs.size<=a)(new:cC P w (upd H a o) h' a o):nH P w (upd H a o) h':=fun b u e=>by
 have hn:=x.fresh hp
 by_cases hb:b=a
 ·subst hb;rw[aj]at e;cases e;exact new
 ·rw[aL hb]at e;exact(x b u e).stay (fun c v _ q=>k c v q) (fun c q=>by rw[aL (bS q hn)];exact q) fun c xs q=>by rw[aL (bS q hn)];exact q
end
def Rd(H:Hp)(a:Addr)(u:HO):Prop:=H a=some u\/∃ o,H a=some (.w4 o u)
theorem Rd.ok{P:Program}{w:World}{H:Hp}{h:Heap}{a:Addr}{u:HO}(r:Rd H a u)(x:nH P w H h):cC P w H h a u:=by
 rcases r with r|⟨o,r⟩
 ·exact x a u r
 ·obtain⟨_,q⟩:=x a _ r;exact q
def Ju:Option HO->Prop
 | some (.lst _)=>True
 | some (.dK _)=>True
 | some (.dT _)=>True
 | some (.set _ _)=>True
 | some (.ins _ _ _)=>True
 | some (.ext _)=>True
 | _=>False
section
variable {P:Program}{w:World}{H:Hp}{h h' : Heap}{x e:Addr}{o' : HO}
theorem nH.write(ok:nH P w H h)(mu:Ju (H x))(he:e=x\/H e=some (.own x))(k:∀ b u,b≠e->h.get? b=some u->h'.get? b=some u)(Gi:∃ u,h'.get? e=some u)
 (new:cC P w (upd H x o') h' x o'):nH P w (upd H x o') h':=fun b u q=>by
 have GC:∀ c y,H c=some (.own y)->c≠x:=fun c y r z=>by subst z;rw[r]at mu;exact mu
 have Kz:∀ c xs,H c=some (.tup xs)->c≠x:=fun c xs r z=>by subst z;rw[r]at mu;exact mu
 by_cases hb:b=x
 ·subst hb;rw[aj]at q;cases q;exact new
 ·rw[aL hb]at q
  by_cases EB:b=e
  ·have q' : H b=some (.own x):=by
    rcases he with z|z
    ·exact absurd (EB.trans z) hb
    ·rw[EB];exact z
   rw[q]at q';cases q';obtain⟨v,hv⟩:=Gi;exact⟨v,by rw[EB];exact hv⟩
  ·refine(ok b u q).stay (fun c v hc r=>k c v ?_ r) (fun c r=>by rw[aL (GC c b r)];exact r) fun c xs r=>by rw[aL (Kz c xs r)];exact r
   rcases hc with rfl|hc
   ·exact EB
   ·rintro rfl;rcases he with z|z
    ·exact GC c b hc z
    ·rw[hc]at z;cases z;exact hb rfl
end
structure Un(fs ex:List Addr)(H H' : Hp)(h h' : Heap):Prop where
 keep:∀ b o,h.get? b=some o->H b=none->b∉fs->b∉ex->h'.get? b=some o
 slot:∀ b o,h.get? b=some o->H b=none->b∈fs->b∉ex->∃ sl,h'.get? b=some { o with slots:=sl}
 free:∀ b o,h.get? b=some o->H b=none->b∉ex->H' b=none
 there:∀ b o,h.get? b=some o->b∉ex->∃ o',h'.get? b=some o'
 tups:∀ b xs,H b=some (.tup xs)->H' b=some (.tup xs)
 nJ:∀ b o u,H b=some (.w4 o u)->H' b=some (.w4 o u)
 pB:∀ b ps,H b=some (.DL ps)->∃ more,H' b=some (.DL (ps++more))
section
variable {fs fs' ex ex' : List Addr}{H H1 H2:Hp}{h h1 h2 h' : Heap}{a x e:Addr}{o:HO}
theorem Un.any(u:Un fs ex H H1 h h1){b:Addr}{ob:Obj}(q:h.get? b=some ob)(n:H b=none)(hx:b∉ex):∃ sl,h1.get? b=some { ob with slots:=sl}:=by
 by_cases hb:b∈fs
 ·exact u.slot b ob q n hb hx
 ·exact⟨ob.slots,u.keep b ob q n hb hx⟩
theorem Un.kept(k:∀ b u,h.get? b=some u->h'.get? b=some u):Un fs ex H H h h' :=
 ⟨fun b ob q _ _ _=>k b ob q,fun b ob q _ _ _=>⟨ob.slots,k b ob q⟩,fun _ _ _ n _=>n,fun b ob q _=>⟨ob,k b ob q⟩,fun _ _ q=>q,fun _ _ _ q=>q,fun _ ps q=>⟨#[],by rw[q];simp⟩⟩
theorem Un.refl:Un fs ex H H h h:=Un.kept fun _ _ q=>q
theorem Un.laid(k:∀ b u,h.get? b=some u->h'.get? b=some u)(hp:h.objs.size<=a)(hn:H a=none):Un fs ex H (upd H a o) h h' where
 keep:=fun b u q _ _ _=>k b u q
 slot:=fun b u q _ _ _=>⟨u.slots,k b u q⟩
 free:=fun b u q n _=>by rw[aL (Nat.ne_of_lt (Nat.lt_of_lt_of_le (Heap.lt_size q) hp))];exact n
 there:=fun b u q _=>⟨u,k b u q⟩
 tups:=fun b xs q=>by rw[aL (bS q hn)];exact q
 nJ:=fun b u xs q=>by rw[aL (bS q hn)];exact q
 pB:=fun b ps q=>⟨#[],by rw[aL (bS q hn),q];simp⟩
theorem Un.write(mu:Ju (H x))(he:e=x\/H e=some (.own x))(k:∀ b u,b≠e->h.get? b=some u->h'.get? b=some u)(Gi:∃ u,h'.get? e=some u):Un fs ex H (upd H x o) h h':=by
 have hx:∀ b,H b=none->b≠x:=fun b n z=>by subst z;rw[n]at mu;exact mu
 have hb:∀ b,H b=none->b≠e:=fun b n z=>by
  subst z;rcases he with r|r
  ·exact hx b n r
  ·rw[n]at r;cases r
 have hm:∀ b u,H b=some u->¬ Ju (some u)->b≠x:=fun b u q nm z=>by subst z;rw[q]at mu;exact nm mu
 refine⟨fun b u q n _ _=>k b u (hb b n) q,fun b u q n _ _=>⟨u.slots,k b u (hb b n) q⟩,fun b u q n _=>by rw[aL (hx b n)];exact n,fun b u q _=>?_,
  fun b xs q=>by rw[aL (hm b _ q fun z=>z)];exact q,fun b u xs q=>by rw[aL (hm b _ q fun z=>z)];exact q,fun b ps q=>⟨#[],by rw[aL (hm b _ q fun z=>z),q];simp⟩⟩
 by_cases EB:b=e
 ·subst EB;exact Gi
 ·exact⟨u,k b u EB q⟩
end
def Gj(h:Heap)(H:Hp):List Addr:=(List.range h.objs.size).filter fun a=>(H a).isSome
def t6(h:Heap)(H:Hp):Heap:=PySem.W.hideAll h (Gj h H)
theorem zj(h:Heap)(H:Hp):(t6 h H).objs.size=h.objs.size:=PySem.W.hideAll_size _ _
theorem As{h:Heap}{H:Hp}{b:Addr}{o:Obj}(e:h.get? b=some o)(n:H b=none):(t6 h H).get? b=some o :=
 PySem.W.hideAll_get _ e fun hm=>by
  have q:(H b).isSome=true:=(List.mem_filter.mp hm).2;rw[n]at q;simp at q
theorem CA{h:Heap}{H:Hp}{b:Addr}{o:Obj}(e:(t6 h H).get? b=some o):h.get? b=some o/\H b=none:=by
 have e' : h.get? b=some o:=PySem.W.of_hideAll (Gj h H) e;refine⟨e',?_⟩;cases q:H b with
 | none=>rfl
 | some x =>
   have hm:b∈Gj h H:=List.mem_filter.mpr ⟨List.mem_range.mpr (Heap.lt_size e'),by simp[q]⟩
   have z:(t6 h H).get? b=none:=PySem.W.hideAll_none (Gj h H) hm;rw[z]at e;cases e
structure Mod(K:bF)(mg:iS)(base:Heap):Prop where
 Jv:K.In base
 glob:base.Ns mainGlobals mg
 blt:∃ mb,base.Ns builtinsNs mb/\∀ x:Str,x≠"__name__"->mb x=bootBuiltins x
 nolimit:base.NoLimit
 bmain:∃ bm ob,mg "__builtins__"=some (.ref bm)/\bm≠builtinsNs/\base.get? bm=some ob/\ob.cls = .type "module"/\ob.dict=some builtinsNs/\ob.data = .plain
structure Cx where
 prog:Program
 w:World
 K:bF
 mg:Str->Option Value
 base:Heap
 A:Around
 N:List Str
 s₀:Shared
 H₀:Hp
 env:Env
 outer:List Env
 stack:List Env
 ex:List Addr
 fn:Str->Bool
 calm:Bool
 pn:bq
 xe:Value->Shared->Prop
def frs(l:List Env):List Addr:=l.filterMap (·.frame)
abbrev Cx.fs(X:Cx):List Addr:=frs X.outer
def Jw(sc:Scope)(x:Str):Prop:=sc.names.lookup x=some .local\/sc.names.lookup x=some .cell\/sc.names.lookup x=some .free
def Loc(sc:Scope)(x:Str):Prop:=sc.names.lookup x=some .local\/sc.names.lookup x=some .cell
def Look(env:Env)(h:Heap)(m:iS)(x:Str)(u:Value):Prop :=
 (env.kindOf x=some .local/\m x=some u)\/((env.kindOf x=some .cell\/env.kindOf x=some .free)/\∃ c,env.cells.lookup x=some c/\h.IsCell c (some u))
structure Cx.Ok(X:Cx):Prop where
 mod:Mod X.K X.mg X.base
 kind:X.env.scope.kind = .function
 glob:X.env.globals=mainGlobals
 blt:X.env.builtins=builtinsNs
 above:X.s₀.heap.objs.size<=X.env.locals
 inj:∀ x y c,X.env.cells.lookup x=some c->X.env.cells.lookup y=some c->x=y
 has:∀ x,(X.env.kindOf x=some .cell\/X.env.kindOf x=some .free)->∃ c,X.env.cells.lookup x=some c
 Gk:∀ x c,X.fn x=true->X.env.cells.lookup x=some c->X.s₀.heap.objs.size<=c
 hd:X.calm=true->X.A.handled=none
 frames:X.A.frames=some X.stack
 Cr:X.stack=X.outer\/(X.stack=X.env::X.outer/\X.env.frame=some X.env.locals)
 KA:∀ b∈X.ex,b≠X.env.locals/\∀ x c,X.env.cells.lookup x=some c->c≠b
 bs:∀ b o,X.base.get? b=some o->X.s₀.heap.get? b=some o/\X.H₀ b=none
 DM:X.base.objs.size<=X.s₀.heap.objs.size
 zk:∀ b o,X.base.get? b=some o->b∉X.ex
 Au:∀ b∈X.ex,b∉X.fs
 funs:X.s₀.heap.FunFrames X.base X.outer
 DN:∀ b∈X.fs,X.H₀ b=none
structure Inv(X:Cx)(pq:bq)(σ:List (Option V))(H:Hp)(s:Shared):Prop where
 ok:X.Ok
 os:s.os=X.s₀.os
 bare:AllBare s.gens
 base:Un X.fs X.ex X.H₀ H X.s₀.heap s.heap
 loc:∃ m,s.heap.Ns X.env.locals m/\∀(i:Nat) (x:Str) (v:V),X.N[i]?=some x->σ[i]?=some (some v)->Jw X.env.scope x->∃ u,RelV v u/\Look X.env s.heap m x u
 cell:∀ x c,X.env.cells.lookup x=some c->∃ v,s.heap.IsCell c v
 free:H X.env.locals=none
 iD:∀ x c,X.env.cells.lookup x=some c->H c=none
 pin:∀ p∈X.pn++pq,s.heap.get? p.1=some p.2/\H p.1=none/\p.1≠X.env.locals/\p.1∉X.fs/\∀ v,p.2.data≠.cell v
 hok:nH X.prog X.w H s.heap
 len:σ.length=X.N.length
section
variable {X:Cx}{pq:bq}{σ:List (Option V)}{H H' : Hp}{s:Shared}{h' : Heap}
theorem Cx.Ok.KC(ok:X.Ok){b:Addr}{o:Obj}(e:X.base.get? b=some o):b∉X.fs:=fun hb=>by
 have:=(ok.funs.mem hb).1;rw[e]at this;cases this
theorem Inv.bs(I:Inv X pq σ H s):∀ b o,X.base.get? b=some o->s.heap.get? b=some o/\H b=none:=fun b o e =>
 ⟨I.base.keep b o (I.ok.bs b o e).1 (I.ok.bs b o e).2 (I.ok.KC e) (I.ok.zk b o e),I.base.free b o (I.ok.bs b o e).1 (I.ok.bs b o e).2 (I.ok.zk b o e)⟩
theorem Inv.bk(I:Inv X pq σ H s):∀ b o,X.base.get? b=some o->s.heap.get? b=some o:=fun b o e=>(I.bs b o e).1
theorem Inv.mod(I:Inv X pq σ H s):Mod X.K X.mg X.base:=I.ok.mod
theorem Inv.t8(I:Inv X pq σ H s):X.K.In s.heap:=I.ok.mod.Jv.keeps I.bk
theorem Inv.lt(I:Inv X pq σ H s):X.env.locals<s.heap.objs.size:=let⟨_,hn,_⟩:=I.loc;hn.lt
theorem Inv.sz(I:Inv X pq σ H s):X.s₀.heap.objs.size<=s.heap.objs.size:=Nat.le_trans I.ok.above (Nat.le_of_lt I.lt)
theorem Inv.KD(I:Inv X pq σ H s){a:Addr}(h:s.heap.objs.size<=a):a∉X.fs:=fun hb=>by
 obtain⟨_,o,ho,_⟩:=I.ok.funs.mem hb;exact absurd (Nat.lt_of_lt_of_le (Heap.lt_size ho) (Nat.le_trans I.sz h)) (Nat.lt_irrefl _)
theorem Inv.CB(I:Inv X pq σ H s):∀ x c,X.env.cells.lookup x=some c->c≠X.env.locals:=fun x c e z=>by
 obtain⟨v,o,ho,hd⟩:=I.cell x c e;obtain⟨m,⟨o',es,ep,ho',hd',_⟩,_⟩:=I.loc;rw[z,ho']at ho;cases ho;rw[hd']at hd;cases hd
theorem Inv.funs(I:Inv X pq σ H s):s.heap.FunFrames X.base X.outer:=by
 have all:∀(l:List Env),(∀ b∈frs l,b∈X.fs)->X.s₀.heap.FunFrames X.base l->s.heap.FunFrames X.base l:=by
  intro l
  induction l with
  | nil=>intro _ _;trivial
  | cons env r ih =>
    intro hs hl;obtain⟨hk,⟨L,o,hf,hn,ho,hd⟩,hr⟩:=hl;have hL:L∈X.fs:=hs L (by unfold frs;rw[List.filterMap_cons,hf];exact List.mem_cons_self)
    obtain⟨sl,e⟩:=I.base.slot L o ho (I.ok.DN L hL) hL fun z=>I.ok.Au L z hL
    exact⟨hk,⟨L,_,hf,hn,e,hd⟩,ih (fun b hb=>hs b (by unfold frs;rw[List.filterMap_cons,hf];exact sA _ hb)) hr⟩
 exact all X.outer (fun _ hb=>hb) I.ok.funs
theorem Inv.stack(I:Inv X pq σ H s):s.heap.FunFrames X.base X.stack:=by
 rcases I.ok.Cr with e|⟨e,hf⟩
 ·rw[e];exact I.funs
 ·rw[e];obtain⟨m,hn,_⟩:=I.loc;refine .cons (by rw[I.ok.kind];decide) hf hn ?_ I.funs
  exact Heap.get?_none_of_le (Nat.le_trans I.ok.DM I.ok.above)
theorem Inv.p5(I:Inv X pq σ H s):∀ b∈frs X.stack,b∈X.env.locals::X.fs:=fun b hb=>by
 rcases I.ok.Cr with e|⟨e,hf⟩
 ·rw[e]at hb;exact sA _ hb
 ·rw[e]at hb;unfold frs at hb;rw[List.filterMap_cons,hf]at hb;exact hb
theorem Inv.ua(I:Inv X pq σ H s):∀ b∈frs X.stack,H b=none:=fun b hb=>by
 rcases List.mem_cons.mp (I.p5 b hb) with e|hb
 ·rw[e];exact I.free
 ·obtain⟨_,o,ho,_⟩:=I.ok.funs.mem hb;exact I.base.free b o ho (I.ok.DN b hb) fun z=>I.ok.Au b z hb
theorem Inv.step{g' : Array GenState}{t' : Nat}{d' : Drawn}{ch:List Addr}(I:Inv X pq σ H s)
 (hch:∀ b∈ch,(b∈X.ex\/X.s₀.heap.objs.size<=b)/\b≠X.env.locals/\(∀ x c,X.env.cells.lookup x=some c->c≠b)/\∀ p∈X.pn++pq,p.1≠b)
 (keep:∀ b o,b≠X.env.locals->b∉X.fs->b∉ch->s.heap.get? b=some o->H b=none->h'.get? b=some o)
 (slot:∀ b o,b≠X.env.locals->b∈X.fs->b∉ch->s.heap.get? b=some o->H b=none->∃ sl,h'.get? b=some { o with slots:=sl}) (free:∀ b o,b∉ch->s.heap.get? b=some o->H b=none->H' b=none)
 (there:∀ b o,b∉ch->s.heap.get? b=some o->∃ o',h'.get? b=some o')
 (tups:∀ b xs,H b=some (.tup xs)->H' b=some (.tup xs)) (nJ:∀ b o u,H b=some (.w4 o u)->H' b=some (.w4 o u)) (pB:∀ b ps,H b=some (.DL ps)->∃ more,H' b=some (.DL (ps++more)))
 (ns:∀ m,s.heap.Ns X.env.locals m->h'.Ns X.env.locals m) (hok:nH X.prog X.w H' h') (hg:AllBare g') :
 Inv X pq σ H' { s with heap:=h',gens:=g',drawn:=d',toks:=t'}:=by
 have Qa:∀ b o,X.s₀.heap.get? b=some o->b≠X.env.locals:=fun b o e=>Nat.ne_of_lt (Nat.lt_of_lt_of_le (Heap.lt_size e) I.ok.above)
 have Jx:∀ b o,X.s₀.heap.get? b=some o->b∉X.ex->b∉ch:=fun b o e hx hb=>by
  rcases(hch b hb).1 with z|z
  ·exact hx z
  ·exact absurd (Nat.lt_of_lt_of_le (Heap.lt_size e) z) (Nat.lt_irrefl _)
 have cellK:∀ x c,X.env.cells.lookup x=some c->∀ v,s.heap.IsCell c v->h'.IsCell c v:=fun x c e v ⟨o,ho,hd⟩=>by
  have GD:c∉ch:=fun z=>(hch c z).2.2.1 x c e rfl
  by_cases hc:c∈X.fs
  ·obtain⟨sl,q⟩:=slot c o (I.CB x c e) hc GD ho (I.iD x c e);exact⟨_,q,hd⟩
  ·exact⟨o,keep c o (I.CB x c e) hc GD ho (I.iD x c e),hd⟩
 refine⟨I.ok,I.os,hg,⟨fun b o e n hb hx=>?_,fun b o e n hb hx=>?_,fun b o e n hx=>?_,fun b o e hx=>?_,fun b xs e=>tups b xs (I.base.tups b xs e),fun b o xs e=>nJ b o xs (I.base.nJ b o xs e),fun b ps e=>?_⟩,?_,fun x c e=>?_,?_,fun x c e=>?_,fun p hp=>?_,hok,I.len⟩
 ·exact keep b o (Qa b o e) hb (Jx b o e hx) (I.base.keep b o e n hb hx) (I.base.free b o e n hx)
 ·obtain⟨sl,e1⟩:=I.base.slot b o e n hb hx;obtain⟨Jy,e2⟩:=slot b _ (Qa b o e) hb (Jx b o e hx) e1 (I.base.free b o e n hx);exact⟨Jy,e2⟩
 ·obtain⟨o',e1⟩:=I.base.there b o e hx;exact free b o' (Jx b o e hx) e1 (I.base.free b o e n hx)
 ·obtain⟨o',e1⟩:=I.base.there b o e hx;exact there b o' (Jx b o e hx) e1
 ·obtain⟨m1,e1⟩:=I.base.pB b ps e;obtain⟨m2,e2⟩:=pB b _ e1;exact⟨m1++m2,by rw[e2,Array.append_assoc]⟩
 ·obtain⟨m,hn,hl⟩:=I.loc;refine⟨m,ns m hn,fun i x v e1 e2 e3=>?_⟩
  obtain⟨u,r,l⟩:=hl i x v e1 e2 e3;refine⟨u,r,?_⟩;rcases l with l|⟨k,c,e,z⟩
  ·exact .inl l
  ·exact .inr ⟨k,c,e,cellK x c e _ z⟩
 ·obtain⟨v,z⟩:=I.cell x c e;exact⟨v,cellK x c e v z⟩
 ·obtain⟨m,⟨o,_,_,ho,_⟩,_⟩:=I.loc;exact free _ o (fun z=>(hch _ z).2.1 rfl) ho I.free
 ·obtain⟨v,o,ho,hd⟩:=I.cell x c e;exact free c o (fun z=>(hch c z).2.2.1 x c e rfl) ho (I.iD x c e)
 ·obtain⟨e,n,ne,nf,d⟩:=I.pin p hp;have GD:p.1∉ch:=fun z=>(hch p.1 z).2.2.2 p hp rfl
  exact⟨keep p.1 p.2 ne nf GD e n,free p.1 p.2 GD e n,ne,nf,d⟩
theorem Inv.un{t' : Nat}(I:Inv X pq σ H s)(u:Un X.fs [] H H' s.heap h')(hok:nH X.prog X.w H' h'):Inv X pq σ H' { s with heap:=h',toks:=t'}:=by
 obtain⟨m,⟨o,es,ep,ho,r⟩,_⟩:=id I.loc;obtain⟨sl,hL⟩:=u.any ho I.free (by simp)
 exact I.step (g':=s.gens) (d':=s.drawn) (ch:=[]) (fun _ z=>nomatch z) (fun b o _ hb _ e n=>u.keep b o e n hb (by simp)) (fun b o _ hb _ e n=>u.slot b o e n hb (by simp)) (fun b o _ e n=>u.free b o e n (by simp)) (fun b o _ e=>u.there b o e (by simp)) u.tups u.nJ u.pB (fun m' hm=>by
  obtain⟨o',es',KG,ho',r'⟩:=hm;rw[ho]at ho';cases ho';exact⟨_,es',KG,hL,r'⟩) hok I.bare
theorem Inv.call{g' : Array GenState}{t' : Nat}{d' : Drawn}{ch:List Addr}(I:Inv X pq σ H s)(u:Un (frs X.stack) ch H H' s.heap h')(hok:nH X.prog X.w H' h')(hg:AllBare g')
 (hch:∀ b∈ch,(b∈X.ex\/X.s₀.heap.objs.size<=b)/\b≠X.env.locals/\(∀ x c,X.env.cells.lookup x=some c->c≠b)/\∀ p∈X.pn++pq,p.1≠b) :
 Inv X pq σ H' { s with heap:=h',gens:=g',drawn:=d',toks:=t'}:=by
 obtain⟨m,⟨o,es,ep,ho,r⟩,_⟩:=id I.loc;obtain⟨sl,hL⟩:=u.any ho I.free fun z=>(hch _ z).2.1 rfl
 exact I.step (ch:=ch) hch (fun b o hL hb hc e n=>u.keep b o e n (fun z=>(List.mem_cons.mp (I.p5 b z)).elim hL hb) hc) (fun b o _ _ hc e n=>u.any e n hc) (fun b o hc e n=>u.free b o e n hc) (fun b o hc e=>u.there b o e hc) u.tups u.nJ u.pB (fun m' hm=>by
  obtain⟨o',es',KG,ho',r'⟩:=hm;rw[ho]at ho';cases ho';exact⟨_,es',KG,hL,r'⟩) hok hg
theorem Inv.turned{t' : Nat}{it:Addr}(I:Inv X pq σ H s)(k:∀ b o,b≠it->s.heap.get? b=some o->h'.get? b=some o)(hn:H it=none)(hL:it≠X.env.locals)
 (h1:it∈X.ex\/X.s₀.heap.objs.size<=it) (h2:∀ x c,X.env.cells.lookup x=some c->c≠it) (h3:∀ p∈X.pn++pq,p.1≠it):Inv X pq σ H { s with heap:=h',toks:=t'}:=by
 have Qc:∀ b u,H b=some u->b≠it:=fun b u e z=>by rw[z,hn]at e;cases e
 refine I.step (g':=s.gens) (d':=s.drawn) (ch:=[it]) (fun b hb=>?_) (fun b o _ _ hc e _=>k b o (fun z=>hc (by simp[z])) e) (fun b o _ _ hc e _=>⟨o.slots,k b o (fun z=>hc (by simp[z])) e⟩) (fun _ _ _ _ n=>n)
  (fun b o hc e=>⟨o,k b o (fun z=>hc (by simp[z])) e⟩) (fun _ _ e=>e) (fun _ _ _ e=>e) (fun b ps e=>⟨#[],by rw[e];simp⟩) (fun m hm=>?_) (fun b u e=>?_) I.bare
 ·have e:b=it:=by simpa using hb
  subst e;exact⟨h1,hL,h2,h3⟩
 ·obtain⟨o,es,ep,ho,r⟩:=hm;exact⟨o,es,ep,k _ o (Ne.symm hL) ho,r⟩
 ·refine(I.hok b u e).stay (fun c v hc q=>k c v ?_ q) (fun _ q=>q) fun _ _ q=>q
  rcases hc with z|z
  ·rw[z];exact Qc b u e
  ·exact Qc c _ z
theorem Inv.tok(I:Inv X pq σ H s)(t:Nat):Inv X pq σ H { s with toks:=t}:=I.un (h':=s.heap) (t':=t) Un.refl I.hok
theorem Inv.kept{t' : Nat}(I:Inv X pq σ H s)(k:∀ b u,s.heap.get? b=some u->h'.get? b=some u):Inv X pq σ H { s with heap:=h',toks:=t'}:=I.un (Un.kept k) (I.hok.kept k)
theorem Inv.laid{a:Addr}{o:HO}{t' : Nat}(I:Inv X pq σ H s)(k:∀ b u,s.heap.get? b=some u->h'.get? b=some u)(hp:s.heap.objs.size<=a)(new:cC X.prog X.w (upd H a o) h' a o):
 Inv X pq σ (upd H a o) { s with heap:=h',toks:=t'}:=I.un (Un.laid k hp (I.hok.fresh hp)) (I.hok.laid k hp new)
theorem Inv.write{x e:Addr}{o:HO}{t' : Nat}(I:Inv X pq σ H s)(mu:Ju (H x))(he:e=x\/H e=some (.own x))(k:∀ b u,b≠e->s.heap.get? b=some u->h'.get? b=some u)(Gi:∃ u,h'.get? e=some u)
 (new:cC X.prog X.w (upd H x o) h' x o):Inv X pq σ (upd H x o) { s with heap:=h',toks:=t'}:=I.un (Un.write mu he k Gi) (I.hok.write mu he k Gi new)
theorem Inv.weak{σ' : List (Option V)}(I:Inv X pq σ H s)(hl:σ'.length=σ.length)(w:∀(i:Nat) v,σ'[i]?=some (some v)->σ[i]?=some (some v)):Inv X pq σ' H s :=
 ⟨I.ok,I.os,I.bare,I.base,let⟨m,hn,hl'⟩:=I.loc;⟨m,hn,fun i x v e1 e2 e3=>hl' i x v e1 (w i v e2) e3⟩,I.cell,I.free,I.iD,I.pin,I.hok,hl.trans I.len⟩
theorem Inv.pN{p7:bq}(I:Inv X pq σ H s)(h:∀ p∈p7,s.heap.get? p.1=some p.2/\H p.1=none/\p.1≠X.env.locals/\p.1∉X.fs/\∀ v,p.2.data≠.cell v):Inv X p7 σ H s :=
 ⟨I.ok,I.os,I.bare,I.base,I.loc,I.cell,I.free,I.iD,fun p hp=>(List.mem_append.mp hp).elim (fun z=>I.pin p (GA _ z)) (h p),I.hok,I.len⟩
theorem p8{N:List Str}(hN:N.Nodup){i j:Nat}{x:Str}(a:N[i]?=some x)(b:N[j]?=some x):i=j:=by
 obtain⟨h1,e1⟩:=Cq.mp a;obtain⟨h2,e2⟩:=Cq.mp b;exact(List.getElem_inj hN).mp (e1.trans e2.symm)
theorem zl{M:Model}{A:Around}{E:iB}{i:Nat}{x:Str}{v:V}{u:Value}{Q:Unit->Shared->Prop}(I:Inv X pq σ H s)(hN:X.N.Nodup)(hi:X.N[i]?=some x)(hx:Loc X.env.scope x)(r:RelV v u)
 (h:∀ s',Inv X pq (σ.set i (some v)) H s'->(∃ a,Heap.SameBut a s.heap s'.heap/\(a=X.env.locals\/X.env.cells.lookup x=some a))->Q () s') (hf:X.fn x=true\/X.env.scope.names.lookup x=some .local:=by first | exact .inl rfl | exact .inr rfl | assumption):wpAny M A (storeName X.env x u) Q E s:=by
 obtain⟨m,hn,hl⟩:=id I.loc;have hcls:(X.env.scope.kind == .class || (X.env.scope.kind == .module&&X.env.locals != X.env.globals))=false:=by rw[I.ok.kind];rfl
 have Qd:i<σ.length:=by rw[I.len];exact(Cq.mp hi).1
 have CB:=I.CB;have tracked:∀{a:Addr} {h' : Heap},(∃ o,s.heap.get? a=some o/\H a=none)->Heap.SameBut a s.heap h'->nH X.prog X.w H h':=fun {a h'} ha hs b ob e=>by
  obtain⟨_,_,hfree⟩:=ha;refine(I.hok b ob e).stay (fun c w' hc q=>(hs.2 c ?_).trans q) (fun _ q=>q) fun _ _ q=>q
  rintro rfl;rcases hc with rfl|hc
  ·rw[hfree]at e;cases e
  ·rw[hfree]at hc;cases hc
 rcases hx with hk|hk
 ·refine wpAny_storeName_local hk hn (fun h' hn' hs=>?_) hcls
  obtain⟨oL,_,_,RS,_⟩:=id hn;refine h _ ⟨I.ok,I.os,I.bare,⟨fun b o e n hb hx=>?_,fun b o e n hb hx=>?_,I.base.free,fun b o e hx=>?_,I.base.tups,I.base.nJ,I.base.pB⟩,⟨_,hn',fun j y v' e1 e2 e3=>?_⟩,fun y c e=>?_,I.free,I.iD,fun p hp=>?_,tracked ⟨oL,RS,I.free⟩ hs,by simpa using I.len⟩ ⟨_,hs,.inl rfl⟩
  ·exact(hs.2 b (Nat.ne_of_lt (Nat.lt_of_lt_of_le (Heap.lt_size e) I.ok.above))).trans (I.base.keep b o e n hb hx)
  ·obtain⟨sl,e1⟩:=I.base.slot b o e n hb hx;exact⟨sl,(hs.2 b (Nat.ne_of_lt (Nat.lt_of_lt_of_le (Heap.lt_size e) I.ok.above))).trans e1⟩
  ·obtain⟨o',e1⟩:=I.base.there b o e hx;exact⟨o',(hs.2 b (Nat.ne_of_lt (Nat.lt_of_lt_of_le (Heap.lt_size e) I.ok.above))).trans e1⟩
  ·by_cases hj:j=i
   ·subst hj;rw[hi]at e1;cases e1;rw[List.getElem?_set_self Qd]at e2;cases e2;exact⟨u,r,.inl ⟨hk,by simp⟩⟩
   ·rw[List.getElem?_set_ne (Ne.symm hj)]at e2;obtain⟨u',r',q⟩:=hl j y v' e1 e2 e3;refine⟨u',r',?_⟩;rcases q with⟨k,e⟩|⟨k,c,e,z⟩
    ·refine .inl ⟨k,?_⟩;have:y≠x:=fun e=>hj (p8 hN e1 (e▸hi))
     simp[this,e]
    ·exact .inr ⟨k,c,e,z.sameBut hs (CB y c e)⟩
  ·obtain⟨w',z⟩:=I.cell y c e;exact⟨w',z.sameBut hs (CB y c e)⟩
  ·obtain⟨e,n,ne,nf,d⟩:=I.pin p hp;exact⟨(hs.2 p.1 ne).trans e,n,ne,nf,d⟩
 ·have hfn:X.fn x=true:=by
   rcases hf with z|z
   ·exact z
   ·rw[z]at hk;cases hk
  obtain⟨c,hc⟩:=I.ok.has x (.inl hk);obtain⟨w',z⟩:=I.cell x c hc;refine wpAny_storeName_cell I.ok.kind hk hc z (fun h' hc' hs=>?_)
  obtain⟨oc,hoc,KH⟩:=id z;refine h { s with heap:=h'} ⟨I.ok,I.os,I.bare,⟨fun b o e n hb hx=>?_,fun b o e n hb hx=>?_,I.base.free,fun b o e hx=>?_,I.base.tups,I.base.nJ,I.base.pB⟩,⟨m,hn.sameBut hs (Ne.symm (CB x c hc)),fun j y v' e1 e2 e3=>?_⟩,fun y c' e=>?_,I.free,I.iD,fun p hp=>?_,tracked ⟨oc,hoc,I.iD x c hc⟩ hs,by simpa using I.len⟩ ⟨c,hs,.inr hc⟩
  ·exact(hs.2 b (Nat.ne_of_lt (Nat.lt_of_lt_of_le (Heap.lt_size e) (I.ok.Gk x c hfn hc)))).trans (I.base.keep b o e n hb hx)
  ·obtain⟨sl,e1⟩:=I.base.slot b o e n hb hx;exact⟨sl,(hs.2 b (Nat.ne_of_lt (Nat.lt_of_lt_of_le (Heap.lt_size e) (I.ok.Gk x c hfn hc)))).trans e1⟩
  ·obtain⟨o',e1⟩:=I.base.there b o e hx;exact⟨o',(hs.2 b (Nat.ne_of_lt (Nat.lt_of_lt_of_le (Heap.lt_size e) (I.ok.Gk x c hfn hc)))).trans e1⟩
  ·by_cases hj:j=i
   ·subst hj;rw[hi]at e1;cases e1;rw[List.getElem?_set_self Qd]at e2;cases e2;exact⟨u,r,.inr ⟨.inl hk,c,hc,hc'⟩⟩
   ·rw[List.getElem?_set_ne (Ne.symm hj)]at e2;obtain⟨u',r',q⟩:=hl j y v' e1 e2 e3;refine⟨u',r',?_⟩;rcases q with q|⟨k,c',e,z'⟩
    ·exact .inl q
    ·refine .inr ⟨k,c',e,z'.sameBut hs ?_⟩;rintro rfl;exact hj (p8 hN e1 (I.ok.inj _ _ _ e hc▸hi))
  ·by_cases hcc:c' = c
   ·subst hcc;exact⟨_,hc'⟩
   ·obtain⟨w2,z2⟩:=I.cell y c' e;exact⟨w2,z2.sameBut hs hcc⟩
  ·obtain⟨e,n,ne,nf,d⟩:=I.pin p hp;refine⟨(hs.2 p.1 ?_).trans e,n,ne,nf,d⟩;intro q;rw[q,hoc]at e;have q' : oc=p.2:=Option.some.inj e;exact d w' (by rw[<-q'];exact KH)
theorem kc{M:Model}{A:Around}{E:iB}{i:Nat}{x:Str}{v:V}{u:Value}{Q:Unit->Shared->Prop}(I:Inv X pq σ H s)(hN:X.N.Nodup)(hi:X.N[i]?=some x)(hx:Loc X.env.scope x)(r:RelV v u)
 (h:∀ s',Inv X pq (σ.set i (some v)) H s'->Q () s') (hf:X.fn x=true\/X.env.scope.names.lookup x=some .local:=by first | exact .inl rfl | exact .inr rfl | assumption):wpAny M A (storeName X.env x u) Q E s :=
 zl I hN hi hx r (fun s' I' _=>h s' I') hf
theorem Inv.DO{s' : Shared}{ch:List Addr}(I:Inv X pq σ H s)(ho:s'.os=s.os)(u:Un (frs X.stack) ch H H' s.heap s'.heap)(hok:nH X.prog X.w H' s'.heap)(hg:AllBare s'.gens)
 (hch:∀ b∈ch,(b∈X.ex\/X.s₀.heap.objs.size<=b)/\b≠X.env.locals/\(∀ x c,X.env.cells.lookup x=some c->c≠b)/\∀ p∈X.pn++pq,p.1≠b):Inv X pq σ H' s':=by
 obtain⟨h',g',d',t',o'⟩:=s';have e:o' = s.os:=ho;subst e;exact I.call (g':=g') (t':=t') (d':=d') u hok hg hch
end
abbrev XK:=Value->Option Addr->Hp->Prop
abbrev St:=List (Option V)
abbrev VK:=V->Hp->Prop
abbrev TE:=St->Hp->VK->Prop
abbrev TT:=St->Hp->(Bool->Hp->Prop)->Prop
abbrev TA:=St->Hp->(List V->Hp->Prop)->Prop
structure Ends where
 nx:St->Hp->Prop
 rt:VK
 bk:St->Hp->Prop:=fun _ _=>False
 ct:St->Hp->Prop:=fun _ _=>False
abbrev TS:=Ends->St->Hp->Prop
def EP(X:Cx)(pq:bq)(σ:St)(Q:VK)(u:Value)(s' : Shared):Prop:=∃ v H',Inv X pq σ H' s'/\RelV v u/\Q v H'
def TP(X:Cx)(pq:bq)(σ:St)(Q:Bool->Hp->Prop)(b:Bool)(s' : Shared):Prop:=∃ H',Inv X pq σ H' s'/\Q b H'
def AP(X:Cx)(pq:bq)(σ:St)(Q:List V->Hp->Prop)(us:List Value)(s' : Shared):Prop:=∃ vs H',Inv X pq σ H' s'/\Vals vs us/\Q vs H'
def SP(X:Cx)(pq:bq)(D:Ends)(f:Flow)(s' : Shared):Prop :=
 match f with
 | .next=>∃ σ' H',Inv X pq σ' H' s'/\D.nx σ' H'
 | .brk=>∃ σ' H',Inv X pq σ' H' s'/\D.bk σ' H'
 | .cont=>∃ σ' H',Inv X pq σ' H' s'/\D.ct σ' H'
 | .ret u=>∃ v σ' H',Inv X pq σ' H' s'/\RelV v u/\D.rt v H'
def PE(X:Cx)(e:Expr)(t:TE):Prop :=
 ∀(pq:bq) (s:Shared) (σ:St) (H:Hp) (Q:VK),Inv X pq σ H s->t σ H Q->wpAny (model X.prog X.w) X.A (eval e X.env) (EP X pq σ Q) X.xe s
def PT(X:Cx)(e:Expr)(t:TT):Prop :=
 ∀(pq:bq) (s:Shared) (σ:St) (H:Hp) (Q:Bool->Hp->Prop),Inv X pq σ H s->t σ H Q->wpAny (model X.prog X.w) X.A (isTrue e X.env (eval e X.env)) (TP X pq σ Q) X.xe s
def PW(X:Cx)(e:Expr)(t:TT):Prop :=
 ∀(whole:Sem Value) (pq:bq) (s:Shared) (σ:St) (H:Hp) (Q:Bool->Hp->Prop),Inv X pq σ H s->t σ H Q->wpAny (model X.prog X.w) X.A (isTrue e X.env whole) (TP X pq σ Q) X.xe s
theorem PW.pt{X:Cx}{e:Expr}{t:TT}(h:PW X e t):PT X e t:=h _
def PA(X:Cx)(es:List Expr)(t:TA):Prop :=
 ∀(pos:Pos) (pq:bq) (s:Shared) (σ:St) (H:Hp) (Q:List V->Hp->Prop),Inv X pq σ H s->t σ H Q->wpAny (model X.prog X.w) X.A (spliced (backTo pos (starEach es X.env))) (AP X pq σ Q) X.xe s
def PS(X:Cx)(st:Stmt)(t:TS):Prop :=
 ∀(pq:bq) (s:Shared) (σ:St) (H:Hp) (D:Ends),Inv X pq σ H s->t D σ H->wpAny (model X.prog X.w) X.A (exec st X.env) (SP X pq D) X.xe s
def vc(X:Cx)(st:List Stmt)(t:TS):Prop :=
 ∀(pq:bq) (s:Shared) (σ:St) (H:Hp) (D:Ends),Inv X pq σ H s->t D σ H->wpAny (model X.prog X.w) X.A (execs st X.env) (SP X pq D) X.xe s
theorem fE{α:Type}{t:Sem α}{Q Q' : α->Shared->Prop}{M:Model}{A:Around}{E:iB}{s:Shared}(h:wpAny M A t Q E s)(hQ:∀ a s,Q a s->Q' a s):wpAny M A t Q' E s:=wpAny_mono h hQ fun _ _ x=>x
section
variable {X:Cx}
def GF(i:Nat):TE:=fun σ H Q=>∃ v,σ[i]?=some (some v)/\Q v H
def tC(v:V):TE:=fun _ H Q=>Q v H
theorem EC{i:Nat}{x:Str}{pos:Pos}(hN:X.N[i]?=some x)(hv:Jw X.env.scope x)(hd:(x==("__debug__":Str))=false:=by decide)(hcd:(x==("__classdict__":Str))=false:=by decide):PE X (.Name x pos) (GF i):=by
 intro pq s σ H Q I h;obtain⟨v,e,h⟩:=h;obtain⟨m,hn,hl⟩:=I.loc;obtain⟨u,r,l⟩:=hl i x v hN e hv;have fin:EP X pq σ Q u s:=⟨v,H,I,r,h⟩;rcases l with⟨hk,hm⟩|⟨hk,c,hc,hcell⟩
 ·exact wpAny_Name (wpAny_loadName_local I.ok.kind hk hn hm fin) hd
 ·rcases hk with hk|hk
  ·exact wpAny_Name (wpAny_loadName_cell I.ok.kind hk hc hcell fin) hd
  ·exact wpAny_Name (wpAny_loadName_free I.ok.kind hk hc hcell fin hcd) hd
theorem ah{i j pos}:PE X (.Constant (.int i) j pos) (tC (.int i)):=fun _ _ _ H _ I h=>wpAny_Constant_int ⟨.int i,H,I.tok _,⟨_,rfl⟩,h⟩
theorem qa{b j pos}:PE X (.Constant (.bool b) j pos) (tC (.bl b)):=fun _ _ _ H _ I h=>Constant_bool ⟨.bl b,H,I,rfl,h⟩
theorem w5{j pos}:PE X (.Constant .none j pos) (tC .fH):=fun _ _ _ H _ I h=>Constant_none ⟨.fH,H,I,rfl,h⟩
theorem Av{x j pos}:PE X (.Constant (.str x) j pos) (tC (.str x)):=fun _ _ _ H _ I h=>Calls.Constant_str ⟨.str x,H,I.tok _,⟨_,rfl⟩,h⟩
def Gl(X:Cx)(x:Str):Prop:=X.env.kindOf x=some .globalImplicit
theorem pO{E:iB}{pq:bq}{s:Shared}{σ:St}{H:Hp}{x:Str}{u:Value}{pos:Pos}{Q:iB}(I:Inv X pq σ H s)(hg:Gl X x)(hm:X.mg x=some u)(h:Q u s)
 (hd:(x==("__debug__":Str))=false:=by decide):wpAny (model X.prog X.w) X.A (eval (.Name x pos) X.env) Q E s :=
 Calls.Name_function_global I.ok.kind hg (Calls.loadGlobal_global (by rw[I.ok.glob];exact I.mod.glob.keeps I.bk) hm h) hd
theorem nK{E:iB}{pq:bq}{s:Shared}{σ:St}{H:Hp}{x:Str}{u:Value}{pos:Pos}{Q:iB}(I:Inv X pq σ H s)(hg:Gl X x)(hm:X.mg x=none)(hv:bootBuiltins x=some u)(h:Q u s)
 (hn:x≠"__name__":=by decide) (hd:(x==("__debug__":Str))=false:=by decide):wpAny (model X.prog X.w) X.A (eval (.Name x pos) X.env) Q E s:=by
 obtain⟨mb,h1,h2⟩:=I.mod.blt;exact Calls.Name_function_global I.ok.kind hg (Calls.loadGlobal_builtin (by rw[I.ok.glob];exact I.mod.glob.keeps I.bk) hm (by rw[I.ok.blt];exact h1.keeps I.bk) ((h2 x hn).trans hv) h) hd
theorem x6{x:Str}{v:V}{u:Value}{pos:Pos}(hg:Gl X x)(hm:X.mg x=some u)(r:RelV v u)(hd:(x==("__debug__":Str))=false:=by decide):PE X (.Name x pos) (tC v) :=
 fun _ _ _ H _ I h=>pO I hg hm ⟨v,H,I,r,h⟩ hd
theorem CC{x:Str}{v:V}{u:Value}{pos:Pos}(hg:Gl X x)(hm:X.mg x=none)(hv:bootBuiltins x=some u)(r:RelV v u)(hn:x≠"__name__":=by decide)(hd:(x==("__debug__":Str))=false:=by decide):PE X (.Name x pos) (tC v) :=
 fun _ _ _ H _ I h=>nK I hg hm hv ⟨v,H,I,r,h⟩ hn hd
variable {a b:Expr}{ta tb:TE}{pos:Pos}
def tB(t:TE):TT:=fun σ H Q=>t σ H fun x H1=>∃ c,x = .bl c/\Q c H1
theorem gV{e:Expr}{t:TE}(h:PE X e t)(he:∀ whole,isTrue e X.env whole=(do let v←whole;standAt e.pos;holding [v] (truthy v)):=by intro _;rfl):PT X e (tB t):=by
 intro pq s σ H Q I hw;refine isTrue_plain (fE (h pq s σ H _ I hw) fun v s1 ⟨x,H1,I1,r1,q1⟩=>?_) (he _)
 obtain⟨d,rfl,q⟩:=q1;cases r1;exact wpAny_truthy_bool ⟨H1,I1,q⟩
variable {tA Jz:TT}{rest:List Expr}
def KI(t u:TT):TT:=fun σ H Q=>t σ H fun c H1=>if c=true then u σ H1 Q else Q false H1
def RT(t u:TT):TT:=fun σ H Q=>t σ H fun c H1=>if c=true then Q true H1 else u σ H1 Q
def KJ(t:TT):TT:=fun σ H Q=>t σ H fun c H1=>Q (!c) H1
theorem pP(ha:PT X a tA):PW X (.BoolOp .And [a] pos) tA:=by
 intro wh pq s σ H Q I h;refine isTrue_and (fE (ha pq s σ H Q I h) fun c s1 e=>?_)
 cases c with
 | true=>exact isTrue_and_nil e
 | false=>exact e
theorem w6(ha:PT X a tA):PW X (.BoolOp .Or [a] pos) tA:=by
 intro wh pq s σ H Q I h;refine isTrue_or (fE (ha pq s σ H Q I h) fun c s1 e=>?_)
 cases c with
 | false=>exact isTrue_or_nil e
 | true=>exact e
theorem uc(ha:PT X a tA)(hb:PW X (.BoolOp .And (b::rest) pos) Jz):PW X (.BoolOp .And (a::b::rest) pos) (KI tA Jz):=by
 intro wh pq s σ H Q I h;refine isTrue_and (fE (ha pq s σ H _ I h) fun c s1 ⟨H1,I1,q1⟩=>?_)
 cases c with
 | true=>exact hb wh pq s1 σ H1 Q I1 q1
 | false=>exact⟨H1,I1,q1⟩
theorem x8(ha:PT X a tA)(hb:PW X (.BoolOp .Or (b::rest) pos) Jz):PW X (.BoolOp .Or (a::b::rest) pos) (RT tA Jz):=by
 intro wh pq s σ H Q I h;refine isTrue_or (fE (ha pq s σ H _ I h) fun c s1 ⟨H1,I1,q1⟩=>?_)
 cases c with
 | true=>exact⟨H1,I1,q1⟩
 | false=>exact hb wh pq s1 σ H1 Q I1 q1
theorem jz(ha:PT X a tA):PT X (.UnaryOp .Not a pos) (KJ tA):=by
 intro pq s σ H Q I h;exact isTrue_not (ha pq s σ H (fun c H1=>Q (!c) H1) I h)
def GG(ta tb:TE):TE:=fun σ H Q=>ta σ H fun x H1=>∃ c,x = .bl c/\if c=true then tb σ H1 Q else Q (.bl false) H1
def GH(ta:TE):TE:=fun σ H Q=>ta σ H fun x H1=>∃ c,x = .bl c/\Q (.bl (!c)) H1
theorem ud{op}{t:TE}(h:PE X a t):PE X (.BoolOp op [a] pos) t:=fun pq s σ H Q I hw=>BoolOp_one (h pq s σ H Q I hw)
theorem qb(ha:PE X a ta)(hb:PE X (.BoolOp .And (b::rest) pos) tb):PE X (.BoolOp .And (a::b::rest) pos) (GG ta tb):=by
 intro pq s σ H Q I h;refine BoolOp_and (fE (ha pq s σ H _ I h) fun v s1 ⟨x,H1,I1,r1,q1⟩=>?_)
 obtain⟨c,rfl,q1⟩:=q1;cases r1;refine wpAny_truthy_bool ?_;cases c with
 | true=>exact hb pq s1 σ H1 Q I1 q1
 | false=>exact⟨.bl false,H1,I1,rfl,q1⟩
theorem ED(ha:PE X a ta):PE X (.UnaryOp .Not a pos) (GH ta):=by
 intro pq s σ H Q I h;refine UnaryOp_ (fE (ha pq s σ H _ I h) fun v s1 ⟨x,H1,I1,r1,q1⟩=>?_)
 obtain⟨c,rfl,q1⟩:=q1;cases r1;exact not_of (wpAny_truthy_bool ⟨.bl (!c),H1,I1,rfl,q1⟩)
def RU(t:TT)(ta tb:TE):TE:=fun σ H Q=>t σ H fun c H1=>if c=true then ta σ H1 Q else tb σ H1 Q
theorem qd{c:Expr}(hc:PT X c tA)(ha:PE X a ta)(hb:PE X b tb):PE X (.IfExp c a b pos) (RU tA ta tb):=by
 intro pq s σ H Q I h;refine wpAny_IfExp (fE (hc pq s σ H _ I h) fun d s1 ⟨H1,I1,q1⟩=>?_)
 cases d with
 | true=>exact ha pq s1 σ H1 Q I1 q1
 | false=>exact hb pq s1 σ H1 Q I1 q1
end
def bg(K:bF)(H:Hp)(a:Addr)(xs:List V):Prop :=
 Rd H a (.lst xs)\/
  ∃(o:Obj) (its:Array Value) (n:Nat),K.lookup a=some o/\o.cls = .type "list"/\o.dict=none/\o.data = .seq its n/\its.size<=sizeLine/\Vals xs its.toList
def cE(K:bF)(H:Hp)(a:Addr)(xs:List V):Prop :=
 Rd H a (.tup xs)\/
  ∃(o:Obj) (its:Array Value) (n:Nat),K.lookup a=some o/\o.cls = .type "tuple"/\o.data = .seq its n/\its.size<=sizeLine/\Vals xs its.toList
def KL:Value->Option V
 | .none=>some .fH
 | .bool b=>some (.bl b)
 | .int i _=>some (.int i)
 | .str x _=>some (.str x)
 | .bytes b _=>some (.Ar b)
 | .float b _=>some (.Gh b)
 | .ref a=>some (.ref a)
 | .type n=>some (.ty n)
 | _=>none
theorem RelV.abs{x:V}{u:Value}(r:RelV x u):KL u=some x:=by
 cases x with
 | fH=>cases r;rfl
 | bl _=>cases r;rfl
 | int _=>obtain⟨t,rfl⟩:=r;rfl
 | str _=>obtain⟨t,rfl⟩:=r;rfl
 | Ar _=>obtain⟨t,rfl⟩:=r;rfl
 | Gh _=>obtain⟨t,rfl⟩:=r;rfl
 | ref _=>cases r;rfl
 | ty _=>cases r;rfl
theorem RelV.inj{x y:V}{u:Value}(r:RelV x u)(q:RelV y u):x=y:=Option.some.inj (r.abs.symm.trans q.abs)
theorem Vals.inj:∀{xs ys:List V} {us:List Value},Vals xs us->Vals ys us->xs=ys
 | _,_,_,.nil,.nil=>rfl
 | _,_,_,.cons r t,.cons r' t'=>by rw[r.inj r',Vals.inj t t']
section
variable {X:Cx}{pq:bq}{σ:St}{H:Hp}{s:Shared}{a:Addr}{xs ys:List V}
theorem bg.of{K:bF}(h:H a=some (.lst xs)):bg K H a xs:=.inl (.inl h)
theorem cE.of{K:bF}(h:H a=some (.tup xs)):cE K H a xs:=.inl (.inl h)
theorem Inv.list(I:Inv X pq σ H s)(h:bg X.K H a xs):∃ its:List Value,Vals xs its/\PlainL s.heap a its.toArray/\xs.length<=sizeLine:=by
 rcases h with h|⟨o,its,n,hk,hc,hd,hs,hz,r⟩
 ·obtain⟨z,its,n,r,e⟩:=h.ok I.hok;exact⟨its,r,⟨_,n,e,rfl,rfl,rfl⟩,z⟩
 ·refine⟨its.toList,r,⟨o,n,I.t8 a o hk,hc,hd,by simpa using hs⟩,?_⟩
  have e:=r.length;simp only[Array.length_toList]at e
  lia
theorem Inv.tuple(I:Inv X pq σ H s)(h:cE X.K H a xs):∃ its:List Value,Vals xs its/\IsTup s.heap a its.toArray/\xs.length<=sizeLine:=by
 rcases h with h|⟨o,its,n,hk,hc,hs,hz,r⟩
 ·obtain⟨z,its,r,p⟩:=h.ok I.hok;exact⟨its,r,p,z⟩
 ·refine⟨its.toList,r,⟨o,I.t8 a o hk,hc,n,by simpa using hs⟩,?_⟩
  have e:=r.length;simp only[Array.length_toList]at e
  lia
theorem Inv.qe(I:Inv X pq σ H s)(h:bg X.K H a xs)(h' : bg X.K H a ys):xs=ys:=by
 obtain⟨its,r,⟨o,n,e,_,_,d⟩,_⟩:=I.list h;obtain⟨its',r',⟨o',n',e',_,_,d'⟩,_⟩:=I.list h';rw[e]at e';cases e';rw[d]at d';injection d' with d1 _
 have:its=its':=by simpa using congrArg Array.toList d1
 subst this;exact r.inj r'
theorem Inv.zo(I:Inv X pq σ H s)(h:cE X.K H a xs)(h' : cE X.K H a ys):xs=ys:=by
 obtain⟨its,r,⟨o,e,_,n,d⟩,_⟩:=I.tuple h;obtain⟨its',r',⟨o',e',_,n',d'⟩,_⟩:=I.tuple h';rw[e]at e';cases e';rw[d]at d';injection d' with d1 _
 have:its=its':=by simpa using congrArg Array.toList d1
 subst this;exact r.inj r'
end
abbrev Cx.qf(X:Cx)(E:iB):Cx:={ X with xe:=E}
abbrev Cx.An(X:Cx):Cx:=X.qf fun _ _=>False
theorem Cx.Ok.qf{X:Cx}(ok:X.Ok)(E:iB):(X.qf E).Ok :=
 ⟨ok.mod,ok.kind,ok.glob,ok.blt,ok.above,ok.inj,ok.has,ok.Gk,ok.hd,ok.frames,ok.Cr,ok.KA,ok.bs,ok.DM,ok.zk,ok.Au,ok.funs,ok.DN⟩
theorem Cx.Ok.gW{X:Cx}{E:iB}(ok:(X.qf E).Ok):X.Ok :=
 ⟨ok.mod,ok.kind,ok.glob,ok.blt,ok.above,ok.inj,ok.has,ok.Gk,ok.hd,ok.frames,ok.Cr,ok.KA,ok.bs,ok.DM,ok.zk,ok.Au,ok.funs,ok.DN⟩
section
variable {X:Cx}{pq:bq}{σ:St}{H:Hp}{s:Shared}{E:iB}
theorem Inv.qf(I:Inv X pq σ H s)(E:iB):Inv (X.qf E) pq σ H s:=⟨I.ok.qf E,I.os,I.bare,I.base,I.loc,I.cell,I.free,I.iD,I.pin,I.hok,I.len⟩
theorem Inv.gW(I:Inv (X.qf E) pq σ H s):Inv X pq σ H s:=⟨I.ok.gW,I.os,I.bare,I.base,I.loc,I.cell,I.free,I.iD,I.pin,I.hok,I.len⟩
theorem SP.gW{D:Ends}{f:Flow}{s' : Shared}(h:SP (X.qf E) pq D f s'):SP X pq D f s':=by
 cases f with
 | next=>obtain⟨σ',H',I,q⟩:=h;exact⟨σ',H',I.gW,q⟩
 | brk=>obtain⟨σ',H',I,q⟩:=h;exact⟨σ',H',I.gW,q⟩
 | cont=>obtain⟨σ',H',I,q⟩:=h;exact⟨σ',H',I.gW,q⟩
 | ret u=>obtain⟨v,σ',H',I,r,q⟩:=h;exact⟨v,σ',H',I.gW,r,q⟩
theorem vc.An{st:List Stmt}{t:TS}(h:vc X.An st t):vc X st t:=fun pq s σ H D I hw =>
 wpAny_mono (h pq s σ H D (I.qf _) hw) (fun _ _ q=>q.gW) fun _ _ z=>False.elim z
end
section
variable {X:Cx}{st:Stmt}{rest:List Stmt}{t u:TS}{e:Expr}{te:TE}{pos:Pos}
def bA:TS:=fun D σ H=>D.nx σ H
def Ends.on(D:Ends)(u:TS):Ends:={ D with nx:=u D}
def av(t u:TS):TS:=fun D σ H=>t (D.on u) σ H
theorem bK:vc X [] bA:=fun _ _ σ H _ I h=>wpAny_execs_nil ⟨σ,H,I,h⟩
theorem ai(h1:PS X st t)(h2:vc X rest u):vc X (st::rest) (av t u):=by
 intro pq s σ H D I h;refine wpAny_execs_cons (fE (h1 pq s σ H { D with nx:=u D} I h) fun f s1 q=>?_)
 cases f with
 | next =>
   obtain⟨σ',H',I',q⟩:=q;exact h2 pq s1 σ' H' D I' q
 | ret v=>exact q
 | brk=>exact q
 | cont=>exact q
theorem aq(h1:PS X st t):vc X [st] t:=by
 intro pq s σ H D I h;refine wpAny_execs_cons (fE (h1 pq s σ H D I h) fun f s1 q=>?_)
 cases f with
 | next=>exact wpAny_execs_nil q
 | ret v=>exact q
 | brk=>exact q
 | cont=>exact q
theorem Inv.quiet{pq:bq}{σ:St}{H:Hp}{s:Shared}(I:Inv X pq σ H s):interactive X.env=false:=by simp[interactive,I.ok.kind]
def GI(te:TE):TS:=fun D σ H=>te σ H fun _ H1=>D.nx σ H1
theorem cF(he:PE X e te)(hs:swapsWith e none pos.line X.env=pure false:=by rfl):PS X (.Expr e pos) (GI te):=by
 intro pq s σ H D I h;exact wpAny_Expr_any (fE (he pq s σ H _ I h) fun v s1 ⟨x,H1,I1,r1,q1⟩=>⟨σ,H1,I1,q1⟩) I.quiet hs
def KN(te:TE):TS:=fun D σ H=>te σ H D.rt
theorem aO(he:PE X e te):PS X (.Return (some e) pos) (KN te):=by
 intro pq s σ H D I h;exact wpAny_Return_some (fE (he pq s σ H _ I h) fun v s1 ⟨x,H1,I1,r1,q1⟩=>⟨x,σ,H1,I1,r1,q1⟩)
def cJ(c:TT)(t u:TS):TS:=fun D σ H=>c σ H fun b H1=>if b=true then t D σ H1 else u D σ H1
theorem d7{c:Expr}{a b:List Stmt}{tc:TT}(hc:PT X c tc)(ha:vc X a t)(hb:vc X b u):PS X (.If c a b pos) (cJ tc t u):=by
 intro pq s σ H D I h;refine wpAny_If (fE (hc pq s σ H _ I h) fun d s1 ⟨H1,I1,q1⟩=>?_)
 cases d with
 | true=>exact ha pq s1 σ H1 D I1 q1
 | false=>exact hb pq s1 σ H1 D I1 q1
end
abbrev TG:=V->St->Hp->(St->Hp->Prop)->Prop
abbrev DP:=List V->St->Hp->(St->Hp->Prop)->Prop
def PG(X:Cx)(target:Expr)(t:TG):Prop :=
 ∀(pq:bq) (s:Shared) (σ:St) (H:Hp) (v:V) (u:Value) (Q:St->Hp->Prop),Inv X pq σ H s->RelV v u->t v σ H Q->
  wpAny (model X.prog X.w) X.A (assign target X.env u) (fun _ s'=>∃ σ' H',Inv X pq σ' H' s'/\Q σ' H') X.xe s
def GJ(X:Cx)(ts:List Expr)(t:DP):Prop :=
 ∀(pq:bq) (s:Shared) (σ:St) (H:Hp) (vs:List V) (us:List Value) (Q:St->Hp->Prop),Inv X pq σ H s->Vals vs us->t vs σ H Q->
  wpAny (model X.prog X.w) X.A (assignInOrder ((assignEach ts X.env).map (·.2)) us) (fun _ s'=>∃ σ' H',Inv X pq σ' H' s'/\Q σ' H') X.xe s
abbrev EE:=V->V->V->Hp->(Hp->Prop)->Prop
def GK(X:Cx)(t:EE):Prop :=
 ∀(pq:bq) (s:Shared) (σ:St) (H:Hp) (o i v:V) (ov iv u:Value) (Q:Hp->Prop),Inv X pq σ H s->RelV o ov->RelV i iv->RelV v u->t o i v H Q->
  wpAny (model X.prog X.w) X.A (setItem ov iv u) (fun _ s'=>∃ H',Inv X pq σ H' s'/\Q H') X.xe s
abbrev KO:=V->V->Hp->VK->Prop
def RV(X:Cx)(op:Operator)(t:KO):Prop :=
 ∀(pq:bq) (s:Shared) (σ:St) (H:Hp) (x y:V) (v u:Value) (Q:VK),Inv X pq σ H s->RelV x v->RelV y u->t x y H Q->
  wpAny (model X.prog X.w) X.A (inplaceOp op v u) (EP X pq σ Q) X.xe s
section
variable {X:Cx}{pos:Pos}
def DQ(i:Nat):TG:=fun v σ H Q=>Q (σ.set i (some v)) H
theorem aJ{i:Nat}{x:Str}(hN:X.N.Nodup)(hi:X.N[i]?=some x)(hx:Loc X.env.scope x)(hf:X.fn x=true\/X.env.scope.names.lookup x=some .local:=by first | exact .inl rfl | exact .inr rfl | assumption):PG X (.Name x pos) (DQ i):=by
 intro pq s σ H v u Q I r h;exact wpAny_assign_Name (kc I hN hi hx r (fun s' I'=>⟨_,H,I',h⟩) hf)
def KP:DP:=fun vs σ H Q=>vs=[]/\Q σ H
def GL(t:TG)(u:DP):DP:=fun vs σ H Q=>∃ v r,vs=v::r/\t v σ H fun σ' H'=>u r σ' H' Q
theorem mK:GJ X [] KP:=by
 intro pq s σ H vs us Q I r h;obtain⟨e,h⟩:=h;subst e;cases r;exact assignInOrder_nil ⟨σ,H,I,h⟩
theorem cS{e:Expr}{es:List Expr}{t:TG}{u:DP}(h1:PG X e t)(h2:GJ X es u)
 (hs:(assignEach (e::es) X.env).map (·.2)=assign e X.env::(assignEach es X.env).map (·.2):=by rfl):GJ X (e::es) (GL t u):=by
 intro pq s σ H vs us Q I r h;obtain⟨v,vr,e1,h⟩:=h;subst e1;cases r with
 | cons r rr =>
   rw[hs];refine assignInOrder_cons (fE (h1 pq s σ H _ _ _ I r h) fun _ s1 ⟨σ1,H1,I1,q1⟩=>?_)
   exact h2 pq s1 σ1 H1 _ _ Q I1 rr q1
def GN(K:bF)(n:Nat)(t:DP):TG:=fun v σ H Q=>∃ a xs,v = .ref a/\cE K H a xs/\xs.length=n/\t xs σ H Q
theorem EF{es:List Expr}{k:Nat}{t:DP}{n:Nat}(hc:X.calm=true)(h:GJ X es t)
 (hn:(assignEach es X.env).length=n:=by rfl) (hst:(assignEach es X.env).findIdx? (·.1)=none:=by rfl):PG X (.Tuple es k pos) (GN X.K n t):=by
 intro pq s σ H v u Q I r hw;obtain⟨a,xs,e1,hq,hl,hw⟩:=hw;subst e1;cases r;obtain⟨its,rv,ht,hz⟩:=I.tuple hq;refine assign_Tuple_tuple (I.ok.hd hc) ht (by simp[hn,<-hl,rv.length]) hst fun h' hx=>?_
 have I1:Inv X pq σ H { s with heap:=h'}:=I.kept (t':=s.toks) fun b o e=>hx b o (Nat.ne_of_lt (Heap.lt_size e)) e
 exact h pq _ σ H xs _ Q I1 (by simpa using rv) hw
def KQ(to ti:TE)(t:EE):TG:=fun v σ H Q=>to σ H fun o H1=>ti σ H1 fun i H2=>t o i v H2 fun H3=>Q σ H3
theorem w9{o i:Expr}{to ti:TE}{t:EE}(ho:PE X o to)(hi:PE X i ti)(hs:GK X t)
 (ha:∀ v,assign (.Subscript o i pos) X.env v=(do
  let ov←holding [v] (eval o X.env)
  let iv←holding [v,ov] (eval i X.env)
  standAt pos
  holding [v,ov,iv] (setItem ov iv v)
  release [v,ov,iv] []):=by intro _;rfl):PG X (.Subscript o i pos) (KQ to ti t):=by
 intro pq s σ H v u Q I r h;rw[ha];refine jd (wpAny_holding (fE (ho pq s σ H _ I h) fun ov s1 ⟨x,H1,I1,r1,q1⟩=>?_))
 refine jd (wpAny_holding (fE (hi pq s1 σ H1 _ I1 q1) fun iv s2 ⟨y,H2,I2,r2,q2⟩=>?_))
 refine jd (wpAny_standAt (jd (wpAny_holding (fE (hs pq s2 σ H2 x y v ov iv u _ I2 r1 r2 r q2) fun _ s3 ⟨H3,I3,q3⟩=>?_))))
 exact wpAny_release ⟨σ,H3,I3,q3⟩
def GO(te:TE)(g:TG):TS:=fun D σ H=>te σ H fun x H1=>g x σ H1 D.nx
theorem qg{tg e:Expr}{te:TE}{g:TG}(he:PE X e te)(hg:PG X tg g)(hs:swapsWithSole [tg] e pos.line X.env=pure false:=by rfl)(hw:swappedStores [tg] e X.env=pure none:=by rfl)
 (h1:(assignEach [tg] X.env).map (·.2)=[assign tg X.env]:=by rfl):PS X (.Assign [tg] e pos) (GO te g):=by
 intro pq s σ H D I h;refine wpAny_Assign_stores (fE (he pq s σ H _ I h) fun v s1 ⟨x,H1,I1,r1,q1⟩=>?_) hs hw
 rw[h1];exact fE (hg pq s1 σ H1 x v _ I1 r1 q1) fun _ s2 q=>q
theorem aG{i:Nat}{x:Str}{e:Expr}{te:TE}{pos' : Pos}(hN:X.N.Nodup)(hi:X.N[i]?=some x)(hx:Loc X.env.scope x)(he:PE X e te)(hs:swapsWith e (some (.Name x pos')) pos.line X.env=pure false:=by rfl)(hf:X.fn x=true\/X.env.scope.names.lookup x=some .local:=by first | exact .inl rfl | exact .inr rfl | assumption):
 PS X (.Assign [.Name x pos'] e pos) (GO te (DQ i)):=by
 intro pq s σ H D I h;refine wpAny_Assign_Name (fE (he pq s σ H _ I h) fun v s1 ⟨y,H1,I1,r1,q1⟩=>?_) hs
 exact kc I1 hN hi hx r1 (fun s2 I2=>⟨_,H1,I2,q1⟩) hf
def KR(i:Nat)(te:TE)(ti:KO):TS:=fun D σ H=>∃ x,σ[i]?=some (some x)/\te σ H fun y H1=>ti x y H1 fun z H2=>D.nx (σ.set i (some z)) H2
theorem EG{i:Nat}{x:Str}{e:Expr}{te:TE}{op:Operator}{ti:KO}{pos' : Pos}(hN:X.N.Nodup)(hi:X.N[i]?=some x)(hx:Loc X.env.scope x)(he:PE X e te)(ho:RV X op ti)(hf:X.fn x=true\/X.env.scope.names.lookup x=some .local:=by first | exact .inl rfl | exact .inr rfl | assumption):
 PS X (.AugAssign (.Name x pos') op e pos) (KR i te ti):=by
 intro pq s σ H D I h;obtain⟨v,e1,h⟩:=h;obtain⟨m,hn,hl⟩:=I.loc;have RW:Jw X.env.scope x:=by rcases hx with k | k;exact .inl k;exact .inr (.inl k)
 obtain⟨u,r,l⟩:=hl i x v hi e1 RW;refine wpAny_AugAssign_Name ?_;have go:wpAny (model X.prog X.w) X.A (eval e X.env) (fun w s₂=>wpAny (model X.prog X.w) X.A (inplaceOp op u w) (fun r s₃=>wpAny (model X.prog X.w) X.A (storeName X.env x r) (fun _=>SP X pq D .next) X.xe s₃) X.xe s₂) X.xe s:=by
  refine fE (he pq s σ H _ I h) fun w s1 ⟨y,H1,I1,r1,q1⟩=>?_
  refine fE (ho pq s1 σ H1 v y u w _ I1 r r1 q1) fun z s2 ⟨zv,H2,I2,r2,q2⟩=>?_
  exact kc I2 hN hi hx r2 (fun s3 I3=>⟨_,H2,I3,q2⟩) hf
 rcases l with⟨hk,hm⟩|⟨hk,c,hc,hcell⟩
 ·exact wpAny_loadName_local I.ok.kind hk hn hm go
 ·rcases hk with hk|hk
  ·exact wpAny_loadName_cell I.ok.kind hk hc hcell go
  ·rcases hx with k|k
   ·have:X.env.scope.names.lookup x=some .free:=hk;rw[k]at this;cases this
   ·have:X.env.scope.names.lookup x=some .free:=hk;rw[k]at this;cases this
end
structure It where
 go:Nat->Hp->Prop
 DR:Nat->Hp->V->Hp->Prop
 stop:Nat->Hp->Prop
def lW(X:Cx)(pq:bq)(H:Hp)(b:Addr):Prop :=
 H b=none/\b≠X.env.locals/\b∉X.fs/\(b∈X.ex\/X.s₀.heap.objs.size<=b)/\(∀ x c,X.env.cells.lookup x=some c->c≠b)/\∀ p∈X.pn++pq,p.1≠b
theorem Inv.CD{X:Cx}{pq:bq}{σ:St}{H H' : Hp}{s:Shared}{b:Addr}(I:Inv X pq σ H s)(hb:s.heap.objs.size<=b)(hn:H' b=none):lW X pq H' b:=by
 refine⟨hn,Nat.ne_of_gt (Nat.lt_of_lt_of_le I.lt hb),I.KD hb,.inr (Nat.le_trans I.sz hb),fun x c e z=>?_,fun p hp z=>?_⟩
 ·obtain⟨v,q⟩:=I.cell x c e;exact absurd (Nat.lt_of_lt_of_le q.lt (by rw[z];exact hb)) (Nat.lt_irrefl _)
 ·exact absurd (Nat.lt_of_lt_of_le (Heap.lt_size (I.pin p hp).1) (by rw[z];exact hb)) (Nat.lt_irrefl _)
structure Turn(P:Program)(w:World)(K:bF)(tg:Expr)(J:It)(fp:List Addr)(it:Addr)(tn:Nat->Heap->Prop):Prop where
 mem:it∈fp
 obj:∀ i h,tn i h->∀ b∈fp,∃ o,h.get? b=some o/\∀ v,o.data≠.cell v
 keep:∀ i h h',tn i h->(∀ b∈fp,∀ o,h.get? b=some o->h'.get? b=some o)->tn i h'
 item:∀(X:Cx),X.prog=P->X.w=w->X.K=K->X.calm=true->∀(i:Nat) (pq:bq) (s:Shared) (σ:St) (H:Hp) (E:iB),Inv X pq σ H s->(∀ b∈fp,lW X pq H b)->tn i s.heap->J.go i H->
  wpAny (model P w) X.A (pyNext (.ref it)) (fun r s1=>∃ u,r=some u/\
   wpAny (model P w) X.A (letOwnedTupleGo tg (.ref it) u) (fun _ s2=>∃ x H',Inv X pq σ H' s2/\RelV x u/\J.DR i H x H'/\tn (i+1) s2.heap/\∀ b∈fp,H' b=none) E s1) E s
 done:∀(X:Cx),X.prog=P->X.w=w->X.K=K->X.calm=true->∀(i:Nat) (pq:bq) (s:Shared) (σ:St) (H:Hp) (E:iB),Inv X pq σ H s->(∀ b∈fp,lW X pq H b)->tn i s.heap->J.stop i H->
  wpAny (model P w) X.A (pyNext (.ref it)) (fun r s1=>r=none/\Inv X pq σ H s1) E s
 self:∀(A:Around) (i:Nat) (s:Shared) (Q:iB) (E:iB),tn i s.heap->Q (.ref it) s->wpAny (model P w) A (pyIter (.ref it)) Q E s
abbrev TI:=St->Hp->(It->Hp->Prop)->Prop
def Qe(X:Cx)(pq:bq)(σ:St)(tg:Expr)(R:It->Hp->Prop)(itv:Value)(s2:Shared):Prop :=
 ∃(it:Addr) (fp:List Addr) (tn:Nat->Heap->Prop) (J:It) (H' : Hp),itv = .ref it/\Inv X pq σ H' s2/\Turn X.prog X.w X.K tg J fp it tn/\tn 0 s2.heap/\(∀ b∈fp,lW X pq H' b)/\R J H'
def PI(X:Cx)(tg iter:Expr)(wi:TI):Prop :=
 ∀(pq:bq) (s:Shared) (σ:St) (H:Hp) (R:It->Hp->Prop),Inv X pq σ H s->wi σ H R->
  wpAny (model X.prog X.w) X.A (eval iter X.env) (fun v s1=>wpAny (model X.prog X.w) X.A (pyIter v) (Qe X pq σ tg R) X.xe s1) X.xe s
theorem Aw{M:Model}{A:Around}{E:iB}{s:Shared}{tg:Expr}{it:Addr}{u:Value}{o:Obj}{n:String}{vs:Array Value}{Q:Unit->Shared->Prop}(ho:s.heap.get? it=some o)(hc:o.cls = .type n)(hd:o.data = .fields vs)
 (hn:["enumerate","zip","dict_itemiterator","dict_reverseitemiterator","odict_iterator","itertools.zip_longest","itertools.pairwise"].contains n=false) (hQ:Q () s):wpAny M A (letOwnedTupleGo tg (.ref it) u) Q E s:=by
 unfold letOwnedTupleGo;cases tg<;>first
  | exact wpAny_pure hQ
  | (cases u<;>first
   | exact wpAny_pure hQ
   | (refine jd (wpAny_load ho ?_)
      rw[hc,hd];show wpAny M A (if(["enumerate","zip","dict_itemiterator","dict_reverseitemiterator","odict_iterator","itertools.zip_longest","itertools.pairwise"].contains n&&vs[0]? == some (rawInt _))=true then _ else _) Q E s
      rw[if_neg (by intro h;rw[hn,Bool.false_and]at h;cases h)]
      exact wpAny_pure hQ))
def CF(K:bF)(a:Addr):It :=
 ⟨fun i H=>∃ xs x,bg K H a xs/\xs[i]?=some x,fun i H x H'=>H' = H/\∀ xs,bg K H a xs->xs[i]?=some x,fun i H=>∃ xs,bg K H a xs/\xs.length<=i⟩
def KS(K:bF)(a:Addr):It :=
 ⟨fun i H=>∃ xs x,cE K H a xs/\xs[i]?=some x,fun i H x H'=>H' = H/\∀ xs,cE K H a xs->xs[i]?=some x,fun i H=>∃ xs,cE K H a xs/\xs.length<=i⟩
def Ax(lo:Int)(n:Nat):It:=⟨fun i _=>i<n,fun i H x H'=>H' = H/\x = .int (lo+i),fun i _=>n<=i⟩
theorem zp{P:Program}{w:World}{K:bF}{tg:Expr}(a it:Addr):Turn P w K tg (CF K a) [it] it (fun i h=>h.IsListIter it a i) where
 mem:=by simp
 obj:=fun i h st b hb=>by
  have e:b=it:=by simpa using hb
  subst e;obtain⟨o,e,c,d⟩:=st;exact⟨o,e,fun v z=>by rw[d]at z;cases z⟩
 keep:=fun i h h' st k=>st.at fun o e=>k it (by simp) o e
 item:=by
  intro X hP hw hK hc i pq s σ H E I hf st hg;subst hP hw hK;obtain⟨xs,x,hq,hx⟩:=hg;obtain⟨its,rv,p,hz⟩:=I.list hq;obtain⟨u,hu,ru⟩:=rv.get hx;obtain⟨f0,f1,f2,f3,f4,f5⟩:=hf it (by simp)
  refine wpAny_pyNext_list_item st p.isList (x:=u) (by simpa using hu) fun h' st' sb=>?_
  have I1:Inv X pq σ H { s with heap:=h'}:=I.turned (t':=s.toks) (fun b o hb e=>(sb.2 b hb).trans e) f0 f1 f3 f4 f5
  obtain⟨o,e,c,d⟩:=id st';exact⟨u,rfl,Aw (s:={ s with heap:=h'}) e c d (by decide) ⟨x,H,I1,ru,⟨rfl,fun ys hy=>by rw[I.qe hy hq];exact hx⟩,st',fun b hb=>(hf b hb).1⟩⟩
 done:=by
  intro X hP hw hK hc i pq s σ H E I hf st hg;subst hP hw hK;obtain⟨xs,hq,hx⟩:=hg;obtain⟨its,rv,p,hz⟩:=I.list hq;obtain⟨f0,f1,f2,f3,f4,f5⟩:=hf it (by simp)
  have hl:=rv.length;exact wpAny_pyNext_list_end (I.ok.hd hc) st p.isList (by simp;lia) fun h' eb=>⟨rfl,I.turned (t':=s.toks) (fun b o hb e=>eb b o hb e) f0 f1 f3 f4 f5⟩
 self:=fun _ _ _ _ _ st h=>wpAny_pyIter_listiter st h
theorem xg{P:Program}{w:World}{K:bF}{tg:Expr}(a it:Addr):Turn P w K tg (KS K a) [it] it (fun i h=>h.IsTupleIter it a i) where
 mem:=by simp
 obj:=fun i h st b hb=>by
  have e:b=it:=by simpa using hb
  subst e;obtain⟨o,e,c,d⟩:=st;exact⟨o,e,fun v z=>by rw[d]at z;cases z⟩
 keep:=fun i h h' st k=>st.at fun o e=>k it (by simp) o e
 item:=by
  intro X hP hw hK hc i pq s σ H E I hf st hg;subst hP hw hK;obtain⟨xs,x,hq,hx⟩:=hg;obtain⟨its,rv,p,hz⟩:=I.tuple hq;obtain⟨u,hu,ru⟩:=rv.get hx;obtain⟨f0,f1,f2,f3,f4,f5⟩:=hf it (by simp)
  refine wpAny_pyNext_tuple_item st (show s.heap.IsTuple a its.toArray from p) (x:=u) (by simpa using hu) fun h' st' sb=>?_
  have I1:Inv X pq σ H { s with heap:=h'}:=I.turned (t':=s.toks) (fun b o hb e=>(sb.2 b hb).trans e) f0 f1 f3 f4 f5
  obtain⟨o,e,c,d⟩:=id st';exact⟨u,rfl,Aw (s:={ s with heap:=h'}) e c d (by decide) ⟨x,H,I1,ru,⟨rfl,fun ys hy=>by rw[I.zo hy hq];exact hx⟩,st',fun b hb=>(hf b hb).1⟩⟩
 done:=by
  intro X hP hw hK hc i pq s σ H E I hf st hg;subst hP hw hK;obtain⟨xs,hq,hx⟩:=hg;obtain⟨its,rv,p,hz⟩:=I.tuple hq;obtain⟨f0,f1,f2,f3,f4,f5⟩:=hf it (by simp)
  have hl:=rv.length;exact wpAny_pyNext_tuple_end (I.ok.hd hc) st (show s.heap.IsTuple a its.toArray from p) (by simp;lia) fun h' eb=>⟨rfl,I.turned (t':=s.toks) (fun b o hb e=>eb b o hb e) f0 f1 f3 f4 f5⟩
 self:=fun _ _ _ _ _ st h=>wpAny_pyIter_tupleiter st h
theorem xh{P:Program}{w:World}{K:bF}{tg:Expr}(it:Addr)(lo:Int)(n:Nat):Turn P w K tg (Ax lo n) [it] it (fun i h=>IsRangeIter h it (lo+(i:Nat)*1) ((n:Int)-(i:Nat)) 1) where
 mem:=by simp
 obj:=fun i h st b hb=>by
  have e:b=it:=by simpa using hb
  subst e;exact⟨_,st,fun v z=>by
   have z' : Data.fields _=Data.cell v:=z;cases z'⟩
 keep:=fun i h h' st k=>k it (by simp) _ st
 item:=by
  intro X hP hw hK hc i pq s σ H E I hf st hg;subst hP hw hK;obtain⟨f0,f1,f2,f3,f4,f5⟩:=hf it (by simp)
  have W:=Walks.range (prog:=X.prog) (w:=X.w) (I.ok.hd hc) it lo 1 n;refine W.item i s _ _ hg st fun v h' tk hv st' kk=>?_
  obtain⟨t,rfl⟩:=hv;have I1:Inv X pq σ H { s with heap:=h',toks:=tk}:=I.turned (fun b o hb e=>kk b o (by simpa using hb) e) f0 f1 f3 f4 f5
  refine⟨_,rfl,Aw (s:={ s with heap:=h',toks:=tk}) (n:="range_iterator") st' rfl rfl (by decide) ⟨.int (lo+i),H,I1,⟨t,?_⟩,⟨rfl,rfl⟩,st',fun b hb=>(hf b hb).1⟩⟩
  rw[Int.mul_one]
 done:=by
  intro X hP hw hK hc i pq s σ H E I hf st hg;subst hP hw hK;obtain⟨f0,f1,f2,f3,f4,f5⟩:=hf it (by simp)
  exact wpAny_pyNext_range_end (I.ok.hd hc) st (by have:n<=i:=hg;lia) fun h' eb=>⟨rfl,I.turned (t':=s.toks) (fun b o hb e=>eb b o hb e) f0 f1 f3 f4 f5⟩
 self:=fun _ _ _ _ _ st h=>wpAny_pyIter_rangeiter st h
section
variable {X:Cx}{tg:Expr}
def DS(K:bF)(tl:TE):TI:=fun σ H R=>tl σ H fun x H1=>∃ a,x = .ref a/\(∃ xs,bg K H1 a xs)/\R (CF K a) H1
def GP(K:bF)(tl:TE):TI:=fun σ H R=>tl σ H fun x H1=>∃ a,x = .ref a/\(∃ xs,cE K H1 a xs)/\R (KS K a) H1
theorem CG{l:Expr}{tl:TE}(hl:PE X l tl):PI X tg l (DS X.K tl):=by
 intro pq s σ H R I h;refine fE (hl pq s σ H _ I h) fun v s1 ⟨x,H1,I1,r1,q1⟩=>?_
 obtain⟨a,e,⟨xs,hq⟩,q⟩:=q1;subst e;cases r1;obtain⟨its,rv,p,hz⟩:=I1.list hq;refine wpAny_pyIter_list p.isList ?_;refine⟨s1.heap.objs.size,[s1.heap.objs.size],_,_,H1,rfl,I1.kept (t':=s1.toks) fun b o e=>Heap.get?_push_of_some _ e,zp a _,⟨_,Heap.get?_push_size _ rfl,rfl,rfl⟩,fun b hb=>?_,q⟩
 have e:b=s1.heap.objs.size:=by simpa using hb
 subst e;exact I1.CD (Nat.le_refl _) (I1.hok.fresh (Nat.le_refl _))
theorem EH{l:Expr}{tl:TE}(hl:PE X l tl):PI X tg l (GP X.K tl):=by
 intro pq s σ H R I h;refine fE (hl pq s σ H _ I h) fun v s1 ⟨x,H1,I1,r1,q1⟩=>?_
 obtain⟨a,e,⟨xs,hq⟩,q⟩:=q1;subst e;cases r1;obtain⟨its,rv,p,hz⟩:=I1.tuple hq;refine wpAny_pyIter_tuple (show s1.heap.IsTuple a its.toArray from p) ?_
 refine⟨s1.heap.objs.size,[s1.heap.objs.size],_,_,H1,rfl,I1.kept (t':=s1.toks) fun b o e=>Heap.get?_push_of_some _ e,xg a _,⟨_,Heap.get?_push_size _ rfl,rfl,rfl⟩,fun b hb=>?_,q⟩
 have e:b=s1.heap.objs.size:=by simpa using hb
 subst e;exact I1.CD (Nat.le_refl _) (I1.hok.fresh (Nat.le_refl _))
theorem vf{pq:bq}{σ:St}{H:Hp}{s:Shared}{R:It->Hp->Prop}{E:iB}{lo hi:Int}{t u v:Tok}{tk:Nat}(I:Inv X pq σ H s)(h1 : -(2^62)<=lo)(h2:lo<2^62)(h3 : -(2^62)<=hi)(h4:hi<2^62)
 (q:R (Ax lo (hi-lo).toNat) H):wpAny (model X.prog X.w) X.A (pyIter (.ref s.heap.objs.size)) (Qe X pq σ tg R) E { s with heap:=s.heap.push { cls:=.type "range",data:=.fields #[.int lo t,.int hi u,.int 1 v]},toks:=tk}:=by
 refine wpAny_pyIter_range (IsRange.new ..) (small_one h1 h2 h3 h4) ?_;have I1:Inv X pq σ H { s with heap:=s.heap.push { cls:=.type "range",data:=.fields #[.int lo t,.int hi u,.int 1 v]},toks:=tk}:=I.kept fun b o e=>Heap.get?_push_of_some _ e
 refine⟨(s.heap.push { cls:=.type "range",data:=.fields #[.int lo t,.int hi u,.int 1 v]}).objs.size,[(s.heap.push { cls:=.type "range",data:=.fields #[.int lo t,.int hi u,.int 1 v]}).objs.size],_,_,H,rfl,
  I1.kept (t':=tk) fun b o e=>Heap.get?_push_of_some _ e,xh _ lo (hi-lo).toNat,?_,fun b hb=>?_,q⟩
 ·have e1:lo+((0:Nat):Int)*1=lo:=by simp
  have e2:(((hi-lo).toNat:Nat):Int)-((0:Nat):Int)=Builtin.Range.rangeSize lo hi 1:=by rw[rangeSize_one];split<;>lia
  show IsRangeIter _ _ (lo+((0:Nat):Int)*1) ((((hi-lo).toNat:Nat):Int)-((0:Nat):Int)) 1;rw[e1,e2];exact Heap.get?_push_size _ rfl
 ·have e:b=(s.heap.push { cls:=.type "range",data:=.fields #[.int lo t,.int hi u,.int 1 v]}).objs.size:=by simpa using hb
  subst e;exact I1.CD (Nat.le_refl _) (I1.hok.fresh (Nat.le_refl _))
def GQ(ta:TA):TI:=fun σ H R=>ta σ H fun vs H1=>∃ j:Int,vs=[.int j]/\-(2^62)<=j/\j<2^62/\R (Ax 0 j.toNat) H1
def GR(ta:TA):TI:=fun σ H R=>ta σ H fun vs H1=>∃ i j:Int,vs=[.int i,.int j]/\(-(2^62)<=i/\i<2^62/\-(2^62)<=j/\j<2^62)/\R (Ax i (j-i).toNat) H1
theorem bO{a:Expr}{ta:TA}{p pos:Pos}(hg:Gl X "range")(hm:X.mg "range"=none)(ha:PA X [a] ta)(hs:starEach [a] X.env=[(false,eval a X.env)]:=by rfl):PI X tg (.Call (.Name "range" p) [a] [] pos) (GQ ta):=by
 intro pq s σ H R I h;refine Call_ (nK I hg hm boot_range (PyProof.Rows.callWith_type1 (fE (ha pos pq s σ H _ I h) fun us s1 ⟨vs,H1,I1,r1,q1⟩=>?_) hs rfl))
 obtain⟨j,e,q1,q2,q⟩:=q1;subst e;cases r1 with
 | cons r rr =>
   cases rr;obtain⟨t,rfl⟩:=r;exact call_range_1 (vf I1 (by lia) (by lia) q1 q2 (by simpa using q))
theorem nL{a b:Expr}{ta:TA}{p pos:Pos}(hg:Gl X "range")(hm:X.mg "range"=none)(ha:PA X [a,b] ta)(hs:starEach [a,b] X.env=[(false,eval a X.env),(false,eval b X.env)]:=by rfl)(hs2:starEach [b] X.env=[(false,eval b X.env)]:=by rfl):
 PI X tg (.Call (.Name "range" p) [a,b] [] pos) (GR ta):=by
 intro pq s σ H R I h;refine Call_ (nK I hg hm boot_range (PyProof.Rows.callWith_type1 (fE (ha pos pq s σ H _ I h) fun us s1 ⟨vs,H1,I1,r1,q1⟩=>?_) (by rw[hs,hs2]) (by rw[hs2];rfl)))
 obtain⟨i,j,e,⟨q1,q2,q3,q4⟩,q⟩:=q1;subst e;cases r1 with
 | cons r rr =>
   cases rr with
   | cons r' rr =>
     cases rr;obtain⟨t,rfl⟩:=r;obtain⟨t',rfl⟩:=r';exact call_range_2 (vf I1 q1 q2 q3 q4 q)
def fD(wi:TI)(g:TG)(tb:TS):TS:=fun D σ H=>wi σ H fun J H1=>∃ W:Nat->Nat->St->Hp->Prop,(∃ m,W 0 m σ H1)/\∀ i m σ H,W i m σ H->
 (J.stop i H/\D.nx σ H)\/(J.go i H/\∃ N:St->Hp->Prop,(∀ σ' H',N σ' H'->∃ m',m'<m/\W (i+1) m' σ' H')/\∀ x H',J.DR i H x H'->g x σ H' fun σ2 H2=>tb { D with nx:=N,ct:=N,bk:=D.nx} σ2 H2)
def nM(fp:List Addr)(h:Heap):bq:=fp.filterMap fun b=>(h.get? b).map fun o=>(b,o)
theorem fJ{fp:List Addr}{h:Heap}{b:Addr}{o:Obj}(hb:b∈fp)(e:h.get? b=some o):(b,o)∈nM fp h:=List.mem_filterMap.mpr ⟨b,hb,by rw[e];rfl⟩
theorem zq{fp:List Addr}{h:Heap}{p:Addr×Obj}(hp:p∈nM fp h):p.1∈fp/\h.get? p.1=some p.2:=by
 obtain⟨b,hb,e⟩:=List.mem_filterMap.mp hp;cases q:h.get? b with
 | none=>rw[q]at e;cases e
 | some o =>
   rw[q]at e;have e' : (b,o)=p:=Option.some.inj e;subst e';exact⟨hb,q⟩
theorem Inv.pinned{pq:bq}{σ:St}{H:Hp}{s:Shared}{fp:List Addr}(I:Inv X pq σ H s)(hf:∀ b∈fp,lW X pq H b)(ho:∀ b∈fp,∃ o,s.heap.get? b=some o/\∀ v,o.data≠.cell v):Inv X (pq++nM fp s.heap) σ H s :=
 I.pN fun p hp=>(List.mem_append.mp hp).elim (fun z=>I.pin p (ve _ z)) fun z=>by
  obtain⟨hb,e⟩:=zq z;obtain⟨f0,f1,f2,_⟩:=hf p.1 hb;obtain⟨o,e',d⟩:=ho p.1 hb;rw[e]at e';cases e';exact⟨e,f0,f1,f2,d⟩
theorem Inv.gX{pq pl:bq}{σ:St}{H:Hp}{s:Shared}(I:Inv X (pq++pl) σ H s):Inv X pq σ H s:=I.pN fun p hp=>I.pin p (ve _ (GA _ hp))
theorem gY{iter:Expr}{body:List Stmt}{wi:TI}{g:TG}{tb:TS}{pos:Pos}(hp:PassesOwn (model X.prog X.w) X.A X.env X.xe)(hc:X.calm=true)(hi:PI X tg iter wi)(hg:PG X tg g)(hb:vc X body tb)
 (hs:∀ x,foldedSetIterable iter X.env x=pure x:=by intro _;rfl):PS X (.For tg iter body [] pos) (fD wi g tb):=by
 intro pq s σ H D I h;refine wpAny_For (fE (hi pq s σ H _ I h) fun v s1 h1=>fE h1 fun itv s2 h2=>?_) hs
 obtain⟨it,fp,tn,J,H2,e,I2,T,st2,f2,W,⟨m0,w0⟩,turn⟩:=h2;subst e;have xj:∀{H' : Hp},(∀ b∈fp,H' b=none)->∀ b∈fp,lW X pq H' b:=fun hn b hb=>⟨hn b hb,(f2 b hb).2⟩
 refine codeAny_forLoop_any (fun n s'=>∃ i σ' H',Inv X pq σ' H' s'/\tn i s'.heap/\(∀ b∈fp,H' b=none)/\W i n σ' H') ?_ m0 ⟨0,σ,H2,I2,st2,fun b hb=>(f2 b hb).1,w0⟩
 rintro n s3 ⟨i,σ3,H3,I3,st3,DT,w3⟩;rcases turn i n σ3 H3 w3 with⟨stop,qn⟩|⟨go,N,hN,step⟩
 ·refine wpAny_passesOwn hp (fE (T.done X rfl rfl rfl hc i pq s3 σ3 H3 X.xe I3 (xj DT) st3 stop) fun r s4 ⟨hr,I4⟩=>?_)
  subst hr;exact wpAny_execs_nil ⟨σ3,H3,I4,qn⟩
 ·refine wpAny_passesOwn hp (fE (T.item X rfl rfl rfl hc i pq s3 σ3 H3 X.xe I3 (xj DT) st3 go) fun r s4 ⟨u,hr,h4⟩=>?_)
  subst hr;refine wpAny_passesOwn hp (fE h4 fun _ s5 ⟨x,H5,I5,r5,y5,Ay,GS⟩=>?_)
  have GU:=I5.pinned (xj GS) (T.obj _ _ Ay);refine wpAny_passesOwn hp (fE (hg _ s5 σ3 H5 x u _ GU r5 (step x H5 y5)) fun _ s6 ⟨σ6,H6,I6,q6⟩=>?_)
  refine wpAny_passesOwn hp (fE (hb _ s6 σ6 H6 _ I6 q6) fun f s7 q7=>?_)
  have again:∀{σ7:St} {H7:Hp},Inv X (pq++nM fp s5.heap) σ7 H7 s7->N σ7 H7->∃ m,m<n/\∃ i σ' H',Inv X pq σ' H' s7/\tn i s7.heap/\(∀ b∈fp,H' b=none)/\W i m σ' H':=fun {σ7 H7} I7 n7=>by
   obtain⟨m',hm,w7⟩:=hN σ7 H7 n7;refine⟨m',hm,i+1,σ7,H7,I7.gX,T.keep _ _ _ Ay fun b hb o e=>(I7.pin (b,o) (ve _ (ve _ (fJ hb e)))).1,fun b hb=>?_,w7⟩
   obtain⟨o,e,d⟩:=T.obj _ _ Ay b hb;exact(I7.pin (b,o) (ve _ (ve _ (fJ hb e)))).2.1
  cases f with
  | next=>obtain⟨σ7,H7,I7,n7⟩:=q7;exact again I7 n7
  | cont=>obtain⟨σ7,H7,I7,n7⟩:=q7;exact again I7 n7
  | brk=>obtain⟨σ7,H7,I7,q7⟩:=q7;exact⟨σ7,H7,I7.gX,q7⟩
  | ret v=>obtain⟨x7,σ7,H7,I7,r7,q7⟩:=q7;exact⟨x7,σ7,H7,I7.gX,r7,q7⟩
end
theorem qh{K:bF}{a:Addr}{xs:List V}{g:TG}{tb:TS}{D:Ends}{σ:St}{H:Hp}(Pv:Nat->St->Hp->Prop)(h0:Pv 0 σ H)(hl:∀ i σ H,i<=xs.length->Pv i σ H->bg K H a xs)
 (hs:∀ i x σ H,xs[i]?=some x->Pv i σ H->g x σ H fun σ2 H2=>tb { D with nx:=Pv (i+1),ct:=Pv (i+1),bk:=D.nx} σ2 H2) (hd:∀ σ H,Pv xs.length σ H->D.nx σ H) :
 ∃ W:Nat->Nat->St->Hp->Prop,(∃ m,W 0 m σ H)/\∀ i m σ H,W i m σ H->
   ((CF K a).stop i H/\D.nx σ H)\/((CF K a).go i H/\∃ N:St->Hp->Prop,(∀ σ' H',N σ' H'->∃ m',m'<m/\W (i+1) m' σ' H')/\∀ x H',(CF K a).DR i H x H'->g x σ H' fun σ2 H2=>tb { D with nx:=N,ct:=N,bk:=D.nx} σ2 H2):=by
 refine⟨fun i m σ H=>m=xs.length-i/\i<=xs.length/\Pv i σ H,⟨xs.length,by simp,Nat.zero_le _,h0⟩,?_⟩
 rintro i m σ H ⟨rfl,hi,p⟩;have q:=hl i σ H hi p
 by_cases hlt:i<xs.length
 ·refine .inr ⟨⟨xs,xs[i],q,by simp[hlt]⟩,Pv (i+1),fun σ' H' p'=>⟨xs.length-(i+1),by lia,rfl,hlt,p'⟩,fun x H' y=>?_⟩
  obtain⟨e,y⟩:=y;subst e;exact hs i x σ _ (y xs q) p
 ·have e:i=xs.length:=by lia
  subst e;exact .inl ⟨⟨xs,q,Nat.le_refl _⟩,hd σ H p⟩
theorem gJ{lo:Int}{n:Nat}{g:TG}{tb:TS}{D:Ends}{σ:St}{H:Hp}(Pv:Nat->St->Hp->Prop)(h0:Pv 0 σ H)
 (hs:∀ i σ H,i<n->Pv i σ H->g (.int (lo+i)) σ H fun σ2 H2=>tb { D with nx:=Pv (i+1),ct:=Pv (i+1),bk:=D.nx} σ2 H2) (hd:∀ σ H,Pv n σ H->D.nx σ H) :
 ∃ W:Nat->Nat->St->Hp->Prop,(∃ m,W 0 m σ H)/\∀ i m σ H,W i m σ H->
   ((Ax lo n).stop i H/\D.nx σ H)\/((Ax lo n).go i H/\∃ N:St->Hp->Prop,(∀ σ' H',N σ' H'->∃ m',m'<m/\W (i+1) m' σ' H')/\∀ x H',(Ax lo n).DR i H x H'->g x σ H' fun σ2 H2=>tb { D with nx:=N,ct:=N,bk:=D.nx} σ2 H2):=by
 refine⟨fun i m σ H=>m=n-i/\i<=n/\Pv i σ H,⟨n,by simp,Nat.zero_le _,h0⟩,?_⟩
 rintro i m σ H ⟨rfl,hi,p⟩
 by_cases hlt:i<n
 ·refine .inr ⟨hlt,Pv (i+1),fun σ' H' p'=>⟨n-(i+1),by lia,rfl,hlt,p'⟩,fun x H' y=>?_⟩
  obtain⟨e,y⟩:=y;subst e y;exact hs i σ _ hlt p
 ·have e:i=n:=by lia
  subst e;exact .inl ⟨Nat.le_refl _,hd σ H p⟩
abbrev R2:=V->V->Hp->VK->Prop
def lB(X:Cx)(f:Value->Value->Sem Value)(r:R2):Prop :=
 ∀(pq:bq) (s:Shared) (σ:St) (H:Hp) (x y:V) (v u:Value) (Q:VK),Inv X pq σ H s->RelV x v->RelV y u->r x y H Q->
  wpAny (model X.prog X.w) X.A (f v u) (EP X pq σ Q) X.xe s
def KU(X:Cx)(f:Value->Sem Value)(r:V->Hp->VK->Prop):Prop :=
 ∀(pq:bq) (s:Shared) (σ:St) (H:Hp) (x:V) (v:Value) (Q:VK),Inv X pq σ H s->RelV x v->r x H Q->
  wpAny (model X.prog X.w) X.A (f v) (EP X pq σ Q) X.xe s
def gn(X:Cx)(f:Value)(r:List V->Hp->VK->Prop):Prop :=
 ∀(pq:bq) (s:Shared) (σ:St) (H:Hp) (xs:List V) (us:List Value) (Q:VK),Inv X pq σ H s->Vals xs us->r xs H Q->
  wpAny (model X.prog X.w) X.A (call f us) (EP X pq σ Q) X.xe s
def JA(r:R2)(ta tb:TE):TE:=fun σ H Q=>ta σ H fun x H1=>tb σ H1 fun y H2=>r x y H2 Q
def RX(r:V->Hp->VK->Prop)(ta:TE):TE:=fun σ H Q=>ta σ H fun x H1=>r x H1 Q
def rI(C:Int->Int->Prop)(g:Int->Int->V):R2:=fun x y H Q=>∃ i j,x = .int i/\y = .int j/\C i j/\Q (g i j) H
def Cs(g:Int->Int->V):R2:=fun x y H Q=>∃ i j,x = .int i/\y = .int j/\Q (g i j) H
def rU(g:Int->V):V->Hp->VK->Prop:=fun x H Q=>∃ i,x = .int i/\Q (g i) H
section
variable {X:Cx}{a b c:Expr}{ta tb tc:TE}{pos:Pos}
theorem EI(ha:PE X a ta)(hb:PE X b tb){pq:bq}{s:Shared}{σ:St}{H:Hp}{R:V->V->Hp->Prop}(I:Inv X pq σ H s)
 (h:ta σ H fun x H1=>tb σ H1 fun y H2=>R x y H2) {Q:iB} {f:Value->Value->Sem Value}
 (hf:∀ v u s2 x y H2,Inv X pq σ H2 s2->RelV x v->RelV y u->R x y H2->wpAny (model X.prog X.w) X.A (f v u) Q X.xe s2) :
 wpAny (model X.prog X.w) X.A (eval a X.env) (fun v s₁=>wpAny (model X.prog X.w) X.A (eval b X.env) (fun u s₂=>wpAny (model X.prog X.w) X.A (f v u) Q X.xe s₂) X.xe s₁) X.xe s:=by
 refine fE (ha pq s σ H _ I h) fun v s1 ⟨x,H1,I1,r1,q1⟩=>?_
 refine fE (hb pq s1 σ H1 _ I1 q1) fun u s2 ⟨y,H2,I2,r2,q2⟩=>?_
 exact hf v u s2 x y H2 I2 r1 r2 q2
theorem aE{op:Operator}{r:R2}(ho:lB X (binaryOp op) r)(ha:PE X a ta)(hb:PE X b tb):PE X (.BinOp a op b pos) (JA r ta tb):=by
 intro pq s σ H Q I h;exact wpAny_BinOp (EI ha hb I h fun v u s2 x y H2 I2 rx ry q=>ho pq s2 σ H2 x y v u Q I2 rx ry q)
theorem DU{op:UnaryOp}{r:V->Hp->VK->Prop}(ho:KU X (unaryOp op) r)(ha:PE X a ta):PE X (.UnaryOp op a pos) (RX r ta):=by
 intro pq s σ H Q I h;exact UnaryOp_ (fE (ha pq s σ H _ I h) fun v s1 ⟨x,H1,I1,r1,q1⟩=>ho pq s1 σ H1 x v Q I1 r1 q1)
theorem DV{f:Value->Value->Sem Value}{C:Int->Int->Prop}{g:Int->Int->Int}
 (rule:∀(i j:Int) (t u:Tok) (s:Shared) (Q:iB) (E:iB),C i j->Q (.int (g i j) s.toks) { s with toks:=s.toks+1}->wpAny (model X.prog X.w) X.A (f (.int i t) (.int j u)) Q E s) :
 lB X f (rI C fun i j=>.int (g i j)):=by
 intro pq s σ H x y v u Q I rx ry h;obtain⟨i,j,rfl,rfl,hc,q⟩:=h;obtain⟨t,rfl⟩:=rx;obtain⟨t',rfl⟩:=ry;exact rule i j t t' s _ _ hc ⟨.int (g i j),H,I.tok _,⟨_,rfl⟩,q⟩
theorem CH{f:Value->Value->Sem Value}{g:Int->Int->Int}
 (rule:∀(i j:Int) (t u:Tok) (s:Shared) (Q:iB) (E:iB),Q (.int (g i j) s.toks) { s with toks:=s.toks+1}->wpAny (model X.prog X.w) X.A (f (.int i t) (.int j u)) Q E s) :
 lB X f (Cs fun i j=>.int (g i j)):=by
 intro pq s σ H x y v u Q I rx ry h;obtain⟨i,j,rfl,rfl,q⟩:=h;obtain⟨t,rfl⟩:=rx;obtain⟨t',rfl⟩:=ry;exact rule i j t t' s _ _ ⟨.int (g i j),H,I.tok _,⟨_,rfl⟩,q⟩
theorem CI{f:Value->Value->Sem Value}{g:Int->Int->Bool}
 (rule:∀(i j:Int) (t u:Tok) (s:Shared) (Q:iB) (E:iB),Q (.bool (g i j)) s->wpAny (model X.prog X.w) X.A (f (.int i t) (.int j u)) Q E s) :
 lB X f (Cs fun i j=>.bl (g i j)):=by
 intro pq s σ H x y v u Q I rx ry h;obtain⟨i,j,rfl,rfl,q⟩:=h;obtain⟨t,rfl⟩:=rx;obtain⟨t',rfl⟩:=ry;exact rule i j t t' s _ _ ⟨.bl (g i j),H,I,rfl,q⟩
def EJ(i j:Int):Prop:=0<j/\j<1073741824
def GV(i j:Int):Prop:=0<=j/\j<=1000000/\i.natAbs<2^64
def EK(i j:Int):Prop:=(-(2^64)<i/\i<2^64)\/(-(2^64)<j/\j<2^64)
theorem EK.ok{i j:Int}(h:EK i j):IntMulOk i j:=by
 rcases h with⟨h1,h2⟩|⟨h1,h2⟩
 ·exact .of_left (intBits_le_64 h1 h2)
 ·exact .of_right (intBits_le_64 h1 h2)
theorem xm(k:Nat):(0:Int)<=2^k:=by
 rw[two_pow_cast];exact Int.natCast_nonneg _
theorem cK:lB X (binaryOp .Add) (Cs fun i j=>.int (i+j)):=CH fun _ _ _ _ _ _ _ q=>add_int q
theorem iT:lB X (binaryOp .Sub) (Cs fun i j=>.int (i-j)):=CH fun _ _ _ _ _ _ _ q=>sub_int q
theorem nN:lB X (binaryOp .Mult) (rI EK fun i j=>.int (i*j)):=DV fun _ _ _ _ _ _ _ hc q=>mul_int q hc.ok
theorem iE:lB X (binaryOp .FloorDiv) (rI EJ fun i j=>.int (i/j)):=DV fun i j _ _ _ _ _ hc q=>by
 have h1:(0:Int)<j:=hc.1;have h2:j<1073741824:=hc.2;exact floordiv_int (by lia) (by rw[Int.fdiv_eq_ediv_of_nonneg i (by lia)];exact q) (.inl (PyProof.noPylong_small (by lia)))
theorem bL:lB X (binaryOp .Mod) (rI (fun _ j=>0<j) fun i j=>.int (i%j)):=DV fun i j _ _ _ _ _ hc q=>by
 have h1:(0:Int)<j:=hc;exact mod_int' (by lia) (by rw[Int.fmod_eq_emod_of_nonneg i (by lia)];exact q)
theorem ue:lB X (binaryOp .Pow) (rI GV fun i j=>.int (i^j.toNat)):=DV fun _ _ _ _ _ _ _ hc q=>pow_int_small hc.1 hc.2.1 hc.2.2 q
theorem Az:lB X (binaryOp .LShift) (rI GV fun i j=>.int (i*2^j.toNat)):=DV fun _ _ _ _ _ _ _ hc q=>lshift_int_small hc.1 hc.2.1 hc.2.2 q
theorem AA:lB X (binaryOp .RShift) (rI (fun _ j=>0<=j) fun i j=>.int (i/2^j.toNat)):=DV fun i j _ _ _ _ _ hc q =>
 rshift_int hc (by rw[Int.fdiv_eq_ediv_of_nonneg i (xm _)];exact q)
theorem EL:lB X (binaryOp .BitAnd) (Cs fun i j=>.int (Builtin.bitAnd i j)):=CH fun _ _ _ _ _ _ _ q=>and_int q
theorem CJ:lB X (inplaceOp .Add) (Cs fun i j=>.int (i+j)):=CH fun _ _ _ _ _ _ _ q=>iadd_int q
theorem RY{f:Value->Sem Value}{g:Int->Int}
 (rule:∀(i:Int) (t:Tok) (s:Shared) (Q:iB) (E:iB),Q (.int (g i) s.toks) { s with toks:=s.toks+1}->wpAny (model X.prog X.w) X.A (f (.int i t)) Q E s) :
 KU X f (rU fun i=>.int (g i)):=by
 intro pq s σ H x v Q I rx h;obtain⟨i,rfl,q⟩:=h;obtain⟨t,rfl⟩:=rx;exact rule i t s _ _ ⟨.int (g i),H,I.tok _,⟨_,rfl⟩,q⟩
theorem AB:KU X (unaryOp .USub) (rU fun i=>.int (-i)):=RY fun _ _ _ _ _ q=>neg_int q
end
def GW:V->V->Bool
 | .fH,.fH=>true | .fH,.int _=>true | .int _,.fH=>true | .fH,.bl _=>true | .bl _,.fH=>true | .fH,.str _=>true | .str _,.fH=>true
 | .int _,.int _=>true | .bl _,.bl _=>true | .str _,.str _=>true | .Ar _,.Ar _=>true
 | .int _,.str _=>true | .str _,.int _=>true | .bl _,.str _=>true | .str _,.bl _=>true
 | _,_=>false
def RZ:R2:=fun x y H Q=>GW x y=true/\Q (.bl (decide (x=y))) H
def R0:R2:=fun x y H Q=>GW x y=true/\Q (.bl (!decide (x=y))) H
theorem x9{i j:Int}:decide (V.int i=V.int j)=(i==j):=by
 rw[Bool.eq_iff_iff];simp
theorem AD{i j:Bool}:decide (V.bl i=V.bl j)=(i==j):=by
 rw[Bool.eq_iff_iff];simp
theorem ya{i j:Str}:decide (V.str i=V.str j)=(i==j):=by
 rw[Bool.eq_iff_iff];simp
theorem yb{i j:Array UInt8}:decide (V.Ar i=V.Ar j)=(i.toList==j.toList):=by
 rw[Bool.eq_iff_iff];cases i;cases j;simp
section
variable {X:Cx}{a b c:Expr}{ta tb tc:TE}{pos:Pos}
theorem bx{pq:bq}{σ:St}{H:Hp}{s:Shared}{Q:VK}{k k' : Bool}(I:Inv X pq σ H s)(q:Q (.bl k) H)(e:k=k'):EP X pq σ Q (.bool k') s:=by
 subst e;exact⟨.bl k,H,I,rfl,q⟩
theorem gp:lB X (compareOp .Eq) RZ:=by
 intro pq s σ H x y v u Q I rx ry h;obtain⟨hs,q⟩:=h;cases x with
 | fH =>
   cases rx;cases y with
   | fH=>cases ry;exact PySem.EqNone.eq_none_none (bx I q (by simp))
   | bl j=>cases ry;exact PySem.EqNone.eq_none_bool (bx I q (by simp))
   | int j=>obtain⟨t',rfl⟩:=ry;exact PySem.EqNone.eq_none_int (bx I q (by simp))
   | str j=>obtain⟨t',rfl⟩:=ry;exact PySem.EqNone.eq_none_str (bx I q (by simp))
   | _=>exact absurd (show false=true from hs) Bool.false_ne_true
 | bl i =>
   cases rx;cases y with
   | fH=>cases ry;exact PySem.EqNone.eq_bool_none (bx I q (by simp))
   | bl j=>cases ry;exact eq_bool (bx I q AD)
   | str j=>obtain⟨t',rfl⟩:=ry;exact PySem.EqMixed.eq_bool_str (bx I q (by simp))
   | _=>exact absurd (show false=true from hs) Bool.false_ne_true
 | int i =>
   obtain⟨t,rfl⟩:=rx;cases y with
   | fH=>cases ry;exact PySem.EqNone.eq_int_none (bx I q (by simp))
   | int j=>obtain⟨t',rfl⟩:=ry;exact eq_int (bx I q x9)
   | str j=>obtain⟨t',rfl⟩:=ry;exact PySem.EqMixed.eq_int_str (bx I q (by simp))
   | _=>exact absurd (show false=true from hs) Bool.false_ne_true
 | str i =>
   obtain⟨t,rfl⟩:=rx;cases y with
   | fH=>cases ry;exact PySem.EqNone.eq_str_none (bx I q (by simp))
   | bl j=>cases ry;exact PySem.EqMixed.eq_str_bool (bx I q (by simp))
   | int j=>obtain⟨t',rfl⟩:=ry;exact PySem.EqMixed.eq_str_int (bx I q (by simp))
   | str j=>obtain⟨t',rfl⟩:=ry;exact eq_str (bx I q ya)
   | _=>exact absurd (show false=true from hs) Bool.false_ne_true
 | Ar i =>
   obtain⟨t,rfl⟩:=rx;cases y with
   | Ar j=>obtain⟨t',rfl⟩:=ry;exact PySem.W.eq_bytes (bx I q yb)
   | _=>exact absurd (show false=true from hs) Bool.false_ne_true
 | _=>cases y<;>exact absurd (show false=true from hs) Bool.false_ne_true
theorem vg:lB X (compareOp .NotEq) R0:=by
 intro pq s σ H x y v u Q I rx ry h;obtain⟨hs,q⟩:=h;cases x with
 | fH =>
   cases rx;cases y with
   | fH=>cases ry;exact PySem.EqNone.ne_none_none (bx I q (by simp))
   | bl j=>cases ry;exact PySem.EqNone.ne_none_bool (bx I q (by simp))
   | int j=>obtain⟨t',rfl⟩:=ry;exact PySem.EqNone.ne_none_int (bx I q (by simp))
   | str j=>obtain⟨t',rfl⟩:=ry;exact PySem.EqNone.ne_none_str (bx I q (by simp))
   | _=>exact absurd (show false=true from hs) Bool.false_ne_true
 | bl i =>
   cases rx;cases y with
   | fH=>cases ry;exact PySem.EqNone.ne_bool_none (bx I q (by simp))
   | bl j=>cases ry;exact ne_bool (bx I q (congrArg not AD))
   | str j=>obtain⟨t',rfl⟩:=ry;exact PySem.EqMixed.ne_bool_str (bx I q (by simp))
   | _=>exact absurd (show false=true from hs) Bool.false_ne_true
 | int i =>
   obtain⟨t,rfl⟩:=rx;cases y with
   | fH=>cases ry;exact PySem.EqNone.ne_int_none (bx I q (by simp))
   | int j=>obtain⟨t',rfl⟩:=ry;exact ne_int (bx I q (congrArg not x9))
   | str j=>obtain⟨t',rfl⟩:=ry;exact PySem.EqMixed.ne_int_str (bx I q (by simp))
   | _=>exact absurd (show false=true from hs) Bool.false_ne_true
 | str i =>
   obtain⟨t,rfl⟩:=rx;cases y with
   | fH=>cases ry;exact PySem.EqNone.ne_str_none (bx I q (by simp))
   | bl j=>cases ry;exact PySem.EqMixed.ne_str_bool (bx I q (by simp))
   | int j=>obtain⟨t',rfl⟩:=ry;exact PySem.EqMixed.ne_str_int (bx I q (by simp))
   | str j=>obtain⟨t',rfl⟩:=ry;exact ne_str (bx I q (congrArg not ya))
   | _=>exact absurd (show false=true from hs) Bool.false_ne_true
 | Ar i =>
   obtain⟨t,rfl⟩:=rx;cases y with
   | Ar j=>obtain⟨t',rfl⟩:=ry;exact PySem.W.ne_bytes (bx I q (congrArg not yb))
   | _=>exact absurd (show false=true from hs) Bool.false_ne_true
 | _=>cases y<;>exact absurd (show false=true from hs) Bool.false_ne_true
theorem yc:lB X (compareOp .Lt) (Cs fun i j=>.bl (decide (i<j))):=CI fun _ _ _ _ _ _ _ q=>lt_int q
theorem GX:lB X (compareOp .LtE) (Cs fun i j=>.bl (decide (i<=j))):=CI fun _ _ _ _ _ _ _ q=>le_int q
theorem AE:lB X (compareOp .Gt) (Cs fun i j=>.bl (decide (j<i))):=CI fun _ _ _ _ _ _ _ q=>gt_int q
theorem GY:lB X (compareOp .GtE) (Cs fun i j=>.bl (decide (j<=i))):=CI fun _ _ _ _ _ _ _ q=>ge_int q
theorem EM:lB X (compareOp .Is) (fun x y H Q=>y = .fH/\Q (.bl (decide (x = .fH))) H):=by
 intro pq s σ H x y v u Q I rx ry h;obtain⟨rfl,q⟩:=h;cases ry;refine is_none_gen (bx I q ?_);cases x<;>first
  | (cases rx;rfl)
  | (obtain⟨t,rfl⟩:=rx;rfl)
theorem aX(b:Expr){op:CmpOp}(h:op≠.In:=by decide)(h2:op≠.NotIn:=by decide):behindInMarks op b=false:=by
 have e1:(op==CmpOp.In)=false:=by cases op<;>first | rfl | exact absurd rfl h
 have e2:(op==CmpOp.NotIn)=false:=by cases op<;>first | rfl | exact absurd rfl h2
 cases b<;>simp[behindInMarks,e1,e2]
theorem gF{op:CmpOp}{r:R2}(ho:lB X (compareOp op) r)(ha:PE X a ta)(hb:PE X b tb)(hm:behindInMarks op b=false):PE X (.Compare a [op] [b] pos) (JA r ta tb):=by
 intro pq s σ H Q I h;exact wpAny_Compare1 (EI ha hb I h fun v u s2 x y H2 I2 rx ry q=>ho pq s2 σ H2 x y v u Q I2 rx ry q) hm
def GZ(t:TE):TT:=fun σ H Q=>t σ H fun x H'=>∃ k,x = .bl k/\Q k H'
theorem aV{op:CmpOp}{r:R2}(ho:lB X (compareOp op) r)(ha:PE X a ta)(hb:PE X b tb)(hm:behindInMarks op b=false):PT X (.Compare a [op] [b] pos) (GZ (JA r ta tb)):=by
 intro pq s σ H Q I h;refine wpAny_isTrue_Compare1 (fE (ha pq s σ H _ I h) fun v s1 ⟨x,H1,I1,r1,q1⟩=>fE (hb pq s1 σ H1 _ I1 q1) fun u s2 ⟨y,H2,I2,r2,q2⟩ =>
  fE (ho pq s2 σ H2 x y v u _ I2 r1 r2 q2) fun c s3 ⟨z,H3,I3,r3,k,e,q3⟩=>?_) hm
 subst e;cases r3;exact wpAny_truthy_bool ⟨H3,I3,q3⟩
theorem uf:(sizeLine:Nat)<2^63:=by rw[sizeLine_eq];decide
theorem vals1{x:V}{us:List Value}(r:Vals [x] us):∃ u,us=[u]/\RelV x u:=by
 cases r with
 | cons r1 r2=>cases r2;exact⟨_,rfl,r1⟩
theorem vals2{x y:V}{us:List Value}(r:Vals [x,y] us):∃ u w',us=[u,w']/\RelV x u/\RelV y w':=by
 cases r with
 | cons r1 r2 =>
   cases r2 with
   | cons r3 r4=>cases r4;exact⟨_,_,rfl,r1,r3⟩
theorem nO(hc:X.calm=true):gn X (.builtin "max") (fun xs H Q=>∃ i j,xs=[.int i,.int j]/\Q (.int (if j > i then j else i)) H):=by
 intro pq s σ H xs us Q I r h;obtain⟨i,j,rfl,q⟩:=h;obtain⟨u,w',rfl,⟨t,rfl⟩,⟨t',rfl⟩⟩:=vals2 r;refine max_two_ints (I.ok.hd hc) fun h' tk k=>⟨_,H,I.kept k,?_,q⟩
 by_cases hj:j > i
 ·rw[if_pos hj,if_pos hj];exact⟨_,rfl⟩
 ·rw[if_neg hj,if_neg hj];exact⟨_,rfl⟩
theorem nP(hc:X.calm=true):gn X (.builtin "min") (fun xs H Q=>∃ i j,xs=[.int i,.int j]/\Q (.int (if j<i then j else i)) H):=by
 intro pq s σ H xs us Q I r h;obtain⟨i,j,rfl,q⟩:=h;obtain⟨u,w',rfl,⟨t,rfl⟩,⟨t',rfl⟩⟩:=vals2 r;refine min_two_ints (I.ok.hd hc) fun h' tk k=>⟨_,H,I.kept k,?_,q⟩
 by_cases hj:j<i
 ·rw[if_pos hj,if_pos hj];exact⟨_,rfl⟩
 ·rw[if_neg hj,if_neg hj];exact⟨_,rfl⟩
theorem zu:gn X (.type "int") (fun xs H Q=>(∃ i,xs=[.int i]/\Q (.int i) H)\/∃ k,xs=[.bl k]/\Q (.int (if k then 1 else 0)) H):=by
 intro pq s σ H xs us Q I r h;rcases h with⟨i,rfl,q⟩|⟨k,rfl,q⟩
 ·obtain⟨u,rfl,t,rfl⟩:=vals1 r;exact call_int_int ⟨.int i,H,I,⟨_,rfl⟩,q⟩
 ·obtain⟨u,rfl,r1⟩:=vals1 r;cases r1;exact call_int_bool ⟨.int (if k then 1 else 0),H,I.tok _,⟨_,rfl⟩,q⟩
end
structure EN(h:Heap)(x dx C:Addr)(mA:iS):Prop where
 obj:h.get? x=some (PySem.W.instObj C dx)
 ns:h.Ns1 dx mA
 ne:dx≠x
theorem zy{h:Heap}{dx:Addr}{mA:iS}(n:h.Ns1 dx mA):∃ od,h.get? dx=some od/\∀ name,PySem.W.lookIn name od=some (mA name):=by
 obtain⟨o,es,ep,ho,hd,hk,_,hm⟩:=n;refine⟨o,ho,fun name=>?_⟩
 have e:=hm name;unfold nsFind findBy at e;rw[<-Array.find?_toList]at e;unfold PySem.W.lookIn;rw[hd];dsimp only
 split
 ·rename_i y q
  rw[q]at e;exact congrArg some e
 ·rename_i q
  rw[q]at e;have a:es.toList.any (·.refKey)=false:=by
   rw[List.any_eq_false];intro y hy;obtain⟨z,t,hkey⟩:=hk y (Array.mem_toList_iff.mp hy);simp[DictEntry.refKey,hkey]
  have a' : ¬ es.toList.any (·.refKey)=true:=by rw[a];exact Bool.false_ne_true
  rw[if_neg a'];exact congrArg some e
theorem EN.look{h:Heap}{x dx C:Addr}{mA:iS}(I:EN h x dx C mA):∃ od,PySem.W.InstAt h x (PySem.W.instObj C dx) C (some od)/\∀ name,PySem.W.lookIn name od=some (mA name) :=
 let⟨od,ho,hl⟩:=zy I.ns
 ⟨od,⟨I.obj,rfl,rfl,ho⟩,hl⟩
section
variable {P:Program}{w:World}{H H' : Hp}{h h' : Heap}{a C dx:Addr}{fs fs' : List (Str×V)}
theorem CK(hok:nH P w H h)(e:H a=some (.ins C dx fs)):∃ mA,EN h a dx C mA/\(∀ f,Ez (fs.lookup f) (mA f))/\PySem.Within mA (fs.map (·.1))/\fs.length<=1000/\H dx=some (.own a):=by
 obtain⟨d,z,ne,ob,mA,n,r,q⟩:=(show cC P w H h a (.ins C dx fs) from hok a _ e)
 exact⟨mA,⟨ob,n,ne⟩,r,q,z,d⟩
end
structure KW(K:bF)(C:Addr):Prop where
 pg:PySem.W.plainGet K C Str.empty=true
 hd:PySem.W.hasDictIn K C=true
 po:PySem.W.plainOver K C=true
 sa:PySem.W.findIn K (.ref C) "__setattr__"=some (some (.builtin "object.__setattr__"))
theorem KW.get{K:bF}{C:Addr}(c:KW K C)(f:Str):PySem.W.plainGet K C f=true:=c.pg
section
variable {X:Cx}{pq:bq}{σ:St}{H:Hp}{s:Shared}{A:Around}{E:iB}{Q:iB}{c:Value}{b:Bool}
inductive nQ(K:bF)(H:Hp):V->Value->Prop where
 | fH:nQ K H .fH (.type "NoneType")
 | bl (x:Bool):nQ K H (.bl x) (.type "bool")
 | int (i:Int):nQ K H (.int i) (.type "int")
 | str (x:Str):nQ K H (.str x) (.type "str")
 | Gh (x:UInt64):nQ K H (.Gh x) (.type "float")
 | lst {a:Addr} {xs:List V} (e:H a=some (.lst xs)):nQ K H (.ref a) (.type "list")
 | w4 {a:Addr} {o:Obj} {xs:List V} (e:H a=some (.w4 o (.lst xs))):nQ K H (.ref a) (.type "list")
 | tup {a:Addr} {xs:List V} (e:H a=some (.tup xs)):nQ K H (.ref a) (.type "tuple")
 | dK {a:Addr} {kvs:List (Key×V)} (e:H a=some (.dK kvs)):nQ K H (.ref a) (.type "dict")
 | dT {a:Addr} {kvs:List (List Key×V)} (e:H a=some (.dT kvs)):nQ K H (.ref a) (.type "dict")
 | ins {a C dx:Addr} {fs:List (Str×V)} (e:H a=some (.ins C dx fs)) (cl:KW K C) (ha:PySem.W.findIn K (.ref C) "__class__"=some (some (.builtin "object.__class__")))
  (hn:PySem.W.specialIn K (.builtin "object.__class__") "__get__"=some (some (.builtin "getset_descriptor.__get__"))) (htk:PySem.W.takesIn K (.builtin "object.__class__")=some true)
  (hm:PySem.W.mroIn K C (.type "object")=some true):nQ K H (.ref a) (.ref C)
theorem zz{x:V}{u t:Value}(I:Inv X pq σ H s)(rx:RelV x u)(ty:nQ X.K H x t)(e:PySem.W.kitOne X.K t c=some b)(h:∀ tk,Q (.bool b) { s with toks:=tk}):
 wpAny (model X.prog X.w) A (call (.builtin "isinstance") [u,c]) Q E s:=by
 cases ty with
 | fH=>cases(show u=Value.none from rx);exact PySem.W.kia_one PySem.W.kitx_none I.t8 True.intro e (fun z=>nomatch z) h
 | bl y=>cases(show u=Value.bool y from rx);exact PySem.W.kia_one PySem.W.kitx_bool I.t8 True.intro e (fun z=>nomatch z) h
 | int i=>obtain⟨t,q⟩:=(show ∃ t,u=Value.int i t from rx);cases q;exact PySem.W.kia_one PySem.W.kitx_int I.t8 True.intro e (fun z=>nomatch z) h
 | str y=>obtain⟨t,q⟩:=(show ∃ t,u=Value.str y t from rx);cases q;exact PySem.W.kia_one PySem.W.kitx_str I.t8 True.intro e (fun z=>nomatch z) h
 | Gh y=>obtain⟨t,q⟩:=(show ∃ t,u=Value.float y t from rx);cases q;exact PySem.W.kia_one PySem.W.kitx_float I.t8 True.intro e (fun z=>nomatch z) h
 | @lst a xs ea =>
   cases(show u=Value.ref a from rx)
   obtain⟨_,_,n,_,h1⟩:=(show cC X.prog X.w H s.heap a (.lst xs) from I.hok a _ ea)
   exact PySem.W.kia_one PySem.W.kitx_list I.t8 ⟨_,h1,rfl⟩ e (fun z=>nomatch z) h
 | @w4 a ob xs ea =>
   cases(show u=Value.ref a from rx)
   obtain⟨_,_,_,n,_,h1⟩:=(show cC X.prog X.w H s.heap a (.w4 ob (.lst xs)) from I.hok a _ ea)
   exact PySem.W.kia_one PySem.W.kitx_list I.t8 ⟨_,h1,rfl⟩ e (fun z=>nomatch z) h
 | @tup a xs ea =>
   cases(show u=Value.ref a from rx)
   obtain⟨_,_,_,p⟩:=(show cC X.prog X.w H s.heap a (.tup xs) from I.hok a _ ea)
   obtain⟨o,h1,h2,_⟩:=p;exact PySem.W.kia_one PySem.W.kitx_tuple I.t8 ⟨o,h1,h2⟩ e (fun z=>nomatch z) h
 | @dK a kvs ea =>
   cases(show u=Value.ref a from rx)
   obtain⟨_,_,vs,_,p⟩:=(show cC X.prog X.w H s.heap a (.dK kvs) from I.hok a _ ea)
   obtain⟨o,es,ep,h1,h2,_⟩:=p;exact PySem.W.kia_one PySem.W.kitx_dict I.t8 ⟨o,h1,h2.1⟩ e (fun z=>nomatch z) h
 | @dT a kvs ea =>
   cases(show u=Value.ref a from rx)
   obtain⟨_,_,xs,_,o,es,ep,h1,h2,_⟩:=(show cC X.prog X.w H s.heap a (.dT kvs) from I.hok a _ ea)
   exact PySem.W.kia_one PySem.W.kitx_dict I.t8 ⟨o,h1,h2.1⟩ e (fun z=>nomatch z) h
 | @ins a C dx fs ea cl ha hn htk hm =>
   cases(show u=Value.ref a from rx)
   obtain⟨mA,O,_⟩:=CK I.hok ea;obtain⟨od,J,_⟩:=O.look;exact PySem.W.kia_one (PySem.W.kitx_own (cl.get _) cl.hd ha hn htk hm) I.t8 J e (fun z=>nomatch z) h
end
structure j6(k:Nat)(A:Around):Prop where
 hd:A.handled=none
 dp:A.depth+3*k+5<recursionLimit
 un:A.units+16*k+200<cLine
theorem j6.mono{j k:Nat}{A:Around}(r:j6 k A)(h:j<=k):j6 j A:=⟨r.hd,by have:=r.dp;lia,by have:=r.un;lia⟩
theorem j6.deeper{k:Nat}{A:Around}(r:j6 (k+1) A)(env:Env):j6 k (A.deeper env) :=
 ⟨r.hd,by have:=r.dp;show A.depth+1+3*k+5<_;lia,by have:=r.un;show A.units+3+16*k+200<_;lia⟩
theorem j6.depth{k:Nat}{A:Around}(r:j6 k A):A.depth<recursionLimit:=by have:=r.dp;lia
theorem j6.units{k:Nat}{A:Around}(r:j6 k A):A.units+64<cLine:=by have:=r.un;lia
def KY:TA:=fun _ H Q=>Q [] H
def G0(ta:TE)(tr:TA):TA:=fun σ H Q=>ta σ H fun x H1=>tr σ H1 fun xs H2=>Q (x::xs) H2
section
variable {X:Cx}{e:Expr}{es:List Expr}{te:TE}{t:TA}{pos:Pos}
theorem ae:PA X [] KY:=fun _ _ _ _ H Q I h=>Calls.spliced_nil ⟨[],H,I,.nil,h⟩
theorem aa(ha:PE X e te)(hr:PA X es t)(hs:starEach (e::es) X.env=(false,eval e X.env)::starEach es X.env:=by rfl):PA X (e::es) (G0 te t):=by
 intro pos pq s σ H Q I h;rw[hs];show wpAny _ _ (spliced ((false,eval e X.env)::backTo pos (starEach es X.env))) _ _ s;refine Calls.spliced_cons (fE (ha pq s σ H _ I h) fun u s1 ⟨x,H1,I1,r1,q1⟩=>?_)
 exact fE (hr pos pq s1 σ H1 _ I1 q1) fun us s2 ⟨xs,H2,I2,r2,q2⟩=>⟨x::xs,H2,I2,.cons r1 r2,q2⟩
def KZ(t:TA):TE:=fun σ H Q=>t σ H fun xs H1=>xs.length<=sizeLine/\∀ p,H1 p=none->Q (.ref p) (upd H1 p (.tup xs))
def K0(t:TA):TE:=fun σ H Q=>t σ H fun xs H1=>xs.length<=sizeLine/\∀ p,H1 p=none->Q (.ref p) (upd H1 p (.lst xs))
theorem gZ{x1}(h:PA X es t):PE X (.Tuple es x1 pos) (KZ t):=by
 intro pq s σ H Q I hq;refine wpAny_Tuple_spliced (fE (h pos pq s σ H _ I hq) fun us s1 ⟨xs,H1,I1,r,z,q⟩=>⟨by rw[<-r.length];exact z,?_⟩)
 have hf:H1 s1.heap.objs.size=none:=I1.hok.fresh (Nat.le_refl _);refine⟨.ref s1.heap.objs.size,upd H1 s1.heap.objs.size (.tup xs),I1.laid (t':=s1.toks) (fun b u e=>Heap.get?_push_of_some _ e) (Nat.le_refl _) ?_,rfl,q _ hf⟩
 exact⟨z,us,r,⟨_,Heap.get?_push_size _ rfl,rfl,_,rfl⟩⟩
theorem g5(h:PA X es t):PE X (.List es pos) (K0 t):=by
 intro pq s σ H Q I hq;refine wpAny_List_spliced (fE (h pos pq s σ H _ I hq) fun us s1 ⟨xs,H1,I1,r,z,q⟩=>⟨by rw[<-r.length];exact z,?_⟩)
 have hf:H1 s1.heap.objs.size=none:=I1.hok.fresh (Nat.le_refl _);refine⟨.ref s1.heap.objs.size,upd H1 s1.heap.objs.size (.lst xs),I1.laid (t':=s1.toks) (fun b u e=>Heap.get?_push_of_some _ e) (Nat.le_refl _) ?_,rfl,q _ hf⟩
 exact⟨z,us,0,r,Heap.get?_push_size _ rfl⟩
end
abbrev Sp:=List V->Hp->VK->XK->Prop
abbrev AF:=List Env->Hp->Shared->XK->Value->Shared->Prop
structure CL(P:Program)(w:World)(K:bF)(mg:iS)(base:Heap)(A:Around)(outer:List Env)(s:Shared)(H:Hp):Prop where
 frames:A.frames=some outer
 mod:Mod K mg base
 bs:∀ b o,base.get? b=some o->s.heap.get? b=some o/\H b=none
 DM:base.objs.size<=s.heap.objs.size
 funs:s.heap.FunFrames base outer
 DN:∀ b∈frs outer,H b=none
 hok:nH P w H s.heap
 bare:AllBare s.gens
def CE(outer:List Env)(P:Program)(w:World)(H:Hp)(s:Shared)(Q:VK)(u:Value)(s' : Shared):Prop :=
 ∃ v H',s'.os=s.os/\AllBare s'.gens/\Un (frs outer) [] H H' s.heap s'.heap/\nH P w H' s'.heap/\RelV v u/\Q v H'
def CR(CX:AF)(outer:List Env)(P:Program)(w:World)(H:Hp)(s:Shared)(Q:VK)(E:XK)(r:Result)(s' : Shared):Prop :=
 match r with
 | .ok (.ret u)=>CE outer P w H s Q u s'
 | .ok _=>False
 | .error e=>CX outer H s E e s'
structure aN(P:Program)(w:World)(K:bF)(mg:iS)(base:Heap)(CX:AF)(k:Nat)(f:Addr)(fd:FuncData)(ps:List Str)(sp:Sp):Prop where
 len:∀ vs H Q E,sp vs H Q E->vs.length=ps.length
 run:∀(A:Around) (outer:List Env) (s:Shared) (H:Hp) (args:Args) (us:List Value) (vs:List V) (Q:VK) (E:XK),j6 k A->CL P w K mg base A outer s H->BindsTo s fd args (ps.zip us)->Vals vs us->sp vs H Q E->
  codeAny (model P w) A (.call (.ref f) args) (CR CX outer P w H s Q E) s
section
variable {X:Cx}{pq:bq}{σ:St}{H:Hp}{s s' : Shared}
theorem Inv.K1(I:Inv X pq σ H s):CL X.prog X.w X.K X.mg X.base X.A X.stack s H :=
 ⟨I.ok.frames,I.ok.mod,I.bs,Nat.le_trans I.ok.DM I.sz,I.stack,I.ua,I.hok,I.bare⟩
theorem Inv.after{Q:VK}{u:Value}(I:Inv X pq σ H s)(h:CE X.stack X.prog X.w H s Q u s'):EP X pq σ Q u s':=by
 obtain⟨v,H',os,bare,un,hok,r,q⟩:=h;obtain⟨hh,g,d,t,os'⟩:=s';obtain rfl:os' = s.os:=os;exact⟨v,H',I.call (h':=hh) (g':=g) (d':=d) (t':=t) (ch:=[]) un hok bare (fun b z=>absurd z (by simp)),r,q⟩
end
def G3(sp:Sp)(DW:List V)(E:XK)(t:TA):TE:=fun σ H Q=>t σ H fun vs H1=>sp (vs++DW) H1 Q E
def Binds(K:bF)(fd:FuncData)(ps:List Str)(ds:List Value):Prop :=
 ∀(s:Shared) (us:List Value),K.In s.heap->(us++ds).length=ps.length->BindsTo s fd ⟨us,[]⟩ (ps.zip (us++ds))
theorem Binds.all{K:bF}{fd:FuncData}{ps:List Str}(h:∀ us:List Value,us.length=ps.length->bindArgs fd ⟨us,[]⟩=pure (ps.zip us)):Binds K fd ps []:=fun s us _ hl=>by
 rw[List.append_nil]at hl ⊢;exact .of_eq (h us hl)
def Passes(CX:AF)(X:Cx)(E:XK):Prop:=∀(pq:bq) (σ:St) (H:Hp) (s:Shared) (e:Value) (s' : Shared),Inv X pq σ H s->CX X.stack H s E e s'->X.xe e s'
section
variable {X:Cx}{CX:AF}{k:Nat}{f C:Addr}{fd:FuncData}{ps:List Str}{sp:Sp}{DW:List V}{ds:List Value}{E:XK}{x m:Str}{p pos apos:Pos}{e o:Expr}{es:List Expr}{ta:TE}{t:TA}
theorem EO{pq:bq}{σ:St}{H:Hp}{s:Shared}{Q:VK}{us:List Value}{vs:List V}(F:aN X.prog X.w X.K X.mg X.base CX k f fd ps sp)(hr:j6 k X.A)(hb:Binds X.K fd ps ds)(hd:Vals DW ds)(hx:Passes CX X E)
 (I:Inv X pq σ H s) (r:Vals vs us) (h:sp (vs++DW) H Q E):wpAny (model X.prog X.w) X.A (call (.ref f) us) (EP X pq σ Q) X.xe s:=by
 have r2:Vals (vs++DW) (us++ds):=r.append hd;have hl:(us++ds).length=ps.length:=by rw[<-r2.length];exact F.len _ _ _ _ h
 refine wpAny_call (codeAny_mono (F.run X.A X.stack s H ⟨us,[]⟩ (us++ds) (vs++DW) Q E hr I.K1 (hb s us I.t8 hl) r2 h) fun r s' hq=>?_)
 cases r with
 | error e=>exact hx pq σ H s e s' I hq
 | ok fl =>
   cases fl with
   | ret u=>exact I.after hq
   | next=>exact False.elim hq
   | brk=>exact False.elim hq
   | cont=>exact False.elim hq
theorem ay(F:aN X.prog X.w X.K X.mg X.base CX k f fd ps sp)(hr:j6 k X.A)(hg:Gl X x)(hm:X.mg x=some (.ref f))(hk:PySem.W.keepIn X.K (.ref f)=true)(hb:Binds X.K fd ps ds)(hd:Vals DW ds)(hx:Passes CX X E)
 (ha:PA X (e::es) t) (hdb:(x==("__debug__":Str))=false:=by decide) (he:starEach (e::es) X.env=(false,eval e X.env)::starEach es X.env:=by rfl) (hpl:(backTo pos (starEach es X.env)).any (·.1)=false:=by rfl) :
 PE X (.Call (.Name x p) (e::es) [] pos) (G3 sp DW E t):=by
 intro pq s σ H Q I h;refine wpAny_Call_Name_kw (pO I hg hm ?_ hdb);refine PySem.W.callWith_K (h₀:=X.base) I.ok.mod.Jv hk (fE (ha pos pq s σ H _ I h) fun us s1 ⟨vs,H1,I1,r,q⟩=>⟨I1.t8,?_⟩) he hpl
 exact EO F hr hb hd hx I1 r q
end
structure aM(N P:List Str)(sc:Scope):Prop where
 kind:sc.kind = .function
 co:sc.isCoroutine=false
 gen:sc.isGenerator=false
 nd:N.Nodup
 pre:N.take P.length=P
 par:∀ x∈P,sc.names.lookup x=some .local\/sc.names.lookup x=some .cell
 ER:∀ y∈sc.names,y.2≠.free
theorem sC{kindOf:Str->Option NameKind}{x:Str}:∀{binds:List (Str×Value)} {m:iS},(∀ v,(x,v)∉binds)->bindL kindOf binds m x=m x
 | [],_,_=>rfl
 | (n,v)::r,m,h=>by
   unfold bindL;rw[sC fun w hw=>h w (sA _ hw)]
   split
   ·have:x≠n:=by rintro rfl;exact h v List.mem_cons_self
    simp[this]
   ·rfl
theorem sD{kindOf:Str->Option NameKind}{x:Str}:∀{binds:List (Str×Value)} {m:iS},(∀ v,(x,v)∉binds)->bindC kindOf binds m x=m x
 | [],_,_=>rfl
 | (n,v)::r,m,h=>by
   unfold bindC;rw[sD fun w hw=>h w (sA _ hw)]
   split
   ·rfl
   ·have:x≠n:=by rintro rfl;exact h v List.mem_cons_self
    simp[this]
theorem sE{kindOf:Str->Option NameKind}{x:Str}{v:Value}:∀{P:List Str} {vs:List Value} {i:Nat} {m:iS},P.Nodup->P[i]?=some x->vs[i]?=some v->kindOf x=some .local->
 bindL kindOf (P.zip vs) m x=some v
 | [],_,_,_,_,h,_,_=>by simp at h
 | _::_,[],_,_,_,_,h,_=>by simp at h
 | p::P,w::vs,0,m,nd,h1,h2,hk=>by
   simp at h1 h2;subst h1;subst h2;show bindL kindOf ((p,w)::P.zip vs) m p=_;unfold bindL;rw[sC fun v hv=>(List.nodup_cons.mp nd).1 (List.of_mem_zip hv).1,if_pos hk]
   simp
 | p::P,w::vs,i+1,m,nd,h1,h2,hk=>by
   show bindL kindOf ((p,w)::P.zip vs) m x=_;unfold bindL;exact sE (i:=i) (List.nodup_cons.mp nd).2 (by simpa using h1) (by simpa using h2) hk
theorem sF{kindOf:Str->Option NameKind}{x:Str}{v:Value}:∀{P:List Str} {vs:List Value} {i:Nat} {m:iS},P.Nodup->P[i]?=some x->vs[i]?=some v->kindOf x≠some .local->
 bindC kindOf (P.zip vs) m x=some v
 | [],_,_,_,_,h,_,_=>by simp at h
 | _::_,[],_,_,_,_,h,_=>by simp at h
 | p::P,w::vs,0,m,nd,h1,h2,hk=>by
   simp at h1 h2;subst h1;subst h2;show bindC kindOf ((p,w)::P.zip vs) m p=_;unfold bindC;rw[sD fun v hv=>(List.nodup_cons.mp nd).1 (List.of_mem_zip hv).1,if_neg hk]
   simp
 | p::P,w::vs,i+1,m,nd,h1,h2,hk=>by
   show bindC kindOf ((p,w)::P.zip vs) m x=_;unfold bindC;exact sF (i:=i) (List.nodup_cons.mp nd).2 (by simpa using h1) (by simpa using h2) hk
def start(N:List Str)(vs:List V):St:=vs.map some++List.replicate (N.length-vs.length) none
def vh(CX:AF)(P:Program)(w:World)(K:bF)(mg:iS)(base:Heap)(N:List Str)(qual:Str)(scope:Scope)(f:Addr)(cd:Value)(A:Around)(outer:List Env)(s:Shared)(H:Hp)(E:XK):Cx where
 prog:=P
 w:=w
 K:=K
 mg:=mg
 base:=base
 A:=A.deeper (envOfC qual scope s.heap.objs.size f cd)
 N:=N
 s₀:=s
 H₀:=H
 env:=envOfC qual scope s.heap.objs.size f cd
 outer:=outer
 stack:=envOfC qual scope s.heap.objs.size f cd::outer
 ex:=[]
 calm:=true
 fn:=fun _=>true
 pn:=[]
 xe:=fun e s'=>wpAny (model P w) (A.deeper (envOfC qual scope s.heap.objs.size f cd)) (leaving (envOfC qual scope s.heap.objs.size f cd) e) (fun _ s''=>CX outer H s E e s'') (fun e' s''=>CX outer H s E e' s'') s'
theorem vj{sc:Scope}{n:Nat}{x:Str}(h:sc.names.lookup x=some .cell):∃ c,(cellsFrom n sc.names []).lookup x=some c:=by
 have q:=PySem.W.cellsFrom_some sc.names n [] (.inl h);exact Option.isSome_iff_exists.mp q
theorem zA{CX:AF}{P:Program}{w:World}{K:bF}{mg:iS}{base:Heap}{N ps:List Str}{qual:Str}{scope:Scope}{f:Addr}{cd:Value}{A:Around}{outer:List Env}{s s1:Shared}{H:Hp}{E:XK}{us:List Value}{vs:List V}
 (S:aM N ps scope) (hd:A.handled=none) (e0:CL P w K mg base A outer s H) (hl:vs.length=ps.length) (r:Vals vs us)
 (x:InCallC s s.heap.objs.size (bindL (envOfC qual scope s.heap.objs.size f cd).kindOf (ps.zip us) fun _=>none) (cellsFrom (s.heap.objs.size+1) scope.names []) (bindC (envOfC qual scope s.heap.objs.size f cd).kindOf (ps.zip us) fun _=>none) s1) :
 Inv (vh CX P w K mg base N qual scope f cd A outer s H E) [] (start N vs) H s1:=by
 have hpl:ps.length<=N.length:=by have:=congrArg List.length S.pre;rw[List.length_take]at this;lia
 obtain⟨h1,tk,rfl,hk⟩:=x.done;have G4:∀ b:Addr,b∉(vh CX P w K mg base N qual scope f cd A outer s H E).ex:=fun b z=>absurd (show b∈([]:List Addr) from z) (by simp)
 refine⟨⟨e0.mod,S.kind,rfl,rfl,Nat.le_refl _,fun y z c h1 h2=>?_,fun y hy=>?_,fun y c _ h=>?_,fun _=>hd,Around.frames_deeper e0.frames,.inr ⟨rfl,rfl⟩,fun b z=>absurd z (G4 b),e0.bs,e0.DM,fun b _ _=>G4 b,fun b z=>absurd z (G4 b),e0.funs,e0.DN⟩,
  rfl,e0.bare,Un.kept hk,⟨_,x.toInCall.ns,fun i y v h1 h2 h3=>?_⟩,fun y c h=>⟨_,x.cell y c h⟩,e0.hok.fresh (Nat.le_refl _),fun y c h=>?_,fun p hp=>absurd (show p∈([]:bq) from hp) (by simp),e0.hok.kept hk,?_⟩
 ·exact name_of_addr x.apart (PySem.mem_of_lookup h1) (PySem.mem_of_lookup h2)
 ·have hy:scope.names.lookup y=some .cell\/scope.names.lookup y=some .free:=hy;rcases hy with hy|hy
  ·exact vj hy
  ·exact absurd rfl (S.ER _ (PySem.mem_of_lookup hy))
 ·exact Nat.le_of_lt (x.above y c (PySem.mem_of_lookup h))
 ·have hi:i<vs.length:=by
   unfold start at h2
   by_cases hi:i<vs.length
   ·exact hi
   ·rw[List.getElem?_append_right (by simpa using hi)]at h2
    rw[List.getElem?_replicate]at h2
    split at h2<;>cases h2
  have ha:vs[i]?=some v:=by
   unfold start at h2;rw[List.getElem?_append_left (by simpa using hi),List.getElem?_map]at h2
   cases e:vs[i]? with
   | none=>rw[e]at h2;cases h2
   | some a=>rw[e]at h2;cases h2;rfl
  obtain⟨u,hu,rv⟩:=r.get ha;have hp:ps[i]?=some y:=by
   rw[<-S.pre,List.getElem?_take_of_lt (by lia)];exact h1
  have Qf:ps.Nodup:=by rw[<-S.pre];exact S.nd.sublist (List.take_sublist _ _)
  refine⟨u,rv,?_⟩;rcases S.par y (Cy hp) with k|k
  ·exact .inl ⟨k,sE Qf hp hu k⟩
  ·obtain⟨c,e⟩:=vj (n:=s.heap.objs.size+1) k;refine .inr ⟨.inl k,c,e,?_⟩;have q:=x.cell y c e;rw[sF Qf hp hu (by show scope.names.lookup y≠_;rw[k];decide)]at q
   exact q
 ·exact e0.hok.fresh (Nat.le_of_lt (x.above y c (PySem.mem_of_lookup h)))
 ·unfold start;show _=N.length;rw[List.length_append,List.length_map,List.length_replicate]
  lia
theorem DX{CX:AF}{P:Program}{w:World}{K:bF}{mg:iS}{base:Heap}{k:Nat}{f:Addr}{name qual:Str}{params:Arguments}{body:List Stmt}{scope:Scope}{dV kV doc pm cdv ct oc:Value}{an od:Option Addr}
 {osl:Array (Option Value)} {N ps:List Str} {sp:Sp} (lk:K.lookup f=some ⟨oc,od,.func (PySem.W.fnOf name qual params body scope dV kV doc pm an cdv ct),osl⟩) (hcd:PySem.W.codeIn K cdv qual=true) (S:aM N ps scope)
 (len:∀ vs H Q E,sp vs H Q E->vs.length=ps.length)
 (hbody:∀(A:Around) (outer:List Env) (s:Shared) (H:Hp) (vs:List V) (Q:VK) (E:XK),j6 k (A.deeper (envOfC qual scope s.heap.objs.size f cdv))->sp vs H Q E->
  ∃ t,vc (vh CX P w K mg base N qual scope f cdv A outer s H E) body t/\t { nx:=fun _ H'=>Q .fH H',rt:=Q} (start N vs) H) :
 aN P w K mg base CX (k+1) f (PySem.W.fnOf name qual params body scope dV kV doc pm an cdv ct) ps sp:=by
 refine⟨len,fun A outer s H args us vs Q E hr e0 hb r Ct=>?_⟩
 have hl:=len _ _ _ _ Ct;have KX:K.In s.heap:=e0.mod.Jv.keeps fun b o e=>(e0.bs b o e).1
 have lim:s.heap.NoLimit:=e0.mod.nolimit.keeps fun b o e=>(e0.bs b o e).1
 have hkind:∀ y∈ps.zip us,scope.names.lookup y.1=some .local\/(scope.names.lookup y.1=some .cell/\((cellsFrom (s.heap.objs.size+1) scope.names []).lookup y.1).isSome=true):=fun⟨n,v⟩ hy=>by
  rcases S.par n (List.of_mem_zip hy).1 with q|q
  ·exact .inl q
  ·exact .inr ⟨q,PySem.W.cellsFrom_some _ _ _ (.inl q)⟩
 refine codeAny_call_function hr.depth (KX _ _ lk) rfl S.co S.gen rfl (PySem.W.codeRec_of KX hcd) (hb _ _ _ _ ?_);refine wpAny_newFunctionEnv_cells S.kind hkind fun env he s1 x=>?_
 subst he;refine⟨lim.keeps x.toInCall.keep,codeAny_func ?_⟩;obtain⟨t,ht,hq⟩:=hbody A outer s H vs Q E (hr.deeper _) Ct;have I:Inv (vh CX P w K mg base N qual scope f cdv A outer s H E) [] (start N vs) H s1:=zA S hr.hd e0 hl r x;refine wpAny_mono (ht [] s1 (start N vs) H _ I hq) (fun fl s' hs=>?_) fun e s' hs=>hs
 have fin:∀{σ' : St} {H' : Hp} {v:V} {u:Value},Inv (vh CX P w K mg base N qual scope f cdv A outer s H E) [] σ' H' s'->RelV v u->Q v H'->CE outer P w H s Q u s' :=
  fun {σ' H' v u} J rv q=>⟨v,H',J.os,J.bare,J.base,J.hok,rv,q⟩
 cases fl with
 | ret u =>
   obtain⟨v,σ',H',J,rv,q⟩:=hs;exact fin J rv q
 | next =>
   obtain⟨σ',H',J,q⟩:=hs;exact fin (v:=V.fH) (u:=Value.none) J rfl q
 | brk =>
   obtain⟨_,_,_,q⟩:=hs;exact False.elim q
 | cont =>
   obtain⟨_,_,_,q⟩:=hs;exact False.elim q
section
variable {X:Cx}{x:Str}{p pos:Pos}{e:Expr}{es:List Expr}{t:TA}{id T:String}{r:List V->Hp->VK->Prop}
def Qg(r:List V->Hp->VK->Prop)(t:TA):TE:=fun σ H Q=>t σ H fun vs H1=>r vs H1 Q
theorem aB(hc:gn X (.builtin id) r)(hg:Gl X x)(hm:X.mg x=none)(hv:bootBuiltins x=some (.builtin id))(ha:PA X (e::es) t)(hn:x≠"__name__":=by decide)(hdb:(x==("__debug__":Str))=false:=by decide)
 (he:starEach (e::es) X.env=(false,eval e X.env)::starEach es X.env:=by rfl) (hpl:(backTo pos (starEach es X.env)).any (·.1)=false:=by rfl):PE X (.Call (.Name x p) (e::es) [] pos) (Qg r t):=by
 intro pq s σ H Q I h;refine wpAny_Call_Name_kw (nK I hg hm hv ?_ hn hdb);exact PyProof.Rows.callWith_builtin1 (fE (ha pos pq s σ H _ I h) fun us s1 ⟨vs,H1,I1,r1,q1⟩=>hc pq s1 σ H1 vs us Q I1 r1 q1) he hpl
theorem bP(hc:gn X (.type T) r)(hg:Gl X x)(hm:X.mg x=none)(hv:bootBuiltins x=some (.type T))(ha:PA X (e::es) t)(hn:x≠"__name__":=by decide)(hdb:(x==("__debug__":Str))=false:=by decide)
 (he:starEach (e::es) X.env=(false,eval e X.env)::starEach es X.env:=by rfl) (hpl:(backTo pos (starEach es X.env)).any (·.1)=false:=by rfl):PE X (.Call (.Name x p) (e::es) [] pos) (Qg r t):=by
 intro pq s σ H Q I h;refine wpAny_Call_Name_kw (nK I hg hm hv ?_ hn hdb);exact PyProof.Rows.callWith_type1 (fE (ha pos pq s σ H _ I h) fun us s1 ⟨vs,H1,I1,r1,q1⟩=>hc pq s1 σ H1 vs us Q I1 r1 q1) he hpl
end
end L2
namespace HT
open PySem PyProof.Rows
section
variable {prog:Program}{w:World}{A:Around}{E:iB}{s:Shared}
def fb(n d:Nat):Option Int->Nat
 | none=>d
 | some v=>if v<0 then(v+(n:Int)).toNat else min v.toNat n
theorem vm(n d:Nat):fb n d none=d:=rfl
theorem yd(n d k:Nat):fb n d (some (k:Int))=min k n:=by
 show(if(k:Int)<0 then((k:Int)+(n:Int)).toNat else min (k:Int).toNat n)=min k n
 rw[if_neg (by lia),Int.toNat_natCast]
theorem ES(n d:Nat)(hd:d<=n)(o:Option Int):fb n d o<=n:=by
 cases o with
 | none=>exact hd
 | some v =>
   show(if v<0 then(v+(n:Int)).toNat else min v.toNat n)<=n
   by_cases hv:v<0
   ·rw[if_pos hv];lia
   ·rw[if_neg hv];exact Nat.min_le_right _ _
theorem ye(v:Int)(n d:Nat):(if v<0 then max (v+(n:Int)) 0 else min v (n:Int))=((fb n d (some v):Nat):Int):=by
 show(if v<0 then max (v+(n:Int)) 0 else min v (n:Int))=(((if v<0 then(v+(n:Int)).toNat else min v.toNat n):Nat):Int)
 by_cases hv:v<0
 ·simp only[if_pos hv];lia
 ·simp only[if_neg hv];lia
theorem xn(lo hi:Option Int)(n:Nat):Builtin.Slice.sliceAdjust lo hi 1 (n:Int)=(((fb n 0 lo:Nat):Int),((fb n n hi:Nat):Int)):=by
 have h1 : ¬((1:Int)<0):=by lia
 unfold Builtin.Slice.sliceAdjust;simp only[h1,if_false];refine Prod.ext ?_ ?_
 ·cases lo with
  | none=>rfl
  | some v=>exact ye v n 0
 ·cases hi with
  | none=>rfl
  | some v=>exact ye v n n
theorem xo(i j:Nat):Builtin.Slice.slicePlaces (i:Int) (j:Int) 1=j-i:=by
 unfold Builtin.Slice.slicePlaces;have h1:(1:Int) > 0:=by lia
 simp only[h1,if_true,Int.ediv_one]
 split<;>lia
theorem qi{v:Value}{o:Option Int}{Q:Option Int->Shared->Prop}(p:IsPart v o)(h:Q o s):wpAny (model prog w) A (Builtin.Slice.slicePartIndex v) Q E s:=by
 cases p with
 | none=>exact slicePart_none h
 | int i t=>exact slicePart_int h
theorem je{sl:Addr}{vl vu:Value}{lo hi:Option Int}{n:Nat}{Q:Int×Int×Nat->Shared->Prop}(hs:s.heap.IsSliceOf sl vl vu .none)(pl:IsPart vl lo)(pu:IsPart vu hi)
 (h:Q (((fb n 0 lo:Nat):Int),1,fb n n hi-fb n 0 lo) s):wpAny (model prog w) A (Builtin.Slice.sliceApplied (.ref sl) (pure (n:Int))) Q E s:=by
 obtain⟨os,hos,hcs,hds⟩:=id hs;unfold Builtin.Slice.sliceApplied Builtin.Slice.sliceFields;refine wpAny_bind (wpAny_bind (wpAny_field hos hds (x:=vl) rfl (wpAny_bind (wpAny_field hos hds (x:=vu) rfl (wpAny_bind (wpAny_field hos hds (x:=.none) rfl (wpAny_pure ?_)))))));refine wpAny_bind (slicePart_none ?_);show wpAny _ _ (if((1:Int)==0)=true then _ else _) _ _ s
 rw[if_neg (by decide)]
 refine wpAny_bind (qi pl (wpAny_bind (qi pu (wpAny_bind (wpAny_pure ?_)))));show wpAny _ _ (match Builtin.Slice.sliceAdjust lo hi 1 (n:Int) with | (lo,hi)=>pure (lo,(1:Int),Builtin.Slice.slicePlaces lo hi 1)) _ _ s
 rw[xn lo hi n];show wpAny _ _ (pure (((fb n 0 lo:Nat):Int),(1:Int),Builtin.Slice.slicePlaces ((fb n 0 lo:Nat):Int) ((fb n n hi:Nat):Int) 1)) _ _ s;rw[xo];exact wpAny_pure h
theorem AG(xs:Array Value)(i k:Nat):((List.range k).filterMap fun(m:Nat)=>xs[((i:Int)+(m:Int)*1).toNat]?).toArray=((xs.toList.drop i).take k).toArray:=by
 have e:(fun(m:Nat)=>xs[((i:Int)+(m:Int)*1).toNat]?)=fun m=>xs[i+m]?:=by
  funext m
  have:((i:Int)+(m:Int)*1).toNat=i+m:=by lia
  rw[this]
 rw[e];have:=pick_run xs i k;rw[List.filterMap_map]at this;have e2:((fun x=>xs[x]?)∘fun x=>i+x)=fun m=>xs[i+m]?:=rfl
 rw[e2]at this;rw[this]
theorem mL{t sl:Addr}{items:Array Value}{vl vu:Value}{lo hi:Option Int}{Q:iB}(ht:IsTup s.heap t items)(hs:s.heap.IsSliceOf sl vl vu .none)(pl:IsPart vl lo)(pu:IsPart vu hi)
 (hw : ¬(fb items.size 0 lo=0/\fb items.size items.size hi=items.size))
 (h:Q (.ref s.heap.objs.size) { s with heap:=s.heap.push { cls:=.type "tuple",data:=.seq ((items.toList.drop (fb items.size 0 lo)).take (fb items.size items.size hi-fb items.size 0 lo)).toArray}})
 (hsz:items.size<=sizeLine):wpAny (model prog w) A (getItem (.ref t) (.ref sl)) Q E s:=by
 have yf:sizeOk (.seq ((items.toList.drop (fb items.size 0 lo)).take (fb items.size items.size hi-fb items.size 0 lo)).toArray):=by
  show((items.toList.drop (fb items.size 0 lo)).take (fb items.size items.size hi-fb items.size 0 lo)).toArray.size<=sizeLine;rw[List.size_toArray,List.length_take,List.length_drop,Array.length_toList]
  lia
 have hj:fb items.size items.size hi<=items.size:=ES _ _ (Nat.le_refl _) hi;obtain⟨os,hos,hcs,hds⟩:=id hs;have K2:s.TypeIs (.ref sl) "slice":=⟨os,hos,hcs⟩;unfold getItem
 try with_reducible refine wpAny_holding ?_
 first | refine wpAny_bind (wpAny_pure ?_) | skip
 refine wpAny_bind (wpAny_sequenceKey ht.typeIs (by decide) ?_)
 refine wpAny_bind (wpAny_callSpecial?_slot (name:=Str.ofString "__getitem__") ht.typeIs PyProof.Rows.slot_tuple_getitem
  (wpAny_call_entry PyProof.Rows.slot_tuple_getitem ht.typeIs entry_tuple_getitem ?_ (args_tuple_getitem _ _)))
 show wpAny _ _ (Builtin.Tuple.tupleItemsOf (.ref t) >>= _) _ _ s;refine wpAny_bind (tupleItemsOf_ ht ?_);refine wpAny_bind (wpAny_typeOf K2 ?_);rw[if_pos (by decide)]
 refine wpAny_bind (je hs pl pu ?_);have hno : ¬((((fb items.size 0 lo:Nat):Int)==0&&(1:Int)==1&&(fb items.size items.size hi-fb items.size 0 lo)==items.size)=true):=by
  intro q;rw[Bool.and_eq_true,Bool.and_eq_true]at q;have q1:((fb items.size 0 lo:Nat):Int)=0:=eq_of_beq q.1.1;have q2:fb items.size items.size hi-fb items.size 0 lo=items.size:=eq_of_beq q.2;exact hw ⟨by lia,by lia⟩
 show wpAny _ _ (if(((fb items.size 0 lo:Nat):Int)==0&&(1:Int)==1&&(fb items.size items.size hi-fb items.size 0 lo)==items.size)=true then _ else _) _ _ s
 rw[if_neg hno,AG]
 first
  | exact wpAny_bind (m:=Builtin.Tuple.tupleExact _) (wpAny_newObj_type (wpAny_pure ⟨_,rfl,wpAny_pure h⟩) yf)
  | exact wpAny_bind (m:=Builtin.Tuple.tupleExact _) (wpAny_newObj_type (wpAny_bind (wpAny_pure (wpAny_pure ⟨_,rfl,wpAny_pure h⟩))) yf)
  | exact wpAny_bind (wpAny_bind (m:=Builtin.Tuple.tupleExact _) (wpAny_newObj_type (wpAny_pure (wpAny_pure ⟨_,rfl,wpAny_pure h⟩)) yf))
  | exact wpAny_bind (wpAny_bind (m:=Builtin.Tuple.tupleExact _) (wpAny_newObj_type (wpAny_pure ⟨_,rfl,wpAny_pure h⟩) yf))
end
end HT
namespace L2
open PySem PySem.Spec PyProof.Rows
abbrev TO:=St->Hp->(Option Int->Hp->Prop)->Prop
def PO(X:Cx)(e:Option Expr)(t:TO):Prop :=
 ∀(pq:bq) (s:Shared) (σ:St) (H:Hp) (Q:Option Int->Hp->Prop),Inv X pq σ H s->t σ H Q->
  wpAny (model X.prog X.w) X.A (evalPart e X.env) (fun u s'=>∃ o H',Inv X pq σ H' s'/\IsPart u o/\Q o H') X.xe s
def CM:TO:=fun _ H Q=>Q none H
def G5(t:TE):TO:=fun σ H Q=>t σ H fun x H1=>∃ i,x = .int i/\Q (some i) H1
section
variable {X:Cx}{e:Expr}{te:TE}{lo hi:Option Expr}{tl th:TO}{pos p2:Pos}
theorem pQ:PO X none CM:=by
 intro pq s σ H Q I h;rw[evalPart_none];exact wpAny_pure ⟨none,H,I,.none,h⟩
theorem pR(h:PE X e te):PO X (some e) (G5 te):=by
 intro pq s σ H Q I hw;rw[evalPart_some];refine fE (h pq s σ H _ I hw) fun u s1 ⟨x,H1,I1,r1,q1⟩=>?_
 obtain⟨i,rfl,q⟩:=q1;obtain⟨t,rfl⟩:=r1;exact⟨some i,H1,I1,.int i t,q⟩
def JB(X:Cx)(r:V->Option Int->Option Int->Hp->VK->Prop):Prop :=
 ∀(pq:bq) (s:Shared) (σ:St) (H:Hp) (x:V) (v vl vu:Value) (lo hi:Option Int) (sl:Addr) (Q:VK),Inv X pq σ H s->RelV x v->s.heap.IsSliceOf sl vl vu .none->IsPart vl lo->IsPart vu hi->r x lo hi H Q->
  ∃ T id,typeLookup (.type T) "__getitem__"=pure (some (.builtin id))/\s.TypeIs v T/\wpAny (model X.prog X.w) X.A (getItem v (.ref sl)) (EP X pq σ Q) X.xe s
def R1(r:V->Option Int->Option Int->Hp->VK->Prop)(te:TE)(tl th:TO):TE:=fun σ H Q=>te σ H fun x H1=>tl σ H1 fun l H2=>th σ H2 fun u H3=>r x l u H3 Q
theorem mO{r:V->Option Int->Option Int->Hp->VK->Prop}(hr:JB X r)(he:PE X e te)(hl:PO X lo tl)(hu:PO X hi th):PE X (.Subscript e (.Slice lo hi none p2) pos) (R1 r te tl th):=by
 intro pq s σ H Q I h;refine Subscript_ (fE (he pq s σ H _ I h) fun v s1 ⟨x,H1,I1,r1,q1⟩=>?_)
 refine wpAny_Slice (fE (hl pq s1 σ H1 _ I1 q1) fun vl s2 ⟨l,H2,I2,pl,q2⟩=>fE (hu pq s2 σ H2 _ I2 q2) fun vu s3 ⟨u,H3,I3,pu,q3⟩=>?_)
 rw[evalPart_none];refine wpAny_pure ?_;have I4:Inv X pq σ H3 { s3 with heap:=s3.heap.push { cls:=.type "slice",data:=.fields #[vl,vu,.none]}}:=I3.kept (t':=s3.toks) fun b ob q=>Heap.get?_push_of_some _ q
 obtain⟨T,id,hT,ht,hg⟩:=hr pq { s3 with heap:=s3.heap.push { cls:=.type "slice",data:=.fields #[vl,vu,.none]}} σ H3 x v vl vu l u s3.heap.objs.size Q I4 r1 (Heap.IsSliceOf.new ..) pl pu q3
 show wpAny (model X.prog X.w) X.A (subscriptTail e (.Slice lo hi none p2) v (.ref s3.heap.objs.size)) (EP X pq σ Q) X.xe { s3 with heap:=s3.heap.push { cls:=.type "slice",data:=.fields #[vl,vu,.none]}}
 exact tail_any (ops:=[.ref s3.heap.objs.size,v]) ht hT hg (by with_unfolding_all rfl)
def pC(xs:List V)(lo hi:Option Int):List V:=(xs.drop (HT.fb xs.length 0 lo)).take (HT.fb xs.length xs.length hi-HT.fb xs.length 0 lo)
theorem oE(xs:List V)(lo hi:Option Int):(pC xs lo hi).length<=xs.length:=by
 unfold pC;rw[List.length_take,List.length_drop]
 lia
end
def CN(n:Nat)(i:Int):Option Nat:=if 0<=i then(if i<n then some i.toNat else none) else if -(n:Int)<=i then some (i+n).toNat else none
def Ao{α:Type}(xs:List α)(i:Int):Option α:=(CN xs.length i).bind fun j=>xs[j]?
theorem yg{n:Nat}{i:Int}{j:Nat}(h:CN n i=some j):seqIndex? i n=some j/\j<n/\-(n:Int)<=i/\i<n:=by
 unfold CN at h
 by_cases h0:0<=i
 ·rw[if_pos h0]at h
  by_cases h1:i<n
  ·rw[if_pos h1]at h;have e:i.toNat=j:=Option.some.inj h;exact⟨by rw[seqIndex_of h0 h1,e],by lia,by lia,h1⟩
  ·rw[if_neg h1]at h;cases h
 ·rw[if_neg h0]at h
  by_cases h1 : -(n:Int)<=i
  ·rw[if_pos h1]at h;have e:(i+n).toNat=j:=Option.some.inj h;exact⟨by rw[seqIndex_neg (by lia) h1,e],by lia,h1,by lia⟩
  ·rw[if_neg h1]at h;cases h
theorem yh{α:Type}{xs:List α}{i:Int}{v:α}(h:Ao xs i=some v):∃ j,seqIndex? i xs.length=some j/\xs[j]?=some v/\j<xs.length/\-(xs.length:Int)<=i/\i<xs.length:=by
 unfold Ao at h;cases e:CN xs.length i with
 | none=>rw[e]at h;cases h
 | some j =>
   rw[e]at h;obtain⟨h1,h2,h3,h4⟩:=yg e;exact⟨j,h1,h,h2,h3,h4⟩
theorem au{α:Type}{xs:List α}{j:Nat}{v:α}(h:xs[j]?=some v):Ao xs (j:Int)=some v:=by
 have hj:j<xs.length:=(Cq.mp h).1;have e:CN xs.length (j:Int)=some j:=by
  unfold CN;rw[if_pos (by lia),if_pos (by lia)];simp
 unfold Ao;rw[e];exact h
def CO(b:Expr):Prop:=∀ o i,subscripted b false o i=operate [o,i] (getItem o i)
def G6(X:Cx)(r:R2):Prop :=
 ∀(value slice:Expr) (pq:bq) (s:Shared) (σ:St) (H:Hp) (x y:V) (v u:Value) (Q:VK),Inv X pq σ H s->RelV x v->RelV y u->r x y H Q->
  subscripted slice false v u=operate [v,u] (getItem v u)->wpAny (model X.prog X.w) X.A (subscriptTail value slice v u) (EP X pq σ Q) X.xe s
def K3(X:Cx)(id:String)(r:V->List V->Hp->VK->Prop):Prop :=
 ∀(pq:bq) (s:Shared) (σ:St) (H:Hp) (x:V) (xs:List V) (v:Value) (us:List Value) (Q:VK),Inv X pq σ H s->RelV x v->Vals xs us->r x xs H Q->
  wpAny (model X.prog X.w) X.A (call (.builtin id) (v::us)) (EP X pq σ Q) X.xe s
section
variable {X:Cx}{a b:Expr}{ta tb:TE}{pos:Pos}
theorem aI{r:R2}(hr:G6 X r)(ha:PE X a ta)(hb:PE X b tb)(hs:CO b):PE X (.Subscript a b pos) (JA r ta tb):=by
 intro pq s σ H Q I h;exact Subscript_ (EI ha hb I h fun v u s2 x y H2 I2 rx ry q=>hr a b pq s2 σ H2 x y v u Q I2 rx ry q (hs _ _))
def G7(K:bF):R2:=fun x y H Q=>∃ p xs i v,x = .ref p/\y = .int i/\bg K H p xs/\Ao xs i=some v/\Q v H
def G8(K:bF):R2:=fun x y H Q=>∃ p xs i v,x = .ref p/\y = .int i/\cE K H p xs/\Ao xs i=some v/\Q v H
theorem CP:G6 X (G7 X.K):=by
 intro value slice pq s σ H x y v u Q I rx ry h hs;obtain⟨p,xs,i,z,rfl,rfl,hq,he,q⟩:=h;cases rx;obtain⟨t,rfl⟩:=ry;obtain⟨its,r,pl,hz⟩:=I.list hq;obtain⟨j,h1,h2,h3,h4,h5⟩:=yh he;obtain⟨w,ew,rw'⟩:=r.get h2;have hl:=r.length;have hn:=uf;have fin:EP X pq σ Q w s:=⟨z,H,I,rw',q⟩
 by_cases h0:0<=i
 ·have hj:i.toNat=j:=by
   rw[seqIndex_of h0 h5]at h1;exact Option.some.inj h1
  exact item_listR pl.isList h0 (by lia) (by rw[hj];simpa using ew) fin hs
 ·have hj:(i+(its.toArray.size:Int)).toNat=j:=by
   rw[seqIndex_neg (by lia) h4]at h1
   rw[List.size_toArray,<-hl];exact Option.some.inj h1
  exact subscriptTail_builtinR (x:=w) pl.isList.typeIs slot_list_getitem.lookup
   (wpAny_getItem_list_neg (Q:=fun r s'=>r=w/\EP X pq σ Q r s') pl.isList (by lia) (by rw[List.size_toArray]<;>lia) (by lia) (by rw[hj];simpa using ew) ⟨rfl,fin⟩) hs
theorem ET:G6 X (G8 X.K):=by
 intro value slice pq s σ H x y v u Q I rx ry h hs;obtain⟨p,xs,i,z,rfl,rfl,hq,he,q⟩:=h;cases rx;obtain⟨t,rfl⟩:=ry;obtain⟨its,r,pl,hz⟩:=I.tuple hq;obtain⟨j,h1,h2,h3,h4,h5⟩:=yh he;obtain⟨w,ew,rw'⟩:=r.get h2;have hl:=r.length;have hn:=uf;have fin:EP X pq σ Q w s:=⟨z,H,I,rw',q⟩;exact subscriptTail_builtinR (x:=w) pl.typeIs slot_tuple_getitem.lookup
  (getItem_tuple (j:=j) (Q:=fun r s'=>r=w/\EP X pq σ Q r s') pl (by lia) (by lia) (by rw[List.size_toArray,<-hl];exact h1) (by simpa using ew) ⟨rfl,fin⟩) hs
theorem xq(its:List Value)(n j:Nat)(u:Value):Obj.mapSeq (·.setIfInBounds j u) { cls:=.type "list",data:=.seq its.toArray n}={ cls:=.type "list",data:=.seq (its.set j u).toArray n}:=by
 simp[Obj.mapSeq]
theorem Inv.lst{pq:bq}{σ:St}{H:Hp}{s:Shared}{p:Addr}{xs:List V}(I:Inv X pq σ H s)(h:H p=some (.lst xs)):
 ∃(its:List Value) (n:Nat),Vals xs its/\s.heap.get? p=some { cls:=.type "list",data:=.seq its.toArray n}/\xs.length<=sizeLine:=by
 obtain⟨z,its,n,r,e⟩:=I.hok p _ h;exact⟨its,n,r,e,z⟩
theorem Inv.EU{pq:bq}{σ:St}{H:Hp}{s:Shared}{p:Addr}{xs ys:List V}{its its' : List Value}{n n' : Nat}{f:Obj->Obj}(I:Inv X pq σ H s)(h:H p=some (.lst xs))
 (ho:s.heap.get? p=some { cls:=.type "list",data:=.seq its.toArray n}) (hf:f { cls:=.type "list",data:=.seq its.toArray n}={ cls:=.type "list",data:=.seq its'.toArray n'}) (r:Vals ys its') (hz:ys.length<=sizeLine) (t:Nat) :
 Inv X pq σ (upd H p (.lst ys)) { s with heap:=s.heap.update p f,toks:=t}:=by
 have e:(s.heap.update p f).get? p=some { cls:=.type "list",data:=.seq its'.toArray n'}:=by
  rw[Heap.get?_update_self f ho (by rw[hf]<;>rfl),hf]
 refine I.write (x:=p) (e:=p) (by rw[h];trivial) (.inl rfl) (fun b u hb q=>(Heap.get?_update_other _ _ (Ne.symm hb)).trans q) ⟨_,e⟩ ?_
 exact⟨hz,its',n',r,e⟩
def G9:V->V->V->Hp->(Hp->Prop)->Prop:=fun o i v H Q=>∃ p xs k j,o = .ref p/\i = .int k/\H p=some (.lst xs)/\CN xs.length k=some j/\Q (upd H p (.lst (xs.set j v)))
theorem set_list:GK X G9:=by
 intro pq s σ H o i v ov iv u Q I ro ri rv h;obtain⟨p,xs,k,j,rfl,rfl,hp,hj,q⟩:=h;cases ro;obtain⟨t,rfl⟩:=ri;obtain⟨its,n,r,ho,hz⟩:=I.lst hp;obtain⟨h1,h2,h3,h4⟩:=yg hj;have hl:=r.length;have hn:=uf;have I' : Inv X pq σ (upd H p (.lst (xs.set j v))) { s with heap:=s.heap.update p (Obj.mapSeq (·.setIfInBounds j u))} :=
  I.EU hp ho (xq its n j u) (r.set rv j) (by rw[List.length_set];exact hz) s.toks
 by_cases h0:0<=k
 ·have hk:k.toNat=j:=by
   rw[seqIndex_of h0 h4]at h1;exact Option.some.inj h1
  exact PySem.W.ki_setAt ho h0 (by lia) (by rw[List.size_toArray,<-hl];exact h4) (by rw[hk];exact⟨_,I',q⟩)
 ·have hk:(k+(its.toArray.size:Int)).toNat=j:=by
   rw[seqIndex_neg (by lia) h3]at h1
   rw[List.size_toArray,<-hl];exact Option.some.inj h1
  exact PySem.W.ki_setBack ho (by lia) (by rw[List.size_toArray,<-hl];exact h3) (by lia) (by rw[hk];exact⟨_,I',q⟩)
theorem ug(lo hi:Option Int)(n:Nat):(sliceBounds lo hi none n).1=((HT.fb n 0 lo:Nat):Int)/\(sliceBounds lo hi none n).2.1=((HT.fb n n hi:Nat):Int)/\(sliceBounds lo hi none n).2.2=1:=by
 refine⟨?_,?_,rfl⟩
 ·cases lo with
  | none=>simp[sliceBounds,HT.fb]
  | some i =>
    simp only[sliceBounds,HT.fb,Option.getD_none,show(1:Int) > 0 by decide,if_true]
    by_cases h:i<0
    ·simp only[h,if_true]<;>lia
    ·simp only[h,if_false]<;>lia
 ·cases hi with
  | none=>simp[sliceBounds,HT.fb]
  | some i =>
    simp only[sliceBounds,HT.fb,Option.getD_none,show(1:Int) > 0 by decide,if_true]
    by_cases h:i<0
    ·simp only[h,if_true]<;>lia
    ·simp only[h,if_false]<;>lia
theorem rP(its:List Value)(lo hi:Option Int):slicePick its.toArray lo hi none=((its.drop (HT.fb its.length 0 lo)).take (HT.fb its.length its.length hi-HT.fb its.length 0 lo)).toArray:=by
 obtain⟨h1,h2,h3⟩:=ug lo hi its.toArray.size;unfold slicePick;rw[h1,h2,h3];simp only[sliceRange_one,pick_run,List.size_toArray]<;>rfl
def Hf(K:bF):V->Option Int->Option Int->Hp->VK->Prop:=fun x lo hi H Q=>∃ a xs,x = .ref a/\bg K H a xs/\∀ p,H p=none->Q (.ref p) (upd H p (.lst (pC xs lo hi)))
theorem CQ:JB X (Hf X.K):=by
 intro pq s σ H x v vl vu lo hi sl Q I rx hs pl pu h;obtain⟨a,xs,rfl,hx,q⟩:=h;cases rx;obtain⟨its,r,ht,hz⟩:=I.list hx;have hlen:=r.length;refine⟨"list",_,slot_list_getitem.lookup,ht.isList.typeIs,?_⟩;refine wpAny_getItem_list_slice ht.isList hs pl pu .none (by simp) ?_ (by rw[List.size_toArray]<;>lia)
 rw[rP,<-hlen];refine⟨.ref s.heap.objs.size,_,I.laid (t':=s.toks) (o:=.lst (pC xs lo hi)) (fun b ob q=>Heap.get?_push_of_some _ q) (Nat.le_refl _) ?_,rfl,q _ (I.hok.fresh (Nat.le_refl _))⟩
 exact⟨Nat.le_trans (oE xs lo hi) hz,_,0,(r.drop (HT.fb xs.length 0 lo)).take (HT.fb xs.length xs.length hi-HT.fb xs.length 0 lo),Heap.get?_push_size _ rfl⟩
def mP:V->Bool
 | .fH=>true
 | .bl _=>true
 | .int _=>true
 | .str _=>true
 | _=>false
def CS:V->V->Bool
 | .fH,.fH=>true
 | .bl a,.bl b=>a==b
 | .bl a,.int b=>(if a then 1 else 0)==b
 | .int a,.bl b=>a==(if b then 1 else 0)
 | .int a,.int b=>a==b
 | .str a,.str b=>a==b
 | _,_=>false
theorem EV{A:Around}{s:Shared}{y x:V}{u v:Value}(ry:RelV y u)(rx:RelV x v)(fy:mP y=true)(fx:mP x=true):SeqAt.EqAt A s u v (CS y x):=by
 cases y with
 | fH =>
   cases ry;cases x with
   | fH=>cases rx;exact SeqAt.EqAt.same _
   | bl b=>cases rx;exact SeqAt.EqAt.none_bool b
   | int b=>obtain⟨t,rfl⟩:=rx;exact SeqAt.EqAt.none_int b t
   | str b=>obtain⟨t,rfl⟩:=rx;exact SeqAt.EqAt.none_str b t
   | _=>exact absurd (show false=true from fx) Bool.false_ne_true
 | bl a =>
   cases ry;cases x with
   | fH=>cases rx;exact SeqAt.EqAt.bool_none a
   | bl b=>cases rx;exact SeqAt.EqAt.bool_bool a b
   | int b=>obtain⟨t,rfl⟩:=rx;exact SeqAt.EqAt.bool_int a b t
   | str b=>obtain⟨t,rfl⟩:=rx;exact SeqAt.EqAt.bool_str a b t
   | _=>exact absurd (show false=true from fx) Bool.false_ne_true
 | int a =>
   obtain⟨t',rfl⟩:=ry;cases x with
   | fH=>cases rx;exact SeqAt.EqAt.int_none a t'
   | bl b=>cases rx;exact SeqAt.EqAt.int_bool a t' b
   | int b=>obtain⟨t,rfl⟩:=rx;exact SeqAt.EqAt.int_int a t' b t
   | str b=>obtain⟨t,rfl⟩:=rx;exact SeqAt.EqAt.int_str a t' b t
   | _=>exact absurd (show false=true from fx) Bool.false_ne_true
 | str a =>
   obtain⟨t',rfl⟩:=ry;cases x with
   | fH=>cases rx;exact SeqAt.EqAt.str_none a t'
   | bl b=>cases rx;exact SeqAt.EqAt.str_bool a t' b
   | int b=>obtain⟨t,rfl⟩:=rx;exact SeqAt.EqAt.str_int a t' b t
   | str b=>obtain⟨t,rfl⟩:=rx;exact SeqAt.EqAt.str_str a t' b t
   | _=>exact absurd (show false=true from fx) Bool.false_ne_true
 | _=>exact absurd (show false=true from fy) Bool.false_ne_true
def xr(x:V)(u:Value):Bool:=match u with
 | .none=>CS .fH x
 | .bool b=>CS (.bl b) x
 | .int i _=>CS (.int i) x
 | .str z _=>CS (.str z) x
 | _=>false
theorem AH{x y:V}{u:Value}(r:RelV y u)(f:mP y=true):xr x u=CS y x:=by
 cases y with
 | fH=>cases r;rfl
 | bl b=>cases r;rfl
 | int i=>obtain⟨t,rfl⟩:=r;rfl
 | str z=>obtain⟨t,rfl⟩:=r;rfl
 | _=>exact absurd (show false=true from f) Bool.false_ne_true
theorem mQ{x:V}:∀{xs:List V} {us:List Value},Vals xs us->xs.all mP=true->us.any (xr x)=xs.any fun y=>CS y x
 | _,_,.nil,_=>rfl
 | y::xs,u::us,.cons r t,f=>by
   rw[List.all_cons,Bool.and_eq_true]at f;rw[List.any_cons,List.any_cons,AH r f.1,mQ t f.2]
theorem kg{A:Around}{s:Shared}{x:V}{v:Value}(rx:RelV x v)(fx:mP x=true):∀{xs:List V} {us:List Value},Vals xs us->xs.all mP=true->∀ u∈us,SeqAt.EqAt A s u v (xr x u)
 | _,_,.nil,_=>fun u hu=>by cases hu
 | y::xs,u::us,.cons r t,f=>fun u' hu=>by
   rw[List.all_cons,Bool.and_eq_true]at f;rcases List.mem_cons.mp hu with rfl|hu
   ·rw[AH r f.1];exact EV r rx f.1 fx
   ·exact kg rx fx t f.2 u' hu
def EW(x:V)(xs:List V):Bool:=xs.any fun y=>CS y x
def JC(K:bF)(neg:Bool):R2:=fun x y H Q=>∃ p xs,y = .ref p/\(bg K H p xs\/cE K H p xs)/\mP x=true/\xs.all mP=true/\Q (.bl (if neg then !EW x xs else EW x xs)) H
theorem zB:lB X (compareOp .In) (JC X.K false):=by
 intro pq s σ H x y v u Q I rx ry h;obtain⟨p,xs,rfl,hq,fx,fs,q⟩:=h;cases ry;rcases hq with hq|hq
 ·obtain⟨its,r,pl,hz⟩:=I.list hq;refine SeqAt.in_listAt (xr x) pl.isList (fun w hw=>kg rx fx r fs w (by simpa using hw)) ⟨.bl _,H,I,rfl,?_⟩
  rw[show its.toArray.any (xr x)=its.any (xr x) by simp,mQ r fs]
  exact q
 ·obtain⟨its,r,pl,hz⟩:=I.tuple hq;refine SeqAt.in_tupleAt (xr x) pl (fun w hw=>kg rx fx r fs w (by simpa using hw)) ⟨.bl _,H,I,rfl,?_⟩
  rw[show its.toArray.any (xr x)=its.any (xr x) by simp,mQ r fs]
  exact q
theorem uh:lB X (compareOp .NotIn) (JC X.K true):=by
 intro pq s σ H x y v u Q I rx ry h;obtain⟨p,xs,rfl,hq,fx,fs,q⟩:=h;cases ry;rcases hq with hq|hq
 ·obtain⟨its,r,pl,hz⟩:=I.list hq;refine SeqAt.notIn_listAt (xr x) pl.isList (fun w hw=>kg rx fx r fs w (by simpa using hw)) ⟨.bl _,H,I,rfl,?_⟩
  rw[show its.toArray.any (xr x)=its.any (xr x) by simp,mQ r fs]
  exact q
 ·obtain⟨its,r,pl,hz⟩:=I.tuple hq;refine SeqAt.notIn_tupleAt (xr x) pl (fun w hw=>kg rx fx r fs w (by simpa using hw)) ⟨.bl _,H,I,rfl,?_⟩
  rw[show its.toArray.any (xr x)=its.any (xr x) by simp,mQ r fs]
  exact q
theorem um:gn X (.builtin "len") (fun xs H Q=>∃ p ys,xs=[.ref p]/\(bg X.K H p ys\/cE X.K H p ys)/\Q (.int ys.length) H):=by
 intro pq s σ H xs us Q I r h;obtain⟨p,ys,rfl,hq,q⟩:=h;obtain⟨u,rfl,rx⟩:=vals1 r;cases rx;have hn:=uf;rcases hq with hq|hq
 ·obtain⟨its,r',pl,hz⟩:=I.list hq;have hlen:=r'.length;exact Calls.call_len_list pl.isList (by simp only[List.size_toArray]<;>lia) ⟨.int ys.length,H,I.tok _,⟨s.toks+1,by rw[List.size_toArray,hlen]⟩,q⟩
 ·obtain⟨its,r',pl,hz⟩:=I.tuple hq;have hlen:=r'.length;exact len_tuple pl (by simp only[List.size_toArray]<;>lia) ⟨.int ys.length,H,I.tok _,⟨s.toks+1,by rw[List.size_toArray,hlen]⟩,q⟩
theorem uo:gn X (.type "list") (fun xs H Q=>∃ p ys,xs=[.ref p]/\(bg X.K H p ys\/cE X.K H p ys)/\∀ l,H l=none->Q (.ref l) (upd H l (.lst ys))):=by
 intro pq s σ H xs us Q I r h;obtain⟨p,ys,rfl,hq,q⟩:=h;obtain⟨u,rfl,rx⟩:=vals1 r;cases rx;have fin:∀(its:List Value),Vals ys its->ys.length<=sizeLine->∀(h' : Heap) (c' : Nat),(∀ b o',s.heap.get? b=some o'->h'.get? b=some o')->
  h'.get? s.heap.objs.size=some { cls:=.type "list",dict:=none,data:=.seq its.toArray c',slots:=#[]}->EP X pq σ Q (.ref s.heap.objs.size) { s with heap:=h'}:=fun its r' hz h' c' kp e =>
  ⟨.ref s.heap.objs.size,_,I.laid (t':=s.toks) kp (Nat.le_refl _) (show cC X.prog X.w _ h' _ (.lst ys) from⟨hz,its,c',r',e⟩),rfl,q _ (I.hok.fresh (Nat.le_refl _))⟩
 rcases hq with hq|hq
 ·obtain⟨its,r',pl,hz⟩:=I.list hq;have hlen:=r'.length;obtain⟨o,ho,hc,n,hd⟩:=pl.isList;exact call_list_seq p (.inl rfl) ho hc hd (fun h' c' kp e=>fin its r' hz h' c' kp e) (by simp only[List.size_toArray]<;>lia)
 ·obtain⟨its,r',pl,hz⟩:=I.tuple hq;have hlen:=r'.length;obtain⟨o,ho,hc,n,hd⟩:=pl;exact call_list_seq p (.inr rfl) ho hc hd (fun h' c' kp e=>fin its r' hz h' c' kp e) (by simp only[List.size_toArray]<;>lia)
theorem rQ:gn X (.type "tuple") (fun xs H Q=>∃ p ys,xs=[.ref p]/\((bg X.K H p ys/\∀ l,H l=none->Q (.ref l) (upd H l (.tup ys)))\/(cE X.K H p ys/\Q (.ref p) H))):=by
 intro pq s σ H xs us Q I r h;obtain⟨p,ys,rfl,h⟩:=h;obtain⟨u,rfl,rx⟩:=vals1 r;cases rx;rcases h with⟨hq,q⟩|⟨hq,q⟩
 ·obtain⟨its,r',pl,hz⟩:=I.list hq;have hlen:=r'.length;refine call_tuple_list pl.isList (fun h' kp=>?_) (by simp only[List.size_toArray]<;>lia)
  have I1:Inv X pq σ H { s with heap:=h'}:=I.kept (t':=s.toks) kp
  have I2:Inv X pq σ (upd H h'.objs.size (.tup ys)) { s with heap:=h'.push { cls:=.type "tuple",data:=.seq its.toArray}} :=
   I1.laid (t':=s.toks) (fun b o e=>Heap.get?_push_of_some _ e) (Nat.le_refl _) (show cC X.prog X.w _ _ _ (.tup ys) from⟨hz,its,r',IsTup.new _ _⟩)
  exact⟨.ref h'.objs.size,_,I2,rfl,q _ (I1.hok.fresh (Nat.le_refl _))⟩
 ·obtain⟨its,r',pl,hz⟩:=I.tuple hq;exact call_tuple_same pl ⟨.ref p,H,I,rfl,q⟩
def K4(K:bF)(T:String)(x:V)(H:Hp):Prop:=match x with
 | .str _=>T="str"
 | .int _=>T="int"
 | .ref p=>(T="list"/\∃ xs,bg K H p xs)\/(T="tuple"/\∃ o,K.lookup p=some o/\o.cls = .type "tuple"/\o.dict=none)\/
  (T="dict"/\((∃ kvs,H p=some (.dK kvs))\/∃ kvs,H p=some (.dT kvs)))\/(T="set"/\∃ S n,H p=some (.set S n))
 | _=>False
theorem AI{pq:bq}{σ:St}{H:Hp}{s:Shared}{T:String}{x:V}{v:Value}(I:Inv X pq σ H s)(r:RelV x v)(ty:K4 X.K T x H):
 s.TypeIs v T/\∀ a,v = .ref a->∃ ob,s.heap.get? a=some ob/\ob.dict=none:=by
 cases x with
 | str z =>
   obtain⟨t,rfl⟩:=r;cases(show T="str" from ty)
   exact⟨typeIs_str s z t,fun _ e=>nomatch e⟩
 | int i =>
   obtain⟨t,rfl⟩:=r;cases(show T="int" from ty)
   exact⟨typeIs_int s i t,fun _ e=>nomatch e⟩
 | ref p =>
   cases r;rcases ty with⟨rfl,xs,hq⟩|⟨rfl,o,hk,hc,hd⟩|⟨rfl,hk⟩|⟨rfl,S,n,hk⟩
   ·obtain⟨its,_,pl,_⟩:=I.list hq;refine⟨pl.isList.typeIs,fun a e=>?_⟩
    cases e;obtain⟨o,n,e,c,hd,_⟩:=pl;exact⟨o,e,hd⟩
   ·refine⟨⟨o,I.t8 p o hk,hc⟩,fun a e=>?_⟩
    cases e;exact⟨o,I.t8 _ o hk,hd⟩
   ·have z:∃ o,s.heap.get? p=some o/\o.ExactDict:=by
     rcases hk with⟨kvs,hk⟩|⟨kvs,hk⟩
     ·obtain⟨_,_,_,_,o,_,_,e,ex,_⟩:=I.hok p _ hk;exact⟨o,e,ex⟩
     ·obtain⟨_,_,_,_,o,_,_,e,ex,_⟩:=I.hok p _ hk;exact⟨o,e,ex⟩
    obtain⟨o,e,ex⟩:=z;refine⟨⟨o,e,ex.1⟩,fun a e2=>?_⟩
    cases e2;exact⟨o,e,ex.2.1⟩
   ·obtain⟨o,_,_,_,e,ex,_⟩:=I.hok p _ hk;refine⟨⟨o,e,ex.1⟩,fun a e2=>?_⟩
    cases e2;exact⟨o,e,ex.2.1⟩
 | _=>exact False.elim ty
def K5(K:bF)(T:String)(r:V->List V->Hp->VK->Prop)(to:TE):TE:=fun σ H Q=>to σ H fun x H1=>K4 K T x H1/\r x [] H1 Q
def K6(K:bF)(T:String)(r:V->List V->Hp->VK->Prop)(to:TE)(t:TA):TE:=fun σ H Q=>to σ H fun x H1=>K4 K T x H1/\t σ H1 fun xs H2=>r x xs H2 Q
variable {o e:Expr}{es:List Expr}{to:TE}{t:TA}{name:Str}{apos cpos:Pos}{T id:String}{r:V->List V->Hp->VK->Prop}
theorem AJ(pa:PlainAttrs T)(slot:Slot T name id)(hty:typeOf (.builtin id)=pure (.type "method_descriptor"))(hm:K3 X id r)(ho:PE X o to)
 (hbase:attributeBase o name X.env (eval o X.env)=eval o X.env:=by rfl) (hline:(apos.endLine==cpos.line)=true:=by rfl):PE X (.Call (.Attribute o name apos) [] [] cpos) (K5 X.K T r to):=by
 intro pq s σ H Q I h;refine wpAny_Call_method0_late hbase hline (fE (ho pq s σ H _ I h) fun v s1 ⟨x,H1,I1,r1,ty,q1⟩=>?_)
 obtain⟨h1,h2⟩:=AI I1 r1 ty;exact⟨T,id,pa,slot,hty,h1,h2,Calls.callWith_builtin rfl (PySem.evalArgs_none (hm pq s1 σ H1 x [] v [] Q I1 r1 .nil q1))⟩
theorem kh(pa:PlainAttrs T)(slot:Slot T name id)(hty:typeOf (.builtin id)=pure (.type "method_descriptor"))(hm:K3 X id r)(ho:PE X o to)(ha:PA X (e::es) t)
 (hbase:attributeBase o name X.env (eval o X.env)=eval o X.env:=by rfl)
 (hfew:((backTo cpos (starEach (e::es) X.env)).all (fun x=>!x.1)&&(backToKw cpos (keywordEach [] X.env)).all (fun x=>x.1.isSome)
  && decide ((e::es).length+([]:List Keyword).length+(if([]:List Keyword).isEmpty then 0 else 1)<30))=true:=by rfl)
 (hline:(apos.endLine==cpos.line)=true:=by rfl) (hs:starEach (e::es) X.env=(false,eval e X.env)::starEach es X.env:=by rfl) (hplain:(backTo cpos (starEach es X.env)).any (·.1)=false:=by rfl) :
 PE X (.Call (.Attribute o name apos) (e::es) [] cpos) (K6 X.K T r to t):=by
 intro pq s σ H Q I h;refine wpAny_Call_method_late hbase hfew hline rfl (fE (ho pq s σ H _ I h) fun v s1 ⟨x,H1,I1,r1,ty,q1⟩=>?_)
 obtain⟨h1,h2⟩:=AI I1 r1 ty;refine⟨T,id,pa,slot,hty,h1,h2,?_⟩;have hA:=ha cpos pq s1 σ H1 _ I1 q1;rw[hs]at hA ⊢;refine Calls.callWith_builtin (by show(false || (backTo cpos (starEach es X.env)).any (·.1))=false;rw[hplain]<;>rfl) (Calls.evalArgs_plain ?_)
 exact fE hA fun us s2 ⟨vs,H2,I2,r2,q2⟩=>hm pq s2 σ H2 x vs v us Q I2 r1 r2 q2
end
def Qh(X:Cx)(id:String)(r:V->List V->Hp->VK->Prop):Prop :=
 ∀(pq:bq) (s:Shared) (σ:St) (H:Hp) (x:V) (xs:List V) (v:Value) (us:List Value) (Q:VK),Inv X pq σ H s->RelV x v->Vals xs us->r x xs H Q->
  wpAny (model X.prog X.w) X.A (call (.builtin id) (v::us)) (EP X pq σ Q) X.xe s
theorem Vals.one:∀{x:V} {us:List Value},Vals [x] us->∃ u,us=[u]/\RelV x u
 | _,_,.cons r .nil=>⟨_,rfl,r⟩
section
variable {X:Cx}{pq:bq}{σ:St}{H:Hp}{s:Shared}{l b:Addr}{xs ys zs:List V}
theorem Inv.Hg{its its' : List Value}{n:Nat}{f:Array Value->Array Value}{t' : Nat}(I:Inv X pq σ H s)(hH:H l=some (.lst xs))
 (e:s.heap.get? l=some { cls:=.type "list",data:=.seq its.toArray n}) (hf:f its.toArray=its'.toArray) (hv:Vals ys its') (hz:ys.length<=sizeLine) :
 Inv X pq σ (upd H l (.lst ys)) { s with heap:=s.heap.update l (Obj.mapSeq f),toks:=t'}:=by
 have q:=PySem.IsL.update e f;rw[hf]at q;refine I.write (x:=l) (e:=l) (by rw[hH];exact trivial) (.inl rfl) (fun b' u hb hu=>(Heap.get?_update_other s.heap (Obj.mapSeq f) (Ne.symm hb)).trans hu) ⟨_,q⟩ ?_
 exact⟨hz,its',_,hv,q⟩
theorem Inv.fresh(I:Inv X pq σ H s):H s.heap.objs.size=none:=I.hok.fresh (Nat.le_refl _)
theorem Inv.EX(I:Inv X pq σ H s)(hH:H l=some (.lst xs)):xs.length<=sizeLine/\∃(its:List Value) (n:Nat),Vals xs its/\xs.length=its.length/\s.heap.get? l=some { cls:=.type "list",data:=.seq its.toArray n}:=by
 obtain⟨z,its,n,r,e⟩:=I.hok l _ hH;exact⟨z,its,n,r,r.length,e⟩
theorem AK{n:Nat}(h:n<=sizeLine):Builtin.List.listTooLong n=false:=by
 unfold Builtin.List.listTooLong;exact j9 (by lia)
end
section
variable {X:Cx}
def CT:V->List V->Hp->VK->Prop:=fun x vs H Q=>∃ l xs y,x = .ref l/\vs=[y]/\H l=some (.lst xs)/\xs.length<sizeLine/\Q .fH (upd H l (.lst (xs++[y])))
theorem dS:Qh X "list.append" CT:=by
 intro pq s σ H x vs v us Q I rx rv h;obtain⟨l,xs,y,rfl,rfl,hH,hz,q⟩:=h;cases rx;obtain⟨u,rfl,ru⟩:=rv.one;obtain⟨z,its,n,r,hl,e⟩:=I.EX hH;refine call_meets F.slot_list_append ⟨_,e,rfl⟩ F.entry_list_append (F.args_list_append_2 _ _) (PySem.list_append l its.toArray n u (by rw[List.size_toArray];lia)) ⟨e,?_⟩
 refine⟨.fH,_,I.Hg (its':=its++[u]) hH e (by simp) (r.append (.cons ru .nil)) ?_,rfl,q⟩
 rw[List.length_append,List.length_singleton]
 lia
def CU:V->List V->Hp->VK->Prop:=fun x vs H Q=>∃ l b xs zs,x = .ref l/\vs=[.ref b]/\H l=some (.lst xs)/\H b=some (.lst zs)/\xs.length+zs.length<=sizeLine/\Q .fH (upd H l (.lst (xs++zs)))
theorem nR:Qh X "list.extend" CU:=by
 intro pq s σ H x vs v us Q I rx rv h;obtain⟨l,b,xs,zs,rfl,rfl,hH,hB,hz,q⟩:=h;cases rx;obtain⟨u,rfl,ru⟩:=rv.one;cases ru;obtain⟨z,its,n,r,hl,e⟩:=I.EX hH;obtain⟨z2,its2,n2,r2,hl2,e2⟩:=I.EX hB;have hsz:its.toArray.size+its2.toArray.size<=sizeLine:=by rw[List.size_toArray,List.size_toArray];lia
 have Hh : ¬(!its.toArray.isEmpty&&Builtin.List.listTooLong (its.toArray.size+its2.toArray.size))=true:=by
  rw[AK hsz,Bool.and_false];exact Bool.false_ne_true
 refine call_meets F.slot_list_extend ⟨_,e,rfl⟩ F.entry_list_extend (F.args_list_extend_2 _ _)
  (AutoSeq1.list_extend_list_list_0 l its.toArray n b its2.toArray n2 Hh (by rw[List.size_toArray];lia) (by lia)) ⟨e,e2,?_⟩
 refine⟨.fH,_,I.Hg (its':=its++its2) hH e (by simp) (r.append r2) ?_,rfl,q⟩
 rw[List.length_append]
 lia
end
end L2
namespace Att
open PySem PySem.W PySem.Calls PyProof.Rows
theorem pD{P:Params}{h:Heap}:∀(ns:List Int) (vs:List Value),WellAll P h vs (ns.map WData.int)->IntsAre vs ns:=by
 intro ns
 induction ns with
 | nil =>
   intro vs w;rw[List.map_nil]at w;cases w;exact .nil
 | cons n ns ih =>
   intro vs w;rw[List.map_cons]at w;cases w with
   | cons a b =>
     cases a;exact .cons _ _ (ih _ b)
theorem zC{l:OpenLaw}{n:Nat}(hn:l.most=some n){P:Params}{h:Heap}{args:List WData}{vals:List Value}
 (hpre:l.row.toRowW.claim.pre args=true) (K7:WellAll P h vals args) :
 ∃ a vs ns,vals=[Value.ref a]/\args=[WData.list (ns.map WData.int)]/\h.get? a=some { cls:=.type "list",data:=.seq vs.toArray}/\IntsAre vs ns/\ns.length<=n:=by
 have hsh:WShape.hasAll [] args [.list .int]=true:=(pre_splitW hpre).1;have hc:l.pre.holds [] { args:=args}=true:=(pre_splitW hpre).2;obtain⟨d,r,rfl,h1,h2⟩:=hasAllW_cons hsh;obtain rfl:=hasAllW_nil h2;obtain⟨xs,rfl,h3⟩:=hasW_list h1;obtain⟨ns,rfl⟩:=items_int h3;have hlen:ns.length<=n:=by
  unfold OpenLaw.pre at hc;have h4:(WTm.not (.lt (.lit (.int (n:Int))) (.len (.arg 0)))).holds [] { args:=[.list (ns.map .int)]}=true:=by
   have h4:=(holds_andW hc).1;rw[hn]at h4;exact h4
  have h5:=condW_of h4 (w_not (w_lt w_lit (w_len_list (w_arg rfl))));rw[List.length_map]at h5;refine Nat.le_of_not_lt fun q=>?_
  have q' : (n:Int)<((ns.length:Nat):Int):=by lia
  first
   | (rw[gC q']at h5;exact absurd h5 (by decide))
   | (simp at h5;lia)
 cases K7 with
 | cons w1 w2 =>
   cases w2;cases w1 with
   | list ho hall=>exact⟨_,_,ns,rfl,rfl,ho,pD ns _ hall,hlen⟩
theorem zD(l:OpenLaw)(args:List WData):l.row.toRowW.claim.post args (.bool true) args=true :=
 postW_of (r:=l.row.toRowW) (X:=(true==true))
  (show WShape.has [] (.bool true) .bool=true by first | rfl | decide | simp[WShape.has,WShape.arms,WShape.armsAll])
  (show(WTm.eq .res (.lit (.bool true))).value [] { args:=args,res:=some (.bool true),after:=args}=some (.bool (true==true)) from w_eq_bool (w_res rfl) w_lit) rfl
theorem vn{l:OpenLaw}{n:Nat}{q:Program}{loose:List Str}{XP:(Str->Option Value)->Heap->Prop}{YP:World->Heap->Prop}{d:DefRec}
 (hn:l.most=some n) (Hi:d.params.defaults=[])
 (call:∀(w:World) (s₀ s₁:Shared) (mg mb:iS) (fa:Addr) (o:Obj) (pm cd doc:Value) (a:Addr) (vs:List Value) (ns:List Int),
  Ground q loose [] XP w s₀ mg mb s₁.heap->YP w s₁.heap->
  s₁.heap.get? fa=some o->o.data = .func (docDef d.name d.params d.body d.scope pm cd doc)->s₁.heap.CodeRec cd d.name->mg d.name=some (.ref fa)->
  s₁.heap.get? a=some { cls:=.type "list",data:=.seq vs.toArray}->IntsAre vs ns->ns.length<=n->s₁.gens = #[]->
  codeAny (model l.prog w) callerA (.call (.ref fa) ⟨[.ref a],[]⟩) (fun r s'=>r = .ok (.ret (.bool true))/\OldK s₁.heap s'.heap/\s'.os=s₁.os/\AllBare s'.gens) s₁) :
 WalkO q loose XP YP l.row.toRowW d [] (fun f vs=>PySem.call f vs):=by
 intro w s₀ s₁ mg mb G Y fa o pm cd doc dV kV ho hd hcd hD hmg hg args vals as hpre hlay hrd K7 hlo;obtain rfl:dV = .none:=Dflts.none hD Hi;obtain rfl:kV = .none:=Dflts.noKw hD;obtain⟨a,vs,ns,rfl,rfl,hobj,hints,hlen⟩:=zC hn hpre K7;refine enter_call (codeAny_mono (call w s₀ s₁ mg mb fa o pm cd doc a vs ns G Y ho (fd_plain hd) hcd hmg hobj hints hlen hg) fun r s' hq=>?_)
 obtain⟨rfl,h2,h3,h4⟩:=hq;exact⟨.inl ⟨.bool true,.bool true,[],rfl,fun _=>rfl,.bool true,zD l _,fun _=>⟨List.Pairwise.nil,fun _ hm=>(nomatch hm)⟩⟩,h2,h3,h4⟩
end Att
namespace L2
open PySem PySem.Spec PyProof.Rows
theorem sG:∀{vs:List Value} {ns:List Int},IntsAre vs ns->Vals (ns.map V.int) vs
 | _,_,.nil=>.nil
 | _,_,.cons n t h=>.cons ⟨t,rfl⟩ (sG h)
def EY(H:Hp):Prop:=∀ b,H b=none\/∃ o xs,H b=some (.w4 o (.lst xs))
theorem AL{P:Program}{w:World}{K:bF}{mg mb:iS}{CX:AF}{k:Nat}{fa a:Addr}{fd:FuncData}{x:Str}{sp:Sp}{s₁:Shared}{vs:List Value}{ns:List Int}
 (KX:K.In s₁.heap) (hns:s₁.heap.Ns mainGlobals mg) (hb:s₁.heap.Ns builtinsNs mb) (K8:∀ x:Str,x≠"__name__"->mb x=bootBuiltins x) (hlim:s₁.heap.NoLimit) (hbm:∃ bm ob,mg "__builtins__"=some (.ref bm)/\bm≠builtinsNs/\s₁.heap.get? bm=some ob/\ob.cls = .type "module"/\ob.dict=some builtinsNs/\ob.data = .plain) (hg:s₁.gens = #[])
 (ha:s₁.heap.get? a=some { cls:=.type "list",data:=.seq vs.toArray}) (hi:IntsAre vs ns) (hl:ns.length<=sizeLine) (hr:j6 k callerA)
 (F:∀ base:Heap,K.In base->base.Ns mainGlobals mg->aN P w K mg base CX k fa fd [x] sp) (hbind:∀(s:Shared) (u:Value),BindsTo s fd ⟨[u],[]⟩ [(x,u)])
 (Ct:∀ H:Hp,EY H->bg K H a (ns.map V.int)->sp [.ref a] H (fun v _=>v = .bl true) fun _ _ _=>False)
 (K9:∀ H e s',CX [] H s₁ (fun _ _ _=>False) e s'->False) :
 codeAny (model P w) callerA (.call (.ref fa) ⟨[.ref a],[]⟩) (fun r s'=>r = .ok (.ret (.bool true))/\OldK s₁.heap s'.heap/\s'.os=s₁.os/\AllBare s'.gens) s₁:=by
 have rv:=sG hi;have La:=hi.length;have core:∀ H:Hp,EY H->bg K H a (ns.map V.int)->nH P w H s₁.heap->(∀ b,H b≠none->b=a)->(H a≠none->K.lookup a=none)->
  codeAny (model P w) callerA (.call (.ref fa) ⟨[.ref a],[]⟩) (fun r s'=>r = .ok (.ret (.bool true))/\OldK s₁.heap s'.heap/\s'.os=s₁.os/\AllBare s'.gens) s₁:=by
  intro H hO hS hok hA hK;have uq:∀{b:Addr} {o:Obj},s₁.heap.get? b=some o->H b=none->(t6 s₁.heap H).get? b=some o:=fun e n=>As e n
  have G4:∀{b:Addr} {o:Obj} {es:Array DictEntry} {ep:Nat},s₁.heap.get? b=some o->o.data = .dict es ep->H b=none:=fun {b o es ep} e d=>by
   cases q:H b with
   | none=>rfl
   | some u =>
     have e' : b=a:=hA b (by rw[q];simp)
     subst e';rw[ha]at e;cases e;have d' : Data.seq vs.toArray _=Data.dict es ep:=d;cases d'
  have JD:∀{b:Addr} {m:iS},s₁.heap.Ns b m->(t6 s₁.heap H).Ns b m:=fun {b m} ⟨o,es,ep,e,d,r⟩=>⟨o,es,ep,uq e (G4 e d),d,r⟩
  have Qi:K.In (t6 s₁.heap H):=fun b o e=>uq (KX b o e) (by
   cases q:H b with
   | none=>rfl
   | some u =>
     have e' : b=a:=hA b (by rw[q];simp)
     subst e';rw[hK (by rw[q];simp)]at e;cases e)
  have hM:Mod K mg (t6 s₁.heap H):=⟨Qi,JD hns,⟨mb,JD hb,K8⟩,(let⟨mc,h1,h2⟩:=hlim;⟨mc,JD h1,h2⟩),(let⟨bm,ob,b1,b2,b3,b4,b5,b6⟩:=hbm;⟨bm,ob,b1,b2,uq b3 (by
   cases q:H bm with
   | none=>rfl
   | some u =>
     have e' : bm=a:=hA bm (by rw[q];simp)
     subst e';rw[ha]at b3;cases b3;cases b6),b4,b5,b6⟩)⟩
  have e0:CL P w K mg (t6 s₁.heap H) callerA [] s₁ H:=⟨rfl,hM,fun b o e=>CA e,Nat.le_of_eq (zj _ _),trivial,fun b hb=>absurd (show b∈([]:List Addr) from hb) (by simp),hok,.of_eq hg⟩
  refine codeAny_mono ((F _ Qi (JD hns)).run callerA [] s₁ H ⟨[.ref a],[]⟩ [.ref a] [.ref a] _ _ hr e0 (hbind s₁ (.ref a)) (.cons rfl .nil) (Ct H hO hS)) fun r s' h=>?_
  cases r with
  | error e=>exact(K9 H e s' h).elim
  | ok fl =>
    cases fl with
    | next=>exact False.elim h
    | brk=>exact False.elim h
    | cont=>exact False.elim h
    | ret u =>
      obtain⟨v,H',os,bare,un,Lb,r',q⟩:=h;have q' : v = .bl true:=q;subst q';obtain rfl:u=Value.bool true:=r';refine⟨rfl,OldK.of_keep fun b o e=>?_,os,bare⟩
      cases q:H b with
      | none=>exact un.keep b o e q (by intro z;exact absurd (show b∈([]:List Addr) from z) (by simp)) (by simp)
      | some u =>
        rcases hO b with z|⟨ob,xs,z⟩
        ·rw[q]at z;cases z
        ·have z2:=un.nJ b ob _ z;obtain⟨e1,_⟩:=hok b _ z;obtain⟨e2,_⟩:=Lb b _ z2;rw[e]at e1;cases e1;exact e2
 cases hk:K.lookup a with
 | some o =>
   have e:=KX a o hk;rw[ha]at e;cases e;refine core (fun _=>none) (fun _=>.inl rfl) (.inr ⟨_,vs.toArray,_,hk,rfl,rfl,rfl,by rw[List.size_toArray,La];exact hl,by simpa using rv⟩) (fun b u z=>by have z' : (none:Option HO)=some u:=z;cases z') (fun b z=>absurd rfl z) fun z=>absurd rfl z
 | none =>
   refine core (fun b=>if b=a then some (.w4 { cls:=.type "list",data:=.seq vs.toArray} (.lst (ns.map V.int))) else none) (fun b=>?_) (.inl (.inr ⟨{ cls:=.type "list",data:=.seq vs.toArray},if_pos rfl⟩)) (fun b u z=>?_) (fun b z=>?_) fun _=>hk
   ·by_cases hb:b=a
    ·exact .inr ⟨_,_,if_pos hb⟩
    ·exact .inl (if_neg hb)
   ·by_cases hb:b=a
    ·have z':=(if_pos hb).symm.trans z;cases z';subst hb;exact⟨ha,by rw[List.length_map];exact hl,vs,_,rv,ha⟩
    ·have z':=(if_neg hb).symm.trans z;cases z'
   ·by_cases hb:b=a
    ·exact hb
    ·exact absurd (if_neg hb) z
theorem CV{l:PySem.W.OpenLaw}{n k:Nat}{q:Program}{loose:List Str}{XP:(Str->Option Value)->Heap->Prop}{YP:World->Heap->Prop}{d:DefRec}{K:Params->bF}{CX:World->AF}{sp:World->Sp}{x:Str}
 (hn:l.most=some n) (hn2:n<=sizeLine) (Hi:d.params.defaults=[]) (hr:j6 k callerA)
 (hY:∀(w:World) (h:Heap),YP w h->(K w.params).In h)
 (F:∀(w:World) (mg:iS) (fa:Addr) (h:Heap),(K w.params).In h->h.Ns mainGlobals mg->mg d.name=some (.ref fa)->
  ∃ fd:FuncData,(∀(s:Shared) (u:Value),BindsTo s fd ⟨[u],[]⟩ [(x,u)])/\
    ∀ base:Heap,(K w.params).In base->base.Ns mainGlobals mg->aN l.prog w (K w.params) mg base (CX w) k fa fd [x] (sp w))
 (Ct:∀(w:World) (H:Hp) (a:Addr) (ns:List Int),ns.length<=n->EY H->bg (K w.params) H a (ns.map V.int)->sp w [.ref a] H (fun v _=>v = .bl true) fun _ _ _=>False)
 (K9:∀(w:World) (H:Hp) (s:Shared) (e:Value) (s' : Shared),CX w [] H s (fun _ _ _=>False) e s'->False) :
 PySem.W.WalkO q loose XP YP l.row.toRowW d [] (fun f vs=>PySem.call f vs):=by
 refine Att.vn hn Hi fun w s₀ s₁ mg mb fa o pm cd doc a vs ns G Y ho hd hcd hmg hobj hints hlen hg=>?_
 have KX:=hY w _ Y;obtain⟨fd,hb,hF⟩:=F w mg fa _ KX G.T.g hmg;exact AL KX G.T.g G.T.b G.T.builtins G.T.nolimit G.T.bmain hg hobj hints (Nat.le_trans hlen hn2) hr hF hb (fun H hO hS=>Ct w H a ns hlen hO hS) fun H e s'=>K9 w H s₁ e s'
end L2
namespace L2
open PySem PySem.Spec PyProof.Rows
def aK(s:Stmt):Arguments:=match s with
 | .FunctionDef _ a _ _ _ _ _ _ _ _=>a
 | _=>{ posonlyargs:=[],args:=[],vararg:=none,kwonlyargs:=[],kw_defaults:=[],kwarg:=none,defaults:=[]}
def aH(s:Stmt):List Stmt:=match s with
 | .FunctionDef _ _ b _ _ _ _ _ _ _=>b
 | _=>[]
def af(s:Stmt):Scope:=match s with
 | .FunctionDef _ _ _ _ _ _ sc _ _ _=>sc
 | _=>{ kind:=.function,names:=[],isGenerator:=false,isCoroutine:=false}
abbrev dm:AF:=fun _ _ _ _ _ _=>False
abbrev E0:XK:=fun _ _ _=>False
theorem aU{X:Cx}:Passes dm X E0:=fun _ _ _ _ _ _ _ h=>h.elim
structure jc(K:bF)(x qual:Str)(st:Stmt)(f:Addr)(fd:FuncData):Prop where
 ex:∃(oc:Value) (od:Option Addr) (kV doc pm:Value) (an:Option Addr) (cdv ct:Value) (osl:Array (Option Value)),
  fd=PySem.W.fnOf x qual (aK st) (aH st) (af st) .none kV doc pm an cdv ct/\K.lookup f=some ⟨oc,od,.func fd,osl⟩/\PySem.W.codeIn K cdv qual=true
 kp:PySem.W.keepIn K (.ref f)=true
section
variable {P:Program}{w:World}{K:bF}{mg:iS}{base:Heap}
theorem jc.ok{x qual:Str}{st:Stmt}{f:Addr}{fd:FuncData}{N ps:List Str}{k:Nat}{sp:Sp}(F:jc K x qual st f fd)(S:aM N ps (af st))(len:∀ vs H Q E,sp vs H Q E->vs.length=ps.length)
 (hbody:∀(cdv:Value) (A:Around) (outer:List Env) (s:Shared) (H:Hp) (vs:List V) (Q:VK) (E:XK),j6 k (A.deeper (envOfC qual (af st) s.heap.objs.size f cdv))->sp vs H Q E->
  ∃ t,vc (vh dm P w K mg base N qual (af st) f cdv A outer s H E).An (aH st) t/\t { nx:=fun _ H'=>Q .fH H',rt:=Q} (start N vs) H):aN P w K mg base dm (k+1) f fd ps sp:=by
 obtain⟨oc,od,kV,doc,pm,an,cdv,ct,osl,rfl,lk,hcd⟩:=F.ex;refine DX lk hcd S len fun A outer s H vs Q E hr Ct=>?_
 obtain⟨t,h,q⟩:=hbody cdv A outer s H vs Q E hr Ct;exact⟨t,h.An,q⟩
theorem jc.binds{x qual:Str}{st:Stmt}{f:Addr}{fd:FuncData}{ps:List Str}(F:jc K x qual st f fd)
 (h:∀(kV doc pm:Value) (an:Option Addr) (cdv ct:Value) (us:List Value),us.length=ps.length->bindArgs (PySem.W.fnOf x qual (aK st) (aH st) (af st) .none kV doc pm an cdv ct) ⟨us,[]⟩=pure (ps.zip us)):Binds K fd ps []:=by
 obtain⟨oc,od,kV,doc,pm,an,cdv,ct,osl,rfl,lk,hcd⟩:=F.ex;exact .all (h kV doc pm an cdv ct)
theorem aY{x qual:Str}{st:Stmt}{f:Addr}{oc:Value}{od an:Option Addr}{osl:Array (Option Value)}{kV doc pm cdv ct:Value}(l:K.lookup f=some ⟨oc,od,.func (PySem.W.fnOf x qual (aK st) (aH st) (af st) .none kV doc pm an cdv ct),osl⟩)
 (c:PySem.W.codeIn K cdv qual=true) (k:PySem.W.keepIn K (.ref f)=true):jc K x qual st f (PySem.W.fnOf x qual (aK st) (aH st) (af st) .none kV doc pm an cdv ct):=⟨⟨oc,od,kV,doc,pm,an,cdv,ct,osl,rfl,l,c⟩,k⟩
end
theorem eK{n:Nat}(h:n<=1000):n<sizeLine:=Nat.lt_of_le_of_lt h (by decide)
section
variable {X:Cx}
theorem pv(i:Nat){x:Str}{pos:Pos}(hN:X.N[i]?=some x:=by rfl)(hv:Jw X.env.scope x:=by first | exact Or.inl rfl | exact Or.inr (Or.inl rfl) | exact Or.inr (Or.inr rfl))(hd:(x==("__debug__":Str))=false:=by decide)
 (hcd:(x==("__classdict__":Str))=false:=by decide):PE X (.Name x pos) (GF i):=EC hN hv hd hcd
end
theorem fK{A B:Prop}(h:B):if false=true then A else B:=by
 rw[if_neg Bool.false_ne_true];exact h
theorem ki{A B:Prop}(h:A):if true=true then A else B:=by
 rw[if_pos rfl];exact h
theorem ur{c A B:Prop}[Decidable c](h1:c->A)(h2 : ¬ c->B):if c then A else B:=by
 by_cases h:c
 ·rw[if_pos h];exact h1 h
 ·rw[if_neg h];exact h2 h
theorem yi{c A B:Prop}[Decidable c](hc:c)(h:B):if(!decide c)=true then A else B:=by
 rw[gC hc];exact fK h
def ao(H H' : Hp):Prop:=∀ b o,H b=some o->H' b=some o
theorem ao.refl(H:Hp):ao H H:=fun _ _ h=>h
theorem ao.trans{H H1 H2:Hp}(a:ao H H1)(b:ao H1 H2):ao H H2:=fun c o h=>b c o (a c o h)
theorem ao.free{H H' : Hp}(e:ao H H'){l:Addr}(h:H' l=Option.none):H l=Option.none:=by
 cases q:H l with
 | none=>rfl
 | some o =>
   rw[e l o q]at h;cases h
theorem ao.seq{K:bF}{H H' : Hp}{a:Addr}{xs:List V}(e:ao H H')(h:bg K H a xs):bg K H' a xs:=by
 rcases h with(h|⟨o,h⟩) | h
 ·exact .inl (.inl (e _ _ h))
 ·exact .inl (.inr ⟨o,e _ _ h⟩)
 ·exact .inr h
def fh(cells:List (Str×Addr)):List (Str×NameKind)->List (Str×Addr)->List (Str×Addr)
 | [],cs=>cs
 | (n,k)::r,cs=>fh cells r (if(k==NameKind.free)=true then(n,(cells.lookup n).getD 0)::cs else cs)
theorem qj{env:Env}{f:Str×NameKind->List (Str×Addr)->Sem (ForInStep (List (Str×Addr)))}
 (hf1:∀ n k cs c,(k==NameKind.free)=true->env.cells.lookup n=some c->f (n,k) cs=pure (.yield ((n,c)::cs)))
 (hf2:∀ n k cs,(k==NameKind.free)=false->f (n,k) cs=pure (.yield cs)) :
 ∀(names:List (Str×NameKind)) (cs:List (Str×Addr)),(∀ n k,(n,k)∈names->(k==NameKind.free)=true->∃ c,env.cells.lookup n=some c)->
  forIn names cs f=(pure (fh env.cells names cs):Sem (List (Str×Addr)))
 | [],cs,_=>by rw[List.forIn_nil];rfl
 | (n,k)::r,cs,h=>by
   have ih:=fun cs=>qj hf1 hf2 r cs fun m j hm=>h m j (sA _ hm)
   rw[List.forIn_cons];cases e:(k==NameKind.free) with
   | true =>
     obtain⟨c,hc⟩:=h n k List.mem_cons_self e;rw[hf1 n k cs c e hc,pure_bind];show forIn r ((n,c)::cs) f=_;rw[ih]
     conv=>rhs;unfold fh
     rw[if_pos e,hc];rfl
   | false =>
     rw[hf2 n k cs e,pure_bind];show forIn r cs f=_;rw[ih]
     conv=>rhs;unfold fh
     rw[if_neg (by rw[e];exact Bool.false_ne_true)]
theorem qk{scope:Scope}{env:Env}(h:∀ n k,(n,k)∈scope.names->(k==NameKind.free)=true->∃ c,env.cells.lookup n=some c):closureFor scope env=pure (fh env.cells scope.names []):=by
 simp only[closureFor];rw[qj (env:=env) ?_ ?_ scope.names [] h]
 ·rfl
 ·intro n k cs c e hc;show(if(k==NameKind.free)=true then _ else _)=_
  rw[if_pos e];unfold cellOf;rw[hc];rfl
 ·intro n k cs e;show(if(k==NameKind.free)=true then _ else _)=_
  rw[if_neg (by rw[e];exact Bool.false_ne_true)]
theorem kj{cells:List (Str×Addr)}{x:Str}{c:Addr}:∀{names:List (Str×NameKind)} {cs:List (Str×Addr)},(fh cells names cs).lookup x=some c->cs.lookup x=some c\/((x,NameKind.free)∈names/\(cells.lookup x).getD 0=c)
 | [],cs,h=>.inl h
 | (n,k)::r,cs,h=>by
   unfold fh at h;rcases kj h with q|⟨q1,q2⟩
   ·by_cases e:(k==NameKind.free)=true
    ·rw[if_pos e]at q
     by_cases hx:x=n
     ·subst hx;rw[List.lookup_cons_self]at q;have hk:k=NameKind.free:=eq_of_beq e;exact .inr ⟨by rw[hk];exact List.mem_cons_self,Option.some.inj q⟩
     ·have hb:(x==n)=false:=beq_eq_false_iff_ne.mpr hx;simp only[List.lookup_cons,hb]at q;exact .inl q
    ·rw[if_neg e]at q;exact .inl q
   ·exact .inr ⟨sA _ q1,q2⟩
theorem lX{cells:List (Str×Addr)}{x:Str}:∀{names:List (Str×NameKind)} {cs:List (Str×Addr)},((x,NameKind.free)∈names\/∃ c,cs.lookup x=some c)->∃ c,(fh cells names cs).lookup x=some c
 | [],cs,h=>by
   rcases h with h|h
   ·cases h
   ·exact h
 | (n,k)::r,cs,h=>by
   unfold fh;apply lX;rcases h with h|⟨c,h⟩
   ·rcases List.mem_cons.mp h with h|h
    ·cases h
     right
     rw[if_pos (by rfl)]
     exact⟨_,List.lookup_cons_self⟩
    ·exact .inl h
   ·right
    by_cases e:(k==NameKind.free)=true
    ·rw[if_pos e]
     by_cases hx:x=n
     ·subst hx;exact⟨_,List.lookup_cons_self⟩
     ·have hb:(x==n)=false:=beq_eq_false_iff_ne.mpr hx;exact⟨c,by simp only[List.lookup_cons,hb];exact h⟩
    ·rw[if_neg e];exact⟨c,h⟩
theorem jA{env:Env}{x:Str}{k:NameKind}:∀{names:List (Str×NameKind)},
 (names.map fun(n,k)=>if(k==NameKind.free&&env.scope.kind == .function&&env.kindOf n==some .cell) then(n,NameKind.cell) else(n,k)).lookup x=some k->
  ∃ k0,names.lookup x=some k0/\(k=k0\/(k0 = .free/\k = .cell))
 | [],h=>by cases h
 | (n,j)::r,h=>by
   have ih:=@jA env x k r
   replace h:List.lookup x ((if(j==NameKind.free&&env.scope.kind == .function&&env.kindOf n==some .cell)=true then(n,NameKind.cell) else(n,j))::_)=some k:=h
   cases hx:x==n with
   | true =>
     by_cases hc:(j==NameKind.free&&env.scope.kind == .function&&env.kindOf n==some .cell)=true
     ·rw[if_pos hc]at h;simp only[List.lookup_cons,hx]at h ⊢;have hj:j=NameKind.free:=by
       rw[Bool.and_eq_true,Bool.and_eq_true]at hc;exact eq_of_beq hc.1.1
      exact⟨j,rfl,.inr ⟨hj,(Option.some.inj h).symm⟩⟩
     ·rw[if_neg hc]at h;simp only[List.lookup_cons,hx]at h ⊢;exact⟨j,rfl,.inl (Option.some.inj h).symm⟩
   | false =>
     by_cases hc:(j==NameKind.free&&env.scope.kind == .function&&env.kindOf n==some .cell)=true
     ·rw[if_pos hc]at h;simp only[List.lookup_cons,hx]at h ⊢;exact ih h
     ·rw[if_neg hc]at h;simp only[List.lookup_cons,hx]at h ⊢;exact ih h
theorem mR{env:Env}{x:Str}:∀{names:List (Str×NameKind)},names.lookup x=some .free->
 (names.map fun(n,k)=>if(k==NameKind.free&&env.scope.kind == .function&&env.kindOf n==some .cell) then(n,NameKind.cell) else(n,k)).lookup x=some .cell\/
 (names.map fun(n,k)=>if(k==NameKind.free&&env.scope.kind == .function&&env.kindOf n==some .cell) then(n,NameKind.cell) else(n,k)).lookup x=some .free
 | [],h=>by cases h
 | (n,j)::r,h=>by
   have ih:=@mR env x r;show List.lookup x ((if(j==NameKind.free&&env.scope.kind == .function&&env.kindOf n==some .cell)=true then(n,NameKind.cell) else(n,j))::_)=_\/
    List.lookup x ((if(j==NameKind.free&&env.scope.kind == .function&&env.kindOf n==some .cell)=true then(n,NameKind.cell) else(n,j))::_)=_
   cases hx:x==n with
   | true =>
     simp only[List.lookup_cons,hx]at h;cases h
     by_cases hc:(NameKind.free==NameKind.free&&env.scope.kind == .function&&env.kindOf n==some .cell)=true
     ·rw[if_pos hc];simp only[List.lookup_cons,hx];exact .inl trivial
     ·rw[if_neg hc];simp only[List.lookup_cons,hx];exact .inr trivial
   | false =>
     simp only[List.lookup_cons,hx]at h
     by_cases hc:(j==NameKind.free&&env.scope.kind == .function&&env.kindOf n==some .cell)=true
     ·rw[if_pos hc];simp only[List.lookup_cons,hx];exact ih h
     ·rw[if_neg hc];simp only[List.lookup_cons,hx];exact ih h
def cL(X:Cx)(N:List Str)(scope:Scope)(xe:iB)(C:Addr)(s:Shared)(H:Hp)(fp:List Addr):Cx where
 prog:=X.prog
 w:=X.w
 K:=X.K
 mg:=X.mg
 base:=X.base
 A:=X.A
 N:=N
 s₀:=s
 H₀:=H
 env:=compEnvC scope (fh X.env.cells scope.names []) C X.env
 outer:=X.stack
 stack:=X.stack
 ex:=fp
 fn:=fun _=>false
 calm:=X.calm
 pn:=[]
 xe:=xe
def jB(σ:St)(js:List Nat):St:=js.map fun j=>(σ[j]?).getD none
structure jf(X:Cx)(scope:Scope)(own fq:List Str)(js:List Nat):Prop where
 kind:scope.kind = .function
 AM:∀ y∈scope.names,y.2≠.cell
 names:∀ y∈scope.names,y.2 = .local->scope.names.lookup y.1=some .local
 free:∀ y∈scope.names,y.2 = .free->X.env.scope.names.lookup y.1=some .cell\/X.env.scope.names.lookup y.1=some .free
 at_:js.map (fun j=>X.N[j]?)=fq.map some
 fr:∀ x∈fq,scope.names.lookup x=some .free
theorem xu{σ:St}{js:List Nat}{i:Nat}{v:V}(h:(jB σ js)[i]?=some (some v)):∃ j,js[i]?=some j/\σ[j]?=some (some v):=by
 unfold jB at h;rw[List.getElem?_map]at h;cases e:js[i]? with
 | none=>rw[e]at h;cases h
 | some j =>
   rw[e]at h;have h' : (σ[j]?).getD none=some v:=Option.some.inj h;refine⟨j,rfl,?_⟩;cases q:σ[j]? with
   | none=>rw[q]at h';cases h'
   | some o=>rw[q]at h';rw[show o=some v from h']
section
variable {X:Cx}
theorem jC{pq:bq}{σ:St}{H:Hp}{s:Shared}{scope:Scope}{own fq:List Str}{js:List Nat}(I:Inv X pq σ H s)(T:jf X scope own fq js):
 ∀ n k,(n,k)∈scope.names->(k==NameKind.free)=true->∃ c,X.env.cells.lookup n=some c:=fun n k hm e=>by
 have hk:k=NameKind.free:=eq_of_beq e;exact I.ok.has n (T.free (n,k) hm hk)
theorem AN{pq:bq}{σ:St}{H:Hp}{s:Shared}{scope:Scope}{own fq:List Str}{js:List Nat}{fp:List Addr}{D C:Addr}{h1:Heap}{t1:Nat}{m:iS}{xe:iB}
 (I:Inv X pq σ H s) (T:jf X scope own fq js) (hf:∀ b∈fp,lW X pq H b) (hfo:∀ b∈fp,∃ o,s.heap.get? b=some o) (hD:s.heap.objs.size<=D) (hC:s.heap.objs.size<=C) (hDC:D≠C)
 (old:∀ b o,s.heap.get? b=some o->h1.get? b=some o) (hl:h1.get? D=some { cls:=.type "list",data:=.seq ([]:List Value).toArray 0}) (hn:h1.Ns C m) :
 Inv (cL X (own++fq) scope xe C s H fp) [] (List.replicate own.length none++jB σ js) (upd H D (.lst [])) { s with heap:=h1,toks:=t1}:=by
 have cells:∀ x c,(fh X.env.cells scope.names []).lookup x=some c->X.env.cells.lookup x=some c:=fun x c h=>by
  rcases kj h with q|⟨q1,q2⟩
  ·cases q
  ·obtain⟨c',hc'⟩:=jC I T x .free q1 rfl;rw[hc']at q2;rw[hc'];exact congrArg some q2
 have Hj:∀ b o,s.heap.get? b=some o->b<s.heap.objs.size:=fun b o e=>Heap.lt_size e
 have hcl:∀ x c,X.env.cells.lookup x=some c->c<s.heap.objs.size:=fun x c e=>by
  obtain⟨v,q⟩:=I.cell x c e;exact q.lt
 have R3:∀ b∈frs X.stack,b<s.heap.objs.size:=fun b hb=>by
  obtain⟨_,o,ho,_⟩:=I.stack.mem hb;exact Heap.lt_size ho
 have R4:H D=none:=I.hok.fresh hD;have EZ:H C=none:=I.hok.fresh hC;refine⟨⟨I.ok.mod,T.kind,I.ok.glob,I.ok.blt,hC,fun x y c a b=>I.ok.inj x y c (cells x c a) (cells y c b),fun x hx=>?_,fun x c z _=>(nomatch z),I.ok.hd,I.ok.frames,.inl rfl,fun b hb=>⟨?_,fun x c e z=>?_⟩,
  fun b o e=>I.bs b o e,Nat.le_trans I.ok.DM I.sz,fun b o e hb=>?_,fun b hb z=>?_,I.stack,I.ua⟩,
  rfl,I.bare,Un.laid old hD R4,⟨m,hn,fun i x v e1 e2 e3=>?_⟩,fun x c e=>?_,?_,fun x c e=>?_,fun p hp=>absurd (show p∈([]:bq) from hp) (by simp),?_,?_⟩
 ·
  have hx:(relabel scope X.env).names.lookup x=some .cell\/(relabel scope X.env).names.lookup x=some .free:=hx;have R5:(x,NameKind.free)∈scope.names:=by
   rcases hx with hx|hx
   ·obtain⟨k0,q,r⟩:=jA hx;have hm:=PySem.mem_of_lookup q;rcases r with r|⟨r,_⟩
    ·exact absurd r.symm (T.AM _ hm)
    ·rw[r]at hm;exact hm
   ·obtain⟨k0,q,r⟩:=jA hx;have hm:=PySem.mem_of_lookup q;rcases r with r|⟨_,r⟩
    ·rw[<-r]at hm;exact hm
    ·cases r
  exact lX (.inl R5)
 ·
  obtain⟨o,ho⟩:=hfo b hb;exact Nat.ne_of_lt (Nat.lt_of_lt_of_le (Hj b o ho) hC)
 ·exact(hf b hb).2.2.2.2.1 x c (cells x c e) z
 ·
  obtain⟨_,_,_,f3,_,_⟩:=hf b hb;rcases f3 with z|z
  ·exact I.ok.zk b o e z
  ·exact absurd (Nat.lt_of_lt_of_le (Heap.lt_size (I.ok.bs b o e).1) z) (Nat.lt_irrefl _)
 ·
  obtain⟨_,f1,f2,_⟩:=hf b hb;rcases List.mem_cons.mp (I.p5 b z) with q|q
  ·exact f1 q
  ·exact f2 q
 ·
  by_cases hi:i<own.length
  ·rw[List.getElem?_append_left (by simpa using hi),List.getElem?_replicate,if_pos hi]at e2
   cases e2
  ·rw[List.getElem?_append_right (by simpa using hi),List.length_replicate]at e2
   replace e1:(own++fq)[i]?=some x:=e1
   rw[List.getElem?_append_right (by lia)]at e1
   obtain⟨j,hj,hσ⟩:=xu e2;have hN:X.N[j]?=some x:=by
    have q:=congrArg (fun l=>l[i-own.length]?) T.at_
    simp only[List.getElem?_map,hj,e1,Option.map_some]at q;exact Option.some.inj q
   have hfx:=T.fr x (Cy e1);have hm:=PySem.mem_of_lookup hfx;have hk:=T.free (x,.free) hm rfl;obtain⟨m0,hn0,Lc⟩:=I.loc;obtain⟨u,r,l⟩:=Lc j x v hN hσ (by rcases hk with k|k;exact .inr (.inl k);exact .inr (.inr k))
   refine⟨u,r,.inr ⟨mR hfx,?_⟩⟩;rcases l with⟨vo,_⟩|⟨_,c,hc,hcell⟩
   ·have vo:X.env.scope.names.lookup x=some .local:=vo;rcases hk with k|k<;>(rw[vo]at k;cases k)
   ·obtain⟨c',hc'⟩:=lX (cells:=X.env.cells) (names:=scope.names) (cs:=[]) (x:=x) (.inl hm);have q:=cells x c' hc';rw[hc]at q;cases q;exact⟨c,hc',hcell.keeps old⟩
 ·
  obtain⟨v,q⟩:=I.cell x c (cells x c e);exact⟨v,q.keeps old⟩
 ·
  show upd H D (.lst []) C=none;rw[aL (Ne.symm hDC)];exact EZ
 ·show upd H D (.lst []) c=none;have e:=cells x c e;rw[aL (Nat.ne_of_lt (Nat.lt_of_lt_of_le (hcl x c e) hD))];exact I.iD x c e
 ·exact I.hok.laid old hD ⟨Nat.zero_le _,[],0,.nil,hl⟩
 ·show _=(own++fq).length;have q:=congrArg List.length T.at_;rw[List.length_map,List.length_map]at q;rw[List.length_append,List.length_append,List.length_replicate];unfold jB;rw[List.length_map,q]
theorem lF{pq:bq}{σ σ' : St}{H H' : Hp}{s s' : Shared}{scope:Scope}{N:List Str}{fp:List Addr}{C:Addr}{h' : Heap}{xe:iB}
 (I:Inv X pq σ H s) (hf:∀ b∈fp,lW X pq H b) (hC:s.heap.objs.size<=C) (J:Inv (cL X N scope xe C s H fp) [] σ' H' s') (sb:Heap.SameBut C s'.heap h'):Inv X pq σ H' { s' with heap:=h'}:=by
 have EZ:H' C=none:=J.free;refine I.DO (ch:=fp) J.os ?_ ?_ J.bare (fun b hb=>?_)
 ·have u:Un (frs X.stack) fp H H' s.heap s'.heap:=J.base;have ne:∀ b o,s.heap.get? b=some o->b≠C:=fun b o e=>Nat.ne_of_lt (Nat.lt_of_lt_of_le (Heap.lt_size e) hC)
  refine⟨fun b o e n hb hx=>(sb.2 b (ne b o e)).trans (u.keep b o e n hb hx),fun b o e n hb hx=>?_,u.free,fun b o e hx=>?_,u.tups,u.nJ,u.pB⟩
  ·obtain⟨sl,q⟩:=u.slot b o e n hb hx;exact⟨sl,(sb.2 b (ne b o e)).trans q⟩
  ·obtain⟨o',q⟩:=u.there b o e hx;exact⟨o',(sb.2 b (ne b o e)).trans q⟩
 ·intro b ob e;refine(J.hok b ob e).stay (fun c w' hc q=>(sb.2 c ?_).trans q) (fun _ q=>q) fun _ _ q=>q
  rintro rfl;rcases hc with rfl|hc
  ·rw[EZ]at e;cases e
  ·rw[EZ]at hc;cases hc
 ·obtain⟨_,f1,_,f3,f4,f5⟩:=hf b hb;exact⟨f3,f1,f4,f5⟩
end
section
variable {prog:Program}{w:World}{A:Around}{R:Result->Shared->Prop}{s:Shared}
abbrev yj(ifs:List Expr)(env:Env):Sem Bool:=forIn ifs true fun c r=>if r=true then do let ok←isTrue c env (eval c env);pure (ForInStep.yield ok) else pure (ForInStep.yield r)
theorem uu{elt target iter:Expr}{ifs:List Expr}{scope:Scope}{pos:Pos}{it acc:Value}{env:Env}(I:Nat->Shared->Prop)
 (turn:∀ n s,I n s->wpAny (model prog w) A (pyNext it) (fun r s₁=>match r with
  | none=>R (.ok .next) s₁
  | some v=>wpAny (model prog w) A (letOwnedTupleGo target it v) (fun _ s₀=>wpAny (model prog w) A (assign target env v) (fun _ s₂ =>
   wpAny (model prog w) A (yj ifs env) (fun ok s₃ =>
    if ok=true then wpAny (model prog w) A (eval elt env) (fun x s₄ =>
     wpAny (model prog w) A (call (.builtin "list.append") [acc,x]) (fun _ s₅=>∃ m,m<n/\I m s₅) (notedBy (model prog w) A env fun e s'=>R (.error e) s') s₄) (notedBy (model prog w) A env fun e s'=>R (.error e) s') s₃
    else ∃ m,m<n/\I m s₃) (notedBy (model prog w) A env fun e s'=>R (.error e) s') s₂) (notedBy (model prog w) A env fun e s'=>R (.error e) s') s₀) (notedBy (model prog w) A env fun e s'=>R (.error e) s') s₁) (notedBy (model prog w) A env fun e s'=>R (.error e) s') s)
 (n:Nat) (h:I n s) :
 codeAny (model prog w) A (.compLoop (.ListComp elt [⟨target,iter,ifs,0⟩] scope pos) 0 it acc env) R s:=by
 refine codeAny_loop rfl I (fun n s hI=>?_) n h
 show wpAny _ A ((compTurn (.ListComp elt [⟨target,iter,ifs,0⟩] scope pos) 0 it acc env).onRaise (fun x=>do noteFrame x env;theTreesLotGoes x)) _ _ s
 refine wpAny_noted ?_;rw[compTurn_list];refine jd (wpAny_standAt (jd (wpAny_mono (turn n s hI) (fun r s₁ h₁=>?_) fun _ _ h'=>h')))
 cases r with
 | none=>exact wpAny_pure h₁
 | some v =>
   refine jd (wpAny_mono h₁ (fun _ s₀ h₀=>?_) fun _ _ h'=>h')
   refine jd (wpAny_mono h₀ (fun _ s₂ h₂=>jd (wpAny_mono h₂ (fun ok s₃ h₃=>?_) fun _ _ h'=>h')) fun _ _ h'=>h')
   cases ok with
   | false=>exact wpAny_pure ⟨rfl,h₃⟩
   | true =>
     exact jd (jd (wpAny_mono h₃ (fun x s₄ h₄=>jd (wpAny_mono h₄ (fun _ s₅ h₅=>wpAny_pure (wpAny_pure ⟨rfl,h₅⟩)) fun _ _ h'=>h')) fun _ _ h'=>h'))
end
def Hl(X:Cx)(ifs:List Expr)(t:TT):Prop :=
 ∀(pq:bq) (s:Shared) (σ:St) (H:Hp) (Q:Bool->Hp->Prop),Inv X pq σ H s->t σ H Q->wpAny (model X.prog X.w) X.A (yj ifs X.env) (TP X pq σ Q) X.xe s
def Ho:TT:=fun _ H Q=>Q true H
theorem gG{X:Cx}:Hl X [] Ho:=fun _ _ _ H _ I h=>wpAny_tests_nil ⟨H,I,h⟩
theorem gH{X:Cx}{c:Expr}{t:TT}(h:PT X c t):Hl X [c] t:=fun pq s σ H Q I q=>wpAny_tests_one (h pq s σ H Q I q)
def jg(J:It)(g:TG)(tt:TT)(te:TE)(n:Nat)(fr:St)(D:Addr)(Q:Hp->Prop)(H1:Hp):Prop :=
 ∃ W:Nat->Nat->List V->Hp->Prop,(∃ m,W 0 m [] H1)/\∀ i m acc H,W i m acc H->H D=some (.lst acc)/\
   ((J.stop i H/\Q H)\/(J.go i H/\acc.length<sizeLine/\∃ N:List V->Hp->Prop,(∀ acc' H',N acc' H'->∃ m',m'<m/\W (i+1) m' acc' H')/\
     ∀ x H',J.DR i H x H'->g x (List.replicate n none++fr) H' fun σ2 H2=>σ2.drop n=fr/\tt σ2 H2 fun b H3 =>
     if b=true then te σ2 H3 fun v H4=>H4 D=some (.lst acc)/\N (acc++[v]) (upd H4 D (.lst (acc++[v])))
     else N acc H3))
def DY(wi:TI)(g:TG)(tt:TT)(te:TE)(n:Nat)(js:List Nat):TE:=fun σ H Q=>wi σ H fun J H1=>∀ D,H1 D=none->jg J g tt te n (jB σ js) D (fun H2=>Q (.ref D) H2) (upd H1 D (.lst []))
structure DZ(A:Around)(cm:Bool)(P:Program)(w:World)(K:bF)(tg:Expr)(J:It)(fp:List Addr)(it:Addr)(tn:Nat->Heap->Prop):Prop where
 mem:it∈fp
 obj:∀ i h,tn i h->∀ b∈fp,∃ o,h.get? b=some o/\∀ v,o.data≠.cell v
 keep:∀ i h h',tn i h->(∀ b∈fp,∀ o,h.get? b=some o->h'.get? b=some o)->tn i h'
 item:∀(X:Cx),X.prog=P->X.w=w->X.K=K->X.A=A->X.calm=cm->∀(i:Nat) (pq:bq) (s:Shared) (σ:St) (H:Hp) (E:iB),Inv X pq σ H s->(∀ b∈fp,lW X pq H b)->tn i s.heap->J.go i H->
  wpAny (model P w) X.A (pyNext (.ref it)) (fun r s1=>∃ u,r=some u/\
   wpAny (model P w) X.A (letOwnedTupleGo tg (.ref it) u) (fun _ s2=>∃ x H',Inv X pq σ H' s2/\RelV x u/\J.DR i H x H'/\tn (i+1) s2.heap/\∀ b∈fp,H' b=none) E s1) E s
 done:∀(X:Cx),X.prog=P->X.w=w->X.K=K->X.A=A->X.calm=cm->∀(i:Nat) (pq:bq) (s:Shared) (σ:St) (H:Hp) (E:iB),Inv X pq σ H s->(∀ b∈fp,lW X pq H b)->tn i s.heap->J.stop i H->
  wpAny (model P w) X.A (pyNext (.ref it)) (fun r s1=>r=none/\Inv X pq σ H s1) E s
 self:∀(A:Around) (i:Nat) (s:Shared) (Q:iB) (E:iB),tn i s.heap->Q (.ref it) s->wpAny (model P w) A (pyIter (.ref it)) Q E s
theorem Turn.x{A:Around}{cm:Bool}{P:Program}{w:World}{K:bF}{tg:Expr}{J:It}{fp:List Addr}{it:Addr}{tn:Nat->Heap->Prop}(T:Turn P w K tg J fp it tn)(hc:cm=true):DZ A cm P w K tg J fp it tn :=
 ⟨T.mem,T.obj,T.keep,fun X a b c _ d=>T.item X a b c (d.trans hc),fun X a b c _ d=>T.done X a b c (d.trans hc),T.self⟩
section
variable {X:Cx}{elt iter tg:Expr}{ifs:List Expr}{scope:Scope}{pos:Pos}{own fq:List Str}{js:List Nat}{wi:TI}{g:TG}{tt:TT}{te:TE}
theorem ql{pq:bq}{σ:St}{H2:Hp}{s2:Shared}{it:Addr}{fp:List Addr}{tn:Nat->Heap->Prop}{J:It}{E:iB}{RR:Value->Addr->Result->Shared->Prop}{QQ:Addr->Hp->Prop}
 (T:jf X scope own fq js)
 (hg:∀ C s H fp,PG (cL X (own++fq) scope (fun _ _=>False) C s H fp) tg g)
 (ht:∀ C s H fp,Hl (cL X (own++fq) scope (fun _ _=>False) C s H fp) ifs tt)
 (he:∀ C s H fp,PE (cL X (own++fq) scope (fun _ _=>False) C s H fp) elt te)
 (I2:Inv X pq σ H2 s2) (Aq:DZ X.A X.calm X.prog X.w X.K tg J fp it tn) (st2:tn 0 s2.heap) (f2:∀ b∈fp,lW X pq H2 b)
 (hl:∀ D,H2 D=none->jg J g tt te own.length (jB σ js) D (QQ D) (upd H2 D (.lst [])))
 (hRR:∀ D C σ' H' s',s2.heap.objs.size<=C->Inv (cL X (own++fq) scope (fun _ _=>False) C s2 H2 fp) [] σ' H' s'->QQ D H'->RR (.ref D) C (.ok .next) s') :
 wpAny (model X.prog X.w) X.A (newList []) (fun acc s₃=>wpAny (model X.prog X.w) X.A (newFunctionEnv scope X.env.globals (fh X.env.cells scope.names []) [] X.env.qual none .none (some X.env)) (fun cenv s₄ =>
  codeAny (model X.prog X.w) X.A (.compStart (.ListComp elt [⟨tg,iter,ifs,0⟩] scope pos) 0 (.ref it) acc { cenv with scope:=relabel scope X.env}) (RR acc cenv.locals) s₄) E s₃) E s2:=by
 refine wpAny_newObj_type (wpAny_newFunctionEnv T.AM (by intro y hy;simp at hy) (fun h₁ E2 CW=>?_) T.kind)
 dsimp only at E2 CW ⊢;generalize Ld:s2.heap.push { cls:=.type "list",dict:=none,data:=.seq ([]:List Value).toArray}=G2 at E2 CW ⊢;have hC:G2.objs.size=s2.heap.objs.size+1:=by rw[<-Ld,Heap.size_push]
 have hDC:s2.heap.objs.size≠G2.objs.size:=by rw[hC];exact Nat.ne_of_lt (Nat.lt_succ_self _)
 have Hq:s2.heap.objs.size<=G2.objs.size:=by rw[hC];exact Nat.le_succ _
 have below:∀ b,b<s2.heap.objs.size->b≠G2.objs.size:=fun b hb=>by rw[hC];exact Nat.ne_of_lt (Nat.lt_succ_of_lt hb)
 have old:∀ b o,s2.heap.get? b=some o->h₁.get? b=some o:=fun b o e=>CW.extBut b o (below b (Heap.lt_size e)) (Heap.get?_push_of_some _ (Ld▸Heap.get?_push_of_some _ e))
 have hacc:h₁.get? s2.heap.objs.size=some { cls:=.type "list",data:=.seq ([]:List Value).toArray 0}:=CW.extBut _ _ hDC (Heap.get?_push_of_some _ (Ld▸Heap.get?_push_size _ rfl));have Le:∀ b∈fp,∃ o,s2.heap.get? b=some o:=fun b hb=>let⟨o,e,_⟩:=Aq.obj _ _ st2 b hb;⟨o,e⟩
 have st1:tn 0 h₁:=Aq.keep _ _ _ st2 fun b _ o e=>old b o e
 obtain⟨W,⟨m0,w0⟩,turn⟩:=hl s2.heap.objs.size (I2.hok.fresh (Nat.le_refl _));have hfx:∀{H' : Hp},(∀ b∈fp,H' b=none)->∀ b∈fp,lW (cL X (own++fq) scope (fun _ _=>False) G2.objs.size s2 H2 fp) [] H' b:=fun {H'} hn b hb=>by
  obtain⟨_,f1,R6,_,f4,_⟩:=f2 b hb;obtain⟨o,ho⟩:=Le b hb;refine⟨hn b hb,below b (Heap.lt_size ho),fun z=>?_,.inl hb,fun x c e=>?_,fun p hp=>absurd (show p∈([]:bq) from hp) (by simp)⟩
  ·rcases List.mem_cons.mp (I2.p5 b z) with q|q
   ·exact f1 q
   ·exact R6 q
  ·rcases kj (show(fh X.env.cells scope.names []).lookup x=some c from e) with q|⟨q1,q2⟩
   ·cases q
   ·obtain⟨c',hc'⟩:=jC I2 T x .free q1 rfl;rw[hc']at q2;have q2:c' = c:=q2;rw[<-q2];exact f4 x c' hc'
 have R7:∀ b∈fp,upd H2 s2.heap.objs.size (.lst []) b=none:=fun b hb=>by
  obtain⟨o,ho⟩:=Le b hb;rw[aL (Nat.ne_of_lt (Heap.lt_size ho))];exact(f2 b hb).1
 have back:∀{σ6:St} {p6:bq} {H6:Hp} {s6:Shared},Inv (cL X (own++fq) scope (fun _ _=>False) G2.objs.size s2 H2 fp) p6 σ6 H6 s6->σ6.drop own.length=jB σ js->
  Inv (cL X (own++fq) scope (fun _ _=>False) G2.objs.size s2 H2 fp) [] (List.replicate own.length none++jB σ js) H6 s6:=fun {σ6 p6 H6 s6} I6 hd=>by
  have R8:σ6.length=(own++fq).length:=I6.len;have J6:=I6.pN (p7:=[]) fun p hp=>absurd hp (by simp)
  refine J6.weak ?_ fun i v e=>?_
  ·have q:=congrArg List.length hd;rw[List.length_drop]at q;rw[List.length_append]at R8;rw[List.length_append,List.length_replicate]
   lia
  ·by_cases hi:i<own.length
   ·rw[List.getElem?_append_left (by simpa using hi),List.getElem?_replicate,if_pos hi]at e
    cases e
   ·rw[List.getElem?_append_right (by simpa using hi),List.length_replicate,<-hd,List.getElem?_drop]at e
    rw[show own.length+(i-own.length)=i by lia]at e
    exact e
 have loop:∀ s₃:Shared,s₃={ s2 with heap:=h₁,toks:=s2.toks+([]:List (Str×Value)).length}->
  codeAny (model X.prog X.w) X.A (.compLoop (.ListComp elt [⟨tg,iter,ifs,0⟩] scope pos) 0 (.ref it) (.ref s2.heap.objs.size) (compEnvC scope (fh X.env.cells scope.names []) G2.objs.size X.env))
   (RR (.ref s2.heap.objs.size) G2.objs.size) s₃:=by
  rintro s₃ rfl;refine uu (fun n s'=>∃ i acc H',Inv (cL X (own++fq) scope (fun _ _=>False) G2.objs.size s2 H2 fp) [] (List.replicate own.length none++jB σ js) H' s'/\tn i s'.heap/\(∀ b∈fp,H' b=none)/\W i n acc H') ?_ m0
   ⟨0,[],upd H2 s2.heap.objs.size (.lst []),AN I2 T f2 Le (Nat.le_refl _) Hq hDC old hacc E2,st1,R7,w0⟩
  rintro n s3 ⟨i,acc,H3,I3,st3,DT,w3⟩;obtain⟨Cu,Hr⟩:=turn i n acc H3 w3;rcases Hr with⟨stop,qn⟩|⟨go,hz,NN,Qj,step⟩
  ·refine wpAny_mono (Aq.done (cL X (own++fq) scope (fun _ _=>False) G2.objs.size s2 H2 fp) rfl rfl rfl rfl rfl i [] s3 _ H3 (fun _ _=>False) I3 (hfx DT) st3 stop) (fun r s4 ⟨hr,I4⟩=>?_) fun _ _ z=>z.elim
   subst hr;exact hRR _ _ _ H3 s4 Hq I4 qn
  ·refine wpAny_mono (Aq.item (cL X (own++fq) scope (fun _ _=>False) G2.objs.size s2 H2 fp) rfl rfl rfl rfl rfl i [] s3 _ H3 (fun _ _=>False) I3 (hfx DT) st3 go) (fun r s4 ⟨u,hr,h4⟩=>?_) fun _ _ z=>z.elim
   subst hr;refine wpAny_mono h4 (fun _ s5 ⟨x,H5,I5,r5,y5,Ay,GS⟩=>?_) fun _ _ z=>z.elim
   have GU:=I5.pinned (hfx GS) (Aq.obj _ _ Ay);refine wpAny_mono (hg _ _ _ _ _ s5 _ H5 x u _ GU r5 (step x H5 y5)) (fun _ s6 ⟨σ6,H6,I6,Qk,q6⟩=>?_) fun _ _ z=>z.elim
   refine wpAny_mono (ht _ _ _ _ _ s6 σ6 H6 _ I6 q6) (fun ok s7 ⟨H7,I7,q7⟩=>?_) fun _ _ z=>z.elim
   have again:∀{H8:Hp} {s8:Shared},Inv (cL X (own++fq) scope (fun _ _=>False) G2.objs.size s2 H2 fp) ([]++nM fp s5.heap) σ6 H8 s8->tn (i+1) s8.heap/\∀ b∈fp,H8 b=none:=fun {H8 s8} I8=>by
    refine⟨Aq.keep _ _ _ Ay fun b hb o e=>(I8.pin (b,o) (ve _ (ve _ (fJ hb e)))).1,fun b hb=>?_⟩
    obtain⟨o,e,d⟩:=Aq.obj _ _ Ay b hb;exact(I8.pin (b,o) (ve _ (ve _ (fJ hb e)))).2.1
   cases ok with
   | false =>
     rw[if_neg Bool.false_ne_true];obtain⟨m',hm,w7⟩:=Qj _ _ q7;obtain⟨t7,n7⟩:=again I7;exact⟨m',hm,i+1,acc,H7,back I7 Qk,t7,n7,w7⟩
   | true =>
     rw[if_pos rfl];refine wpAny_mono (he _ _ _ _ _ s7 σ6 H7 _ I7 q7) (fun xv s8 ⟨v,H8,I8,r8,R9,q8⟩=>?_) fun _ _ z=>z.elim
     obtain⟨m',hm,w8⟩:=Qj _ _ q8;refine wpAny_mono (dS (X:=cL X (own++fq) scope (fun _ _=>False) G2.objs.size s2 H2 fp) _ s8 σ6 H8 (.ref s2.heap.objs.size) [v] (.ref s2.heap.objs.size) [xv] (fun y H9=>y = .fH/\H9=upd H8 s2.heap.objs.size (.lst (acc++[v]))) I8 rfl (.cons r8 .nil) ⟨_,acc,v,rfl,rfl,R9,hz,rfl,rfl⟩)
      (fun _ s9 ⟨y,H9,I9,_,_,e9⟩=>?_) fun _ _ z=>z.elim
     subst e9;obtain⟨t9,n9⟩:=again I9;exact⟨m',hm,i+1,acc++[v],_,back I9 Qk,t9,n9,w8⟩
 exact codeAny_compStart_list (loop _ rfl) (Aq.self _ 0 _ _ _ st1 (loop _ rfl))
theorem dU(T:jf X scope own fq js)(hc:X.calm=true)(hi:PI X tg iter wi)
 (hg:∀ C s H fp,PG (cL X (own++fq) scope (fun _ _=>False) C s H fp) tg g)
 (ht:∀ C s H fp,Hl (cL X (own++fq) scope (fun _ _=>False) C s H fp) ifs tt)
 (he:∀ C s H fp,PE (cL X (own++fq) scope (fun _ _=>False) C s H fp) elt te)
 (hs:∀ x,foldedSetIterable iter X.env x=pure x:=by intro _;rfl) :
 PE X (.ListComp elt [⟨tg,iter,ifs,0⟩] scope pos) (DY wi g tt te own.length js):=by
 intro pq s σ H Q I h;rw[eval_ListComp];refine wpAny_comprehension_free (use:=none) rfl hs (qk (jC I T)) T.kind T.names ?_;refine wpAny_mono (hi pq s σ H _ I h) (fun v s1 h1=>wpAny_mono h1 (fun itv s2 h2=>?_) fun _ _ z=>z) fun _ _ z=>z
 obtain⟨it,fp,tn,J,H2,e,I2,Aq,st2,f2,hl⟩:=h2;subst e;refine ql (QQ:=fun D H'=>Q (.ref D) H') T hg ht he I2 (Aq.x hc) st2 f2 hl fun D C σ' H' s' hC J' q=>?_
 obtain⟨m,hn,_⟩:=J'.loc;exact⟨m,hn,fun h' sb=>⟨.ref D,H',lF I2 f2 hC J' sb,rfl,q⟩⟩
def AO(i:Nat)(wi:TI)(g:TG)(tt:TT)(te:TE)(n:Nat)(js:List Nat):TS:=fun D σ H=>DY wi g tt te n js σ H fun v H1=>D.nx (σ.set i (some v)) H1
theorem mS{i:Nat}{x:Str}{pos' spos:Pos}(hN:X.N.Nodup)(hix:X.N[i]?=some x)(hx:X.env.scope.names.lookup x=some .local)(T:jf X scope own fq js)(hc:X.calm=true)(hi:PI X tg iter wi)
 (hg:∀ C s H fp,PG (cL X (own++fq) scope (fun _ _=>False) C s H fp) tg g)
 (ht:∀ C s H fp,Hl (cL X (own++fq) scope (fun _ _=>False) C s H fp) ifs tt)
 (he:∀ C s H fp,PE (cL X (own++fq) scope (fun _ _=>False) C s H fp) elt te)
 (hsw:swapsWith (.ListComp elt [⟨tg,iter,ifs,0⟩] scope pos) (some (.Name x pos')) spos.line X.env=pure true:=by rfl)
 (hs:∀ x,foldedSetIterable iter X.env x=pure x:=by intro _;rfl) :
 PS X (.Assign [.Name x pos'] (.ListComp elt [⟨tg,iter,ifs,0⟩] scope pos) spos) (AO i wi g tt te own.length js):=by
 intro pq s σ H D I h;rw[exec_Assign_Name_used _ _ _ _ hsw];refine jd (wpAny_standAt (jd ?_));show wpAny _ X.A (do let _←comprehension (.ListComp elt [⟨tg,iter,ifs,0⟩] scope pos) scope X.env _ (newList []) false (eval iter X.env) (some (assign (.Name x pos') X.env))) _ _ s
 refine jd (wpAny_mono (wpAny_comprehension_free (use:=some (assign (.Name x pos') X.env)) (Q:=fun _ s'=>SP X pq D .next s') rfl hs (qk (jC I T)) T.kind T.names ?_) (fun _ s' hq=>wpAny_pure (wpAny_pure hq)) fun _ _ e=>e)
 refine wpAny_mono (hi pq s σ H _ I h) (fun v s1 h1=>wpAny_mono h1 (fun itv s2 h2=>?_) fun _ _ z=>z) fun _ _ z=>z
 obtain⟨it,fp,tn,J,H2,e,I2,Aq,st2,f2,hl⟩:=h2;subst e;refine ql (QQ:=fun D' H'=>D.nx (σ.set i (some (.ref D'))) H') T hg ht he I2 (Aq.x hc) st2 f2 hl fun D' C σ' H' s' hC J' q=>?_
 have I3:Inv X pq σ H' s':=by
  obtain⟨hh,gg,dd,VB,oo⟩:=s';exact lF I2 f2 hC J' (Heap.SameBut.refl ..)
 obtain⟨m,hn,_⟩:=J'.loc;obtain⟨oC,es,ep,Sa,Ql,rest⟩:=id hn;have EZ:H' C=none:=J'.free;have Qm:C≠X.env.locals:=Nat.ne_of_gt (Nat.lt_of_lt_of_le I2.lt hC);have Sb:C∉X.fs:=fun z=>by
  obtain⟨_,o,ho,_⟩:=I2.funs.mem z;exact absurd (Nat.lt_of_lt_of_le (Heap.lt_size ho) hC) (Nat.lt_irrefl _)
 have I4:Inv X (pq++[(C,oC)]) σ H' s':=I3.pN fun p hp=>(List.mem_append.mp hp).elim (fun z=>I3.pin p (ve _ z)) fun z=>by
  have e:p=(C,oC):=by simpa using z
  subst e;exact⟨Sa,EZ,Qm,Sb,fun v z=>by have z' : oC.data = .cell v:=z;rw[Ql]at z';cases z'⟩
 show wpAny _ X.A (assign (.Name x pos') X.env (.ref D')) _ _ _;refine wpAny_assign_Name (kc (v:=.ref D') I4 hN hix (.inl hx) rfl (fun s5 I5=>?_) (.inr hx))
 have e5:s5.heap.get? C=some oC:=(I5.pin (C,oC) (ve _ (ve _ (by simp)))).1
 refine⟨m,⟨oC,es,ep,e5,Ql,rest⟩,fun h' sb=>⟨_,H',?_,q⟩⟩
 have I6:Inv X pq (σ.set i (some (.ref D'))) H' s5:=I5.gX;refine I6.turned (t':=s5.toks) (fun b o hb e=>(sb.2 b hb).trans e) EZ Qm (.inr (Nat.le_trans I2.sz hC)) (fun y c e=>?_) (fun p hp z=>?_)
 ·obtain⟨v,qc⟩:=I2.cell y c e;exact Nat.ne_of_lt (Nat.lt_of_lt_of_le qc.lt hC)
 ·have Hs:=(I2.pin p hp).1;exact absurd (Nat.lt_of_lt_of_le (Heap.lt_size Hs) (by rw[z];exact hC)) (Nat.lt_irrefl _)
end
section
variable {K:bF}{a:Addr}{xs:List V}{g:TG}{tt:TT}{te:TE}{n:Nat}{fr:St}{D:Addr}{Q:Hp->Prop}{H1:Hp}
theorem fL(Pv:Nat->List V->Hp->Prop)(h0:Pv 0 [] H1)(hl:∀ i acc H,i<=xs.length->Pv i acc H->bg K H a xs/\H D=some (.lst acc)/\acc.length<=i)(hz:xs.length<=sizeLine)
 (hs:∀ i x acc H,xs[i]?=some x->Pv i acc H->g x (List.replicate n none++fr) H fun σ2 H2=>σ2.drop n=fr/\tt σ2 H2 fun b H3 =>
  if b=true then te σ2 H3 fun v H4=>H4 D=some (.lst acc)/\Pv (i+1) (acc++[v]) (upd H4 D (.lst (acc++[v]))) else Pv (i+1) acc H3)
 (hd:∀ acc H,Pv xs.length acc H->Q H):jg (CF K a) g tt te n fr D Q H1:=by
 refine⟨fun i m acc H=>m=xs.length-i/\i<=xs.length/\Pv i acc H,⟨xs.length,by simp,Nat.zero_le _,h0⟩,?_⟩
 rintro i m acc H ⟨rfl,hi,p⟩;obtain⟨q,hD,ha⟩:=hl i acc H hi p;refine⟨hD,?_⟩
 by_cases hlt:i<xs.length
 ·refine .inr ⟨⟨xs,xs[i],q,by simp[hlt]⟩,by lia,Pv (i+1),fun acc' H' p'=>⟨xs.length-(i+1),by lia,rfl,hlt,p'⟩,fun x H' y=>?_⟩
  obtain⟨e,y⟩:=y;subst e;exact hs i x acc _ (y xs q) p
 ·have e:i=xs.length:=by lia
  subst e;exact .inl ⟨⟨xs,q,Nat.le_refl _⟩,hd acc H p⟩
theorem vp(Pv:Nat->List V->Hp->Prop)(h0:Pv 0 [] H1)(hl:∀ i acc H,i<=xs.length->Pv i acc H->cE K H a xs/\H D=some (.lst acc)/\acc.length<=i)(hz:xs.length<=sizeLine)
 (hs:∀ i x acc H,xs[i]?=some x->Pv i acc H->g x (List.replicate n none++fr) H fun σ2 H2=>σ2.drop n=fr/\tt σ2 H2 fun b H3 =>
  if b=true then te σ2 H3 fun v H4=>H4 D=some (.lst acc)/\Pv (i+1) (acc++[v]) (upd H4 D (.lst (acc++[v]))) else Pv (i+1) acc H3)
 (hd:∀ acc H,Pv xs.length acc H->Q H):jg (KS K a) g tt te n fr D Q H1:=by
 refine⟨fun i m acc H=>m=xs.length-i/\i<=xs.length/\Pv i acc H,⟨xs.length,by simp,Nat.zero_le _,h0⟩,?_⟩
 rintro i m acc H ⟨rfl,hi,p⟩;obtain⟨q,hD,ha⟩:=hl i acc H hi p;refine⟨hD,?_⟩
 by_cases hlt:i<xs.length
 ·refine .inr ⟨⟨xs,xs[i],q,by simp[hlt]⟩,by lia,Pv (i+1),fun acc' H' p'=>⟨xs.length-(i+1),by lia,rfl,hlt,p'⟩,fun x H' y=>?_⟩
  obtain⟨e,y⟩:=y;subst e;exact hs i x acc _ (y xs q) p
 ·have e:i=xs.length:=by lia
  subst e;exact .inl ⟨⟨xs,q,Nat.le_refl _⟩,hd acc H p⟩
theorem eF{lo:Int}{m:Nat}(Pv:Nat->List V->Hp->Prop)(h0:Pv 0 [] H1)(hl:∀ i acc H,i<=m->Pv i acc H->H D=some (.lst acc)/\acc.length<=i)(hz:m<=sizeLine)
 (hs:∀ i acc H,i<m->Pv i acc H->g (.int (lo+i)) (List.replicate n none++fr) H fun σ2 H2=>σ2.drop n=fr/\tt σ2 H2 fun b H3 =>
  if b=true then te σ2 H3 fun v H4=>H4 D=some (.lst acc)/\Pv (i+1) (acc++[v]) (upd H4 D (.lst (acc++[v]))) else Pv (i+1) acc H3)
 (hd:∀ acc H,Pv m acc H->Q H):jg (Ax lo m) g tt te n fr D Q H1:=by
 refine⟨fun i k acc H=>k=m-i/\i<=m/\Pv i acc H,⟨m,by simp,Nat.zero_le _,h0⟩,?_⟩
 rintro i k acc H ⟨rfl,hi,p⟩;obtain⟨hD,ha⟩:=hl i acc H hi p;refine⟨hD,?_⟩
 by_cases hlt:i<m
 ·refine .inr ⟨hlt,by lia,Pv (i+1),fun acc' H' p'=>⟨m-(i+1),by lia,rfl,hlt,p'⟩,fun x H' y=>?_⟩
  obtain⟨e,y⟩:=y;subst e y;exact hs i acc _ hlt p
 ·have e:i=m:=by lia
  subst e;exact .inl ⟨Nat.le_refl _,hd acc H p⟩
end
def vq(scope Ht:Scope)(N fq:List Str)(js:List Nat):Bool :=
 decide (scope.kind = .function)&&scope.names.all (fun y=>decide (y.2≠.cell))&&scope.names.all (fun y=>decide (y.2 = .local->scope.names.lookup y.1=some .local)) &&
 scope.names.all (fun y=>decide (y.2 = .free->Ht.names.lookup y.1=some .cell\/Ht.names.lookup y.1=some .free))&&decide (js.map (fun j=>N[j]?)=fq.map some)&&fq.all (fun x=>decide (scope.names.lookup x=some .free))
theorem aQ{X:Cx}{scope:Scope}{own fq:List Str}{js:List Nat}(Ht:Scope)(N:List Str)(h1:X.env.scope=Ht:=by rfl)(h2:X.N=N:=by rfl)(h:vq scope Ht N fq js=true:=by decide +kernel):jf X scope own fq js:=by
 unfold vq at h;simp only[Bool.and_eq_true,decide_eq_true_eq,List.all_eq_true]at h;obtain⟨⟨⟨⟨⟨a,b⟩,c⟩,d⟩,e⟩,f⟩:=h;exact⟨a,b,c,by rw[h1];exact d,by rw[h2];exact e,f⟩
mutual
inductive mT(K:bF)(H:Hp):V->PyData->Prop
 | fH:mT K H .fH .none
 | bl (b:Bool):mT K H (.bl b) (.bool b)
 | int (i:Int):mT K H (.int i) (.int i)
 | str (x:Str):mT K H (.str x) (.str x)
 | lst {a:Addr} {xs:List V} {ds:List PyData} (h:bg K H a xs) (r:DatVs K H xs ds):mT K H (.ref a) (.list ds)
 | tup {a:Addr} {xs:List V} {ds:List PyData} (h:cE K H a xs) (r:DatVs K H xs ds):mT K H (.ref a) (.tuple ds)
inductive DatVs(K:bF)(H:Hp):List V->List PyData->Prop
 | nil:DatVs K H [] []
 | cons {x:V} {d:PyData} {xs:List V} {ds:List PyData} (h:mT K H x d) (r:DatVs K H xs ds):DatVs K H (x::xs) (d::ds)
end
section
variable {X:Cx}{pq:bq}{σ:St}{H:Hp}{s:Shared}
mutual
theorem mT.reads(I:Inv X pq σ H s):∀{v:V} {d:PyData} {u:Value},mT X.K H v d->RelV v u->∃ as,Reads s.heap u d as
 | _,_,u,.fH,r=>by cases(show u=Value.none from r);exact⟨_,.none⟩
 | _,_,u,.bl b,r=>by cases(show u=Value.bool b from r);exact⟨_,.bool b⟩
 | _,_,u,.int i,r=>by obtain⟨t,rfl⟩:=(show ∃ t,u=Value.int i t from r);exact⟨_,.int i t⟩
 | _,_,u,.str x,r=>by obtain⟨t,rfl⟩:=(show ∃ t,u=Value.str x t from r);exact⟨_,.str x t⟩
 | _,_,u,.lst (a:=a) h rs,r=>by
   cases(show u=Value.ref a from r)
   obtain⟨its,rv,⟨o,n,e,c,_,d⟩,_⟩:=I.list h;obtain⟨as,q⟩:=DatVs.reads I rs rv;exact⟨_,.list e c d (by simpa using q)⟩
 | _,_,u,.tup (a:=a) h rs,r=>by
   cases(show u=Value.ref a from r)
   obtain⟨its,rv,⟨o,e,c,n,d⟩,_⟩:=I.tuple h;obtain⟨as,q⟩:=DatVs.reads I rs rv;exact⟨_,.tuple e c d (by simpa using q)⟩
theorem DatVs.reads(I:Inv X pq σ H s):∀{vs:List V} {ds:List PyData} {us:List Value},DatVs X.K H vs ds->Vals vs us->∃ as,ReadsAll s.heap us ds as
 | _,_,_,.nil,.nil=>⟨_,.nil⟩
 | _,_,_,.cons h r,.cons rv rr=>by
   obtain⟨as,q⟩:=mT.reads I h rv;obtain⟨bs,q2⟩:=DatVs.reads I r rr;exact⟨_,.cons q q2⟩
end
end
section
variable {X:Cx}
def Hu(K:bF):R2:=fun x y H Q=>∃ d e,mT K H x d/\mT K H y e/\SeqAt.shaped d=true/\SeqAt.shaped e=true/\Q (.bl (PyData.eqv d e)) H
def Hv(K:bF):R2:=fun x y H Q=>∃ d e,mT K H x d/\mT K H y e/\SeqAt.shaped d=true/\SeqAt.shaped e=true/\Q (.bl (!PyData.eqv d e)) H
theorem E3(hu:X.A.units+64<cLine):lB X (compareOp .Eq) (Hu X.K):=by
 intro pq s σ H x y v u Q I rx ry h;obtain⟨d,e,h1,h2,s1,s2,q⟩:=h;obtain⟨as,ra⟩:=h1.reads I rx;obtain⟨bs,rb⟩:=h2.reads I ry;exact eq_dataH ra rb s1 s2 hu ⟨.bl _,H,I,rfl,q⟩
theorem E4(hu:X.A.units+64<cLine):lB X (compareOp .NotEq) (Hv X.K):=by
 intro pq s σ H x y v u Q I rx ry h;obtain⟨d,e,h1,h2,s1,s2,q⟩:=h;obtain⟨as,ra⟩:=h1.reads I rx;obtain⟨bs,rb⟩:=h2.reads I ry;exact ne_dataH ra rb s1 s2 hu ⟨.bl _,H,I,rfl,q⟩
def E5:V->Option Value
 | .ty n=>some (.type n)
 | .ref a=>some (.ref a)
 | _=>none
theorem yk{c:V}{u w:Value}(h:E5 c=some u)(r:RelV c w):w=u:=by
 cases c with
 | ty n=>exact(show w=Value.type n from r).trans (Option.some.inj h)
 | ref a=>exact(show w=Value.ref a from r).trans (Option.some.inj h)
 | _=>cases h
def Hw(K:bF):List V->Hp->VK->Prop:=fun xs H Q=>∃ x c t u b,xs=[x,c]/\E5 c=some u/\nQ K H x t/\PySem.W.kitOne K t u=some b/\Q (.bl b) H
theorem AQ:gn X (.builtin "isinstance") (Hw X.K):=by
 intro pq s σ H xs us Q I r h;obtain⟨x,c,t,u,b,rfl,rc,ty,e,q⟩:=h;cases r with
 | cons r1 r2 =>
   cases r2 with
   | cons r2 r3 =>
     cases r3;cases yk rc r2;exact zz I r1 ty e fun tk=>⟨.bl b,H,I.tok tk,rfl,q⟩
theorem E6(K:bF):PySem.W.kitOne K (.type "int") (.type "int")=some true:=by with_unfolding_all rfl
theorem E7(K:bF):PySem.W.kitOne K (.type "int") (.type "bool")=some false:=by with_unfolding_all rfl
theorem E8(K:bF):PySem.W.kitOne K (.type "list") (.type "list")=some true:=by with_unfolding_all rfl
theorem yl:K3 X "int.bit_length" (fun x xs H Q=>∃ i,x = .int i/\xs=[]/\Q (.int (Builtin.Int.intBits i)) H):=by
 intro pq s σ H x xs v us Q I rx rs h;obtain⟨i,rfl,rfl,q⟩:=h;obtain⟨t,rfl⟩:=rx;cases rs;exact call_int_bit_length ⟨.int _,H,I.tok _,⟨_,rfl⟩,q⟩
theorem CY{x:Str}{v:Int}{pos:Pos}(hg:Gl X x)(h:∃ t,X.mg x=some (.int v t))(hd:(x==("__debug__":Str))=false:=by decide):PE X (.Name x pos) (tC (.int v)):=by
 obtain⟨t,e⟩:=h;exact x6 hg e ⟨t,rfl⟩ hd
end
theorem dl{n:Nat}(h:Nat.ble n 1000=true):n<=sizeLine:=Nat.le_of_lt (eK (Nat.le_of_ble_eq_true h))
theorem lY{j:Int}(h:decide (0<j)=true):0<j:=Am h
theorem zE{c A B:Prop}[Decidable c](h : ¬ c)(hb:B):if decide c=true then A else B:=by
 rw[j9 h];exact fK hb
theorem vt{c A B:Prop}[Decidable c](h:c)(ha:A):if decide c=true then A else B:=by
 rw[gC h];exact ki ha
theorem ao.new{H:Hp}{p:Addr}{o:HO}(h:H p=none):ao H (upd H p o):=fun b u e=>by
 rw[aL (bS e h)];exact e
theorem ao.put{H H2:Hp}{D:Addr}{o:HO}(s:ao H H2)(h:H D=none):ao H (upd H2 D o):=fun b u e=>by
 rw[aL (bS e h)];exact s b u e
def nS(H H' : Hp):Prop:=∀ b xs,H b=some (.tup xs)->H' b=some (.tup xs)
theorem ao.tups{H H' : Hp}(s:ao H H'):nS H H':=fun b xs e=>s b _ e
theorem nS.trans{H H1 H2:Hp}(a:nS H H1)(b:nS H1 H2):nS H H2:=fun c xs e=>b c xs (a c xs e)
theorem nS.put{H:Hp}{D:Addr}{o:HO}{ys:List V}(h:H D=some (.lst ys)):nS H (upd H D o):=fun b xs e=>by
 rw[aL (GB e h (by intro z;cases z))]
 exact e
theorem Paired.rR{α β:Type}{F:α->β->Prop}:∀{l:List α} {r:List β} {i:Nat} {x:α},Paired F l r->l[i]?=some x->∃ y,r[i]?=some y/\F x y
 | _,_,_,_,.nil,e=>by simp at e
 | _,_,0,_,.cons h _,e=>by
   simp at e;subst e;exact⟨_,rfl,h⟩
 | _,_,i+1,x,.cons _ t,e=>by
   obtain⟨y,h1,h2⟩:=Paired.rR (i:=i) (x:=x) t (by simpa using e)
   exact⟨y,by simpa using h1,h2⟩
section
variable {X:Cx}{l:Expr}{tl:TE}{tg a b o e:Expr}{ta tb to:TE}{es:List Expr}
theorem AR(K:bF)(hu:X.A.units+64<cLine)(h:X.K=K:=by rfl):lB X (compareOp .Eq) (Hu K):=by subst h;exact E3 hu
theorem E9(K:bF)(hu:X.A.units+64<cLine)(h:X.K=K:=by rfl):lB X (compareOp .NotEq) (Hv K):=by subst h;exact E4 hu
theorem Fb(K:bF)(h:X.K=K:=by rfl):gn X (.builtin "isinstance") (Hw K):=by subst h;exact AQ
def Lf(K:bF):List V->Hp->VK->Prop:=fun xs H Q=>∃ p ys,xs=[.ref p]/\(bg K H p ys\/cE K H p ys)/\Q (.int ys.length) H
theorem iC(K:bF)(h:X.K=K:=by rfl):gn X (.builtin "len") (Lf K):=by subst h;exact um
def Hx(K:bF):List V->Hp->VK->Prop:=fun xs H Q=>∃ p ys,xs=[.ref p]/\(bg K H p ys\/cE K H p ys)/\∀ l,H l=none->Q (.ref l) (upd H l (.lst ys))
theorem D0(K:bF)(h:X.K=K:=by rfl):gn X (.type "list") (Hx K):=by subst h;exact uo
def Hy(K:bF):List V->Hp->VK->Prop:=fun xs H Q=>∃ p ys,xs=[.ref p]/\((bg K H p ys/\∀ l,H l=none->Q (.ref l) (upd H l (.tup ys)))\/(cE K H p ys/\Q (.ref p) H))
theorem ym(K:bF)(h:X.K=K:=by rfl):gn X (.type "tuple") (Hy K):=by subst h;exact rQ
theorem nI(K:bF)(h:X.K=K:=by rfl):G6 X (G7 K):=by subst h;exact CP
theorem jx(K:bF)(h:X.K=K:=by rfl):G6 X (G8 K):=by subst h;exact ET
theorem Sd(K:bF)(h:X.K=K:=by rfl):JB X (Hf K):=by subst h;exact CQ
theorem Qn(K:bF)(h:X.K=K:=by rfl):lB X (compareOp .In) (JC K false):=by subst h;exact zB
theorem AS(K:bF)(h:X.K=K:=by rfl):lB X (compareOp .NotIn) (JC K true):=by subst h;exact uh
theorem AU(K:bF)(hl:PE X l tl)(h:X.K=K:=by rfl):PI X tg l (DS K tl):=by subst h;exact CG hl
theorem Qo(K:bF)(hl:PE X l tl)(h:X.K=K:=by rfl):PI X tg l (GP K tl):=by subst h;exact EH hl
theorem Hz(K:bF){k:Nat}{t:DP}{n:Nat}{pos:Pos}(hc:X.calm=true)(hp:GJ X es t)(hn:(assignEach es X.env).length=n:=by rfl)(hst:(assignEach es X.env).findIdx? (·.1)=none:=by rfl)(h:X.K=K:=by rfl):
 PG X (.Tuple es k pos) (GN K n t):=by subst h;exact EF hc hp hn hst
theorem yn{x:Str}{T:String}{pos:Pos}(hg:Gl X x)(hm:X.mg x=none)(hv:bootBuiltins x=some (.type T))(hn:x≠"__name__":=by decide)(hd:(x==("__debug__":Str))=false:=by decide):PE X (.Name x pos) (tC (.ty T)) :=
 CC hg hm hv rfl hn hd
end
def rS(od:Option Addr)(c:Value)(e:Addr)(h:Heap):Prop:=∃ oe vs,h.get? e=some oe/\oe.data = .fields vs/\vs[2]?=some c/\oe.dict=od
theorem AV(o:Obj)(f):(o.mapFields f).dict=o.dict:=by
 obtain⟨c,d,dt,sl⟩:=o;cases dt<;>rfl
section
variable {M:Model}{A:Around}{E:iB}{s:Shared}{B:Heap}{env:Env}{outer l:List Env}{L e:Addr}{cls a0:Value}{Q:Unit->Shared->Prop}{od:Option Addr}{c:Value}
theorem uv{h:Heap}{T:Addr}{oT:Obj}{ts:Array Value}(f:Obj->Obj)(hT:h.get? T=some oT)(hd:oT.data = .fields ts):h.UpToSlots (h.update T f):=fun b o hb hn=>by
 have ne:T≠b:=fun z=>by
  rw[<-z,hT]at hb;cases hb;exact hn ts hd
 exact⟨o.slots,(Heap.get?_update_other h f ne).trans hb⟩
theorem nU{h:Heap}{T:Addr}(f:Obj->Obj)(k:B.StaysIn h)(n:B.get? T=none):B.StaysIn (h.update T f):=fun b o hb=>by
 have ne:T≠b:=fun z=>by
  rw[<-z,n]at hb;cases hb
 exact(Heap.get?_update_other h f ne).trans (k b o hb)
theorem jD{h h' : Heap}(x:h.FunFrames B l)(u:h.UpToSlots h'):h'.FunFrames B l:=x.of_keeps fun b o hb hn =>
 let⟨_,q⟩:=u b o hb hn
 ⟨_,q,rfl⟩
theorem yo{fl:Value}(hk:B.StaysIn s.heap)(hn:B.get? e=none)(hl:s.heap.FunFrames B l)(ht:s.heap.TracedAtW B e cls a0 fl)(h2:rS od c e s.heap)
 (q:∀ h',Heap.FlyingW B l e cls a0 h'->rS od c e h'->s.heap.UpToSlots h'->Q () { s with heap:=h'}):wpAny M A (setFlight (.ref e) none) Q E s:=by
 obtain⟨oe,vs,T,oT,ts,ge,hc,de,f1,nT,Te,gT,dT,f3⟩:=ht;have z3:3<ts.size:=(Array.getElem?_eq_some_iff.mp f3).1;rw[setFlight];refine jd (wpAny_field ge de f1 ?_);rw[if_pos (by simp)]
 refine wpAny_setField gT dT z3 ?_;have up:=uv (Obj.mapFields (·.setIfInBounds 3 ((none:Option Addr).elim Value.none fun f=>rawInt f))) gT dT
 have JE:=(Heap.get?_update_other s.heap (Obj.mapFields (·.setIfInBounds 3 ((none:Option Addr).elim Value.none fun f=>rawInt f))) Te).trans ge
 have Qp:=Obj.data_mapFields dT (·.setIfInBounds 3 ((none:Option Addr).elim Value.none fun f=>rawInt f))
 refine q _ ⟨nU _ hk nT,hn,jD hl up,oe,vs,T,_,_,JE,hc,de,f1,nT,Te,Heap.get?_update_self _ gT (Obj.isFreed_of_fields Qp),Qp,by simp[z3]⟩ ?_ up
 obtain⟨o2,v2,g2,d2,k2,z2⟩:=h2;rw[ge]at g2;cases g2;exact⟨oe,v2,JE,d2,k2,z2⟩
theorem AW{oe:Obj}{vs:Array Value}{head:Value}{hadNext:Bool}(hfr:A.frames=some (env::outer))(hl:s.heap.FunFrames B (env::outer))(hf:env.frame=some L)(ge:s.heap.get? e=some oe)(hk:B.StaysIn s.heap)(hn:B.get? e=none)
 (de:oe.data = .fields vs) (hz:1<vs.size) (h0:vs[0]?=some a0) (h2:vs[2]?=some c) (hz2:oe.dict=od)
 (q:∀ h',Heap.HeldW B (env::outer) e oe.cls a0 L h'->rS od c e h'->s.heap.UpToSlots h'->Q () { s with heap:=h'}) :
 wpAny M A (do let a←frameOf env;let pl←entryPlaceOf L hadNext;let b←EntryCells.newEntry head a .none (rawInt L) .none pl;setField (.ref e) 1 b) Q E s:=by
 have Lg:e∉(env::outer).filterMap (·.frame):=fun z=>by
  obtain⟨_,o,ho,nf⟩:=hl.mem z;rw[ge]at ho;cases ho;exact nf vs de
 refine jd (wpAny_frameOf_fun hfr hl hf fun h1 so=>jd (wpAny_entryPlaceOf fun pl ip=>?_))
 rw[EntryCells.newEntry,newFields];refine jd (wpAny_newObj_type ?_ (ip.sizeOk5 _ _ _ _ _));generalize hnw:({ cls:=.type "traceback",dict:=none,data:=.fields ([head,.ref L,.none,rawInt L,.none]++(if pl.isEmpty then List.replicate 6 Value.none else pl)).toArray}:Obj)=nw
 have dn:nw.data = .fields ([head,.ref L,.none,rawInt L,.none]++(if pl.isEmpty then List.replicate 6 Value.none else pl)).toArray:=by rw[<-hnw]
 have ge1:h1.get? e=some oe:=(so.2.1 e Lg).trans ge;have Lh:=Heap.get?_push_of_some (h:=h1) nw ge1;have Te:h1.objs.size≠e:=Nat.ne_of_gt (Heap.lt_size ge1);refine wpAny_setField Lh de hz ?_;have Li:=Obj.data_mapFields de (·.setIfInBounds 1 (Value.ref h1.objs.size));have Qq:=Heap.get?_update_self (Obj.mapFields (·.setIfInBounds 1 (Value.ref h1.objs.size))) Lh (Obj.isFreed_of_fields Li);have Se:=(Heap.get?_update_other (h1.push nw) (Obj.mapFields (·.setIfInBounds 1 (Value.ref h1.objs.size))) (Ne.symm Te)).trans (Heap.get?_push_size h1 (by rw[<-hnw];rfl))
 have up:s.heap.UpToSlots ((h1.push nw).update e (Obj.mapFields (·.setIfInBounds 1 (Value.ref h1.objs.size)))):=by
  have u1:s.heap.UpToSlots h1:=fun b o hb _=>so.2.2 b o hb
  exact(u1.trans (.of_keeps fun b o hb=>Heap.get?_push_of_some nw hb)).trans (uv _ Lh de)
 have k1:B.StaysIn h1:=fun b o hb=>(so.2.1 b fun z=>by rw[(hl.mem z).1]at hb;cases hb).trans (hk b o hb)
 have k2:B.StaysIn (h1.push nw):=fun b o hb=>Heap.get?_push_of_some nw (k1 b o hb)
 refine q _ ⟨nU _ k2 hn,hn,jD hl up,_,_,h1.objs.size,nw,_,Qq,⟨Obj.cls_mapFields _ _,by rw[Array.getElem?_setIfInBounds_ne (by decide)];exact h0⟩,Li,by simp[hz],k1.fresh,Te,Se,dn,?_⟩ ?_ up
 ·first | (simp;done) | (rcases ip with rfl | ⟨_,_,_,_,_,_,_,rfl⟩<;>simp)
 ·exact⟨_,_,Qq,Li,by rw[Array.getElem?_setIfInBounds_ne (by decide)];exact h2,(AV _ _).trans hz2⟩
theorem D6(hfr:A.frames=some (env::outer))(hf:env.frame=some L)(fl:Heap.FlyingW B (env::outer) e cls a0 s.heap)(h2:rS od c e s.heap)
 (q:∀ h',Heap.HeldW B (env::outer) e cls a0 L h'->rS od c e h'->s.heap.UpToSlots h'->Q () { s with heap:=h'}):wpAny M A (noteFrame (.ref e) env) Q E s:=by
 obtain⟨hk,hn,hl,oe,vs,T,oT,ts,ge,⟨hc,h0⟩,de,f1,nT,Te,gT,dT,f3⟩:=fl;obtain⟨o2,v2,g2,d2,k2,z2⟩:=h2;rw[ge]at g2;cases g2;rw[de]at d2;cases d2;cases hc;rw[noteFrame];simp only[hf];refine jd (wpAny_field ge de f1 ?_);rw[if_pos (by simp)]
 refine jd (wpAny_field gT dT f3 ?_);rw[if_neg (by simp[rawInt])]
 refine jd (wpAny_setField gT dT (Array.getElem?_eq_some_iff.mp f3).1 ?_);have up:=uv (Obj.mapFields (·.setIfInBounds 3 Value.none)) gT dT;have JE:=(Heap.get?_update_other s.heap (Obj.mapFields (·.setIfInBounds 3 Value.none)) Te).trans ge;exact AW (s:={ s with heap:=s.heap.update T (Obj.mapFields (·.setIfInBounds 3 Value.none))}) hfr (jD hl up) hf JE (nU _ hk nT) hn de (Array.getElem?_eq_some_iff.mp f1).1 h0 k2 z2 fun h' x1 x2 x3=>q h' x1 x2 (up.trans x3)
theorem HA(x:Heap.FlyingW B (env::outer) e cls a0 s.heap):Heap.FlyingW B outer e cls a0 s.heap :=
 let⟨k1,k2,⟨_,_,k3⟩,k4⟩:=x
 ⟨k1,k2,k3,k4⟩
theorem leave_on2(hfr:A.frames=some (env::outer))(hf:env.frame=some L)(fl:Heap.FlyingW B (env::outer) e cls a0 s.heap)(h2:rS od c e s.heap)
 (q:∀ h',Heap.FlyingW B outer e cls a0 h'->rS od c e h'->s.heap.UpToSlots h'->Q () { s with heap:=h'}):wpAny M A (leaving env (.ref e)) Q E s:=by
 rw[leaving];refine jd (D6 hfr hf fl h2 fun h' x1 x2 x3=>?_)
 obtain⟨y1,y2,y3,y4⟩:=x1;exact yo (s:={ s with heap:=h'}) y1 y2 y3 y4 x2 fun h'' z1 z2 z3=>q h'' (HA (s:={ s with heap:=h''}) z1) z2 (x3.trans z3)
theorem leave_new{oe:Obj}{vs:Array Value}(hfr:A.frames=some (env::outer))(hf:env.frame=some L)(hk:B.StaysIn s.heap)(hn:B.get? e=none)(hl:s.heap.FunFrames B (env::outer))(ge:s.heap.get? e=some oe)(de:oe.data = .fields vs)
 (h0:vs[0]?=some a0) (h1:vs[1]?=some .none) (h2:vs[2]?=some c) (hz2:oe.dict=od)
 (q:∀ h',Heap.FlyingW B outer e oe.cls a0 h'->rS od c e h'->s.heap.UpToSlots h'->Q () { s with heap:=h'}):wpAny M A (leaving env (.ref e)) Q E s:=by
 rw[leaving,noteFrame];simp only[hf];refine jd (jd (wpAny_field ge de h1 ?_));rw[if_neg (by decide)]
 refine AW (a0:=a0) hfr hl hf ge hk hn de (Array.getElem?_eq_some_iff.mp h1).1 h0 h2 hz2 fun h' x1 x2 x3=>?_
 obtain⟨y1,y2,y3,y4⟩:=x1;exact yo (s:={ s with heap:=h'}) y1 y2 y3 y4 x2 fun h'' z1 z2 z3=>q h'' (HA (s:={ s with heap:=h''}) z1) z2 (x3.trans z3)
end
section
variable {P:Program}{w:World}{H H0 H1:Hp}{h h0 h1 h2:Heap}{a:Addr}{o:HO}{fs:List Addr}{B:Heap}
theorem cC.thing(x:cC P w H h a o):∃ ob,h.get? a=some ob:=by
 cases o with
 | lst xs=>obtain⟨_,_,_,_,e⟩:=x;exact⟨_,e⟩
 | tup xs=>obtain⟨_,_,_,ob,e,_⟩:=x;exact⟨ob,e⟩
 | dK kvs=>obtain⟨_,_,_,_,ob,_,_,e,_⟩:=x;exact⟨ob,e⟩
 | dT kvs=>obtain⟨_,_,_,_,ob,_,_,e,_⟩:=x;exact⟨ob,e⟩
 | set S n=>obtain⟨ob,_,_,_,e,_⟩:=x;exact⟨ob,e⟩
 | ins C dx fs=>obtain⟨_,_,_,e,_⟩:=x;exact⟨_,e⟩
 | own y=>exact x
 | xd fs=>obtain⟨_,⟨ob,_,_,e,_⟩,_⟩:=x;exact⟨ob,e⟩
 | wX lo hi=>obtain⟨_,_,_,e⟩:=x;exact⟨_,e⟩
 | w4 ob u=>obtain⟨e,_⟩:=x;exact⟨_,e⟩
 | DL ps=>obtain⟨_,e,_⟩:=x;exact⟨_,e⟩
 | met f y=>exact⟨_,(show h.get? a=some _ from x)⟩
 | ext φ=>obtain⟨_,e,_⟩:=x;exact e
def CZ(B:Heap)(fs:List Addr)(h0:Heap)(H:Hp)(h:Heap):Prop:=∀ b o,h.get? b=some o->(H b≠none\/∃ o',h0.get? b=some o')->b∉fs->B.get? b=some o
theorem vv(un:Un fs [] H0 H1 h0 h1)(hok:nH P w H1 h1)(Lj:∀ b∈fs,H1 b=none)(fr:∀ b∈fs,∀ ob,h1.get? b=some ob->∀ vs,ob.data≠.fields vs)(AX:CZ B fs h0 H1 h1)
 (hB:B.StaysIn h2) (up:h1.UpToSlots h2):Un fs [] H0 H1 h0 h2/\nH P w H1 h2/\CZ B fs h0 H1 h2:=by
 have Lk:∀ b ob,h1.get? b=some ob->(H1 b≠none\/∃ o',h0.get? b=some o')->b∉fs->h2.get? b=some ob:=fun b ob e c n=>hB b ob (AX b ob e c n)
 have Gj:∀ b u,H1 b=some u->b∉fs:=fun b u e z=>by
  rw[Lj b z]at e;cases e
 refine⟨⟨fun b ob e n hb hx=>Lk b ob (un.keep b ob e n hb hx) (.inr ⟨ob,e⟩) hb,fun b ob e n hb hx=>?_,un.free,fun b ob e hx=>?_,un.tups,un.nJ,un.pB⟩,fun b u e=>?_,fun b ob e c n=>?_⟩
 ·obtain⟨sl,q⟩:=un.slot b ob e n hb hx;obtain⟨Jy,q'⟩:=up b _ q (fr b hb _ q);exact⟨Jy,q'⟩
 ·obtain⟨o',q⟩:=un.there b ob e hx
  by_cases hb:b∈fs
  ·obtain⟨Jy,q'⟩:=up b _ q (fr b hb _ q);exact⟨_,q'⟩
  ·exact⟨o',Lk b o' q (.inr ⟨ob,e⟩) hb⟩
 ·refine(hok b u e).stay (fun c v hc q=>?_) (fun _ q=>q) fun _ _ q=>q
  have hct:∃ z,H1 c=some z:=by
   rcases hc with hc|hc
   ·rw[hc];exact⟨u,e⟩
   ·exact⟨_,hc⟩
  obtain⟨z,hz⟩:=hct;exact Lk c v q (.inl (by rw[hz];simp)) (Gj c z hz)
 ·have ht:∃ o1,h1.get? b=some o1:=by
   rcases c with c|⟨o',c⟩
   ·cases hz:H1 b with
    | none=>exact absurd hz c
    | some z=>exact(hok b z hz).thing
   ·exact un.there b o' c (by simp)
  obtain⟨o1,q⟩:=ht;have q2:=AX b o1 q c n;have q3:=hB b o1 q2;rw[e]at q3;rw[Option.some.inj q3];exact q2
end
def rT(ea:Addr)(cls:Value):HO:=.ext fun h=>∃ oe vs,h.get? ea=some oe/\oe.cls=cls/\oe.data = .fields vs/\vs[2]?=some .none
theorem C1{P:Program}{w:World}{H:Hp}{h:Heap}{ea:Addr}{cls:Value}(q:∃ oe vs,h.get? ea=some oe/\oe.cls=cls/\oe.data = .fields vs/\vs[2]?=some .none):cC P w H h ea (rT ea cls) :=
 ⟨q,let⟨oe,_,e,_⟩:=q;⟨oe,e⟩,fun h1 h2 ⟨oe,vs,e,c,d,z⟩ k=>⟨oe,vs,k oe e,c,d,z⟩⟩
def Fc(E:XK)(cls:Value)(od:Option Addr)(c:Value)(H:Hp):Prop:=(c = .none/\(∃ C0:Addr,cls = .ref C0)/\E cls od H)\/∃ C e' C',cls = .ref C/\od=none/\c = .ref e'/\H e' = some (rT e' C')/\E (.int (C:Int) e') none H
def lG(P:Program)(w:World):AF:=fun outer H s E e s'=>∃(ea:Addr) (cls a0:Value) (od:Option Addr) (c:Value) (H' : Hp) (B:Heap),e = .ref ea/\s'.os=s.os/\AllBare s'.gens/\Un (frs outer) [] H H' s.heap s'.heap/\nH P w H' s'.heap/\H' ea=none/\
 CZ B (frs outer) s.heap H' s'.heap/\Heap.FlyingW B outer ea cls a0 s'.heap/\rS od c ea s'.heap/\Fc E cls od c H'
structure Out(X:Cx)(E:XK):Prop where
 Cr:X.stack=X.env::X.outer
 fr:X.env.frame=some X.env.locals
 ex:X.ex=[]
 xe:∀ e s',wpAny (model X.prog X.w) X.A (leaving X.env e) (fun _ s''=>lG X.prog X.w X.outer X.H₀ X.s₀ E e s'') (fun e' s''=>lG X.prog X.w X.outer X.H₀ X.s₀ E e' s'') s'->X.xe e s'
def Qs(X:Cx)(E:XK):Prop:=∀(pq:bq) (σ:St) (H:Hp) (s:Shared) (h1:Heap) (ea C0:Addr) (vs:List Value),Inv X pq σ H s->Heap.MadeExcOf s.heap h1 ea (.ref C0) vs->E (.ref C0) none H->X.xe (.ref ea) { s with heap:=h1}
section
variable {X:Cx}{E:XK}{pq:bq}{σ:St}{H:Hp}{s:Shared}
theorem Inv.Fd(I:Inv X pq σ H s):∀ b∈X.fs,∀ ob,s.heap.get? b=some ob->∀ vs,ob.data≠.fields vs:=fun b hb ob e=>by
 obtain⟨_,o,ho,hnf⟩:=I.funs.mem hb;rw[e]at ho;cases ho;exact hnf
theorem Inv.Fe(I:Inv X pq σ H s)(hx:X.ex=[]):∀ b∈X.fs,H b=none:=fun b hb=>by
 obtain⟨_,o,ho,_⟩:=I.ok.funs.mem hb;exact I.base.free b o ho (I.ok.DN b hb) (by rw[hx];simp)
theorem CZ.outer{B h0:Heap}{h:Heap}(I:Inv X pq σ H s)(AX:CZ B (frs X.stack) h0 H h)(k:∀ b o,X.s₀.heap.get? b=some o->∃ o',h0.get? b=some o'):CZ B X.fs X.s₀.heap H h:=fun b o e c n=>by
 refine AX b o e (c.imp id fun⟨o',q⟩=>k b o' q) fun z=>?_
 rcases List.mem_cons.mp (I.p5 b z) with q|q
 ·subst q;rcases c with c|⟨o',c⟩
  ·exact c I.free
  ·exact absurd (Nat.lt_of_lt_of_le (Heap.lt_size c) I.ok.above) (Nat.lt_irrefl _)
 ·exact n q
theorem yp(O:Out X E)(I:Inv X pq σ H s){B:Heap}{ea:Addr}{cls a0:Value}{od:Option Addr}{c:Value}{h2:Heap}(AX:CZ B X.fs X.s₀.heap H s.heap)(fl:Heap.FlyingW B X.outer ea cls a0 h2)(sc:rS od c ea h2)(up:s.heap.UpToSlots h2)(hn:H ea=none)(q:Fc E cls od c H):
 lG X.prog X.w X.outer X.H₀ X.s₀ E (.ref ea) { s with heap:=h2}:=by
 have un:Un X.fs [] X.H₀ H X.s₀.heap s.heap:=by
  have u:=I.base;rw[O.ex]at u;exact u
 obtain⟨u2,Ll,c2⟩:=vv un I.hok (I.Fe O.ex) I.Fd AX fl.1 up;exact⟨ea,cls,a0,od,c,H,B,rfl,I.os,I.bare,u2,Ll,hn,c2,fl,sc,q⟩
theorem Out.Lm(O:Out X E){ea:Addr}{oe:Obj}{vs:Array Value}{a0 c:Value}(I:Inv X pq σ H s)(ge:s.heap.get? ea=some oe)(de:oe.data = .fields vs)(h0:vs[0]?=some a0)(h1:vs[1]?=some .none)(h2:vs[2]?=some c)
 (hn:H ea=none) (new:X.s₀.heap.get? ea=none) (q:Fc E oe.cls oe.dict c H):X.xe (.ref ea) s:=by
 refine O.xe _ _ ?_;have hfr:X.A.frames=some (X.env::X.outer):=by rw[I.ok.frames,O.Cr]
 have hl:s.heap.FunFrames (PySem.W.hideAll s.heap (ea::frs X.stack)) (X.env::X.outer):=by
  have z:=PySem.W.funFrames_hide (as:=ea::frs X.stack) I.stack fun env he b hb=>sA _ (List.mem_filterMap.mpr ⟨env,he,hb⟩)
  rw[O.Cr]at z ⊢;exact z
 refine leave_new hfr O.fr (fun b o e=>PySem.W.of_hideAll _ e) (PySem.W.hideAll_none _ (List.mem_cons_self ..)) hl ge de h0 h1 h2 rfl fun h3 fl sc up=>?_
 refine yp O I (CZ.outer I (h0:=X.s₀.heap) (fun b o e c n=>?_) fun b o e=>⟨o,e⟩) fl sc up hn q
 refine PySem.W.hideAll_get _ e fun z=>?_
 rcases List.mem_cons.mp z with z|z
 ·subst z;rcases c with c|⟨o',c⟩
  ·exact c hn
  ·rw[new]at c;cases c
 ·exact n z
theorem Out.Ln(O:Out X E){ea:Addr}{oe:Obj}{vs:Array Value}{a0:Value}(I:Inv X pq σ H s)(ge:s.heap.get? ea=some oe)(de:oe.data = .fields vs)(h0:vs[0]?=some a0)(h1:vs[1]?=some .none)(h2:vs[2]?=some .none)
 (hn:H ea=none) (new:X.s₀.heap.get? ea=none) (hcl:∃ C0:Addr,oe.cls = .ref C0) (q:E oe.cls oe.dict H):X.xe (.ref ea) s:=O.Lm I ge de h0 h1 h2 hn new (.inl ⟨rfl,hcl,q⟩)
theorem Out.Qt(O:Out X E):Qs X E:=by
 intro pq σ H s h1 ea C0 vs I mk q;have I1:Inv X pq σ H { s with heap:=h1}:=I.kept (t':=s.toks) mk.keeps
 have hn:H ea=none:=by
  cases hz:H ea with
  | none=>rfl
  | some z =>
    obtain⟨ob,e⟩:=(I.hok ea z hz).thing;rw[mk.new]at e;cases e
 obtain⟨t,ge,_,_⟩:=mk.there;refine O.Ln I1 (a0:=.ref t) ge rfl rfl rfl rfl hn ?_ ⟨_,rfl⟩ q;cases hz:X.s₀.heap.get? ea with
 | none=>rfl
 | some o =>
   obtain⟨o',e⟩:=I.base.there ea o hz (by rw[O.ex];simp)
   rw[mk.new]at e;cases e
theorem Inv.AY{H' : Hp}{s' : Shared}(I:Inv X pq σ H s)(os:s'.os=s.os)(bare:AllBare s'.gens)(un:Un (frs X.stack) [] H H' s.heap s'.heap)(hok:nH X.prog X.w H' s'.heap):Inv X pq σ H' s' :=
 I.DO (ch:=[]) os un hok bare fun b z=>absurd z (by simp)
theorem Out.passes(O:Out X E):Passes (lG X.prog X.w) X E:=by
 intro pq σ H s e s' I q;obtain⟨ea,cls,a0,od,c,H',B,rfl,os,bare,un,hok,hn,AX,fl,sc,qE⟩:=q;have I1:=I.AY os bare un hok;refine O.xe _ _ ?_;have hfr:X.A.frames=some (X.env::X.outer):=by rw[I.ok.frames,O.Cr]
 rw[O.Cr]at fl;refine leave_on2 hfr O.fr fl sc fun h2 Sf JF up=>?_
 exact yp O I1 (CZ.outer I1 AX fun b o e=>I.base.there b o e (by rw[O.ex];simp)) Sf JF up hn qE
end
theorem ko{P:Program}{w:World}{K:bF}{mg:iS}{base:Heap}{N:List Str}{qual:Str}{scope:Scope}{f:Addr}{cd:Value}{A:Around}{outer:List Env}{s:Shared}{H:Hp}{E:XK}:
 Out (vh (lG P w) P w K mg base N qual scope f cd A outer s H E) E:=⟨rfl,rfl,rfl,fun _ _ h=>h⟩
theorem jc.Ff{P:Program}{w:World}{K:bF}{mg:iS}{base:Heap}{x qual:Str}{st:Stmt}{f:Addr}{fd:FuncData}{N ps:List Str}{k:Nat}{sp:Sp}(F:jc K x qual st f fd)(S:aM N ps (af st))
 (len:∀ vs H Q E,sp vs H Q E->vs.length=ps.length)
 (hbody:∀(cdv:Value) (A:Around) (outer:List Env) (s:Shared) (H:Hp) (vs:List V) (Q:VK) (E:XK),j6 k (A.deeper (envOfC qual (af st) s.heap.objs.size f cdv))->sp vs H Q E->
  ∃ t,vc (vh (lG P w) P w K mg base N qual (af st) f cdv A outer s H E) (aH st) t/\t { nx:=fun _ H'=>Q .fH H',rt:=Q} (start N vs) H):aN P w K mg base (lG P w) (k+1) f fd ps sp:=by
 obtain⟨oc,od,kV,doc,pm,an,cdv,ct,osl,rfl,lk,hcd⟩:=F.ex;exact DX lk hcd S len fun A outer s H vs Q E hr Ct=>hbody cdv A outer s H vs Q E hr Ct
section
variable {X:Cx}{E:XK}
def Fg(C:Addr)(E:XK)(t:TA):TS:=fun _ σ H=>t σ H fun vs H1=>vs.length<=sizeLine/\E (.ref C) none H1
theorem vy{x:Str}{C:Addr}{bm:List Value}{B newId initId:String}{e:Expr}{es:List Expr}{ta:TA}{np cpos pos:Pos}(th:Qs X E)(hc:X.calm=true)(hg:Gl X x)(O:∀ h,X.K.In h->h.Ns mainGlobals X.mg->OwnCls x C bm newId X.mg h)
 (FB:ExcBaseFacts B newId initId bm) (ha:PA X (e::es) ta) (he:starEach (e::es) X.env=(false,eval e X.env)::starEach es X.env:=by rfl) (hpl:(backTo cpos (starEach es X.env)).any (·.1)=false:=by rfl)
 (hd:(x==("__debug__":Str))=false:=by decide):PS X (.Raise (some (.Call (.Name x np) (e::es) [] cpos)) none pos) (Fg C E ta):=by
 intro pq s σ H D I h;have OC:=O _ I.mod.Jv I.mod.glob;obtain⟨tl,N,nm,q,bs,hdct,sn,sub,ab,col,dd,k0,k1,k2,k3,k5,mN,hC,hN,hni,T⟩:=OC.obj;refine wpAny_Raise_call_subT (C:=C) (nm:=nm) (q:=q) (N:=N) (bs:=bs) (bm:=tl) (hdct:=hdct) (sn:=sn) (sub:=sub) (ab:=ab) (col:=col) (dd:=dd) (k0:=k0) (k1:=k1) (k2:=k2) (k3:=k3) (k5:=k5)
  FB (mN:=mN) (T.hasType FB.hasBase) (I.ok.hd hc) (by rw[he];show(false || (backTo cpos (starEach es X.env)).any (·.1))=false;rw[hpl];rfl) hni (pO I hg OC.bound ⟨rfl,?_⟩ hd)
 have hA:=ha cpos pq s σ H _ I h;rw[he]at hA ⊢;refine Calls.evalArgs_plain (wpAny_mono hA (fun us s1 ⟨vs,H1,I1,r1,z,q1⟩=>?_) fun _ _ y=>y)
 exact⟨rfl,by rw[<-r1.length];exact z,I1.bk _ _ hC,hN.keeps I1.bk,T.keeps I1.bk,fun h' ea hm=>th pq σ H1 s1 h' ea _ us I1 hm q1⟩
end
theorem Fi(K:bF)(i:Int)(n:Nat)(v:Value):PySem.W.exmOne K (.int i n) v≠some true:=by
 unfold PySem.W.exmOne
 split
 ·unfold PySem.W.kitCls
  split
  ·split<;>simp[PySem.W.subIn]
  ·split<;>simp[PySem.W.subIn]
  ·simp
 ·simp
section
variable {X:Cx}{pq:bq}{σ:St}{H:Hp}{s:Shared}
theorem Inv.HB{ea:Addr}{o:HO}(I:Inv X pq σ H s)(hn:H ea=none)(h0:X.s₀.heap.get? ea=none)(hL:ea≠X.env.locals)(hC:∀ x c,X.env.cells.lookup x=some c->c≠ea)(hp:∀ p∈X.pn++pq,p.1≠ea)
 (ok:cC X.prog X.w (upd H ea o) s.heap ea o):Inv X pq σ (upd H ea o) s:=by
 have ne:∀ b u,H b=some u->b≠ea:=fun b u e z=>by rw[z,hn]at e;cases e
 refine⟨I.ok,I.os,I.bare,⟨I.base.keep,I.base.slot,fun b ob e n hx=>?_,I.base.there,fun b xs e=>?_,fun b ob u e=>?_,fun b ps e=>?_⟩,I.loc,I.cell,?_,fun x c e=>?_,fun p hpp=>?_,fun b u e=>?_,I.len⟩
 ·rw[aL (fun z=>by rw[z,h0]at e;cases e)]
  exact I.base.free b ob e n hx
 ·have q:=I.base.tups b xs e;rw[aL (ne b _ q)];exact q
 ·have q:=I.base.nJ b ob u e;rw[aL (ne b _ q)];exact q
 ·obtain⟨more,q⟩:=I.base.pB b ps e;exact⟨more,by rw[aL (ne b _ q)];exact q⟩
 ·rw[aL (Ne.symm hL)];exact I.free
 ·rw[aL (hC x c e)];exact I.iD x c e
 ·obtain⟨a1,a2,a3⟩:=I.pin p hpp;exact⟨a1,by rw[aL (hp p hpp)];exact a2,a3⟩
 ·by_cases hb:b=ea
  ·subst hb;rw[aj]at e;cases e;exact ok
  ·rw[aL hb]at e;exact(I.hok b u e).stay (fun _ _ _ q=>q) (fun c q=>by rw[aL (ne c _ q)];exact q) fun c xs q=>by rw[aL (ne c _ q)];exact q
theorem Inv.xw{A' : Around}{Gm p7:bq}{cm:Bool}{Fj:iB}(I:Inv X pq σ H s)(hA:A'.frames=X.A.frames)(Sg:cm=true->A'.handled=none)(hp:∀ p∈Gm++p7,p∈X.pn++pq):
 Inv { X with A:=A',calm:=cm,pn:=Gm,xe:=Fj} p7 σ H s :=
 ⟨⟨I.ok.mod,I.ok.kind,I.ok.glob,I.ok.blt,I.ok.above,I.ok.inj,I.ok.has,I.ok.Gk,Sg,hA.trans I.ok.frames,I.ok.Cr,I.ok.KA,I.ok.bs,I.ok.DM,I.ok.zk,I.ok.Au,I.ok.funs,I.ok.DN⟩,
   I.os,I.bare,I.base,I.loc,I.cell,I.free,I.iD,fun p z=>I.pin p (hp p z),I.hok,I.len⟩
theorem zF{M:Model}{A:Around}{E:iB}{i:Nat}{x:Str}{pos:Pos}{Q:Unit->Shared->Prop}(I:Inv X pq σ H s)(hN:X.N.Nodup)(hi:X.N[i]?=some x)(hx:X.env.scope.names.lookup x=some .local)
 (h:∀ s',Inv X pq (σ.set i none) H s'->Q () s'):wpAny M A (do bindName X.env x .none;unbindBehindTheSuite X.env x pos) Q E s:=by
 obtain⟨m,hn,hl⟩:=id I.loc;have hcls:(X.env.scope.kind == .class || (X.env.scope.kind == .module&&X.env.locals != X.env.globals))=false:=by rw[I.ok.kind];rfl
 refine wpAny_nameGoes_keeps hx hn hcls fun h' v hn' hs=>?_
 have below:∀ b ob,X.s₀.heap.get? b=some ob->b≠X.env.locals:=fun b ob e=>Nat.ne_of_lt (Nat.lt_of_lt_of_le (Heap.lt_size e) I.ok.above)
 refine h _ ⟨I.ok,I.os,I.bare,⟨fun b ob e n hb hx=>(hs.2 b (below b ob e)).trans (I.base.keep b ob e n hb hx),fun b ob e n hb hx=>?_,I.base.free,fun b ob e hx=>?_,I.base.tups,I.base.nJ,I.base.pB⟩,
  ⟨_,hn',fun j y v' e1 e2 e3=>?_⟩,fun y c e=>?_,I.free,I.iD,fun p hp=>?_,fun b ob e=>?_,by rw[List.length_set];exact I.len⟩
 ·obtain⟨sl,e1⟩:=I.base.slot b ob e n hb hx;exact⟨sl,(hs.2 b (below b ob e)).trans e1⟩
 ·obtain⟨o',e1⟩:=I.base.there b ob e hx;exact⟨o',(hs.2 b (below b ob e)).trans e1⟩
 ·by_cases hj:j=i
  ·subst hj;have hlt:j<σ.length:=by rw[I.len];exact(Cq.mp hi).1
   rw[List.getElem?_set_self hlt]at e2;cases e2
  ·rw[List.getElem?_set_ne (Ne.symm hj)]at e2;obtain⟨u',r',q⟩:=hl j y v' e1 e2 e3;refine⟨u',r',?_⟩;rcases q with⟨k,e⟩|⟨k,c,e,z⟩
   ·have hyx:y≠x:=fun e'=>hj (p8 hN e1 (e'▸hi))
    exact .inl ⟨k,by simp[hyx,e]⟩
   ·exact .inr ⟨k,c,e,z.sameBut hs (I.CB y c e)⟩
 ·obtain⟨w',z⟩:=I.cell y c e;exact⟨w',z.sameBut hs (I.CB y c e)⟩
 ·obtain⟨e,n,ne,nf,d⟩:=I.pin p hp;exact⟨(hs.2 p.1 ne).trans e,n,ne,nf,d⟩
 ·refine(I.hok b ob e).stay (fun c v hc q=>(hs.2 c ?_).trans q) (fun _ q=>q) fun _ _ q=>q
  intro z;subst z;have hf:H X.env.locals=none:=I.free;rcases hc with hc|hc
  ·rw[<-hc,hf]at e;cases e
  ·rw[hf]at hc;cases hc
end
def D7(o:Addr->Value->Option Addr->HO)(K:bF)(C i k:Nat)(tb:XK->TS)(th:Addr->TS):TS:=fun D σ H=>∃ E:XK,tb E D σ H/\∀ cls od H',E cls od H'->PySem.W.exmOne K cls (.ref C)=some true/\
 ∀ ea,H' ea=none->th ea { nx:=fun σ2 H2=>D.nx (σ2.set i none) H2,rt:=fun _ _=>False} ((List.replicate k none).set i (some (.ref ea))) (upd H' ea (o ea cls od))
abbrev Lo:=D7 fun ea cls _=>rT ea cls
section
variable {X:Cx}
theorem C2(oo:Addr->Value->Option Addr->HO)(Sh:∀{H:Hp} {h:Heap} {ea:Addr} {cls:Value} {od:Option Addr},(∃ oe vs,h.get? ea=some oe/\oe.cls=cls/\oe.data = .fields vs/\vs[2]?=some .none/\oe.dict=od)->cC X.prog X.w H h ea (oo ea cls od))
 {x n:Str} {i:Nat} {C:Addr} {body rest:List Stmt} {b0:Stmt} {np hpos pos:Pos} {tb:XK->TS} {th:Addr->TS} (K:bF) (hst:X.stack=X.env::X.outer) (hf:X.env.frame=some X.env.locals) (Fl:X.ex=[]) (hN:X.N.Nodup) (hi:X.N[i]?=some n)
 (hx:X.env.scope.names.lookup n=some .local) (hg:Gl X x) (hm:X.mg x=some (.ref C))
 (hb:∀ E pn xe,Passes (lG X.prog X.w) { X with pn:=pn,xe:=xe} E->vc { X with pn:=pn,xe:=xe} body (tb E))
 (hh:∀ ea pn,vc { X with A:=X.A.mark (some (.ref ea)),calm:=false,pn:=pn,xe:=fun _ _=>False} (b0::rest) (th ea)) (hK:X.K=K:=by rfl) (hdb:(x==("__debug__":Str))=false:=by decide) :
 PS X (.Try body [.ExceptHandler (some (.Name x np)) (some n) (b0::rest) hpos] [] [] pos) (D7 oo K C i X.N.length tb th):=by
 subst hK;intro pq s σ H D I h;obtain⟨E,htb,hE⟩:=h;refine wpAny_Try_except ?_;have hfr:X.A.frames=some (X.env::X.outer):=by rw[I.ok.frames,hst]
 have I' : Inv { X with pn:=X.pn++pq,xe:=fun e s1=>∃ p7 σ' H0 s0,Inv { X with pn:=X.pn++pq} p7 σ' H0 s0/\lG X.prog X.w X.stack H0 s0 E e s1} [] σ H s :=
  I.xw (A':=X.A) (cm:=X.calm) rfl I.ok.hd fun p hp=>by simpa using hp
 have hpass:Passes (lG X.prog X.w) { X with pn:=X.pn++pq,xe:=fun e s1=>∃ p7 σ' H0 s0,Inv { X with pn:=X.pn++pq} p7 σ' H0 s0/\lG X.prog X.w X.stack H0 s0 E e s1} E:=by
  intro p7 σ' H0 s0 e s1 J q;exact⟨p7,σ',H0,s0,J.xw (A':=X.A) (cm:=X.calm) (Gm:=X.pn++pq) rfl J.ok.hd fun p hp=>hp,q⟩
 have Si:∀{p7 σ' H' s'},Inv { X with pn:=X.pn++pq} p7 σ' H' s'->Inv X pq σ' H' s':=fun {p7 σ' H' s'} J=>by
  have z:=J.xw (A':=X.A) (cm:=X.calm) (Gm:=X.pn) (p7:=pq) (Fj:=X.xe) rfl J.ok.hd fun p hp=>GA _ hp
  exact z
 have C3:∀{p7 σ' H' s'} {Fj:iB},Inv { X with pn:=X.pn++pq,xe:=Fj} p7 σ' H' s'->Inv X pq σ' H' s':=fun {p7 σ' H' s' Fj} J=>by
  have z:=J.xw (A':=X.A) (cm:=X.calm) (Gm:=X.pn) (p7:=pq) (Fj:=X.xe) rfl J.ok.hd fun p hp=>GA _ hp
  exact z
 refine wpAny_mono (hb E _ _ hpass [] s σ H D I' htb) (fun f s1 q=>?_) fun e s1 q=>?_
 ·cases f with
  | next =>
    obtain⟨σ',H',J,q⟩:=q;exact wpAny_execs_nil ⟨σ',H',C3 J,q⟩
  | brk =>
    obtain⟨σ',H',J,q⟩:=q;exact⟨σ',H',C3 J,q⟩
  | cont =>
    obtain⟨σ',H',J,q⟩:=q;exact⟨σ',H',C3 J,q⟩
  | ret u =>
    obtain⟨v,σ',H',J,r,q⟩:=q;exact⟨v,σ',H',C3 J,r,q⟩
 ·obtain⟨p7,σ',H0,s0,I0,ea,cls,a0,od,c,H1,B,rfl,os,bare,un,hok,hn,AX,fl,sc,qE⟩:=q;rcases qE with⟨rfl,_,qE⟩|⟨C9,e9,C8,rfl,rfl,rfl,_,qE⟩
  case inr=>exact absurd (hE _ _ _ qE).1 (Fi _ _ _ _)
  obtain⟨hex,Sj⟩:=hE cls od H1 qE;have J1:Inv { X with pn:=X.pn++pq} p7 σ' H1 s1:=I0.AY os bare un hok
  have Lj:∀ b∈frs X.stack,H1 b=none:=J1.ua;have Qu:∀{h' : Heap},s1.heap.UpToSlots h'->∀ b∈frs X.stack,∀ ob,h'.get? b=some ob->∀ vs,ob.data≠.fields vs:=fun {h'} up b hb ob e vs z=>by
   obtain⟨_,o,ho,hnf⟩:=J1.stack.mem hb;obtain⟨sl,q⟩:=up b o ho hnf;rw[e]at q;cases q;exact hnf vs z
  have at_:∀{h' : Heap},B.StaysIn h'->s1.heap.UpToSlots h'->Inv X pq σ' H1 { s1 with heap:=h'}:=fun {h'} hB up=>by
   obtain⟨u2,Ll,_⟩:=vv un hok Lj (Qu (Heap.UpToSlots.refl _)) AX hB up;exact Si (I0.AY (s':={ s1 with heap:=h'}) os bare u2 Ll)
  have Sk:ea∉frs X.stack:=fun z=>by
   obtain⟨oe,vs,e,_,d,_⟩:=fl.first;exact Qu (Heap.UpToSlots.refl _) ea z oe e vs d
  have HC:s0.heap.get? ea=none:=by
   cases hz:s0.heap.get? ea with
   | none=>rfl
   | some o =>
     obtain⟨oe,vs,e,_⟩:=fl.first;have q:=AX ea oe e (.inr ⟨o,hz⟩) Sk;rw[fl.2.1]at q;cases q
  have Sl:Heap.FlyingW B (X.env::X.outer) ea cls a0 s1.heap:=by
   rw[hst]at fl;exact fl
  refine D6 hfr hf Sl sc fun h4 HD JG Sm=>?_
  obtain⟨g1,g2,g3,g4⟩:=HD;refine yo (s:={ s1 with heap:=h4}) g1 g2 g3 g4 JG fun h5 Lp JH Sn=>?_
  have HE:=Sm.trans Sn;have J5:=at_ Lp.1 HE;have hfm:(X.A.mark (some (.ref ea))).frames=X.A.frames:=rfl;have So:Inv { X with A:=X.A.mark (some (.ref ea)),calm:=false,pn:=X.pn,xe:=fun _ _=>False} pq σ' H1 { s1 with heap:=h5}:=J5.xw hfm (fun z=>nomatch z) fun p hp=>hp
  refine wpAny_handleBy_cons (codeAny_handlers_test (pO So hg hm ?_ hdb)) (by intro q;cases q)
  obtain⟨ob,hob,Lq⟩:=Lp.there;have LT:PySem.W.Looks (model X.prog X.w) h5 (typeOf (.ref ea)) cls:=Lq▸(PySem.W.Looks.ld hob).andThen .now;refine PySem.W.Looks.here (s:={ s1 with heap:=h5}) (PySem.W.exm_one (K:=X.K) J5.t8 LT hex) ?_
  refine codeAny_handlers_suite_as ?_;obtain⟨k1,k2,k3,k4⟩:=Lp;refine yo (s:={ s1 with heap:=h5}) k1 k2 k3 k4.at JH fun h6 Qv JI Sq=>?_
  have Lr:=HE.trans Sq;have J6:=at_ Qv.1 Lr;obtain⟨oe,vs,e6,c6,d6,_⟩:=Qv.first;have z6:vs[2]?=some .none/\oe.dict=od:=by
   obtain⟨o2,v2,g2,d2,z2,y2⟩:=JI;rw[e6]at g2;cases g2;rw[d6]at d2;cases d2;exact⟨z2,y2⟩
  have Ss:ea≠X.env.locals:=fun z=>by
   obtain⟨m,⟨o,_,_,ho,hd,_⟩,_⟩:=J6.loc;rw[<-z]at ho;rw[e6]at ho;cases ho;rw[d6]at hd;cases hd
  have J7:Inv X pq σ' (upd H1 ea (oo ea cls od)) { s1 with heap:=h6}:=by
   refine J6.HB hn ?_ Ss (fun y c e z=>?_) (fun p hp z=>?_) (Sh ⟨oe,vs,e6,c6,d6,z6.1,z6.2⟩)
   ·cases hz:X.s₀.heap.get? ea with
    | none=>rfl
    | some o =>
      obtain⟨o',q⟩:=I0.base.there ea o hz (show ea∉X.ex by rw[Fl];simp)
      rw[HC]at q;cases q
   ·obtain⟨v,o,ho,hd⟩:=J6.cell y c e;rw[z,e6]at ho;cases ho;rw[d6]at hd;cases hd
   ·have q:=(I0.pin p (GA _ hp)).1;rw[z,HC]at q;cases q
  have J8:Inv { X with A:=X.A.mark (some (.ref ea)),calm:=false,pn:=X.pn,xe:=fun _ _=>False} pq (List.replicate X.N.length none) (upd H1 ea (oo ea cls od)) { s1 with heap:=h6}:=by
   have z:Inv X pq (List.replicate X.N.length none) (upd H1 ea (oo ea cls od)) { s1 with heap:=h6}:=J7.weak (by rw[List.length_replicate,J7.len]) fun j v e=>by
    rw[List.getElem?_replicate]at e
    split at e<;>cases e
   exact z.xw hfm (fun z=>nomatch z) fun p hp=>hp
  refine kc (X:={ X with A:=X.A.mark (some (.ref ea)),calm:=false,pn:=X.pn,xe:=fun _ _=>False}) (v:=.ref ea) J8 hN hi (.inl hx) rfl (fun s9 J9=>?_) (.inr hx)
  refine wpAny_mono (hh _ _ pq s9 _ _ _ J9 (Sj ea hn)) (fun f Ls q=>?_) fun _ _ z=>z.elim
  cases f with
  | next =>
    obtain⟨σ2,H2,Su,q⟩:=q;have Sv:Inv X pq σ2 H2 Ls:=by
     have z:=Su.xw (A':=X.A) (cm:=X.calm) (Gm:=X.pn) (p7:=pq) (Fj:=X.xe) hfm.symm I.ok.hd fun p hp=>hp
     exact z
    exact zF Sv hN hi hx fun s12 Sw=>⟨_,H2,Sw,q⟩
  | brk=>obtain⟨_,_,_,q⟩:=q;exact q.elim
  | cont=>obtain⟨_,_,_,q⟩:=q;exact q.elim
  | ret u=>obtain⟨_,_,_,_,_,q⟩:=q;exact q.elim
theorem Fp{x n:Str}{i:Nat}{C:Addr}{body rest:List Stmt}{b0:Stmt}{np hpos pos:Pos}{tb:XK->TS}{th:Addr->TS}(K:bF)(hst:X.stack=X.env::X.outer)(hf:X.env.frame=some X.env.locals)(Fl:X.ex=[])(hN:X.N.Nodup)(hi:X.N[i]?=some n)
 (hx:X.env.scope.names.lookup n=some .local) (hg:Gl X x) (hm:X.mg x=some (.ref C))
 (hb:∀ E pn xe,Passes (lG X.prog X.w) { X with pn:=pn,xe:=xe} E->vc { X with pn:=pn,xe:=xe} body (tb E))
 (hh:∀ ea pn,vc { X with A:=X.A.mark (some (.ref ea)),calm:=false,pn:=pn,xe:=fun _ _=>False} (b0::rest) (th ea)) (hK:X.K=K:=by rfl) (hdb:(x==("__debug__":Str))=false:=by decide) :
 PS X (.Try body [.ExceptHandler (some (.Name x np)) (some n) (b0::rest) hpos] [] [] pos) (Lo K C i X.N.length tb th):=C2 (fun ea cls _=>rT ea cls) (fun⟨oe,vs,e,c,d,z,_⟩=>C1 ⟨oe,vs,e,c,d,z⟩) K hst hf Fl hN hi hx hg hm hb hh hK hdb
end
open PySem PySem.Spec PySem.Calls PyProof.Rows PySem.W PySem.Builtin PySem.Builtin.ObjectAttr PySem.Builtin.Getset_descriptor
structure uw(K:Frag)(D:Addr):Prop where
 ga:findIn K (.ref D) "__getattribute__"=some (some (.builtin "BaseException.__getattribute__"))
 gh:findIn K (.ref D) "__getattr__"=some none
 cl:findIn K (.ref D) "__class__"=some (some (.builtin "object.__class__"))
 gt:specialIn K (.builtin "object.__class__") "__get__"=some (some (.builtin "getset_descriptor.__get__"))
 tk:takesIn K (.builtin "object.__class__")=some true
 mr:mroIn K D (.type "object")=some true
 mb:mroIn K D (.type "BaseException")=some true
 Qw:(clsIn K D).isSome=true
def ExcAt(x:Addr)(D:Value)(h:Heap):Prop:=∃ ox,h.get? x=some ox/\ox.cls=D
section
variable {K:Frag}{x D:Addr}
theorem ExcAt.ty{M:Model}{h:Heap}{V:Value}(q:ExcAt x V h):Looks M h (typeOf (.ref x)) V:=by
 obtain⟨ox,e,c⟩:=q;exact c▸(Looks.ld e).andThen .now
theorem xx{M:Model}{h:Heap}{C:Addr}{name:Str}{at_ g:Value}(X:K.In h)(ha:findIn K (.ref C) name=some (some at_))(hg:specialIn K at_ "__get__"=some (some g))(hd:takesIn K at_=some true):
 Looks M h (find (.ref x) (.ref C) name) (.bind g at_):=by
 refine(looks_findIn X ha).andThen (Looks.andThen (show Looks M h (getOf (some at_)) (some g) from looks_specialIn X hg) ?_)
 have L3:=looks_takesIn (M:=M) X hd;have L4:Looks M h (dataDescriptor? (some at_) (some g)) (some (g,at_)):=L3.andThen .now;exact L4.andThen (Looks.tag .now)
section
variable {prog:Program}{w:World}{A:Around}{E:iB}{s:Shared}
theorem xy{M:Model}{nameV:Value}{Q:Unit->Shared->Prop}{hh:Heap}{gg:Array GenState}{dd:Drawn}{tt:Nat}{oo:OsState}(S:Looks M hh (isInstance (.ref x) (.type "BaseException")) true)(hq:Q () ⟨hh,gg,dd,tt,oo⟩):
 wpAny M A (checkBuiltinCall "BaseException.__getattribute__" ⟨[.ref x,nameV],[]⟩) Q E ⟨hh,gg,dd,tt,oo⟩:=by
 have hk:builtinKind "BaseException.__getattribute__"=some .slot:=by decide +kernel
 have hsplit:splitId "BaseException.__getattribute__"=some ("BaseException","__getattribute__"):=by decide +kernel
 have ha:=F.args_bexc_ga (.ref x) nameV;simp only[checkBuiltinCall,hk,hsplit];refine jd (S.at ?_)
 repeat (first | wp_step)
 exact hq
theorem zG{Q:Option Value->Shared->Prop}(C:uw K D)(X:K.In s.heap)(q:ExcAt x (.ref D) s.heap)(h:Q (some (.ref D)) { s with toks:=s.toks+1}):wpAny (model prog w) A (getAttr? (.ref x) "__class__") Q E s:=by
 obtain⟨hh,gg,dd,tt,oo⟩:=s;have L0:=q.ty (M:=model prog w);have L1:=looks_findIn (M:=model prog w) X C.ga;have L2:=xx (M:=model prog w) (x:=x) X C.cl C.gt C.tk;have L3:=looks_findIn (M:=model prog w) X C.gh;have L4:=looks_mroIn (M:=model prog w) X C.mr;have L5:=looks_mroIn (M:=model prog w) X C.mb;have S5:Looks (model prog w) hh (isInstance (.ref x) (.type "BaseException")) true:=L0.andThen L5;unfold getAttr? getAttrBy? getAttrBy;refine jd (wpAny_mkText (jd (wpAny_attempt (wpAny_holding (jd (L0.at (jd (L1.at ?_))))))));show wpAny _ _ (getAttrByItsOwn (.ref x) (.str "__class__" tt) (.ref D) (.builtin "BaseException.__getattribute__") false false) _ _ _;unfold getAttrByItsOwn;refine jd (Looks.at (show Looks (model prog w) hh (hookBefore (.ref D)) none from L3) ?_)
 refine jd (wpAny_attempt (wpAny_holding ?_));show wpAny _ _ (boundAndCalled _ _ _) _ _ _;unfold boundAndCalled;rw[F.attrBase_ValueError.ga.bind (.ref x)];refine jd (wpAny_pure ?_);show wpAny _ _ (call (.builtin "BaseException.__getattribute__") [.ref x,.str "__class__" tt]) _ _ _;refine wpAny_call (codeAny_call_builtin F.attrBase_ValueError.ga.plain F.entry_bexc_ga ?_);refine xy S5 ?_;refine jd (wpAny_pure (jd (wpAny_pure (jd (L0.at (jd (L2.at ?_)))))));show wpAny _ _ (holding [_] (call (.builtin "getset_descriptor.__get__") [.builtin "object.__class__",.ref x,.ref D]) >>= ret) _ _ _;refine jd (wpAny_holding (wpAny_call ?_));refine codeAny_call_builtin KF.slot_gs.plain KF.entry_gs (KF.slot_gs.check _ _ _ _ _ _ _ _ KF.type_class (KF.args_gs _ _ _) ?_)
 (unfold Builtin.«getset_descriptor.__get__» descrGet;rw[dga_obj])
 refine jd (wpAny_pure ?_)
 (unfold descrGetter descrCheckInstance descrNameAndClass isInstance;simp only[KF.owner_class])
 repeat lk
 refine⟨Code.quiet_builtin _ (by decide +kernel),codeAny_builtin KF.entry_class ?_⟩
 (unfold Builtin.«object.__class__» shownTypeOf)
 repeat lk
 exact h
end
theorem AZ(C:uw K D):KitX K (.ref x) (.ref D) (ExcAt x (.ref D)) where
 ty:=fun _ _ _ q=>q.ty
 it:=fun M h X _=>by
  have z:=C.Qw;unfold clsIn at z
  split at z
  ·rename_i ho
   intro A1 Q1 E1 s1 k q
   (unfold isType;unfold loadHead)
   exact jd (wpAny_loadPart (k _ _ (X _ _ ho)) (wpAny_pure q))
  ·cases z
 ne:=fun h tp dd its n sl X htp=>by
  have z:=C.Qw;refine Bool.eq_false_iff.mpr fun q=>?_
  cases Value.ref.inj (beq_iff_eq.mp q);unfold clsIn at z
  split at z
  ·rename_i ho
   cases(X _ _ ho).symm.trans htp
  ·cases z
 ca:=fun X q k=>zG C X q k
end
def HF(K:Frag):List V->Hp->VK->Prop:=fun xs H Q=>∃ x c D u b,xs=[.ref x,c]/\E5 c=some u/\H x=some (rT x (.ref D))/\uw K D/\kitOne K (.ref D) u=some b/\Q (.bl b) H
theorem nV{X:Cx}(K:Frag)(hK:X.K=K:=by rfl):gn X (.builtin "isinstance") (HF K):=by
 subst hK;intro pq s σ H xs us Q I r h;obtain⟨x,c,D,u,b,rfl,rc,ty,C,e,q⟩:=h;cases r with
 | cons r1 r2 =>
   cases r2 with
   | cons r2 r3 =>
     cases r3;cases yk rc r2;cases(show _=Value.ref x from r1)
     obtain⟨⟨oe,vs,e1,e2,_⟩,_⟩:=(show cC X.prog X.w H s.heap x (rT x (.ref D)) from I.hok x _ ty)
     exact kia_one (AZ C) I.t8 ⟨oe,e1,e2⟩ e (fun z=>nomatch z) fun tk=>⟨.bl b,H,I.tok tk,rfl,q⟩
section
variable {X:Cx}
theorem ux:lB X (binaryOp .Mult) (rI IntMulOk fun i j=>.int (i*j)):=DV fun _ _ _ _ _ _ _ hc q=>mul_int q hc
theorem mulOk_of{i j:Int}(hi:i.natAbs<2^1000)(hj:j.natAbs<2^1000):IntMulOk i j:=by
 have bits:∀ k:Int,k.natAbs<2^1000->Builtin.Int.intBits k<=2^20:=fun k hk=>by
  unfold Builtin.Int.intBits
  by_cases h0:k.natAbs=0
  ·simp only[h0]
   split<;>decide
  ·have h1:k.natAbs.log2<1000:=(Nat.log2_lt h0).mpr hk
   split<;>lia
 exact IntMulOk.of_bits (bits i hi) (bits j hj)
end
section
variable {X:Cx}{tg:Expr}
theorem yq{iter:Expr}{body:List Stmt}{wi:TI}{g:TG}{tb:TS}{pos:Pos}(hc:X.calm=true)(hi:PI X tg iter wi)(hg:PG X.An tg g)(hb:vc X.An body tb)(hs:∀ x,foldedSetIterable iter X.env x=pure x:=by intro _;rfl):
 PS X (.For tg iter body [] pos) (fD wi g tb):=by
 intro pq s σ H D I h;refine wpAny_For (fE (hi pq s σ H _ I h) fun v s1 h1=>fE h1 fun itv s2 h2=>?_) hs
 obtain⟨it,fp,tn,J,H2,e,I2,T,st2,f2,W,⟨m0,w0⟩,turn⟩:=h2;subst e;have xj:∀{H' : Hp},(∀ b∈fp,H' b=none)->∀ b∈fp,lW X.An pq H' b:=fun hn b hb=>⟨hn b hb,(f2 b hb).2⟩
 refine codeAny_forLoop_any (fun n s'=>∃ i σ' H',Inv X.An pq σ' H' s'/\tn i s'.heap/\(∀ b∈fp,H' b=none)/\W i n σ' H') ?_ m0 ⟨0,σ,H2,I2.qf _,st2,fun b hb=>(f2 b hb).1,w0⟩
 rintro n s3 ⟨i,σ3,H3,I3,st3,DT,w3⟩;rcases turn i n σ3 H3 w3 with⟨stop,qn⟩|⟨go,N,hN,step⟩
 ·refine wpAny_mono (T.done X.An rfl rfl rfl hc i pq s3 σ3 H3 (fun _ _=>False) I3 (xj DT) st3 stop) (fun r s4 ⟨hr,I4⟩=>?_) fun _ _ z=>z.elim
  subst hr;exact wpAny_execs_nil ⟨σ3,H3,I4.gW,qn⟩
 ·refine wpAny_mono (T.item X.An rfl rfl rfl hc i pq s3 σ3 H3 (fun _ _=>False) I3 (xj DT) st3 go) (fun r s4 ⟨u,hr,h4⟩=>?_) fun _ _ z=>z.elim
  subst hr;refine wpAny_mono h4 (fun _ s5 ⟨x,H5,I5,r5,y5,Ay,GS⟩=>?_) fun _ _ z=>z.elim
  have GU:=I5.pinned (xj GS) (T.obj _ _ Ay);refine wpAny_mono (hg _ s5 σ3 H5 x u _ GU r5 (step x H5 y5)) (fun _ s6 ⟨σ6,H6,I6,q6⟩=>?_) fun _ _ z=>z.elim
  refine wpAny_mono (hb _ s6 σ6 H6 _ I6 q6) (fun f s7 q7=>?_) fun _ _ z=>z.elim
  have again:∀{σ7:St} {H7:Hp},Inv X.An (pq++nM fp s5.heap) σ7 H7 s7->N σ7 H7->∃ m,m<n/\∃ i σ' H',Inv X.An pq σ' H' s7/\tn i s7.heap/\(∀ b∈fp,H' b=none)/\W i m σ' H':=fun {σ7 H7} I7 n7=>by
   obtain⟨m',hm,w7⟩:=hN σ7 H7 n7;refine⟨m',hm,i+1,σ7,H7,I7.gX,T.keep _ _ _ Ay fun b hb o e=>(I7.pin (b,o) (ve _ (ve _ (fJ hb e)))).1,fun b hb=>?_,w7⟩
   obtain⟨o,e,d⟩:=T.obj _ _ Ay b hb;exact(I7.pin (b,o) (ve _ (ve _ (fJ hb e)))).2.1
  cases f with
  | next=>obtain⟨σ7,H7,I7,n7⟩:=q7;exact again I7 n7
  | cont=>obtain⟨σ7,H7,I7,n7⟩:=q7;exact again I7 n7
  | brk=>obtain⟨σ7,H7,I7,q7⟩:=q7;exact⟨σ7,H7,I7.gX.gW,q7⟩
  | ret v=>obtain⟨x7,σ7,H7,I7,r7,q7⟩:=q7;exact⟨x7,σ7,H7,I7.gX.gW,r7,q7⟩
theorem oF{P:Program}{w:World}{X:Cx}:Passes (lG P w) X (fun _ _ _=>False):=by
 intro pq σ H s e s' I q;obtain⟨_,_,_,_,_,_,_,_,_,_,_,_,_,_,_,_,z⟩:=q;rcases z with⟨_,_,z⟩|⟨_,_,_,_,_,_,_,z⟩
 ·exact z.elim
 ·exact z.elim
end
theorem gD{X:Cx}{x:Str}{C:Addr}{pos:Pos}(hg:Gl X x)(hm:X.mg x=some (.ref C))(hd:(x==("__debug__":Str))=false:=by decide):PE X (.Name x pos) (tC (.ref C)):=x6 hg hm rfl hd
theorem A0{K:bF}{h:Heap}{mg:iS}{x:Str}{C:Addr}{bmB:List Value}{newId:String}(X:K.In h)(G:h.Ns mainGlobals mg)(e:PySem.W.nsIn K mainGlobals x=some (some (.ref C)))(q:PySem.W.excIn K C bmB newId=true):
 OwnCls x C bmB newId mg h:=by
 refine⟨PySem.W.mg_of X G e,?_⟩;unfold PySem.W.excIn at q
 split at q
 ·rename_i od cd sl look
  split at q
  ·rename_i Cx bm j0 j1 j2 j3 nw j5 hmro hsl
   simp only[Bool.and_eq_true,beq_iff_eq,Bool.not_eq_true']at q;obtain⟨⟨⟨⟨⟨rfl,rfl⟩,HG⟩,ht⟩,hok⟩,hni⟩:=q;obtain⟨nm,bs,mro,ns,qn,hd,sn,sub,ab,col,del⟩:=cd
   (dsimp only at hmro HG hok hni;subst hmro HG)
   have hs2:sl = #[j0,j1,j2,j3,some (.builtin nw),j5]:=by
    obtain⟨l⟩:=sl;simp only at hsl;rw[hsl]
   subst hs2;exact⟨bm,ns,nm,qn,bs,hd,sn,sub,ab,col,od,j0,j1,j2,j3,j5,_,X _ _ look,.of_isNs (PySem.W.isNs_of_in X hok),PySem.W.nsMap_none_of_in X hok hni,PySem.W.tail_of_in X ht⟩
  ·cases q
 ·cases q
theorem Fq{K:bF}{C:PySem.Addr}(h:PySem.W.hasDictIn K C=true):(PySem.W.clsIn K C).isSome=true:=by
 obtain⟨cd,e,_⟩:=PySem.W.any_some h;rw[e];rfl
theorem lZ{α:Type}:∀ us:List α,us.length=1->∃ a,us=[a]
 | [_],_=>⟨_,rfl⟩
theorem mU{α:Type}:∀ us:List α,us.length=2->∃ a b,us=[a,b]
 | [_,_],_=>⟨_,_,rfl⟩
theorem A3{α:Type}:∀ us:List α,us.length=3->∃ a b c,us=[a,b,c]
 | [_,_,_],_=>⟨_,_,_,rfl⟩
theorem Lu{α:Type}:∀ us:List α,us.length=4->∃ a b c d,us=[a,b,c,d]
 | [_,_,_,_],_=>⟨_,_,_,_,rfl⟩
section
variable {X:Cx}{pq:bq}{σ:St}{H:Hp}{s:Shared}{h' : Heap}
theorem Inv.yields{t' : Nat}{wr:List Addr}{T:Addr}{o:HO}(I:Inv X pq σ H s)(k:∀ b u,b∉wr->s.heap.get? b=some u->h'.get? b=some u)(hf:∀ b∈wr,lW X pq H b)(hT:s.heap.objs.size<=T)
 (new:cC X.prog X.w (upd H T o) h' T o):Inv X pq σ (upd H T o) { s with heap:=h',toks:=t'}:=by
 have Qx:H T=none:=I.hok.fresh hT;have nT:∀ b u,H b=some u->b≠T:=fun b u e=>bS e Qx
 have nw:∀ b u,H b=some u->b∉wr:=fun b u e hb=>by rw[(hf b hb).1]at e;cases e
 refine I.step (g':=s.gens) (d':=s.drawn) (ch:=wr) (fun b hb=>?_) (fun b o _ _ hc e _=>k b o hc e) (fun b o _ _ hc e _=>⟨o.slots,k b o hc e⟩) (fun b u hc e n=>?_)
  (fun b o hc e=>⟨o,k b o hc e⟩) (fun b xs e=>?_) (fun b ob xs e=>?_) (fun b ps e=>⟨#[],?_⟩) (fun m hm=>?_) (fun b u e=>?_) I.bare
 ·obtain⟨_,f1,_,f3,f4,f5⟩:=hf b hb;exact⟨f3,f1,f4,f5⟩
 ·rw[aL (Nat.ne_of_lt (Nat.lt_of_lt_of_le (Heap.lt_size e) hT))];exact n
 ·rw[aL (nT b _ e)];exact e
 ·rw[aL (nT b _ e)];exact e
 ·rw[aL (nT b _ e),e];simp
 ·obtain⟨o,es,ep,ho,r⟩:=hm;exact⟨o,es,ep,k _ o (fun hb=>(hf _ hb).2.1 rfl) ho,r⟩
 ·by_cases hb:b=T
  ·subst hb;rw[aj]at e;cases e;exact new
  ·rw[aL hb]at e;refine(I.hok b u e).stay (fun c v hc q=>k c v ?_ q) (fun c q=>by rw[aL (nT c _ q)];exact q) fun c xs q=>by rw[aL (nT c _ q)];exact q
   rcases hc with z|z
   ·rw[z];exact nw b u e
   ·exact nw c _ z
theorem Inv.C4{t' : Nat}{wr:List Addr}(I:Inv X pq σ H s)(k:∀ b u,b∉wr->s.heap.get? b=some u->h'.get? b=some u)(hf:∀ b∈wr,lW X pq H b):Inv X pq σ H { s with heap:=h',toks:=t'}:=by
 have nw:∀ b u,H b=some u->b∉wr:=fun b u e hb=>by rw[(hf b hb).1]at e;cases e
 refine I.step (g':=s.gens) (d':=s.drawn) (ch:=wr) (fun b hb=>?_) (fun b o _ _ hc e _=>k b o hc e) (fun b o _ _ hc e _=>⟨o.slots,k b o hc e⟩) (fun _ _ _ _ n=>n)
  (fun b o hc e=>⟨o,k b o hc e⟩) (fun _ _ e=>e) (fun _ _ _ e=>e) (fun b ps e=>⟨#[],by rw[e];simp⟩) (fun m hm=>?_) (fun b u e=>?_) I.bare
 ·obtain⟨_,f1,_,f3,f4,f5⟩:=hf b hb;exact⟨f3,f1,f4,f5⟩
 ·obtain⟨o,es,ep,ho,r⟩:=hm;exact⟨o,es,ep,k _ o (fun hb=>(hf _ hb).2.1 rfl) ho,r⟩
 ·refine(I.hok b u e).stay (fun c v hc q=>k c v ?_ q) (fun _ q=>q) fun _ _ q=>q
  rcases hc with z|z
  ·rw[z];exact nw b u e
  ·exact nw c _ z
end
def Lv(K:bF)(a b:Addr):It :=
 ⟨fun i H=>∃ xs ys x y,bg K H a xs/\bg K H b ys/\xs[i]?=some x/\ys[i]?=some y,
  fun i H v H'=>∃ T x y,v = .ref T/\H T=none/\H' = upd H T (.tup [x,y])/\(∀ xs,bg K H a xs->xs[i]?=some x)/\∀ ys,bg K H b ys->ys[i]?=some y,
  fun i H=>∃ xs ys,bg K H a xs/\bg K H b ys/\(xs.length<=i\/ys.length<=i)⟩
theorem A4{P:Program}{w:World}{K:bF}{elts:List Expr}{k:Nat}{pos:Pos}(a b z TI TO i1 i2:Addr)(D:ZipApart z TI TO i1 i2 a b):
 Turn P w K (.Tuple elts k pos) (Lv K a b) [z,TI,TO,i1,i2] z (fun i h=>IsZip h z TI TO .none/\IsPair h TI (.ref i1) (.ref i2)/\(∃ u v,IsPair h TO u v)/\h.IsListIter i1 a i/\h.IsListIter i2 b i) where
 mem:=by simp
 obj:=fun i h st c hc=>by
  obtain⟨hz,hI,⟨u,v,hO⟩,⟨o1,Sx,_,d1⟩,o2,ho2,_,d2⟩:=st;have hc' : c=z\/c=TI\/c=TO\/c=i1\/c=i2:=by simpa using hc
  rcases hc' with rfl|rfl|rfl|rfl|rfl
  ·exact⟨_,hz,fun v z=>by cases z⟩
  ·exact⟨_,hI,fun v z=>by cases z⟩
  ·exact⟨_,hO,fun v z=>by cases z⟩
  ·exact⟨o1,Sx,fun v z=>by rw[d1]at z;cases z⟩
  ·exact⟨o2,ho2,fun v z=>by rw[d2]at z;cases z⟩
 keep:=fun i h h' st k=>by
  obtain⟨hz,hI,⟨u,v,hO⟩,h1,h2⟩:=st;exact⟨k z (by simp) _ hz,k TI (by simp) _ hI,⟨u,v,k TO (by simp) _ hO⟩,h1.at fun o e=>k i1 (by simp) o e,h2.at fun o e=>k i2 (by simp) o e⟩
 item:=by
  intro X hP hw hK hc i pq s σ H E I hf st hg;subst hP hw hK;obtain⟨xs,ys,x,y,hq,hq2,hx,hy⟩:=hg;obtain⟨its,rv,p,Sy⟩:=I.list hq;obtain⟨its2,JJ,p2,Lw⟩:=I.list hq2;obtain⟨u,hu,ru⟩:=rv.get hx;obtain⟨u2,Gn,Sz⟩:=JJ.get hy;obtain⟨hz,hI,⟨v1,v2,hO⟩,h1,h2⟩:=st;refine wpAny_pyNext_zip_item D hz hI hO h1 h2 p.isList p2.isList (x:=u) (y:=u2) (by simpa using hu) (by simpa using Gn) fun h3 Qy Gp Lx Ly hT hsz hk=>?_
  refine⟨_,rfl,wpAny_letOwnedTupleGo_zip Qy fun h4 SA Gq=>?_⟩
  have lt:∀{c o},s.heap.get? c=some o->s.heap.objs.size≠c:=fun e=>Nat.ne_of_gt (Heap.lt_size e)
  have SD:h4.get? s.heap.objs.size=some { cls:=.type "tuple",data:=.seq #[u,u2]}:=(Gq.2 _ (lt hz)).trans hT;have kk:∀ c o,c∉[z,TO,i1,i2]->s.heap.get? c=some o->h4.get? c=some o:=fun c o hc q=>by
   have c1:c≠z:=fun e=>hc (by simp[e])
   exact(Gq.2 c c1).trans (hk c o c1 (fun e=>hc (by simp[e])) (fun e=>hc (by simp[e])) (fun e=>hc (by simp[e])) q)
  have hsub:∀ c∈[z,TO,i1,i2],c∈[z,TI,TO,i1,i2]:=fun c hc=>by
   have hc' : c=z\/c=TO\/c=i1\/c=i2:=by simpa using hc
   rcases hc' with rfl|rfl|rfl|rfl<;>simp
  refine⟨.ref s.heap.objs.size,upd H s.heap.objs.size (.tup [x,y]),I.yields (wr:=[z,TO,i1,i2]) (t':=s.toks) kk (fun c hc=>hf c (hsub c hc)) (Nat.le_refl _) ?_,rfl,
   ⟨_,x,y,rfl,I.fresh,rfl,fun zs hy=>by rw[I.qe hy hq];exact hx,fun zs hz=>by rw[I.qe hz hq2];exact hy⟩,⟨SA,(Gq.2 _ D.TIz).trans (hk _ _ D.TIz D.TITO D.TIi1 D.TIi2 hI),⟨u,u2,(Gq.2 _ D.TOz).trans Gp⟩,?_,?_⟩,fun c hc=>?_⟩
  ·exact⟨dl rfl,[u,u2],.cons ru (.cons Sz .nil),⟨_,SD,rfl,_,rfl⟩⟩
  ·exact Lx.at fun o q=>(Gq.2 _ D.i1z).trans q
  ·exact Ly.at fun o q=>(Gq.2 _ D.i2z).trans q
  ·rw[aL]
   ·exact(hf c hc).1
   ·have hc' : c=z\/c=TI\/c=TO\/c=i1\/c=i2:=by simpa using hc
    rcases hc' with rfl|rfl|rfl|rfl|rfl
    ·exact Ne.symm (lt hz)
    ·exact Ne.symm (lt hI)
    ·exact Ne.symm (lt hO)
    ·obtain⟨o,q,_⟩:=h1;exact Ne.symm (lt q)
    ·obtain⟨o,q,_⟩:=h2;exact Ne.symm (lt q)
 done:=by
  intro X hP hw hK hc i pq s σ H E I hf st hg;subst hP hw hK;obtain⟨xs,ys,hq,hq2,hx⟩:=hg;obtain⟨its,rv,p,Sy⟩:=I.list hq;obtain⟨its2,JJ,p2,Lw⟩:=I.list hq2;obtain⟨hz,hI,⟨v1,v2,hO⟩,h1,h2⟩:=st;have hl:=rv.length;have hl2:=JJ.length;have hsub:∀ c∈[z,TO,i1,i2],c∈[z,TI,TO,i1,i2]:=fun c hc=>by
   have hc' : c=z\/c=TO\/c=i1\/c=i2:=by simpa using hc
   rcases hc' with rfl|rfl|rfl|rfl<;>simp
  refine wpAny_pyNext_zip_end (I.ok.hd hc) D hz hI hO h1 h2 p.isList p2.isList (hx.imp (fun q=>by simp;lia) fun q=>by simp;lia) fun h' kk=>⟨rfl,I.C4 (wr:=[z,TO,i1,i2]) (t':=s.toks) (fun c o hc q=>?_) fun c hc=>hf c (hsub c hc)⟩
  exact kk c o (fun e=>hc (by simp[e])) (fun e=>hc (by simp[e])) (fun e=>hc (by simp[e])) (fun e=>hc (by simp[e])) q
 self:=fun _ _ _ _ _ st h=>wpAny_pyIter_zip st.1 h
theorem zH{n a b:Nat}(la:a<n)(lb:b<n):ZipApart (n+4) (n+2) (n+3) n (n+1) a b:=by
 have k:∀{x y:Nat},x<y\/y<x->x≠y:=fun h=>by lia
 constructor<;>exact k (by lia)
section
variable {X:Cx}{elts:List Expr}{n:Nat}{tp:Pos}
def Lz(K:bF)(ta:TA):TI:=fun σ H R=>ta σ H fun vs H1=>∃ a b,vs=[.ref a,.ref b]/\(∃ xs,bg K H1 a xs)/\(∃ ys,bg K H1 b ys)/\R (Lv K a b) H1
theorem A5(K:bF){a b:Expr}{ta:TA}{p pos:Pos}(hg:Gl X "zip")(hm:X.mg "zip"=none)(ha:PA X [a,b] ta)(hs:starEach [a,b] X.env=[(false,eval a X.env),(false,eval b X.env)]:=by rfl)(hs2:starEach [b] X.env=[(false,eval b X.env)]:=by rfl)(hK:X.K=K:=by rfl):
 PI X (.Tuple elts n tp) (.Call (.Name "zip" p) [a,b] [] pos) (Lz K ta):=by
 subst hK;intro pq s σ H R I h;refine Call_ (nK I hg hm boot_zip (PyProof.Rows.callWith_type1 (fE (ha pos pq s σ H _ I h) fun us s1 ⟨vs,H1,I1,r1,q1⟩=>?_) (by rw[hs,hs2]) (by rw[hs2];rfl)))
 obtain⟨a,b,e,⟨xs,hq⟩,⟨ys,hq2⟩,q⟩:=q1;subst e;cases r1 with
 | cons r rr =>
   cases rr with
   | cons r' rr =>
     cases rr;cases r;cases r';obtain⟨its,rv,pl,hz⟩:=I1.list hq;obtain⟨its2,JJ,Qz,hz2⟩:=I1.list hq2;refine call_zip_2 pl.isList Qz.isList fun h' QA hI hO h1 h2 hsz hk=>?_
     have I2:Inv X pq σ H1 { s1 with heap:=h'}:=I1.kept (t':=s1.toks) hk
     have la:a<s1.heap.objs.size:=by obtain⟨_,q,_⟩:=pl.isList;exact Heap.lt_size q
     have lb:b<s1.heap.objs.size:=by obtain⟨_,q,_⟩:=Qz.isList;exact Heap.lt_size q
     refine wpAny_pyIter_zip QA ⟨_,[s1.heap.objs.size+4,s1.heap.objs.size+2,s1.heap.objs.size+3,s1.heap.objs.size,s1.heap.objs.size+1],_,_,H1,rfl,I2,
      A4 a b _ _ _ _ _ (zH la lb),⟨QA,hI,⟨_,_,hO⟩,h1,h2⟩,fun c hc=>?_,q⟩
     have hc' : c=s1.heap.objs.size+4\/c=s1.heap.objs.size+2\/c=s1.heap.objs.size+3\/c=s1.heap.objs.size\/c=s1.heap.objs.size+1:=by simpa using hc
     have hcs:s1.heap.objs.size<=c:=by
      rcases hc' with rfl|rfl|rfl|rfl|rfl
      ·exact Nat.le_add_right _ _
      ·exact Nat.le_add_right _ _
      ·exact Nat.le_add_right _ _
      ·exact Nat.le_refl _
      ·exact Nat.le_add_right _ _
     exact I1.CD hcs (I1.hok.fresh hcs)
end
section
variable {K:bF}{a b:Addr}{xs ys:List V}{g:TG}{tt:TT}{te:TE}{n:Nat}{fr:St}{D:Addr}{Q:Hp->Prop}{H1:Hp}
theorem vz(hxy:xs.length=ys.length)(Pv:Nat->List V->Hp->Prop)(h0:Pv 0 [] H1)(hl:∀ i acc H,i<=xs.length->Pv i acc H->bg K H a xs/\bg K H b ys/\H D=some (.lst acc)/\acc.length<=i)(hz:xs.length<=sizeLine)
 (hs:∀ i x y T acc H,xs[i]?=some x->ys[i]?=some y->Pv i acc H->H T=none->g (.ref T) (List.replicate n none++fr) (upd H T (.tup [x,y])) fun σ2 H2=>σ2.drop n=fr/\tt σ2 H2 fun b H3 =>
  if b=true then te σ2 H3 fun v H4=>H4 D=some (.lst acc)/\Pv (i+1) (acc++[v]) (upd H4 D (.lst (acc++[v]))) else Pv (i+1) acc H3)
 (hd:∀ acc H,Pv xs.length acc H->Q H):jg (Lv K a b) g tt te n fr D Q H1:=by
 refine⟨fun i m acc H=>m=xs.length-i/\i<=xs.length/\Pv i acc H,⟨xs.length,by simp,Nat.zero_le _,h0⟩,?_⟩
 rintro i m acc H ⟨rfl,hi,p⟩;obtain⟨q,q2,hD,ha⟩:=hl i acc H hi p;refine⟨hD,?_⟩
 by_cases hlt:i<xs.length
 ·have LA:i<ys.length:=by lia
  refine .inr ⟨⟨xs,ys,xs[i],ys[i],q,q2,by simp[hlt],by simp[LA]⟩,by lia,Pv (i+1),fun acc' H' p'=>⟨xs.length-(i+1),by lia,rfl,hlt,p'⟩,fun v H' y=>?_⟩
  obtain⟨T,x,z,rfl,hT,rfl,y1,y2⟩:=y;exact hs i x z T acc _ (y1 xs q) (y2 ys q2) p hT
 ·have e:i=xs.length:=by lia
  subst e;exact .inl ⟨⟨xs,ys,q,q2,.inl (Nat.le_refl _)⟩,hd acc H p⟩
end
section
variable {X:Cx}
theorem qm:gn X (.type "range") (fun xs H Q=>∃ j:Int,xs=[.int j]/\∀ p,H p=none->Q (.ref p) (upd H p (.wX 0 j))):=by
 intro pq s σ H xs us Q I r h;obtain⟨j,rfl,q⟩:=h;obtain⟨u,rfl,t,rfl⟩:=vals1 r;refine call_range_1 ⟨.ref s.heap.objs.size,_,I.laid (t':=s.toks+1+1) (fun b o e=>Heap.get?_push_of_some _ e) (Nat.le_refl _) ?_,rfl,q _ I.fresh⟩
 exact⟨_,_,_,Heap.get?_push_size _ rfl⟩
def nW(n:Nat):List V:=(List.range n).map fun i=>V.int ((i:Nat):Int)
theorem A6(hc:X.calm=true):gn X (.type "list") (fun xs H Q=>∃ p,∃ n:Nat,xs=[.ref p]/\H p=some (.wX 0 (n:Int))/\n<=900/\∀ l,H l=none->Q (.ref l) (upd H l (.lst (nW n)))):=by
 intro pq s σ H xs us Q I r h;obtain⟨p,n,rfl,hp,hn,q⟩:=h;obtain⟨u,rfl,rx⟩:=vals1 r;cases rx;obtain⟨t,u,v,e⟩:=(show cC X.prog X.w H s.heap p (.wX 0 (n:Int)) from I.hok p _ hp)
 have hsz:Builtin.Range.rangeSize 0 (n:Int) 1=(n:Int):=by rw[rangeSize_one];split<;>lia
 refine call_list_range (I.ok.hd hc) e (small_one (by lia) (by lia) (by lia) (by lia)) hsz (Nat.le_trans hn (by decide)) fun h' tk acc c kp e' hacc=>?_
 refine⟨.ref s.heap.objs.size,_,I.laid (t':=tk) kp (Nat.le_refl _) ?_,rfl,q _ I.fresh⟩;have hl:acc.toList.length=n:=by rw[Array.length_toList];exact hacc.1
 have hz:(nW n).length<=sizeLine:=by
  unfold nW;rw[List.length_map,List.length_range];exact Nat.le_of_lt (eK (by lia))
 refine⟨hz,acc.toList,c,?_,by simpa using e'⟩
 have key:∀(ys:List Value) (k:Nat),(∀ j v,ys[j]?=some v->∃ t,v=Value.int (((k+j:Nat)):Int) t)->Vals ((List.range' k ys.length).map fun i=>V.int ((i:Nat):Int)) ys:=by
  intro ys
  induction ys with
  | nil=>intro k _;exact .nil
  | cons y r ih =>
    intro k hy;obtain⟨t,ht⟩:=hy 0 y rfl;refine .cons ⟨t,by simpa using ht⟩ (ih (k+1) fun j v hv=>?_)
    obtain⟨t',ht'⟩:=hy (j+1) v (by simpa using hv)
    exact⟨t',by rw[ht'];congr 2;lia⟩
 have z:=key acc.toList 0 fun j v hv=>by
  obtain⟨t,ht⟩:=hacc.2 j v (by simpa using hv)
  exact⟨t,by rw[ht];congr 1;lia⟩
 rw[hl]at z;unfold nW;rw[List.range_eq_range'];exact z
end
end L2
namespace HT
open PySem PyProof.Rows
section
variable {prog:Program}{w:World}{A:Around}{E:iB}{s:Shared}
theorem lC{t sl:Addr}{items:Array Value}{vl vu:Value}{lo hi:Option Int}{Q:iB}(ht:IsTup s.heap t items)(hs:s.heap.IsSliceOf sl vl vu .none)(pl:IsPart vl lo)(pu:IsPart vu hi)
 (hw:fb items.size 0 lo=0/\fb items.size items.size hi=items.size) (h:Q (.ref t) s):wpAny (model prog w) A (getItem (.ref t) (.ref sl)) Q E s:=by
 obtain⟨os,hos,hcs,hds⟩:=id hs;have K2:s.TypeIs (.ref sl) "slice":=⟨os,hos,hcs⟩;unfold getItem
 try with_reducible refine wpAny_holding ?_
 first | refine wpAny_bind (wpAny_pure ?_) | skip
 refine wpAny_bind (wpAny_sequenceKey ht.typeIs (by decide) ?_)
 refine wpAny_bind (wpAny_callSpecial?_slot (name:=Str.ofString "__getitem__") ht.typeIs PyProof.Rows.slot_tuple_getitem
  (wpAny_call_entry PyProof.Rows.slot_tuple_getitem ht.typeIs entry_tuple_getitem ?_ (args_tuple_getitem _ _)))
 show wpAny _ _ (Builtin.Tuple.tupleItemsOf (.ref t) >>= _) _ _ s;refine wpAny_bind (tupleItemsOf_ ht ?_);refine wpAny_bind (wpAny_typeOf K2 ?_);rw[if_pos (by decide)]
 refine wpAny_bind (je hs pl pu ?_);have hyes:(((fb items.size 0 lo:Nat):Int)==0&&(1:Int)==1&&(fb items.size items.size hi-fb items.size 0 lo)==items.size)=true:=by
  rw[hw.1,hw.2];simp
 show wpAny _ _ (if(((fb items.size 0 lo:Nat):Int)==0&&(1:Int)==1&&(fb items.size items.size hi-fb items.size 0 lo)==items.size)=true then _ else _) _ _ s
 rw[if_pos hyes];refine wpAny_bind ?_;unfold Builtin.Tuple.tupleIsExact;refine wpAny_bind (wpAny_typeOf ht.typeIs (wpAny_pure ?_));rw[if_pos (by decide)]
 exact wpAny_bind (wpAny_rule (wpAny_pure ⟨_,rfl,wpAny_pure h⟩))
end
end HT
namespace L2
open PySem PySem.Spec PyProof.Rows
section
variable {X:Cx}
def HH:V->Option Int->Option Int->Hp->VK->Prop:=fun x lo hi H Q=>∃ a xs,x = .ref a/\H a=some (.tup xs)/\∀ p H',ao H H'->H' p=some (.tup (pC xs lo hi))->Q (.ref p) H'
theorem Ft:JB X HH:=by
 intro pq s σ H x v vl vu lo hi sl Q I rx hs pl pu h;obtain⟨a,xs,rfl,hx,q⟩:=h;cases rx;obtain⟨its,r,ht,hz⟩:=I.tuple (cE.of hx);have hlen:its.toArray.size=xs.length:=by rw[List.size_toArray];exact r.length.symm
 refine⟨"tuple",_,PyProof.Rows.slot_tuple_getitem.lookup,ht.typeIs,?_⟩
 by_cases hw:HT.fb xs.length 0 lo=0/\HT.fb xs.length xs.length hi=xs.length
 ·refine HT.lC ht hs pl pu (by rw[hlen];exact hw) ⟨.ref a,H,I,rfl,q a H (ao.refl _) ?_⟩
  unfold pC;rw[hw.1,hw.2,List.drop_zero,Nat.sub_zero,List.take_length];exact hx
 ·refine HT.mL ht hs pl pu (by rw[hlen];exact hw) ?_ (by rw[hlen];exact hz)
  rw[hlen];refine⟨.ref s.heap.objs.size,_,I.laid (t':=s.toks) (o:=.tup (pC xs lo hi)) (fun b ob q=>Heap.get?_push_of_some _ q) (Nat.le_refl _) ?_,rfl,q _ _ (ao.new (I.hok.fresh (Nat.le_refl _))) aj⟩
  exact⟨Nat.le_trans (oE xs lo hi) hz,_,(r.drop (HT.fb xs.length 0 lo)).take (HT.fb xs.length xs.length hi-HT.fb xs.length 0 lo),IsTup.new _ _⟩
end
end L2
namespace Ring
open PySem
abbrev dZ:=Int×Int×Int
def bit(S:Int)(k:Nat):Bool:=decide (S/2^k%2=1)
def dw(S:Int):List Nat:=(List.range (Builtin.Int.intBits S)).filter (bit S)
structure HJ(p:Nat)(ts:List dZ):Prop where
 ends:∀ t∈ts,0<=t.1/\t.1<(p:Int)/\0<=t.2.1/\t.2.1<(p:Int)
theorem yr(m k:Nat):bit (m:Int) k=m.testBit k:=by
 unfold bit;rw[Nat.testBit_eq_decide_div_mod_eq];have e:((m:Int)/2^k%2=1)↔(m/2^k%2=1):=by
  have h2:((2:Int)^k)=((2^k:Nat):Int):=by simp
  rw[h2,<-Int.natCast_ediv]
  lia
 simp only[e]
theorem vA(m:Nat):Builtin.Int.intBits (m:Int)=if m=0 then 0 else m.log2+1:=by
 unfold Builtin.Int.intBits
 by_cases h:m=0
 ·simp[h]
 ·simp[h]
theorem bits_le{m n:Nat}(h:m<2^n):Builtin.Int.intBits (m:Int)<=n:=by
 rw[vA]
 split
 ·exact Nat.zero_le _
 ·rename_i h0
  exact(Nat.log2_lt h0).mpr h
theorem A7{m k:Nat}(h:Builtin.Int.intBits (m:Int)<=k):bit (m:Int) k=false:=by
 rw[yr];rw[vA]at h
 by_cases h0:m=0
 ·simp[h0]
 ·rw[if_neg h0]at h;exact Nat.testBit_lt_two_pow (Nat.lt_of_lt_of_le Nat.lt_log2_self (Nat.pow_le_pow_right (by decide) h))
theorem mV(f:Nat->Bool)(a:Nat):∀ d,(∀ k,a<=k->f k=false)->(List.range (a+d)).filter f=(List.range a).filter f
 | 0,_=>rfl
 | d+1,h=>by
   rw[<-Nat.add_assoc,List.range_succ,List.filter_append,mV f a d h];have e:[a+d].filter f=[]:=by rw[List.filter_cons,if_neg (by rw[h _ (by lia)];simp)];rfl
   rw[e,List.append_nil]
theorem mW{m n:Nat}(h:m<2^n):dw (m:Int)=(List.range n).filter fun k=>m.testBit k:=by
 unfold dw;have hb:=bits_le h;obtain⟨d,hd⟩:=Nat.exists_eq_add_of_le hb;have e:(fun k=>m.testBit k)=bit (m:Int):=funext fun k=>(yr m k).symm
 rw[e]
 conv=>rhs;rw[hd]
 exact(mV _ _ d fun k hk=>A7 hk).symm
theorem uy{m n:Nat}(h:m<2^n){k:Nat}(hk:k∈dw (m:Int)):k<n:=by
 rw[mW h]at hk;exact List.mem_range.mp (List.mem_filter.mp hk).1
open PySem L2
def A8(t:dZ):List V:=[.int t.1,.int t.2.1,.int t.2.2]
def TupAt(H:Hp)(x:V)(t:dZ):Prop:=∃ b,x = .ref b/\H b=some (.tup (A8 t))
structure bI(H:Hp)(w:Addr)(p:Nat)(ts:List dZ):Prop where
 ex:∃ b xs,H w=some (.tup [.int (p:Int),.ref b])/\H b=some (.tup xs)/\Paired (TupAt H) xs ts
structure HK(p:Nat)(ts:List dZ):Prop where
 VC:HJ p ts
 len:ts.length<=24
 SE:p<=10
theorem TupAt.tups{H H' : Hp}(s:nS H H'){x:V}{t:dZ}(h:TupAt H x t):TupAt H' x t:=by
 obtain⟨b,e,h⟩:=h;exact⟨b,e,s _ _ h⟩
theorem bI.tups{H H' : Hp}{w:Addr}{p:Nat}{ts:List dZ}(s:nS H H')(h:bI H w p ts):bI H' w p ts:=by
 obtain⟨b,xs,h1,h2,h3⟩:=h.ex;exact⟨b,xs,s _ _ h1,s _ _ h2,Paired.imp' (fun _ _ z=>z.tups s) h3⟩
theorem bI.same{H H' : Hp}{w:Addr}{p:Nat}{ts:List dZ}(s:ao H H')(h:bI H w p ts):bI H' w p ts:=h.tups s.tups
def bh(l:List Nat):List V:=l.map fun k=>V.int ((k:Nat):Int)
theorem qo(l:List Nat)(k:Nat):bh (l++[k])=bh l++[.int (k:Int)]:=by unfold bh;rw[List.map_append];rfl
theorem bj(l:List Nat):(bh l).length=l.length:=by unfold bh;rw[List.length_map]
theorem gK{l:List Nat}{i:Nat}{x:V}(h:(bh l)[i]?=some x):∃ k,l[i]?=some k/\x = .int (k:Int):=by
 unfold bh at h;rw[List.getElem?_map]at h;obtain⟨k,e,q⟩:=Gz.mp h;exact⟨k,e,q.symm⟩
theorem di(f:Nat->Bool)(i:Nat):(List.range (i+1)).filter f=(List.range i).filter f++(if f i=true then[i] else[]):=by
 rw[List.range_succ,List.filter_append]
 congr 1
 cases h:f i with
 | true=>rw[List.filter_cons,if_pos h,if_pos rfl];rfl
 | false=>rw[List.filter_cons,if_neg (by rw[h];simp),if_neg (by simp)];rfl
def lD(f:Nat->Bool)(H:Hp)(D:Addr)(i:Nat)(acc:List V)(H2:Hp):Prop:=ao H H2/\H2 D=some (.lst acc)/\acc=bh ((List.range i).filter f)
section
variable {f:Nat->Bool}{H H2 H3:Hp}{D:Addr}{i:Nat}{acc:List V}
theorem lD.start(hD:H D=none):lD f H D 0 [] (upd H D (.lst [])):=⟨ao.new hD,aj,rfl⟩
theorem lD.len(p:lD f H D i acc H2):H2 D=some (.lst acc)/\acc.length<=i:=by
 refine⟨p.2.1,?_⟩;rw[p.2.2,bj];exact Nat.le_trans (List.length_filter_le _ _) (by rw[List.length_range];exact Nat.le_refl _)
theorem lD.yes(p:lD f H D i acc H2)(hD:H D=none)(s:ao H2 H3)(hf:f i=true):H3 D=some (.lst acc)/\lD f H D (i+1) (acc++[.int (i:Int)]) (upd H3 D (.lst (acc++[.int (i:Int)]))):=by
 refine⟨s _ _ p.2.1,(p.1.trans s).put hD,aj,?_⟩;rw[di,if_pos hf,qo,<-p.2.2]
theorem lD.no(p:lD f H D i acc H2)(s:ao H2 H3)(hf:f i=false):lD f H D (i+1) acc H3:=by
 refine⟨p.1.trans s,s _ _ p.2.1,?_⟩;rw[di,if_neg (by rw[hf];simp),List.append_nil]
 exact p.2.2
end
def fF(ts:List dZ)(k:Nat):dZ:=ts.getD k (0,0,0)
def dj(l:List Int):List V:=l.map V.int
theorem kZ{l:List Int}{i:Nat}(h:i<l.length):(dj l)[i]?=some (.int (l.getD i 0)):=by
 unfold dj;rw[List.getElem?_map,List.getD_eq_getElem?_getD];simp[h]
theorem uz{n j:Nat}(h:j<n):CN n (j:Int)=some j:=by
 unfold CN;rw[if_pos (by lia),if_pos (by lia),Int.toNat_natCast]
def iU(k:Nat):PyData:=.int (k:Int)
theorem jh{K:bF}{H:Hp}:∀ l:List Nat,DatVs K H (bh l) (l.map iU)
 | []=>.nil
 | _::r=>.cons (.int _) (jh r)
theorem mX:∀ l:List Nat,PyData.canLayAll0 (l.map iU)=true
 | []=>rfl
 | _::r=>by
   have ih:=mX r;simp only[List.map_cons,PyData.canLayAll0,ih,Bool.and_true];rfl
theorem nX:∀ l:List Nat,PyData.depthAll (l.map iU)=0
 | []=>rfl
 | _::r=>by
   have ih:=nX r;show max (PyData.depth (PyData.int _)) (PyData.depthAll (r.map _))=0;rw[ih];rfl
theorem iF(l:List Nat):SeqAt.shaped (.list (l.map iU))=true:=by
 unfold SeqAt.shaped;have e:(PyData.list (l.map iU)).canLay0=PyData.canLayAll0 (l.map iU):=by simp[PyData.canLay0]
 rw[e,mX,Bool.true_and];refine gC ?_;have e2:PyData.depth (PyData.list (l.map iU))=PyData.depthAll (l.map iU)+1:=by simp[PyData.depth]
 rw[e2,nX]
 decide
theorem Fv(S:Int)(k:Nat):decide (V.int (Builtin.bitAnd (S/2^k) 1)=V.int 1)=bit S k:=by
 unfold bit;rw[PyProof.Rows.bitAnd_m1];rw[Bool.eq_iff_iff];simp
theorem Fw(S:Int)(k:Nat):decide (V.int (S/2^k%2)=V.int 1)=bit S k:=by
 unfold bit;rw[Bool.eq_iff_iff];simp
structure fj(p:Int)(t:dZ):Prop where
 a0:0<=t.1
 a1:t.1<p
 b0:0<=t.2.1
 b1:t.2.1<p
 ne:t.1≠t.2.1
 l0:1<=t.2.2
 l1:t.2.2<=1000000000000000000000000000000
structure aD(p:Nat)(ts:List dZ):Prop where
 p1:1<=p
 p2:p<=10
 len:ts.length<=24
 pF:∀ t∈ts,fj (p:Int) t
theorem aD.HL{p:Nat}{ts:List dZ}(g:aD p ts):HK p ts:=⟨⟨fun t ht=>let z:=g.pF t ht;⟨z.a0,z.a1,z.b0,z.b1⟩⟩,g.len,g.p2⟩
def pG(p:Int)(H:Hp)(D:Addr)(n:Nat)(H2:Hp):Prop:=ao H H2/\∃ acc ts,H2 D=some (.lst acc)/\Paired (TupAt H2) acc ts/\acc.length=n/\∀ t∈ts,fj p t
section
variable {p:Int}{H H2 H3:Hp}{D b:Addr}{n:Nat}{t:dZ}
theorem pG.start(hD:H D=none):pG p H D 0 (upd H D (.lst [])):=⟨ao.new hD,[],[],aj,.nil,rfl,fun t ht=>nomatch ht⟩
theorem pG.push(h:pG p H D n H2)(hD:H D=none)(s:ao H2 H3)(g:fj p t)(hb:H3 b=some (.tup (A8 t))):
 ∃ acc,H3 D=some (.lst acc)/\acc.length=n/\pG p H D (n+1) (upd H3 D (.lst (acc++[.ref b]))):=by
 obtain⟨s2,acc,ts,hd,pr,hn,gt⟩:=h;have HM:H3 D=some (.lst acc):=s _ _ hd;refine⟨acc,HM,hn,(s2.trans s).put hD,acc++[.ref b],ts++[t],aj,?_,by rw[List.length_append,List.length_singleton,hn],fun u hu=>?_⟩
 ·exact Paired.snoc (Paired.imp' (fun _ _ z=>z.tups (s.tups.trans (nS.put HM))) pr) ⟨b,rfl,nS.put HM _ _ hb⟩
 ·rcases List.mem_append.mp hu with hu|hu
  ·exact gt u hu
  ·cases List.mem_singleton.mp hu;exact g
theorem pG.fin{q:Nat}(h:pG (q:Int) H D n H2):∃ acc ts,H2 D=some (.lst acc)/\ts.length=n/\(∀ t∈ts,fj (q:Int) t)/\∀ l,H2 l=none->∀ w,upd H2 l (.tup acc) w=none->
 ao H (upd (upd H2 l (.tup acc)) w (.tup [.int (q:Int),.ref l]))/\bI (upd (upd H2 l (.tup acc)) w (.tup [.int (q:Int),.ref l])) w q ts:=by
 obtain⟨s2,acc,ts,hd,pr,hn,gt⟩:=h;refine⟨acc,ts,hd,by rw[<-pr.length,hn],gt,fun l hl w hw=>?_⟩
 have n1:ao H2 (upd H2 l (.tup acc)):=ao.new hl;have n2:=n1.trans (ao.new (o:=.tup [.int (q:Int),.ref l]) hw);refine⟨s2.trans n2,l,acc,aj,?_,Paired.imp' (fun _ _ z=>z.tups n2.tups) pr⟩
 rw[aL (bS aj hw),aj]
end
theorem A9{p o r:Int}(h:0<=o)(h1:o<p)(r0:0<=r)(r1:r<p-1):0<=(o+1+r)%p/\(o+1+r)%p<p/\o≠(o+1+r)%p:=by
 have hp:0<p:=by lia
 refine⟨Int.emod_nonneg _ (by lia),Int.emod_lt_of_pos _ hp,?_⟩
 by_cases hlt:o+1+r<p
 ·rw[Int.emod_eq_of_lt (by lia) hlt]
  lia
 ·have e:(o+1+r)%p=o+1+r-p:=by
   rw[<-Int.sub_emod_right,Int.emod_eq_of_lt (by lia) (by lia)]
  rw[e]
  lia
theorem uA{n:Nat}(h:n<=24):n<=sizeLine:=Nat.le_of_lt (eK (by lia))
theorem jE{n:Nat}(h:n<=900):n<sizeLine:=eK (by lia)
theorem yt{ns:List Int}{k:Nat}(h:k<ns.length):(ns.map V.int)[k]?=some (.int (ns.getD k 0)):=by
 rw[List.getElem?_map,List.getD_eq_getElem?_getD];simp[h]
theorem eL(x m:Int)(h:0<m):0<=x%m/\x%m<m:=⟨Int.emod_nonneg _ (by lia),Int.emod_lt_of_pos _ h⟩
end Ring
namespace RM
def bQ(f:Nat->Bool):Nat->Bool
 | 0=>false
 | n+1=>bQ f n^^f n
theorem bT{f g:Nat->Bool}:∀{n:Nat},(∀ k,k<n->f k=g k)->bQ f n=bQ g n
 | 0,_=>rfl
 | n+1,h=>by
   unfold bQ;rw[bT fun k hk=>h k (by lia),h n (by lia)]
theorem ji(f g:Nat->Bool):∀ n,bQ (fun k=>f k^^g k) n=(bQ f n^^bQ g n)
 | 0=>rfl
 | n+1=>by
   unfold bQ;rw[ji f g n];cases bQ f n<;>cases bQ g n<;>cases f n<;>cases g n<;>rfl
theorem mh:∀ n,bQ (fun _=>false) n=false
 | 0=>rfl
 | n+1=>by unfold bQ;rw[mh n];rfl
theorem qp(c:Bool)(f:Nat->Bool):∀ n,bQ (fun k=>c&&f k) n=(c&&bQ f n)
 | 0=>by cases c<;>rfl
 | n+1=>by
   unfold bQ;rw[qp c f n];cases c<;>simp
theorem sH(f:Nat->Nat->Bool)(n:Nat):∀ m,bQ (fun x=>bQ (fun k=>f x k) n) m=bQ (fun k=>bQ (fun x=>f x k) m) n
 | 0=>by
   show false=_;rw[<-mh n];rfl
 | m+1=>by
   show(bQ (fun x=>bQ (fun k=>f x k) n) m^^bQ (fun k=>f m k) n)=_
   rw[sH f n m,<-ji];rfl
theorem lg{f:Nat->Bool}{n:Nat}(h:∀ k,k<n->f k=false):bQ f n=false:=by
 rw[bT (g:=fun _=>false) h,mh]
theorem mY{f:Nat->Bool}{a:Nat}:∀{n:Nat},a<n->(∀ k,k<n->k≠a->f k=false)->bQ f n=f a
 | 0,h,_=>absurd h (Nat.not_lt_zero _)
 | n+1,h,z=>by
   unfold bQ
   by_cases e:a=n
   ·subst e;rw[lg fun k hk=>z k (by lia) (by lia)]
    simp
   ·rw[mY (a:=a) (by lia) fun k hk hn=>z k (by lia) hn,z n (by lia) (fun q=>e q.symm)]
    simp
theorem g6(C:Nat->Bool){a m:Nat}(h:a<m):bQ (fun x=>C x&&decide (a=x)) m=C a:=by
 rw[mY h fun k _ hk=>by simp[Ne.symm hk]]
 simp
structure Net where
 p:Nat
 n:Nat
 a:Nat->Nat
 b:Nat->Nat
 al:∀ k,k<n->a k<p
 bl:∀ k,k<n->b k<p
 ne:∀ k,k<n->a k≠b k
variable (N:Net)
def Net.inc(k x:Nat):Bool:=decide (N.a k=x)^^decide (N.b k=x)
def Net.bd(m x:Nat):Bool:=bQ (fun k=>m.testBit k&&N.inc k x) N.n
def Net.lE(m:Nat):Prop:=∀ x,x<N.p->N.bd m x=false
variable {N}
theorem mj(m q x:Nat):N.bd (m^^^q) x=(N.bd m x^^N.bd q x):=by
 unfold Net.bd;rw[<-ji];refine bT fun k _=>?_
 rw[Nat.testBit_xor];cases m.testBit k<;>cases q.testBit k<;>cases N.inc k x<;>rfl
theorem yu(x:Nat):N.bd 0 x=false:=by
 unfold Net.bd;exact lg fun k _=>by simp
theorem xA{k:Nat}(h:k<N.n)(x:Nat):N.bd (2^k) x=N.inc k x:=by
 unfold Net.bd;rw[mY h fun j _ hj=>by simp[Nat.testBit_two_pow,Ne.symm hj]]
 simp[Nat.testBit_two_pow]
theorem lE.xor{m q:Nat}(h:N.lE m)(h' : N.lE q):N.lE (m^^^q):=fun x hx=>by rw[mj,h x hx,h' x hx];rfl
theorem lE.zero:N.lE 0:=fun x _=>yu x
theorem Ba{m:Nat}(C:Nat->Bool)(h:∀ k,k<N.n->m.testBit k=true->C (N.a k)=C (N.b k)):bQ (fun x=>C x&&N.bd m x) N.p=false:=by
 have e:bQ (fun x=>C x&&N.bd m x) N.p=bQ (fun x=>bQ (fun k=>C x&&(m.testBit k&&N.inc k x)) N.n) N.p :=
  bT fun x _=>(qp (C x) _ N.n).symm
 rw[e,sH];refine lg fun k hk=>?_
 have e2:bQ (fun x=>C x&&(m.testBit k&&N.inc k x)) N.p=(m.testBit k&&(C (N.a k)^^C (N.b k))):=by
  rw[<-g6 C (N.al k hk),<-g6 C (N.bl k hk),<-ji,<-qp];refine bT fun x _=>?_
  unfold Net.inc;cases C x<;>cases m.testBit k<;>cases decide (N.a k=x)<;>cases decide (N.b k=x)<;>rfl
 rw[e2];cases hb:m.testBit k with
 | false=>rfl
 | true=>rw[h k hk hb];simp
def join(L:Nat->Nat)(u v:Nat):Nat->Nat:=fun x=>if L x=max (L u) (L v) then min (L u) (L v) else L x
theorem join_eq{L:Nat->Nat}{u v x y:Nat}(h:L x=L y):join L u v x=join L u v y:=by unfold join;rw[h]
theorem zI(L:Nat->Nat)(u v:Nat):join L u v u=join L u v v:=by
 unfold join
 split<;>split<;>lia
theorem sI{L:Nat->Nat}{u v:Nat}(h:L u=L v):join L u v=L:=by
 funext x
 unfold join;rw[h]
 split<;>lia
theorem xB{L:Nat->Nat}{u v x y:Nat}(h:join L u v x=join L u v y):L x=L y\/(L x=L u/\L y=L v)\/(L x=L v/\L y=L u):=by
 unfold join at h;have mm:(max (L u) (L v)=L u/\min (L u) (L v)=L v)\/(max (L u) (L v)=L v/\min (L u) (L v)=L u):=by
  rcases Nat.le_total (L u) (L v) with q|q
  ·exact .inr ⟨Nat.max_eq_right q,Nat.min_eq_left q⟩
  ·exact .inl ⟨Nat.max_eq_left q,Nat.min_eq_right q⟩
 rcases mm with⟨e1,e2⟩|⟨e1,e2⟩
 ·rw[e1,e2]at h
  split at h
  ·rename_i hx
   split at h
   ·rename_i hy
    exact .inl (hx.trans hy.symm)
   ·exact .inr (.inl ⟨hx,h.symm⟩)
  ·split at h
   ·rename_i hy
    exact .inr (.inr ⟨h,hy⟩)
   ·exact .inl h
 ·rw[e1,e2]at h
  split at h
  ·rename_i hx
   split at h
   ·rename_i hy
    exact .inl (hx.trans hy.symm)
   ·exact .inr (.inr ⟨hx,h.symm⟩)
  ·split at h
   ·rename_i hy
    exact .inr (.inl ⟨h,hy⟩)
   ·exact .inl h
theorem join_le{L:Nat->Nat}{u v x:Nat}(h:L x<=x):join L u v x<=x:=by
 unfold join
 split<;>lia
theorem zJ{L:Nat->Nat}{u v:Nat}(h:∀ x,L (L x)=L x)(x:Nat):join L u v (join L u v x)=join L u v x:=by
 have hu:=h u;have hv:=h v;have hx:=h x;have hlo:L (min (L u) (L v))=min (L u) (L v):=by
  rcases Nat.le_total (L u) (L v) with q|q
  ·rw[Nat.min_eq_left q];exact hu
  ·rw[Nat.min_eq_right q];exact hv
 unfold join
 split
 ·rw[hlo]
  split<;>lia
 ·rw[hx]
  split<;>lia
def Net.aS(N:Net)(S:Nat->Bool):Nat->Nat->Nat
 | 0=>fun x=>x
 | k+1=>if S k=true then join (Net.aS N S k) (N.a k) (N.b k) else Net.aS N S k
variable {S:Nat->Bool}
theorem iG:∀(k x:Nat),N.aS S k x<=x
 | 0,_=>Nat.le_refl _
 | k+1,x=>by
   unfold Net.aS
   split
   ·exact join_le (iG k x)
   ·exact iG k x
theorem bW:∀(k x:Nat),N.aS S k (N.aS S k x)=N.aS S k x
 | 0,_=>rfl
 | k+1,x=>by
   by_cases hs:S k=true
   ·have e:N.aS S (k+1)=join (N.aS S k) (N.a k) (N.b k):=by
     conv=>lhs;unfold Net.aS
     rw[if_pos hs]
    rw[e];exact zJ (bW k) x
   ·have e:N.aS S (k+1)=N.aS S k:=by
     conv=>lhs;unfold Net.aS
     rw[if_neg hs]
    rw[e];exact bW k x
theorem sJ{x y k:Nat}(h:N.aS S k x=N.aS S k y):∀ d,N.aS S (k+d) x=N.aS S (k+d) y
 | 0=>h
 | d+1=>by
   have ih:=sJ h d;show N.aS S (k+d+1) x=N.aS S (k+d+1) y;unfold Net.aS
   split
   ·exact join_eq ih
   ·exact ih
theorem mZ{j k:Nat}(h:j<k)(hs:S j=true):N.aS S k (N.a j)=N.aS S k (N.b j):=by
 obtain⟨d,rfl⟩:=Nat.exists_eq_add_of_le (Nat.succ_le_of_lt h);refine sJ ?_ d;show N.aS S (j+1) (N.a j)=N.aS S (j+1) (N.b j);unfold Net.aS;rw[if_pos hs];exact zI _ _ _
inductive Net.j7(N:Net)(S:Nat->Bool)(k u:Nat):Nat->Prop
 | refl:Net.j7 N S k u u
 | fwd {j:Nat} (h:Net.j7 N S k u (N.a j)) (hj:j<k) (hs:S j=true):Net.j7 N S k u (N.b j)
 | bwd {j:Nat} (h:Net.j7 N S k u (N.b j)) (hj:j<k) (hs:S j=true):Net.j7 N S k u (N.a j)
theorem Net.j7.trans{k u v w:Nat}(h:N.j7 S k u v)(h' : N.j7 S k v w):N.j7 S k u w:=by
 induction h' with
 | refl=>exact h
 | fwd _ hj hs ih=>exact .fwd ih hj hs
 | bwd _ hj hs ih=>exact .bwd ih hj hs
theorem Net.j7.mono{k l u v:Nat}(h:N.j7 S k u v)(vo:k<=l):N.j7 S l u v:=by
 induction h with
 | refl=>exact .refl
 | fwd _ hj hs ih=>exact .fwd ih (by lia) hs
 | bwd _ hj hs ih=>exact .bwd ih (by lia) hs
theorem fM:∀(k u v:Nat),N.aS S k u=N.aS S k v->N.j7 S k u v
 | 0,u,v,h=>by
   have e:u=v:=h;subst e;exact .refl
 | k+1,u,v,h=>by
   unfold Net.aS at h
   split at h
   ·rename_i hs
    rcases xB h with q|⟨q1,q2⟩|⟨q1,q2⟩
    ·exact(fM k u v q).mono (by lia)
    ·have c1:=(fM k u _ q1).mono (Nat.le_succ k);have c2:=(fM k _ v q2.symm).mono (Nat.le_succ k);exact Net.j7.trans (.fwd c1 (by lia) hs) c2
    ·have c1:=(fM k u _ q1).mono (Nat.le_succ k);have c2:=(fM k _ v q2.symm).mono (Nat.le_succ k);exact Net.j7.trans (.bwd c1 (by lia) hs) c2
   ·exact(fM k u v h).mono (by lia)
theorem zK{k u v:Nat}(h:N.j7 S k u v):N.aS S k u=N.aS S k v:=by
 induction h with
 | refl=>rfl
 | fwd _ hj hs ih=>exact ih.trans (mZ hj hs)
 | bwd _ hj hs ih=>exact ih.trans (mZ hj hs).symm
theorem vB{k u v:Nat}:N.aS S k u=N.aS S k v↔N.j7 S k u v:=⟨fM k u v,zK⟩
def Net.dB(N:Net)(k:Nat):Nat->Nat:=N.aS (fun _=>true) k
def Net.lj(N:Net)(k:Nat):Bool:=!decide (N.dB k (N.a k)=N.dB k (N.b k))
theorem qq(k:Nat):N.dB (k+1)=if N.lj k=true then join (N.dB k) (N.a k) (N.b k) else N.dB k:=by
 show N.aS (fun _=>true) (k+1)=_
 unfold Net.aS;rw[if_pos rfl];unfold Net.lj
 by_cases h:N.dB k (N.a k)=N.dB k (N.b k)
 ·rw[if_neg (by simp[h])]
  exact sI h
 ·rw[if_pos (by simp[h])]
  rfl
theorem uB{m:Nat}(hf:∀ k,m.testBit k=true->k<N.n/\N.lj k=true)(he:N.lE m):m=0:=by
 by_cases h0:m=0
 ·exact h0
 exfalso
 have hK:m.testBit m.log2=true:=Nat.testBit_log2 h0;obtain⟨JK,JL⟩:=hf _ hK;generalize SG:m.log2=K at hK JK JL;have hlt:m<2^(K+1):=by rw[<-SG];exact Nat.lt_log2_self
 have hcl:=Ba (N:=N) (m:=m^^^2^K) (fun x=>decide (N.dB K x=N.dB K (N.a K))) fun k hk hb=>by
  have SH:k<K:=by
   rw[Nat.testBit_xor,Nat.testBit_two_pow]at hb
   by_cases e:K=k
   ·subst e;simp[hK]at hb
   ·have hb' : m.testBit k=true:=by simpa[e]using hb
    have:k<K+1:=by
     by_cases q:k<K+1
     ·exact q
     ·have z:=Nat.testBit_lt_two_pow (Nat.lt_of_lt_of_le hlt (Nat.pow_le_pow_right (by decide) (show K+1<=k by lia)))
      rw[hb']at z;cases z
    lia
  have e:N.dB K (N.a k)=N.dB K (N.b k):=mZ (S:=fun _=>true) SH rfl
  show decide (N.dB K (N.a k)=_)=decide (N.dB K (N.b k)=_);rw[e]
 have e:bQ (fun x=>decide (N.dB K x=N.dB K (N.a K))&&N.bd (m^^^2^K) x) N.p=bQ (fun x=>decide (N.dB K x=N.dB K (N.a K))&&N.inc K x) N.p :=
  bT fun x hx=>by rw[mj,he x hx,xA JK];simp
 rw[e]at hcl;have e2:bQ (fun x=>decide (N.dB K x=N.dB K (N.a K))&&N.inc K x) N.p=(decide (N.dB K (N.a K)=N.dB K (N.a K))^^decide (N.dB K (N.b K)=N.dB K (N.a K))):=by
  rw[<-g6 (fun x=>decide (N.dB K x=N.dB K (N.a K))) (N.al K JK),<-g6 (fun x=>decide (N.dB K x=N.dB K (N.a K))) (N.bl K JK),<-ji]
  refine bT fun x _=>?_
  unfold Net.inc;cases decide (N.dB K x=N.dB K (N.a K))<;>cases decide (N.a K=x)<;>cases decide (N.b K=x)<;>rfl
 rw[e2]at hcl;unfold Net.lj at JL;have hne : ¬ N.dB K (N.b K)=N.dB K (N.a K):=fun q=>by rw[q]at JL;simp at JL
 simp[hne]at hcl
def Net.trail(N:Net):Nat->Nat->Nat
 | 0=>fun _=>0
 | k+1=>if N.lj k=true then fun v=>if N.dB k v=max (N.dB k (N.a k)) (N.dB k (N.b k)) then Net.trail N k v^^^(Net.trail N k (N.a k)^^^Net.trail N k (N.b k)^^^2^k) else Net.trail N k v
   else Net.trail N k
theorem kq:∀(k v j:Nat),(N.trail k v).testBit j=true->j<k/\N.lj j=true
 | 0,v,j,h=>by simp[Net.trail]at h
 | k+1,v,j,h=>by
   have ih:=kq k;unfold Net.trail at h
   split at h
   ·rename_i hf
    dsimp only at h
    split at h
    ·rw[Nat.testBit_xor,Nat.testBit_xor,Nat.testBit_xor,Nat.testBit_two_pow]at h
     by_cases e:k=j
     ·subst e;exact⟨by lia,hf⟩
     ·have z : ¬((N.trail k v).testBit j=false/\(N.trail k (N.a k)).testBit j=false/\(N.trail k (N.b k)).testBit j=false):=by
       rintro⟨z1,z2,z3⟩;simp[z1,z2,z3,e]at h
      cases h1:(N.trail k v).testBit j with
      | true=>obtain⟨q,r⟩:=ih v j h1;exact⟨by lia,r⟩
      | false=>cases h2:(N.trail k (N.a k)).testBit j with
        | true=>obtain⟨q,r⟩:=ih _ j h2;exact⟨by lia,r⟩
        | false=>cases h3:(N.trail k (N.b k)).testBit j with
          | true=>obtain⟨q,r⟩:=ih _ j h3;exact⟨by lia,r⟩
          | false=>exact absurd ⟨h1,h2,h3⟩ z
    ·obtain⟨q,r⟩:=ih v j h;exact⟨by lia,r⟩
   ·obtain⟨q,r⟩:=ih v j h;exact⟨by lia,r⟩
theorem Bb(a b c d e f g h:Bool)(SI:(d^^f)=(g^^h)):((a^^g)^^(((c^^d)^^(e^^f))^^(c^^e)))=(a^^h):=by
 have e1:(((c^^d)^^(e^^f))^^(c^^e))=(d^^f):=by cases c<;>cases d<;>cases e<;>cases f<;>rfl
 rw[e1,SI];cases a<;>cases g<;>cases h<;>rfl
theorem qt:∀(k:Nat),k<=N.n->∀ v x,N.bd (N.trail k v) x=(decide (v=x)^^decide (N.dB k v=x))
 | 0,_,v,x=>by
   show N.bd 0 x=(decide (v=x)^^decide (v=x));rw[yu];simp
 | k+1,hk,v,x=>by
   have ih:=qt k (by lia)
   rw[qq];unfold Net.trail
   by_cases hf:N.lj k=true
   ·rw[if_pos hf,if_pos hf]
    by_cases hm:N.dB k v=max (N.dB k (N.a k)) (N.dB k (N.b k))
    ·have e:join (N.dB k) (N.a k) (N.b k) v=min (N.dB k (N.a k)) (N.dB k (N.b k)):=by unfold join;rw[if_pos hm]
     show N.bd (if N.dB k v=_ then _ else _) x=_
     rw[if_pos hm,e,mj,mj,mj,xA (by lia),ih,ih,ih]
     unfold Net.inc;refine Bb _ false _ _ _ _ _ _ ?_;rw[hm];rcases Nat.le_total (N.dB k (N.a k)) (N.dB k (N.b k)) with q|q
     ·rw[Nat.max_eq_right q,Nat.min_eq_left q,Bool.xor_comm]
     ·rw[Nat.max_eq_left q,Nat.min_eq_right q]
    ·have e:join (N.dB k) (N.a k) (N.b k) v=N.dB k v:=by unfold join;rw[if_neg hm]
     show N.bd (if N.dB k v=_ then _ else _) x=_
     rw[if_neg hm,e,ih]
   ·rw[if_neg hf,if_neg hf];exact ih v x
def Net.ring(N:Net)(c:Nat):Nat:=N.trail N.n (N.a c)^^^N.trail N.n (N.b c)^^^2^c
theorem Bc{c:Nat}(h:c<N.n):N.dB N.n (N.a c)=N.dB N.n (N.b c):=mZ (S:=fun _=>true) h rfl
theorem zL{c:Nat}(h:c<N.n):N.lE (N.ring c):=fun x _=>by
 unfold Net.ring;rw[mj,mj,xA h,qt _ (Nat.le_refl _),qt _ (Nat.le_refl _),Bc h];unfold Net.inc;cases decide (N.a c=x)<;>cases decide (N.b c=x)<;>cases decide (N.dB N.n (N.b c)=x)<;>rfl
theorem vC{c j:Nat}(h:(N.ring c).testBit j=true):j=c\/(j<N.n/\N.lj j=true):=by
 unfold Net.ring at h;rw[Nat.testBit_xor,Nat.testBit_xor,Nat.testBit_two_pow]at h
 by_cases e:c=j
 ·exact .inl e.symm
 ·right
  cases h1:(N.trail N.n (N.a c)).testBit j with
  | true=>exact kq _ _ _ h1
  | false=>cases h2:(N.trail N.n (N.b c)).testBit j with
    | true=>exact kq _ _ _ h2
    | false=>simp[h1,h2,e]at h
theorem Bd{c:Nat}(hf:N.lj c=false):(N.ring c).testBit c=true:=by
 unfold Net.ring;rw[Nat.testBit_xor,Nat.testBit_xor,Nat.testBit_two_pow];cases h1:(N.trail N.n (N.a c)).testBit c with
 | true=>obtain⟨_,q⟩:=kq _ _ _ h1;rw[hf]at q;cases q
 | false=>cases h2:(N.trail N.n (N.b c)).testBit c with
   | true=>obtain⟨_,q⟩:=kq _ _ _ h2;rw[hf]at q;cases q
   | false=>simp
def cnt(f:Nat->Bool):Nat->Nat
 | 0=>0
 | n+1=>cnt f n+(if f n=true then 1 else 0)
theorem eM{f g:Nat->Bool}:∀{n:Nat},(∀ k,k<n->f k=g k)->cnt f n=cnt g n
 | 0,_=>rfl
 | n+1,h=>by
   unfold cnt;rw[eM fun k hk=>h k (by lia),h n (by lia)]
theorem vD{f g:Nat->Bool}{h:Nat}(hg:g h=true):∀{p:Nat},h<p->(∀ x,x<p->f x=(g x && !decide (x=h)))->cnt g p=cnt f p+1
 | 0,hh,_=>absurd hh (Nat.not_lt_zero _)
 | p+1,hh,e=>by
   unfold cnt
   by_cases q:h=p
   ·subst q;have z:cnt g h=cnt f h:=eM fun k hk=>by rw[e k (by lia)];simp[show k≠h by lia]
    rw[z,if_pos hg,e h (by lia)]
    simp
   ·rw[vD hg (by lia) fun x hx=>e x (by lia),e p (by lia)]
    simp[Ne.symm q]
    lia
theorem fN(f:Nat->Bool):∀ n,((List.range n).filter f).length=cnt f n
 | 0=>rfl
 | n+1=>by
   rw[List.range_succ,List.filter_append,List.length_append,fN f n];show _=cnt f n+(if f n=true then 1 else 0)
   cases h:f n with
   | true=>rw[List.filter_cons,if_pos h];rfl
   | false=>rw[List.filter_cons,if_neg (by rw[h];simp)];rfl
theorem uC(f:Nat->Bool):∀ n,cnt f n+cnt (fun k=>!f k) n=n
 | 0=>rfl
 | n+1=>by
   have ih:=uC f n;unfold cnt;cases h:f n<;>simp<;>lia
theorem uD{f:Nat->Bool}:∀{n:Nat},(∀ k,k<n->f k=true)->cnt f n=n
 | 0,_=>rfl
 | n+1,h=>by
   unfold cnt;rw[uD fun k hk=>h k (by lia),if_pos (h n (by lia))]
variable {N:Net}{S:Nat->Bool}
def Net.root(N:Net)(S:Nat->Bool)(k x:Nat):Bool:=decide (N.aS S k x=x)
theorem gO(k:Nat):N.aS S (k+1)=if S k=true then join (N.aS S k) (N.a k) (N.b k) else N.aS S k:=by
 conv=>lhs;unfold Net.aS
theorem uE{k x:Nat}(h:x<N.p):N.aS S k x<N.p:=Nat.lt_of_le_of_lt (iG k x) h
theorem zM{L:Nat->Nat}{u v:Nat}(hr:∀ x,L (L x)=L x)(hne:L u≠L v)(x:Nat):decide (join L u v x=x)=(decide (L x=x) && !decide (x=max (L u) (L v))):=by
 have hhi:L (max (L u) (L v))=max (L u) (L v):=by
  rcases Nat.le_total (L u) (L v) with q|q
  ·rw[Nat.max_eq_right q];exact hr v
  ·rw[Nat.max_eq_left q];exact hr u
 have hlo:L (min (L u) (L v))=min (L u) (L v):=by
  rcases Nat.le_total (L u) (L v) with q|q
  ·rw[Nat.min_eq_left q];exact hr u
  ·rw[Nat.min_eq_right q];exact hr v
 unfold join
 by_cases h:L x=max (L u) (L v)
 ·rw[if_pos h];have h1 : ¬ min (L u) (L v)=x:=fun z=>by
   rw[<-z,hlo]at h
   lia
  by_cases h2:x=max (L u) (L v)
  ·simp[h1,h2]
   lia
  ·have h3 : ¬ L x=x:=fun z=>h2 (z.symm.trans h)
   simp[h1,h3]
 ·rw[if_neg h];have h2 : ¬ x=max (L u) (L v):=fun z=>h (by rw[z];exact hhi)
  simp[h2]
theorem qu{k:Nat}(hk:k<N.n):cnt (N.root S k) N.p=cnt (N.root S (k+1)) N.p+(if(S k && !decide (N.aS S k (N.a k)=N.aS S k (N.b k)))=true then 1 else 0):=by
 cases hs:S k with
 | false =>
   have e:N.root S (k+1)=N.root S k:=by unfold Net.root;rw[gO,if_neg (by rw[hs];simp)]
   rw[e];simp
 | true =>
   by_cases h:N.aS S k (N.a k)=N.aS S k (N.b k)
   ·have e:N.root S (k+1)=N.root S k:=by unfold Net.root;rw[gO,if_pos hs,sI h]
    rw[e];simp[h]
   ·have hhi:N.aS S k (max (N.aS S k (N.a k)) (N.aS S k (N.b k)))=max (N.aS S k (N.a k)) (N.aS S k (N.b k)):=by
     rcases Nat.le_total (N.aS S k (N.a k)) (N.aS S k (N.b k)) with q|q
     ·rw[Nat.max_eq_right q];exact bW _ _
     ·rw[Nat.max_eq_left q];exact bW _ _
    have h1:=uE (S:=S) (k:=k) (N.al k hk);have h2:=uE (S:=S) (k:=k) (N.bl k hk);rw[vD (f:=N.root S (k+1)) (g:=N.root S k) (h:=max (N.aS S k (N.a k)) (N.aS S k (N.b k))) (gC hhi) (by lia) fun x _=>by
     unfold Net.root;rw[gO,if_pos hs];exact zM (bW k) h x]
    simp[h]
theorem m5:∀ k,k<=N.n->cnt (N.root (fun _=>true) k) N.p+cnt N.lj k=N.p
 | 0,_=>by
   show cnt (N.root (fun _=>true) 0) N.p+0=N.p
   rw[uD (f:=N.root (fun _=>true) 0) fun x _=>gC rfl]
   rfl
 | k+1,hk=>by
   have ih:=m5 k (by lia)
   have st:=qu (N:=N) (S:=fun _=>true) (k:=k) (by lia)
   have e:((fun _=>true:Nat->Bool) k && !decide (N.aS (fun _=>true) k (N.a k)=N.aS (fun _=>true) k (N.b k)))=N.lj k:=by rw[Bool.true_and];rfl
   rw[e]at st;show cnt (N.root (fun _=>true) (k+1)) N.p+(cnt N.lj k+if N.lj k=true then 1 else 0)=N.p
   lia
theorem vE:(N.n:Int)-N.p+cnt (N.root (fun _=>true) N.n) N.p=(cnt (fun k=>!N.lj k) N.n:Nat):=by
 have h:=m5 (N:=N) N.n (Nat.le_refl _);have h2:=uC N.lj N.n
 lia
def Net.br(N:Net):List Nat:=(List.range N.n).filter fun k=>!N.lj k
theorem jF{c:Nat}:c∈N.br↔c<N.n/\N.lj c=false:=by
 unfold Net.br;rw[List.mem_filter,List.mem_range];simp
theorem mq:N.br.length=cnt (fun k=>!N.lj k) N.n:=fN _ _
theorem xC{m n:Nat}(h:∀ k,m.testBit k=true->k<n):m<2^n:=Nat.lt_pow_two_of_testBit m fun k hk=>by
 cases q:m.testBit k with
 | false=>rfl
 | true=>exact absurd (h k q) (by lia)
theorem yv{m n k:Nat}(h:m<2^n)(hb:m.testBit k=true):k<n:=by
 by_cases q:k<n
 ·exact q
 ·have z:=Nat.testBit_lt_two_pow (Nat.lt_of_lt_of_le h (Nat.pow_le_pow_right (by decide) (show n<=k by lia)))
  rw[hb]at z;cases z
theorem C5{c:Nat}(h:c<N.n):N.ring c<2^N.n:=xC fun k hk=>by
 rcases vC hk with rfl|⟨q,_⟩
 ·exact h
 ·exact q
theorem xD{c d:Nat}(hc:N.lj c=false)(hd:N.lj d=false):(N.ring c).testBit d=decide (c=d):=by
 by_cases e:c=d
 ·subst e;rw[Bd hc];simp
 ·cases q:(N.ring c).testBit d with
  | false=>simp[e]
  | true=>rcases vC q with rfl | ⟨_,r⟩
          ·exact absurd rfl e
          ·rw[hd]at r;cases r
end RM
namespace Ring
open PySem L2
def maskOf(f:Nat->Bool):Nat->Nat
 | 0=>0
 | n+1=>(if f n=true then 2^n else 0)+maskOf f n
theorem mask_lt(f:Nat->Bool):∀ n,maskOf f n<2^n
 | 0=>by show 0<1;decide
 | n+1=>by
   have ih:=mask_lt f n;have e:2^(n+1)=2^n+2^n:=by rw[Nat.pow_succ];lia
   unfold maskOf
   split<;>lia
theorem mask_bit(f:Nat->Bool)(j:Nat):∀ n,(maskOf f n).testBit j=(decide (j<n)&&f j)
 | 0=>by simp[maskOf]
 | n+1=>by
   have ih:=mask_bit f j n;have hl:=mask_lt f n;unfold maskOf
   by_cases h:f n=true
   ·rw[if_pos h];rcases Nat.lt_trichotomy j n with q|q|q
    ·rw[Nat.testBit_two_pow_add_gt q,ih];simp[q,show j<n+1 by lia]
    ·subst q;rw[Nat.testBit_two_pow_add_eq,ih];simp[h]
    ·have z:2^n+maskOf f n<2^j:=Nat.lt_of_lt_of_le (show 2^n+maskOf f n<2^(n+1) by rw[Nat.pow_succ];lia) (Nat.pow_le_pow_right (by decide) q)
     rw[Nat.testBit_lt_two_pow z];simp[show ¬ j<n+1 by lia]
   ·rw[if_neg h,Nat.zero_add,ih]
    by_cases q:j=n
    ·subst q;have h' : f j=false:=by simpa using h
     simp[h']
    ·by_cases r:j<n
     ·simp[r,show j<n+1 by lia]
     ·simp[r,show ¬ j<n+1 by lia]
theorem Be(n:Nat):maskOf (fun _=>true) n=2^n-1:=by
 induction n with
 | zero=>rfl
 | succ n ih =>
   unfold maskOf;rw[ih,if_pos rfl,Nat.pow_succ];have:=Nat.two_pow_pos n
   lia
theorem pS(n j:Nat):(2^n-1).testBit j=decide (j<n):=by
 rw[<-Be,mask_bit];simp
theorem jj{ts:List dZ}{k:Nat}(h:k<ts.length):fF ts k∈ts:=by
 unfold fF;rw[List.getD_eq_getElem?_getD];simp[h]
theorem zN{ts:List dZ}{k:Nat}(h:k<ts.length):ts[k]?=some (fF ts k):=by
 unfold fF;rw[List.getD_eq_getElem?_getD];simp[h]
def aD.N{p:Nat}{ts:List dZ}(g:aD p ts):RM.Net where
 p:=p
 n:=ts.length
 a:=fun k=>(fF ts k).1.toNat
 b:=fun k=>(fF ts k).2.1.toNat
 al:=fun k hk=>by
  have z:=g.pF _ (jj hk);have z0:=z.a0;have z1:=z.a1
  lia
 bl:=fun k hk=>by
  have z:=g.pF _ (jj hk);have z0:=z.b0;have z1:=z.b1
  lia
 ne:=fun k hk e=>by
  have z:=g.pF _ (jj hk);have z0:=z.a0;have z1:=z.b0;exact z.ne (by lia)
theorem D8{p:Nat}{ts:List dZ}{g:aD p ts}{k:Nat}(h:k<ts.length):(fF ts k).1=((g.N.a k:Nat):Int):=by
 have z:=(g.pF _ (jj h)).a0;show _=(((fF ts k).1.toNat:Nat):Int)
 lia
theorem D9{p:Nat}{ts:List dZ}{g:aD p ts}{k:Nat}(h:k<ts.length):(fF ts k).2.1=((g.N.b k:Nat):Int):=by
 have z:=(g.pF _ (jj h)).b0;show _=(((fF ts k).2.1.toNat:Nat):Int)
 lia
def g7(f:Nat->Nat)(n:Nat):List V:=(List.range n).map fun x=>V.int ((f x:Nat):Int)
theorem jk(f:Nat->Nat)(n:Nat):(g7 f n).length=n:=by unfold g7;rw[List.length_map,List.length_range]
theorem cT{f:Nat->Nat}{n x:Nat}(h:x<n):(g7 f n)[x]?=some (.int ((f x:Nat):Int)):=by
 unfold g7;rw[List.getElem?_map,List.getElem?_range h];rfl
theorem yw{f:Nat->Nat}{n x:Nat}{v:V}(h:(g7 f n)[x]?=some v):x<n/\v = .int ((f x:Nat):Int):=by
 have hx:x<n:=by
  have:=(Cq.mp h).1
  rwa [jk]at this
 rw[cT hx]at h;exact⟨hx,(Option.some.inj h).symm⟩
theorem zO(f:Nat->Nat)(n:Nat):g7 f (n+1)=g7 f n++[.int ((f n:Nat):Int)]:=by
 unfold g7;rw[List.range_succ,List.map_append];rfl
def uF(f:Nat->Nat)(H:Hp)(D:Addr)(i:Nat)(acc:List V)(H2:Hp):Prop:=ao H H2/\H2 D=some (.lst acc)/\acc=g7 f i
section
variable {f:Nat->Nat}{H H2 H3:Hp}{D:Addr}{i:Nat}{acc:List V}{v:V}
theorem uF.start(hD:H D=none):uF f H D 0 [] (upd H D (.lst [])):=⟨ao.new hD,aj,rfl⟩
theorem uF.len(p:uF f H D i acc H2):H2 D=some (.lst acc)/\acc.length<=i:=⟨p.2.1,by rw[p.2.2,jk];exact Nat.le_refl _⟩
theorem uF.next(p:uF f H D i acc H2)(hD:H D=none)(s:ao H2 H3)(hv:v = .int ((f i:Nat):Int)):H3 D=some (.lst acc)/\uF f H D (i+1) (acc++[v]) (upd H3 D (.lst (acc++[v]))):=by
 refine⟨s _ _ p.2.1,(p.1.trans s).put hD,aj,?_⟩;rw[zO,<-p.2.2,hv]
end
theorem sL{N:RM.Net}{m:Nat}:∀ n,((List.range n).filter fun k=>m.testBit k).foldl (fun L k=>RM.join L (N.a k) (N.b k)) (fun x=>x)=N.aS (fun k=>m.testBit k) n
 | 0=>rfl
 | n+1=>by
   rw[di,List.foldl_append,sL n,RM.gO]
   split<;>rfl
end Ring
namespace RM
theorem jG{N:Net}{S S' : Nat->Bool}:∀{n:Nat},(∀ k,k<n->S k=S' k)->N.aS S n=N.aS S' n
 | 0,_=>rfl
 | n+1,h=>by rw[gO,gO,jG fun k hk=>h k (by lia),h n (by lia)]
end RM
namespace Ring
open PySem L2
def pieceOf(L:Nat->Nat)(p s:Nat):List Nat:=(List.range p).filter fun x=>decide (L x=s)
def bG(L:Nat->Nat)(p:Nat):List Nat:=(List.range p).filter fun x=>decide (L x=x)
def yx(D:Addr)(H0 H:Hp)(y:V)(l:List Nat):Prop:=∃ b,y = .ref b/\b≠D/\H0 b=none/\H b=some (.lst (bh l))
def qv(L:Nat->Nat)(p:Nat)(H:Hp)(D:Addr)(i:Nat)(H2:Hp):Prop:=ao H H2/\∃ ys,H2 D=some (.lst ys)/\Paired (yx D H H2) ys ((bG L i).map (pieceOf L p))/\ys.length<=i
section
variable {L:Nat->Nat}{p i:Nat}{H H2 H3:Hp}{D b:Addr}
theorem qv.start(hD:H D=none):qv L p H D 0 (upd H D (.lst [])):=⟨ao.new hD,[],aj,.nil,Nat.le_refl _⟩
theorem qw:bG L (i+1)=bG L i++(if L i=i then[i] else[]):=by
 unfold bG;rw[di]
 by_cases h:L i=i<;>simp[h]
theorem qv.skip(h:qv L p H D i H2)(hn : ¬ L i=i):qv L p H D (i+1) H2:=by
 obtain⟨s,ys,hd,pr,hl⟩:=h;refine⟨s,ys,hd,?_,by lia⟩
 rw[qw,if_neg hn,List.append_nil];exact pr
theorem qv.push(h:qv L p H D i H2)(hD:H D=none)(hr:L i=i)(s:ao H2 H3)(hb:H2 b=none)(SJ:H3 b=some (.lst (bh (pieceOf L p i)))):
 ∃ ys,H3 D=some (.lst ys)/\ys.length<=i/\qv L p H D (i+1) (upd H3 D (.lst (ys++[.ref b]))):=by
 obtain⟨s2,ys,hd,pr,hl⟩:=h;have HM:=s _ _ hd;have QB:b≠D:=fun e=>by rw[e,hd]at hb;cases hb
 refine⟨ys,HM,hl,(s2.trans s).put hD,ys++[.ref b],aj,?_,by rw[List.length_append,List.length_singleton];lia⟩
 rw[qw,if_pos hr,List.map_append];refine Paired.snoc (Paired.imp' (fun _ _ ⟨e,he,hn,h0,q⟩=>⟨e,he,hn,h0,by rw[aL hn];exact s _ _ q⟩) pr) ?_
 exact⟨b,rfl,QB,s2.free hb,by rw[aL QB];exact SJ⟩
end
def iH(p:Nat)(ts:List dZ)(g:aD p ts)(ks:List Nat):Nat->Nat:=ks.foldl (fun L k=>RM.join L (g.N.a k) (g.N.b k)) fun x=>x
theorem qx{p:Nat}{ts:List dZ}{g:aD p ts}{ks:List Nat}{k:Nat}:iH p ts g (ks++[k])=RM.join (iH p ts g ks) (g.N.a k) (g.N.b k):=by
 unfold iH;rw[List.foldl_append];rfl
def aZ(p:Nat)(ts:List dZ)(g:aD p ts)(m:Nat):Nat->Nat:=g.N.aS (fun k=>m.testBit k) ts.length
theorem mw{p:Nat}{ts:List dZ}{g:aD p ts}{m:Nat}(hm:m<2^ts.length):iH p ts g (dw (m:Int))=aZ p ts g m:=by
 unfold iH aZ;rw[mW hm];exact sL _
theorem C6{p:Nat}{ts:List dZ}{g:aD p ts}:aZ p ts g (2^ts.length-1)=g.N.dB ts.length:=by
 unfold aZ RM.Net.dB;exact RM.jG fun k hk=>by rw[pS];simp[hk]
theorem C7{p:Nat}{ts:List dZ}{g:aD p ts}:(ts.length:Int)-(p:Int)+(bG (aZ p ts g (2^ts.length-1)) p).length=(g.N.br.length:Int):=by
 have h:=RM.vE (N:=g.N);rw[RM.mq];unfold bG;rw[RM.fN,C6];exact h
theorem yy(a b:Nat):(if(b:Int)<(a:Int) then(b:Int) else(a:Int))=((min a b:Nat):Int):=by
 split<;>lia
theorem yz(a b:Nat):(if(b:Int) > (a:Int) then(b:Int) else(a:Int))=((max a b:Nat):Int):=by
 split<;>lia
theorem jH(a b:Nat):decide (V.int (a:Int)=V.int (b:Int))=decide (a=b):=by
 rw[Bool.eq_iff_iff];simp
 lia
end Ring
namespace RM
variable {N:Net}{S:Nat->Bool}
variable {pt r j:Nat}{l:List Nat}
theorem Bf{l:List Nat}:∀{p:Nat},l.Nodup->(∀ x∈l,x<p)->l.length<=p:=by
 intro p hn hl;have hp:l.Perm ((List.range p).filter fun x=>decide (x∈l)):=by
  refine(List.perm_ext_iff_of_nodup hn (List.Pairwise.filter _ List.nodup_range)).mpr fun a=>?_
  rw[List.mem_filter,List.mem_range];simp;exact fun h=>hl a h
 rw[hp.length_eq];have:=List.length_filter_le (fun x=>decide (x∈l)) (List.range p)
 rwa [List.length_range]at this
end RM
namespace Ring
open PySem L2
theorem my{L:Nat->Nat}{p s:Nat}(hle:∀ x,L x<=x)(hs:L s=s)(hp:s<p):(pieceOf L p s)[0]?=some s:=by
 unfold pieceOf;obtain⟨d,rfl⟩:=Nat.exists_eq_add_of_lt hp;rw[show s+d+1=s+(d+1) by lia,List.range_add,List.filter_append]
 have e:(List.range s).filter (fun x=>decide (L x=s))=[]:=by
  rw[List.filter_eq_nil_iff];intro x hx;have h1:=List.mem_range.mp hx;have h2:=hle x;simp
  lia
 rw[e,List.nil_append,List.range_succ_eq_map,List.map_cons,List.filter_cons,if_pos (by simp[hs])]
 rfl
theorem vF(u:Nat)(l:List Nat):EW (.int (u:Int)) (bh l)=decide (u∈l):=by
 unfold EW bh;rw[List.any_map,Bool.eq_iff_iff,List.any_eq_true];simp only[Function.comp,decide_eq_true_eq]
 constructor
 ·rintro⟨x,hx,h⟩;have e:((x:Nat):Int)=(u:Int):=eq_of_beq h;have:x=u:=by lia
  exact this▸hx
 ·intro h;exact⟨u,h,by simp[CS]⟩
theorem zP(l:List Nat):(bh l).all mP=true:=by
 unfold bh;rw[List.all_map,List.all_eq_true];intro x _;rfl
def cP(l:List Nat):PyData:=.list (l.map iU)
theorem qz{K:bF}{D:Addr}{H0 H:Hp}:∀{ys:List V} {ls:List (List Nat)},Paired (yx D H0 H) ys ls->DatVs K H ys (ls.map cP)
 | _,_,.nil=>.nil
 | _,_,.cons ⟨b,e,_,_,h⟩ r=>by
   subst e;exact .cons (.lst (bg.of h) (jh _)) (qz r)
theorem vG:∀ ls:List (List Nat),PyData.canLayAll0 (ls.map cP)=true
 | []=>rfl
 | l::r=>by
   have ih:=vG r;have e:(cP l).canLay0=PyData.canLayAll0 (l.map iU):=by simp[cP,PyData.canLay0]
   simp only[List.map_cons,PyData.canLayAll0,ih,Bool.and_true,e];exact mX l
theorem sM:∀ ls:List (List Nat),PyData.depthAll (ls.map cP)<=1
 | []=>Nat.zero_le _
 | l::r=>by
   have ih:=sM r;show max (PyData.depth (cP l)) (PyData.depthAll (r.map cP))<=1;have e:PyData.depth (cP l)=1:=by
    have z:PyData.depth (cP l)=PyData.depthAll (l.map iU)+1:=by simp[cP,PyData.depth]
    rw[z,nX]
   lia
theorem Fx(ls:List (List Nat)):(PyData.list (ls.map cP)).canLay0=true:=by
 have e:(PyData.list (ls.map cP)).canLay0=PyData.canLayAll0 (ls.map cP):=by simp[PyData.canLay0]
 rw[e,vG]
theorem sN(ls:List (List Nat)):SeqAt.shaped (PyData.list (ls.map cP))=true:=by
 unfold SeqAt.shaped;rw[Fx,Bool.true_and];refine gC ?_;have h:=sM ls;have e:PyData.depth (PyData.list (ls.map cP))=PyData.depthAll (ls.map cP)+1:=by simp[PyData.depth]
 lia
theorem Dc{l:List Nat}{i:Nat}{k:Nat}(h:l[i]?=some k):(bh l)[i]?=some (.int (k:Int)):=by
 unfold bh;rw[List.getElem?_map,h];rfl
theorem Bg(l:List Nat):PyData.eqv (.list (l.map iU)) (.list (l.map iU))=true:=SeqAt.eqv_refl _ (by
 have e:(PyData.list (l.map iU)).canLay0=PyData.canLayAll0 (l.map iU):=by simp[PyData.canLay0]
 rw[e,mX])
def qA(f:Nat->Int)(l:List Nat)(H:Hp)(D:Addr)(i:Nat)(acc:List V)(H2:Hp):Prop:=ao H H2/\H2 D=some (.lst acc)/\acc=((l.take i).map f).map V.int
section
variable {f:Nat->Int}{l:List Nat}{H H2 H3:Hp}{D:Addr}{i k:Nat}{acc:List V}{v:V}
theorem qA.start(hD:H D=none):qA f l H D 0 [] (upd H D (.lst [])):=⟨ao.new hD,aj,rfl⟩
theorem qA.len(p:qA f l H D i acc H2):H2 D=some (.lst acc)/\acc.length<=i:=by
 refine⟨p.2.1,?_⟩;rw[p.2.2,List.length_map,List.length_map,List.length_take]
 lia
theorem qA.next(p:qA f l H D i acc H2)(hD:H D=none)(s:ao H2 H3)(hk:l[i]?=some k)(hv:v = .int (f k)):H3 D=some (.lst acc)/\qA f l H D (i+1) (acc++[v]) (upd H3 D (.lst (acc++[v]))):=by
 refine⟨s _ _ p.2.1,(p.1.trans s).put hD,aj,?_⟩;rw[List.take_add_one,hk,List.map_append,List.map_append,<-p.2.2,hv];rfl
theorem qA.fin(p:qA f l H D l.length acc H2):H2 D=some (.lst ((l.map f).map V.int)):=by rw[p.2.1,p.2.2,List.take_length]
end
section
variable {p:Nat}{ts:List dZ}(g:aD p ts)
include g
end
def piecesOf(L:Nat->Nat)(p:Nat):List (List Nat):=(bG L p).map (pieceOf L p)
theorem sO{L:Nat->Nat}{p s x:Nat}:x∈pieceOf L p s↔x<p/\L x=s:=by
 unfold pieceOf;rw[List.mem_filter,List.mem_range];simp
end Ring
namespace RM
def sm(f:Nat->Nat):Nat->Nat
 | 0=>0
 | n+1=>sm f n+f n
theorem xE(f:Nat->Bool):∀ n,cnt f n=sm (fun k=>if f k=true then 1 else 0) n
 | 0=>rfl
 | n+1=>by
   show cnt f n+(if f n=true then 1 else 0)=sm (fun k=>if f k=true then 1 else 0) n+(if f n=true then 1 else 0)
   rw[xE f n]
theorem Ea{f g:Nat->Nat}:∀{n:Nat},(∀ k,k<n->f k<=g k)->sm f n<=sm g n
 | 0,_=>Nat.le_refl _
 | n+1,h=>by
   have h1:=Ea (f:=f) (g:=g) (n:=n) fun k hk=>h k (by lia)
   have h2:=h n (by lia)
   show sm f n+f n<=sm g n+g n
   lia
theorem HN{f g:Nat->Nat}{n:Nat}(h:∀ k,k<n->f k<=g k)(e:sm f n=sm g n):∀ k,k<n->f k=g k:=by
 induction n with
 | zero=>exact fun k hk=>absurd hk (Nat.not_lt_zero _)
 | succ n ih =>
   intro k hk;have h1:=Ea (f:=f) (g:=g) (n:=n) fun k hk=>h k (by lia)
   have h2:=h n (by lia)
   have e:sm f n+f n=sm g n+g n:=e
   by_cases hkn:k=n
   ·subst hkn
    lia
   ·exact ih (fun j hj=>h j (by lia)) (by lia) k (by lia)
theorem Bh{f g:Nat->Bool}{n:Nat}(h:∀ k,k<n->f k=true->g k=true)(e:cnt f n=cnt g n):∀ k,k<n->g k=true->f k=true:=fun k hk hg=>by
 rw[xE,xE]at e;have q:=HN (n:=n) (fun k hk=>by
  by_cases hf:f k=true
  ·rw[if_pos hf,if_pos (h k hk hf)];exact Nat.le_refl _
  ·rw[if_neg hf];exact Nat.zero_le _) e k hk
 rw[if_pos hg]at q
 by_cases hf:f k=true
 ·exact hf
 ·rw[if_neg hf]at q
  lia
variable {N:Net}
section
variable {m s:Nat}
theorem sP(S:Nat->Bool):∀ k,k<=N.n->cnt (N.root S k) N.p+cnt (fun j=>S j && !decide (N.aS S j (N.a j)=N.aS S j (N.b j))) k=N.p
 | 0,_=>by
   show cnt (N.root S 0) N.p+0=N.p;rw[uD (f:=N.root S 0) fun x _=>gC rfl]
   rfl
 | k+1,hk=>by
   have ih:=sP S k (by lia)
   have st:=qu (N:=N) (S:=S) (k:=k) (by lia)
   show cnt (N.root S (k+1)) N.p+(cnt (fun j=>S j && !decide (N.aS S j (N.a j)=N.aS S j (N.b j))) k+if(S k && !decide (N.aS S k (N.a k)=N.aS S k (N.b k)))=true then 1 else 0)=N.p
   lia
end
end RM
namespace Ring
open PySem L2
theorem yC:∀ l l' : List Nat,PyData.eqvAll (l.map iU) (l'.map iU)=decide (l=l')
 | [],[]=>rfl
 | [],_::_=>rfl
 | _::_,[]=>rfl
 | x::l,y::l'=>by
   show(((x:Int)==(y:Int))&&PyData.eqvAll (l.map iU) (l'.map iU))=decide (x::l=y::l');rw[yC l l',Bool.eq_iff_iff];simp
   lia
theorem sQ(l l' : List Nat):PyData.eqv (.list (l.map iU)) (.list (l'.map iU))=decide (l=l'):=yC l l'
def xorL(rs:List Nat):Nat:=rs.foldl (fun m r=>m^^^r) 0
theorem zQ(rs:List Nat):∀ m,rs.foldl (fun m r=>m^^^r) m=m^^^xorL rs:=by
 induction rs with
 | nil=>intro m;show m=m^^^0;simp
 | cons r rs ih =>
   intro m;show rs.foldl (fun m r=>m^^^r) (m^^^r)=m^^^rs.foldl (fun m r=>m^^^r) (0^^^r)
   rw[ih,ih,Nat.zero_xor,Nat.xor_assoc]
theorem xorL_cons(rs:List Nat)(r:Nat):xorL (r::rs)=r^^^xorL rs:=by
 show rs.foldl (fun m r=>m^^^r) (0^^^r)=_
 rw[zQ,Nat.zero_xor]
end Ring
namespace L2
open PySem PySem.Spec PyProof.Rows
theorem Bj{X:Cx}:lB X (binaryOp .FloorDiv) (rI (fun _ j=>j≠0/\j.natAbs<2^1000) fun i j=>.int (i.fdiv j)):=DV fun i j _ _ _ _ _ hc q=>by
 refine floordiv_int hc.1 q (.inl ?_);have h0:j.natAbs≠0:=by have:=hc.1;lia
 have h:j.natAbs.log2<1000:=(Nat.log2_lt h0).mpr hc.2;exact PyProof.noPylong_of_log2 (by lia)
theorem xF{x d q:Int}(hd:d≠0)(h:x=d*q):x.fdiv d=q:=by
 rw[h,Int.fdiv_eq_ediv_of_dvd ⟨q,rfl⟩];exact Int.mul_ediv_cancel_left q hd
end L2
namespace Ring
open PySem L2
def ent(rs:List (List Int))(i j:Nat):Int:=(rs.getD i []).getD j 0
structure Tab(n:Nat)(rs:List (List Int)):Prop where
 len:rs.length=n
 row:∀ r∈rs,r.length=n
def yD(H:Hp)(x:V)(r:List Int):Prop:=∃ b,x = .ref b/\H b=some (.lst (dj r))
def TabAt(H:Hp)(t:Addr)(rs:List (List Int)):Prop:=∃ ys,H t=some (.lst ys)/\Paired (yD H) ys rs
theorem jl(l:List Int):(dj l).length=l.length:=by unfold dj;rw[List.length_map]
theorem xG(l:List Int)(k:Int):dj (l++[k])=dj l++[.int k]:=by unfold dj;rw[List.map_append];rfl
theorem qB{l:List Int}{i:Nat}{x:V}(h:(dj l)[i]?=some x):i<l.length/\x = .int (l.getD i 0):=by
 unfold dj at h;rw[List.getElem?_map]at h;obtain⟨k,e,q⟩:=Gz.mp h;have hi:i<l.length:=(Cq.mp e).1;refine⟨hi,?_⟩;rw[List.getD_eq_getElem?_getD,e];exact q.symm
theorem jI{α β:Type}{F:α->β->Prop}{x:α}{y:β}(h:F x y):∀{l:List α} {r:List β} (i:Nat),Paired F l r->Paired F (l.set i x) (r.set i y)
 | _,_,_,.nil=>.nil
 | _,_,0,.cons _ t=>.cons h t
 | _,_,i+1,.cons a t=>.cons a (jI h i t)
theorem xH{rs:List (List Int)}{i:Nat}(h:i<rs.length):rs[i]?=some (rs.getD i []):=by
 rw[List.getD_eq_getElem?_getD];simp[h]
theorem m6{rs:List (List Int)}{a:Nat}(ha:a<rs.length)(r:List Int)(i j:Nat):ent (rs.set a r) i j=if i=a then r.getD j 0 else ent rs i j:=by
 unfold ent
 by_cases h:i=a
 ·subst h;rw[if_pos rfl,List.getD_eq_getElem?_getD (l:=rs.set i r),List.getElem?_set_self ha];rfl
 ·rw[if_neg h,List.getD_eq_getElem?_getD (l:=rs.set a r),List.getElem?_set_ne (Ne.symm h),<-List.getD_eq_getElem?_getD]
theorem Tab.set{n:Nat}{rs:List (List Int)}(T:Tab n rs)(a:Nat){r:List Int}(h:r.length=n):Tab n (rs.set a r):=by
 refine⟨by rw[List.length_set,T.len],fun x hx=>?_⟩
 rcases List.mem_or_eq_of_mem_set hx with z|z
 ·exact T.row x z
 ·rw[z,h]
theorem Tab.vH{n:Nat}{rs:List (List Int)}(T:Tab n rs){i:Nat}(h:i<n):(rs.getD i []).length=n :=
 T.row _ (Cy (xH (by rw[T.len];exact h)))
theorem TabAt.get{H:Hp}{ys:List V}{rs:List (List Int)}(pr:Paired (yD H) ys rs){n i:Nat}(T:Tab n rs)(h:i<n):∃ b,ys[i]?=some (.ref b)/\H b=some (.lst (dj (rs.getD i []))):=by
 have hy:i<ys.length:=by rw[pr.length,T.len];exact h
 obtain⟨r,hr,b,e,hb⟩:=Paired.rR pr (i:=i) (x:=ys[i]) (by simp[hy])
 rw[xH (by rw[T.len];exact h)]at hr
 cases hr;exact⟨b,by rw[<-e];simp[hy],hb⟩
def jJ(R:Addr)(H:Hp)(x:V)(r:List Int):Prop:=∃ b,x = .ref b/\b≠R/\H b=some (.lst (dj r))
theorem jJ.same{R:Addr}{H H' : Hp}(s:ao H H'){x:V}{r:List Int}(h:jJ R H x r):jJ R H' x r:=by
 obtain⟨b,e,n,h⟩:=h;exact⟨b,e,n,s _ _ h⟩
theorem jJ.put{R:Addr}{H:Hp}{o:HO}{x:V}{r:List Int}(h:jJ R H x r):jJ R (upd H R o) x r:=by
 obtain⟨b,e,n,h⟩:=h;exact⟨b,e,n,by rw[aL n];exact h⟩
theorem jJ.is{R:Addr}{H:Hp}{x:V}{r:List Int}(h:jJ R H x r):yD H x r:=by
 obtain⟨b,e,n,h⟩:=h;exact⟨b,e,h⟩
theorem jJ.get{R:Addr}{H:Hp}{ys:List V}{rs:List (List Int)}(pr:Paired (jJ R H) ys rs){n i:Nat}(T:Tab n rs)(h:i<n):∃ b,ys[i]?=some (.ref b)/\b≠R/\H b=some (.lst (dj (rs.getD i []))):=by
 have hy:i<ys.length:=by rw[pr.length,T.len];exact h
 obtain⟨r,hr,b,e,nb,hb⟩:=Paired.rR pr (i:=i) (x:=ys[i]) (by simp[hy])
 rw[xH (by rw[T.len];exact h)]at hr
 cases hr;exact⟨b,by rw[<-e];simp[hy],nb,hb⟩
def oG(n:Nat)(f:Nat->Int):List Int:=(List.range n).map f
theorem nY(n:Nat)(f:Nat->Int):(oG n f).length=n:=by unfold oG;rw[List.length_map,List.length_range]
theorem zR{n j:Nat}(f:Nat->Int)(h:j<n):(oG n f).getD j 0=f j:=by
 unfold oG;rw[List.getD_eq_getElem?_getD,List.getElem?_map,List.getElem?_range h];rfl
def vI(f:Nat->Int)(H:Hp)(D:Addr)(i:Nat)(acc:List V)(H2:Hp):Prop:=ao H H2/\H2 D=some (.lst acc)/\acc=dj (oG i f)
theorem vI.start{f:Nat->Int}{H:Hp}{D:Addr}(hD:H D=none):vI f H D 0 [] (upd H D (.lst [])):=⟨ao.new hD,aj,rfl⟩
theorem vI.len{f:Nat->Int}{H H2:Hp}{D:Addr}{i:Nat}{acc:List V}(p:vI f H D i acc H2):H2 D=some (.lst acc)/\acc.length<=i:=by
 refine⟨p.2.1,?_⟩;rw[p.2.2,jl,nY];exact Nat.le_refl _
theorem vI.next{f:Nat->Int}{H H2 H3:Hp}{D:Addr}{i:Nat}{acc:List V}{v:V}(p:vI f H D i acc H2)(hD:H D=none)(s:ao H2 H3)(hv:v = .int (f i)):H3 D=some (.lst acc)/\vI f H D (i+1) (acc++[v]) (upd H3 D (.lst (acc++[v]))):=by
 refine⟨s _ _ p.2.1,(p.1.trans s).put hD,aj,?_⟩;rw[hv,p.2.2];unfold oG;rw[List.range_succ,List.map_append];show _=dj (_++[f i]);rw[xG]
def kr(D:Addr)(H0 H:Hp)(x:V)(r:List Int):Prop:=∃ b,x = .ref b/\b≠D/\H0 b=none/\H b=some (.lst (dj r))
theorem kr.same{D:Addr}{H0 H H' : Hp}(s:ao H H'){x:V}{r:List Int}(h:kr D H0 H x r):kr D H0 H' x r:=by
 obtain⟨b,e,n,z,h⟩:=h;exact⟨b,e,n,z,s _ _ h⟩
theorem kr.put{D:Addr}{H0 H:Hp}{o:HO}{x:V}{r:List Int}(h:kr D H0 H x r):kr D H0 (upd H D o) x r:=by
 obtain⟨b,e,n,z,h⟩:=h;exact⟨b,e,n,z,by rw[aL n];exact h⟩
theorem kr.is{D:Addr}{H0 H:Hp}{x:V}{r:List Int}(h:kr D H0 H x r):yD H x r:=by
 obtain⟨b,e,_,_,h⟩:=h;exact⟨b,e,h⟩
end Ring
namespace RM
variable {N:Net}{m q:Nat}
def xJ(N:Net)(m:Nat):Prop:=∀ k,k<N.n->m.testBit k=true->N.aS (fun j=>m.testBit j) k (N.a k)≠N.aS (fun j=>m.testBit j) k (N.b k)
theorem vJ:cnt (fun j=>m.testBit j) N.n+cnt (N.root (fun j=>m.testBit j) N.n) N.p=N.p↔xJ N m:=by
 have r:=sP (N:=N) (fun j=>m.testBit j) N.n (Nat.le_refl _)
 have sub:∀ k,k<N.n->(m.testBit k && !decide (N.aS (fun j=>m.testBit j) k (N.a k)=N.aS (fun j=>m.testBit j) k (N.b k)))=true->m.testBit k=true:=fun k _ z=>by
  rw[Bool.and_eq_true]at z;exact z.1
 constructor
 ·intro e k hk hb z;have e2:cnt (fun k=>m.testBit k && !decide (N.aS (fun j=>m.testBit j) k (N.a k)=N.aS (fun j=>m.testBit j) k (N.b k))) N.n=cnt (fun j=>m.testBit j) N.n:=by lia
  have q:=Bh sub e2 k hk hb;rw[gC z]at q;simp at q
 ·intro h;have e2:cnt (fun k=>m.testBit k && !decide (N.aS (fun j=>m.testBit j) k (N.a k)=N.aS (fun j=>m.testBit j) k (N.b k))) N.n=cnt (fun j=>m.testBit j) N.n:=eM fun k hk=>by
   cases hb:m.testBit k with
   | false=>rfl
   | true=>rw[j9 (h k hk hb)];rfl
  lia
end RM
namespace Ring
open PySem L2
theorem xK{L L' : Nat->Nat}{p:Nat}(hr:∀ x,L (L x)=L x)(hle:∀ x,L x<=x)(hr' : ∀ x,L' (L' x)=L' x)(hle' : ∀ x,L' x<=x):piecesOf L p=piecesOf L' p↔∀ x,x<p->L x=L' x:=by
 constructor
 ·intro e x hx;have hs:L x<p:=Nat.lt_of_le_of_lt (hle x) hx;have m1:pieceOf L p (L x)∈piecesOf L p:=List.mem_map.mpr ⟨L x,List.mem_filter.mpr ⟨List.mem_range.mpr hs,gC (hr x)⟩,rfl⟩;rw[e]at m1;obtain⟨s,hs',es⟩:=List.mem_map.mp m1;have hs2:=List.mem_filter.mp hs';have h1:=my hle (hr x) hs;have h2:=my hle' (Am hs2.2) (List.mem_range.mp hs2.1);rw[es,h1]at h2;have e2:L x=s:=Option.some.inj h2;have mx:x∈pieceOf L p (L x):=sO.mpr ⟨hx,rfl⟩;rw[<-es]at mx;rw[(sO.mp mx).2,e2]
 ·intro h;have er:bG L p=bG L' p:=List.filter_congr fun x hx=>by rw[h x (List.mem_range.mp hx)]
  unfold piecesOf;rw[er];refine List.map_congr_left fun s _=>List.filter_congr fun x hx=>?_
  rw[h x (List.mem_range.mp hx)]
theorem De{f g:Nat->Nat}{p:Nat}:(List.range p).map f=(List.range p).map g↔∀ x,x<p->f x=g x:=by
 constructor
 ·intro e x hx;have:=congrArg (fun l=>l[x]?) e
  simp only[List.getElem?_map,List.getElem?_range hx,Option.map_some]at this;exact Option.some.inj this
 ·intro h;exact List.map_congr_left fun x hx=>h x (List.mem_range.mp hx)
theorem sR(f:Nat->Nat)(p:Nat):g7 f p=bh ((List.range p).map f):=by
 unfold g7 bh;rw[List.map_map];rfl
theorem yE:∀ ls Gr:List (List Nat),PyData.eqvAll (ls.map cP) (Gr.map cP)=decide (ls=Gr)
 | [],[]=>rfl
 | [],_::_=>rfl
 | _::_,[]=>rfl
 | l::r,l'::r'=>by
   have ih:=yE r r';show(PyData.eqv (cP l) (cP l')&&PyData.eqvAll (r.map cP) (r'.map cP))=_;rw[ih,show PyData.eqv (cP l) (cP l')=decide (l=l') from sQ l l',Bool.eq_iff_iff]
   simp
theorem Fy(ls Gr:List (List Nat)):PyData.eqv (.list (ls.map cP)) (.list (Gr.map cP))=decide (ls=Gr):=yE ls Gr
theorem iI{α β:Type}{F:α->β->Prop}{x:α}{y:β}(h:F x y):∀{l:List α} {r:List β},Paired F l r->Paired F (l++[x]) (r++[y])
 | _,_,.nil=>.cons h .nil
 | _,_,.cons h1 h2=>.cons h1 (iI h h2)
theorem Fz{row:List Int}{t n:Nat}(h:t<n)(hl:row.length=n):(dj row)[t]?=some (.int (row.getD t 0)):=by
 unfold dj;rw[List.getElem?_map,List.getD_eq_getElem?_getD,List.getElem?_eq_getElem (by lia)]
 rfl
theorem int_at{l:List Int}{i:Nat}(h:i<l.length):(dj l)[i]?=some (.int (l.getD i 0)):=Fz h rfl
end Ring
namespace RM
variable {N:Net}
inductive Sp(B:List Nat):Nat->Prop
 | zero:Sp B 0
 | add {x b:Nat} (h:Sp B x) (hb:b∈B):Sp B (x^^^b)
section
variable {B C:List Nat}{x y b:Nat}
theorem Sp.mem(h:b∈B):Sp B b:=by
 have:=Sp.add .zero h;rw[Nat.zero_xor]at this;exact this
theorem Sp.xor(h:Sp B x)(h' : Sp B y):Sp B (x^^^y):=by
 induction h' with
 | zero=>rw[Nat.xor_zero];exact h
 | add _ hb ih=>rw[<-Nat.xor_assoc];exact .add ih hb
theorem Sp.mono(h:Sp B x)(hc:∀ b∈B,Sp C b):Sp C x:=by
 induction h with
 | zero=>exact .zero
 | add _ hb ih=>exact ih.xor (hc _ hb)
theorem Sp.lt{n:Nat}(h:Sp B x)(hz:∀ b∈B,b<2^n):x<2^n:=by
 induction h with
 | zero=>exact Nat.two_pow_pos n
 | add _ hb ih=>exact Nat.xor_lt_two_pow ih (hz _ hb)
end
open Ring (xorL xorL_cons maskOf)
variable {N:Net}
theorem zS:N.br.Nodup:=List.Pairwise.filter _ List.nodup_range
open Ring (maskOf mask_bit mask_lt)
theorem oH{a b:Nat}(h:a^^^b=0):a=b:=by
 have:=congrArg (fun y=>y^^^b) h
 simp only[Nat.zero_xor]at this
 rwa [Nat.xor_assoc,Nat.xor_self,Nat.xor_zero]at this
def comb:List Nat->Nat->Nat
 | [],_=>0
 | b::B,z=>(if z.testBit 0=true then b else 0)^^^comb B (z/2)
theorem Bk(a b c d:Nat):(a^^^b)^^^(c^^^d)=(a^^^c)^^^(b^^^d):=Nat.eq_of_testBit_eq fun i=>by
 simp only[Nat.testBit_xor];cases a.testBit i<;>cases b.testBit i<;>cases c.testBit i<;>cases d.testBit i<;>rfl
theorem Bl(z y:Nat):(z^^^y)/2=z/2^^^y/2:=Nat.eq_of_testBit_eq fun i=>by
 rw[Nat.testBit_xor,<-Nat.testBit_succ,<-Nat.testBit_succ,<-Nat.testBit_succ,Nat.testBit_xor]
theorem vK:∀(B:List Nat) (z y:Nat),comb B (z^^^y)=comb B z^^^comb B y
 | [],_,_=>by simp[comb]
 | b::B,z,y=>by
   unfold comb;rw[Bl,vK B,Nat.testBit_xor,Bk]
   congr 1
   cases z.testBit 0<;>cases y.testBit 0<;>simp
theorem yF(B:List Nat):∀ z,Sp B (comb B z):=by
 induction B with
 | nil=>intro z;exact .zero
 | cons b B ih =>
   intro z;have h:Sp (b::B) (comb B (z/2)):=(ih (z/2)).mono fun c hc=>.mem (sA _ hc)
   unfold comb;rw[Nat.xor_comm]
   by_cases e:z.testBit 0=true
   ·rw[if_pos e];exact h.add List.mem_cons_self
   ·rw[if_neg e,Nat.xor_zero];exact h
def HP(B:List Nat):Prop:=∀ z,z<2^B.length->comb B z=0->z=0
theorem Bm(B:List Nat)(h:HP B){z y:Nat}(hz:z<2^B.length)(hy:y<2^B.length)(e:comb B z=comb B y):z=y:=by
 have:=h (z^^^y) (Nat.xor_lt_two_pow hz hy) (by rw[vK,e,Nat.xor_self])
 exact oH this
section
variable {N:Net}
theorem sS{B:List Nat}(h:∀ b∈B,N.lE b/\b<2^N.n)(z:Nat):N.lE (comb B z)/\comb B z<2^N.n:=by
 have hs:=yF B z;refine⟨?_,hs.lt fun b hb=>(h b hb).2⟩
 generalize comb B z=x at hs
 induction hs with
 | zero=>exact lE.zero
 | add _ hb ih=>exact lE.xor ih (h _ hb).1
theorem Df{f:Nat->Nat}{a b:Nat}(hf:∀ z,z<2^a->f z<2^b)(inj:∀ z y,z<2^a->y<2^a->f z=f y->z=y):a<=b:=by
 have nd:((List.range (2^a)).map f).Nodup:=by
  refine List.pairwise_map.mpr ?_;refine List.Pairwise.imp_of_mem (fun {z y} hz hy hne e=>?_) List.nodup_range
  exact hne (inj z y (List.mem_range.mp hz) (List.mem_range.mp hy) e)
 have:=Bf nd fun x hx=>by
  obtain⟨z,hz,rfl⟩:=List.mem_map.mp hx;exact hf z (List.mem_range.mp hz)
 rw[List.length_map,List.length_range]at this;exact(Nat.pow_le_pow_iff_right (by decide)).mp this
def meets(ks:List Nat)(m:Nat):Nat:=maskOf (fun i=>m.testBit (ks.getD i 0)) ks.length
theorem Bo(ks:List Nat)(m:Nat):meets ks m<2^ks.length:=mask_lt _ _
theorem zT{ks:List Nat}{m i k:Nat}(h:ks[i]?=some k):(meets ks m).testBit i=m.testBit k:=by
 unfold meets;rw[mask_bit,List.getD_eq_getElem?_getD,h,gC (Cq.mp h).1];rfl
theorem FA{B:List Nat}(hi:HP B)(h:∀ b∈B,N.lE b/\b<2^N.n):B.length<=N.br.length:=by
 refine Df (f:=fun z=>meets N.br (comb B z)) (fun z _=>Bo _ _) fun z y hz hy e=>Bm B hi hz hy ?_
 have h1:=sS h z;have h2:=sS h y;refine oH (uB (N:=N) (fun k hk=>?_) (lE.xor h1.1 h2.1))
 have hkn:=yv (Nat.xor_lt_two_pow h1.2 h2.2) hk;refine⟨hkn,?_⟩;cases hf:N.lj k with
 | true=>rfl
 | false =>
   obtain⟨j,hj⟩:=List.getElem?_of_mem (jF.mpr ⟨hkn,hf⟩);have e:meets N.br (comb B z)=meets N.br (comb B y):=e;have:=congrArg (fun x=>x.testBit j) e
   simp only[zT hj]at this;rw[Nat.testBit_xor,this,Bool.xor_self]at hk;cases hk
open Classical in
theorem sU:∀(rs:List Nat) {k z:Nat} {f:Nat->Bool},(∀ i r,rs[i]?=some r->r.testBit k=f i)->(comb rs z).testBit k=bQ (fun i=>z.testBit i&&f i) rs.length
 | [],_,_,_,_=>Nat.zero_testBit _
 | r::rs,k,z,f,h=>by
   have ih:=sU rs (k:=k) (z:=z/2) (f:=fun i=>f (i+1)) fun i r hr=>h (i+1) r hr
   have h0:=h 0 r rfl;have shift:∀(g:Nat->Bool) n,bQ g (n+1)=(g 0^^bQ (fun i=>g (i+1)) n):=fun g n=>by
    induction n with
    | zero =>
      show(false^^g 0)=(g 0^^false);cases g 0<;>rfl
    | succ n ih =>
      show(bQ g (n+1)^^g (n+1))=(g 0^^(bQ (fun i=>g (i+1)) n^^g (n+1)))
      rw[ih,Bool.xor_assoc]
   unfold comb;rw[Nat.testBit_xor,ih,List.length_cons,shift]
   congr 1
   ·cases z.testBit 0 with
    | true=>rw[if_pos rfl,h0,Bool.true_and]
    | false=>rw[if_neg (by decide),Nat.zero_testBit,Bool.false_and]
   ·exact bT fun i _=>by rw[Nat.testBit_succ]
end
section
variable {B:List Nat}{rows:List Row3}
theorem sV(f:Nat->Bool)(n:Nat):∀{l:List Nat},l.Nodup->(∀ k∈l,k<n)->bQ (fun k=>f k&&decide (k∈l)) n=l.foldr (fun k acc=>f k^^acc) false
 | [],_,_=>lg fun k _=>by simp
 | a::l,nd,h=>by
   obtain⟨n1,n2⟩:=List.nodup_cons.mp nd;have ih:=sV f n n2 fun k hk=>h k (sA _ hk)
   have:bQ (fun k=>f k&&decide (k∈a::l)) n=bQ (fun k=>(f k&&decide (a=k))^^(f k&&decide (k∈l))) n:=bT fun k _=>by
    by_cases e:a=k
    ·subst e;rw[gC List.mem_cons_self,gC rfl,j9 n1,Bool.and_false,Bool.xor_false]
    ·have:(k∈a::l)↔k∈l:=⟨fun z=>(List.mem_cons.mp z).resolve_left fun z=>e z.symm,sA _⟩
     rw[j9 e,Bool.and_false,Bool.false_xor,decide_eq_decide.mpr this]
   rw[this,ji,g6 f (h a List.mem_cons_self),ih];rfl
end
variable {N:Net}{S:Nat->Bool}
theorem vL{F:Nat->Bool}{n:Nat}{row:List Nat}(hp:row.Perm (List.range n)):bQ F n=row.foldr (fun k acc=>F k^^acc) false:=by
 rw[<-sV F n (hp.nodup_iff.mpr List.nodup_range) fun k hk=>List.mem_range.mp (hp.mem_iff.mp hk)]
 exact bT fun k hk=>by rw[gC (hp.mem_iff.mpr (List.mem_range.mpr hk)),Bool.and_true]
theorem Bp{F:Nat->Bool}{f:Nat->Nat}{n:Nat}(hp:((List.range n).map f).Perm (List.range n)):bQ (fun i=>F (f i)) n=bQ F n:=by
 have e1:bQ F n=_:=vL hp;have e2:bQ (fun i=>F (f i)) n=_:=vL (List.Perm.refl _)
 rw[e1,e2,List.foldr_map]
structure wY(N N' : Net)(f g:Nat->Nat):Prop where
 n:N'.n=N.n
 p:N'.p=N.p
 fl:∀ i,i<N.n->f i<N.n
 gl:∀ i,i<N.n->g i<N.n
 fg:∀ i,i<N.n->f (g i)=i
 gf:∀ i,i<N.n->g (f i)=i
 inc:∀ i x,i<N.n->N'.inc i x=N.inc (f i) x
section
variable {N N' : Net}{f g:Nat->Nat}
theorem wY.symm(h:wY N N' f g):wY N' N g f:=⟨h.n.symm,h.p.symm,by rw[h.n];exact h.gl,by rw[h.n];exact h.fl,by rw[h.n];exact h.gf,by rw[h.n];exact h.fg,fun i x hi=>by
 rw[h.n]at hi;rw[h.inc (g i) x (h.gl i hi),h.fg i hi]⟩
theorem wY.perm(h:wY N N' f g):((List.range N.n).map f).Perm (List.range N.n):=by
 refine(List.perm_ext_iff_of_nodup ?_ List.nodup_range).mpr fun k=>?_
 ·refine List.pairwise_map.mpr (List.Pairwise.imp_of_mem (fun {i j} hi hj hne e=>?_) List.nodup_range)
  have:=congrArg g e;rw[h.gf i (List.mem_range.mp hi),h.gf j (List.mem_range.mp hj)]at this;exact hne this
 ·rw[List.mem_map,List.mem_range]
  constructor
  ·rintro⟨i,hi,rfl⟩;exact h.fl i (List.mem_range.mp hi)
  ·exact fun hk=>⟨g k,List.mem_range.mpr (h.gl k hk),h.fg k hk⟩
def g8(n:Nat)(f:Nat->Nat)(m:Nat):Nat:=maskOf (fun i=>m.testBit (f i)) n
theorem g9(n:Nat)(f:Nat->Nat)(m i:Nat):(g8 n f m).testBit i=(decide (i<n)&&m.testBit (f i)):=mask_bit _ _ _
theorem Dg(n:Nat)(f:Nat->Nat)(m:Nat):g8 n f m<2^n:=mask_lt _ _
theorem Bq(n:Nat)(f:Nat->Nat)(a b:Nat):g8 n f (a^^^b)=g8 n f a^^^g8 n f b:=Nat.eq_of_testBit_eq fun i=>by
 rw[Nat.testBit_xor,g9,g9,g9,Nat.testBit_xor];cases decide (i<n)<;>simp
theorem nZ(n:Nat)(f:Nat->Nat):g8 n f 0=0:=Nat.eq_of_testBit_eq fun i=>by
 rw[g9,Nat.zero_testBit,Bool.and_false,Nat.zero_testBit]
theorem wY.back(h:wY N N' f g){m:Nat}(hm:m<2^N.n):g8 N.n g (g8 N.n f m)=m:=Nat.eq_of_testBit_eq fun k=>by
 rw[g9,g9]
 by_cases hk:k<N.n
 ·rw[gC hk,gC (h.gl k hk),h.fg k hk];rfl
 ·rw[j9 hk,Bool.false_and];cases hb:m.testBit k with
  | false=>rfl
  | true=>exact absurd (yv hm hb) hk
theorem wY.LB(h:wY N N' f g){m:Nat}(ev:N.lE m):N'.lE (g8 N.n f m):=fun x hx=>by
 rw[h.p]at hx;rw[<-ev x hx];unfold Net.bd;rw[h.n,<-Bp (F:=fun k=>m.testBit k&&N.inc k x) h.perm]
 exact bT fun i hi=>by rw[g9,gC hi,Bool.true_and,h.inc i x hi]
theorem sW(n:Nat)(f:Nat->Nat):∀(B:List Nat) (z:Nat),comb (B.map (g8 n f)) z=g8 n f (comb B z)
 | [],_=>(nZ n f).symm
 | b::B,z=>by
   show(if z.testBit 0=true then g8 n f b else 0)^^^comb (B.map (g8 n f)) (z/2)=g8 n f ((if z.testBit 0=true then b else 0)^^^comb B (z/2))
   rw[Bq,sW n f B]
   split
   ·rfl
   ·rw[nZ]
theorem wY.ind(h:wY N N' f g){B:List Nat}(hl:∀ b∈B,b<2^N.n)(hi:HP B):HP (B.map (g8 N.n f)):=fun z hz e=>by
 rw[List.length_map]at hz;rw[sW]at e;refine hi z hz ?_;have:=h.back (m:=comb B z) ((yF B z).lt hl);rw[e,nZ]at this;exact this.symm
end
structure Ext(N N' : Net):Prop where
 n:N'.n=N.n+1
 p:N'.p=N.p
 a:∀ k,k<N.n->N'.a k=N.a k
 b:∀ k,k<N.n->N'.b k=N.b k
section
variable {N N' : Net}
theorem Ext.dB(h:Ext N N'):∀ k,k<=N.n->N'.dB k=N.dB k
 | 0,_=>rfl
 | k+1,hk=>by
   have ih:=h.dB k (by lia)
   have e:N'.lj k=N.lj k:=by unfold Net.lj;rw[ih,h.a k (by lia),h.b k (by lia)]
   rw[qq,qq,e,ih,h.a k (by lia),h.b k (by lia)]
theorem Ext.lj(h:Ext N N'){k:Nat}(hk:k<N.n):N'.lj k=N.lj k:=by unfold Net.lj;rw[h.dB k (by lia),h.a k hk,h.b k hk]
theorem Ext.br(h:Ext N N'):N'.br.length=N.br.length+if N'.lj N.n=true then 0 else 1:=by
 rw[mq,mq,h.n];show cnt _ N.n+_=_;rw[eM fun k hk=>by rw[h.lj hk]]
 by_cases hF:N'.lj N.n=true
 ·rw[if_neg (by show ¬(!N'.lj N.n)=true;rw[hF];decide),if_pos hF]
 ·rw[if_pos (by simpa using hF),if_neg hF]
end
end RM
namespace Dt
def su:Nat->(Nat->Int)->Int
 | 0,_=>0
 | n+1,f=>su n f+f n
theorem bf:∀{n:Nat} {f g:Nat->Int},(∀ i,i<n->f i=g i)->su n f=su n g
 | 0,_,_,_=>rfl
 | n+1,f,g,h=>by
   show su n f+f n=su n g+g n;rw[bf (n:=n) (fun i hi=>h i (by lia)),h n (by lia)]
theorem iV(a b:Int)(f g:Nat->Int):∀ n,su n (fun i=>a*f i+b*g i)=a*su n f+b*su n g
 | 0=>by simp[su]
 | n+1=>by
   show su n (fun i=>a*f i+b*g i)+(a*f n+b*g n)=a*(su n f+f n)+b*(su n g+g n)
   rw[iV a b f g n]
   grind
theorem jK:∀{n:Nat} {f:Nat->Int},(∀ i,i<n->f i=0)->su n f=0
 | 0,_,_=>rfl
 | n+1,f,h=>by
   show su n f+f n=0;rw[jK (n:=n) (fun i hi=>h i (by lia)),h n (by lia)]
   rfl
theorem qC{n r:Nat}{f:Nat->Int}(hr:r<n)(h:∀ i,i<n->i≠r->f i=0):su n f=f r:=by
 induction n with
 | zero=>lia
 | succ n ih =>
   show su n f+f n=f r
   by_cases e:r=n
   ·subst e;rw[jK fun i hi=>h i (by lia) (by lia)]
    lia
   ·rw[ih (by lia) fun i hi hn=>h i (by lia) hn,h n (by lia) (Ne.symm e)]
    lia
theorem FD{n r:Nat}{f:Nat->Int}(hr:r+1<n)(h:∀ i,i<n->i≠r->i≠r+1->f i=0):su n f=f r+f (r+1):=by
 induction n with
 | zero=>lia
 | succ n ih =>
   show su n f+f n=f r+f (r+1)
   by_cases e:r+1=n
   ·subst e;rw[qC (r:=r) (by lia) fun i hi hn=>h i (by lia) hn (by lia)]
   ·rw[ih (by lia) fun i hi hn hm=>h i (by lia) hn hm,h n (by lia) (by lia) (Ne.symm e)]
    lia
abbrev Mx:=Nat->Nat->Int
def sg(i:Nat):Int:=if i%2=0 then 1 else -1
theorem uG(i:Nat):sg (i+1) = - sg i:=by
 unfold sg
 by_cases h:i%2=0
 ·rw[if_pos h,if_neg (by lia)]
 ·rw[if_neg h,if_pos (by lia)];rfl
def sk(i r:Nat):Nat:=if r<i then r else r+1
def mn(M:Mx)(i:Nat):Mx:=fun r c=>M (sk i r) (c+1)
def det:Nat->Mx->Int
 | 0,_=>1
 | n+1,M=>su (n+1) fun i=>sg i*M i 0*det n (mn M i)
theorem aA:∀{n:Nat} {M M' : Mx},(∀ r c,r<n->c<n->M r c=M' r c)->det n M=det n M'
 | 0,_,_,_=>rfl
 | n+1,M,M',h=>by
   refine bf fun i hi=>?_
   rw[h i 0 hi (by lia),aA (n:=n) (M:=mn M i) (M':=mn M' i) fun r c hr hc=>?_]
   unfold mn sk
   split<;>exact h _ _ (by lia) (by lia)
theorem eE:∀{n:Nat} {M A B:Mx} {r:Nat} (a b:Int),r<n->(∀ i c,i≠r->M i c=A i c)->(∀ i c,i≠r->M i c=B i c)->(∀ c,M r c=a*A r c+b*B r c)->det n M=a*det n A+b*det n B
 | 0,_,_,_,_,_,_,h,_,_,_=>by lia
 | n+1,M,A,B,r,a,b,hr,hA,hB,h=>by
   show su (n+1) _=a*su (n+1) _+b*su (n+1) _;rw[<-iV];refine bf fun i hi=>?_
   by_cases e:i=r
   ·subst e;have e1:det n (mn M i)=det n (mn A i):=aA fun x c _ _=>hA _ _ (by unfold sk;split<;>lia)
    have e2:det n (mn M i)=det n (mn B i):=aA fun x c _ _=>hB _ _ (by unfold sk;split<;>lia)
    rw[h 0,<-e1,<-e2]
    grind
   ·have e3:det n (mn M i)=a*det n (mn A i)+b*det n (mn B i):=by
     refine eE (r:=if r<i then r else r-1) a b (by split<;>lia) (fun x c hx=>?_) (fun x c hx=>?_) (fun c=>?_)
     ·refine hA _ _ ?_;unfold sk
      split at hx<;>split<;>lia
     ·refine hB _ _ ?_;unfold sk
      split at hx<;>split<;>lia
     ·have z:sk i (if r<i then r else r-1)=r:=by
       unfold sk
       split<;>(try split)<;>lia
      show M (sk i _) _=a*A (sk i _) _+b*B (sk i _) _;rw[z];exact h _
    rw[e3,hA i 0 e];have e4:A i 0=B i 0:=by rw[<-hA i 0 e,hB i 0 e]
    rw[<-e4]
    grind
theorem uH:∀{n:Nat} {M:Mx} {r:Nat},r+1<n->(∀ c,M r c=M (r+1) c)->det n M=0
 | 0,_,_,h,_=>by lia
 | n+1,M,r,hr,h=>by
   show su (n+1) _=0;rw[FD (r:=r) hr fun i hi h1 h2=>?_]
   ·have e:det n (mn M r)=det n (mn M (r+1)):=aA fun x c _ _=>by
     show M (sk r x) _=M (sk (r+1) x) _;unfold sk
     by_cases e1:x<r
     ·rw[if_pos e1,if_pos (by lia)]
     ·rw[if_neg e1]
      by_cases e2:x=r
      ·subst e2;rw[if_pos (by lia)]
       exact(h _).symm
      ·rw[if_neg (by lia)]
    rw[uG,e,h 0]
    grind
   ·have z:det n (mn M i)=0:=by
     refine uH (r:=if r<i then r else r-1) (by split<;>lia) fun c=>?_
     show M (sk i _) _=M (sk i _) _;have z1:sk i (if r<i then r else r-1)=r:=by unfold sk;split<;>(try split)<;>lia
     have z2:sk i ((if r<i then r else r-1)+1)=r+1:=by unfold sk;split<;>(try split)<;>lia
     rw[z1,z2];exact h _
    rw[z]
    grind
def put(M:Mx)(r:Nat)(v:Nat->Int):Mx:=fun i c=>if i=r then v c else M i c
theorem aC(M:Mx)(r:Nat)(v:Nat->Int)(c:Nat):put M r v r c=v c:=if_pos rfl
theorem aF(M:Mx){r i:Nat}(v:Nat->Int)(c:Nat)(h:i≠r):put M r v i c=M i c:=if_neg h
def sw(M:Mx)(r s:Nat):Mx:=put (put M r (M s)) s (M r)
theorem Dh{n:Nat}{M:Mx}{r:Nat}(hr:r+1<n):det n (sw M r (r+1)) = - det n M:=by
 have S:∀ u v:Nat->Int,∀ w,(det n (put (put M r (fun c=>u c+v c)) (r+1) w))=det n (put (put M r u) (r+1) w)+det n (put (put M r v) (r+1) w):=fun u v w=>by
  have:=eE (n:=n) (M:=put (put M r (fun c=>u c+v c)) (r+1) w) (A:=put (put M r u) (r+1) w) (B:=put (put M r v) (r+1) w) (r:=r) 1 1 (by lia) (fun i c h=>by unfold put;split<;>simp[h]) (fun i c h=>by unfold put;split<;>simp[h]) (fun c=>by simp[put])
  lia
 have S2:∀ u v:Nat->Int,∀ w,(det n (put (put M r w) (r+1) (fun c=>u c+v c)))=det n (put (put M r w) (r+1) u)+det n (put (put M r w) (r+1) v):=fun u v w=>by
  have:=eE (n:=n) (M:=put (put M r w) (r+1) (fun c=>u c+v c)) (A:=put (put M r w) (r+1) u) (B:=put (put M r w) (r+1) v) (r:=r+1) 1 1 (by lia) (fun i c h=>by simp[put,h]) (fun i c h=>by simp[put,h]) (fun c=>by simp[put])
  lia
 have Z:∀ u:Nat->Int,det n (put (put M r u) (r+1) u)=0:=fun u=>uH hr fun c=>by simp[put]
 have h0:=Z (fun c=>M r c+M (r+1) c)
 rw[S,S2,S2,Z (M r),Z (M (r+1))]at h0;have e:det n (put (put M r (M r)) (r+1) (M (r+1)))=det n M:=aA fun i c _ _=>by
  unfold put
  by_cases h1:i=r+1
  ·rw[if_pos h1,h1]
  ·rw[if_neg h1]
   by_cases h2:i=r
   ·rw[if_pos h2,h2]
   ·rw[if_neg h2]
 unfold sw
 lia
theorem n6{n:Nat}:∀(d:Nat) {M:Mx} {r:Nat},r+d+1<n->(∀ c,M r c=M (r+d+1) c)->det n M=0
 | 0,M,r,hr,h=>uH hr h
 | d+1,M,r,hr,h=>by
   have e:=Dh (n:=n) (M:=M) (r:=r) (by lia)
   have z:det n (sw M r (r+1))=0:=by
    refine n6 d (r:=r+1) (by lia) fun c=>?_
    have e1:sw M r (r+1) (r+1) c=M r c:=aC _ _ _ _;have e2:sw M r (r+1) (r+1+d+1) c=M (r+1+d+1) c:=by
     unfold sw;rw[aF _ _ _ (by lia),aF _ _ _ (by lia)]
    rw[e1,e2,h c]
    congr 1
    lia
   lia
theorem fO{n:Nat}{M:Mx}{r s:Nat}(hr:r<n)(hs:s<n)(hn:r≠s)(h:∀ c,M r c=M s c):det n M=0:=by
 by_cases e:r<s
 ·refine n6 (s-r-1) (r:=r) (by lia) fun c=>?_
  have z:r+(s-r-1)+1=s:=by lia
  rw[z];exact h c
 ·refine n6 (r-s-1) (r:=s) (by lia) fun c=>?_
  have z:s+(r-s-1)+1=r:=by lia
  rw[z];exact(h c).symm
theorem pT{n:Nat}{M:Mx}{r s:Nat}(a b:Int)(hr:r<n)(hs:s<n)(hn:r≠s):det n (put M r fun c=>a*M r c+b*M s c)=a*det n M:=by
 have h:=eE (n:=n) (M:=put M r fun c=>a*M r c+b*M s c) (A:=M) (B:=put M r (M s)) (r:=r) a b hr (fun i c h=>aF _ _ _ h) (fun i c h=>by rw[aF _ _ _ h,aF _ _ _ h]) (fun c=>by rw[aC,aC])
 have z:det n (put M r (M s))=0:=fO hr hs hn fun c=>by rw[aC,aF _ _ _ (Ne.symm hn)]
 rw[h,z]
 lia
theorem Br{n:Nat}{M:Mx}{r s:Nat}(hr:r<n)(hs:s<n)(hn:r≠s):det n (sw M r s) = - det n M:=by
 have A1:∀ u v w:Nat->Int,det n (put (put M r fun c=>u c+v c) s w)=det n (put (put M r u) s w)+det n (put (put M r v) s w):=fun u v w=>by
  have:=eE (n:=n) (M:=put (put M r fun c=>u c+v c) s w) (A:=put (put M r u) s w) (B:=put (put M r v) s w) (r:=r) 1 1 hr (fun i c h=>by unfold put;split<;>simp[h]) (fun i c h=>by unfold put;split<;>simp[h]) (fun c=>by simp[put,hn])
  lia
 have A2:∀ u v w:Nat->Int,det n (put (put M r w) s fun c=>u c+v c)=det n (put (put M r w) s u)+det n (put (put M r w) s v):=fun u v w=>by
  have:=eE (n:=n) (M:=put (put M r w) s fun c=>u c+v c) (A:=put (put M r w) s u) (B:=put (put M r w) s v) (r:=s) 1 1 hs (fun i c h=>by simp[put,h]) (fun i c h=>by simp[put,h]) (fun c=>by simp[put])
  lia
 have Z:∀ u:Nat->Int,det n (put (put M r u) s u)=0:=fun u=>fO hr hs hn fun c=>by simp[put]
 have h0:=Z (fun c=>M r c+M s c)
 rw[A1,A2,A2,Z (M r),Z (M s)]at h0;have e:det n (put (put M r (M r)) s (M s))=det n M:=aA fun i c _ _=>by
  unfold put
  by_cases h1:i=s
  ·rw[if_pos h1,h1]
  ·rw[if_neg h1]
   by_cases h2:i=r
   ·rw[if_pos h2,h2]
   ·rw[if_neg h2]
 unfold sw
 lia
def pr:Nat->Mx->Int
 | 0,_=>1
 | n+1,M=>M 0 0*pr n fun r c=>M (r+1) (c+1)
theorem yG:∀{n:Nat} {M:Mx},(∀ r c,r<n->c<r->M r c=0)->det n M=pr n M
 | 0,_,_=>rfl
 | n+1,M,h=>by
   show su (n+1) _=M 0 0*pr n _;rw[qC (r:=0) (by lia) fun i hi hn=>by rw[h i 0 hi (by lia)];simp]
   have e:mn M 0=fun r c=>M (r+1) (c+1):=rfl
   rw[e,yG (n:=n) fun r c hr hc=>h (r+1) (c+1) (by lia) (by lia)]
   show(1:Int)*_*_=_;rw[Int.one_mul]
theorem qD{n:Nat}{M:Mx}{r:Nat}(a:Int)(c:Nat->Int)(hr:r<n):∀ k,k<=r->det n (put M r fun j=>a*M r j+su k fun l=>c l*M l j)=a*det n M
 | 0,_=>by
   have h:=eE (n:=n) (M:=put M r fun j=>a*M r j+su 0 fun l=>c l*M l j) (A:=M) (B:=M) (r:=r) a 0 hr (fun i c h=>aF _ _ _ h) (fun i c h=>aF _ _ _ h) (fun c=>by rw[aC];simp[su])
   rw[h]
   lia
 | k+1,hk=>by
   have h:=eE (n:=n) (M:=put M r fun j=>a*M r j+su (k+1) fun l=>c l*M l j) (A:=put M r fun j=>a*M r j+su k fun l=>c l*M l j) (B:=put M r (M k)) (r:=r) 1 (c k) hr (fun i c h=>by rw[aF _ _ _ h,aF _ _ _ h]) (fun i c h=>by rw[aF _ _ _ h,aF _ _ _ h]) (fun j=>by
    rw[aC,aC,aC];show a*M r j+(su k (fun l=>c l*M l j)+c k*M k j)=1*(a*M r j+su k fun l=>c l*M l j)+c k*M k j
    lia)
   have z:det n (put M r (M k))=0:=fO (r:=r) (s:=k) hr (by lia) (by lia) fun c=>by rw[aC,aF _ _ _ (by lia)]
   rw[h,z,qD a c hr k (by lia)]
   lia
theorem vM:∀{k:Nat} {M:Mx},(∀ c,c<k->M k c=0)->det (k+1) M=det k M*M k k
 | 0,M,_=>by
   show(0:Int)+sg 0*M 0 0*1=1*M 0 0;have:sg 0=1:=rfl;rw[this]
   lia
 | k+1,M,h=>by
   show su (k+1) (fun i=>sg i*M i 0*det (k+1) (mn M i))+sg (k+1)*M (k+1) 0*det (k+1) (mn M (k+1))=su (k+1) (fun i=>sg i*M i 0*det k (mn M i))*M (k+1) (k+1)
   rw[h 0 (by lia)]
   have e:su (k+1) (fun i=>sg i*M i 0*det (k+1) (mn M i))=su (k+1) (fun i=>M (k+1) (k+1)*(sg i*M i 0*det k (mn M i))+0*0):=bf fun i hi=>by
    have e1:∀ c,mn M i k c=M (k+1) (c+1):=fun c=>by
     show M (sk i k) _=_;unfold sk;rw[if_neg (by lia)]
    rw[vM (k:=k) (M:=mn M i) fun c hc=>by rw[e1];exact h _ (by lia),e1]
    grind
   rw[e,iV (M (k+1) (k+1)) 0 _ (fun _=>0)]
   grind
def pt(A:Mx)(k i j:Nat):Mx:=fun r c=>A (if r<k then r else i) (if c<k then c else j)
def md(A:Mx)(k i j:Nat):Int:=det (k+1) (pt A k i j)
def lm(A:Mx)(k:Nat):Int:=det k A
theorem yH(A:Mx)(k:Nat):md A k k k=lm A (k+1):=aA fun r c hr hc=>by
 unfold pt;have e1:(if r<k then r else k)=r:=by split<;>lia
 have e2:(if c<k then c else k)=c:=by split<;>lia
 rw[e1,e2]
theorem yI{A:Mx}{k i:Nat}{v c:Nat->Int}{q a:Int}(hq:∀ j,q*v j=a*A i j+su k fun l=>c l*A l j)(hz:∀ j,j<k->v j=0)(j:Nat):lm A k*(q*v j)=a*md A k i j:=by
 have h:=qD (n:=k+1) (M:=pt A k i j) (r:=k) a c (by lia) k (Nat.le_refl _)
 unfold md;rw[<-h];have e:∀ x,put (pt A k i j) k (fun y=>a*pt A k i j k y+su k fun l=>c l*pt A k i j l y) k x=q*v (if x<k then x else j):=fun x=>by
  rw[aC,hq];have e1:pt A k i j k x=A i (if x<k then x else j):=by unfold pt;rw[if_neg (by lia)]
  rw[e1]
  congr 1
  exact bf fun l hl=>by unfold pt;rw[if_pos hl]
 rw[vM (k:=k) fun x hx=>by rw[e,if_pos hx,hz x hx,Int.mul_zero],e,if_neg (by lia)]
 congr 1
 refine aA fun r x hr hx=>?_
 rw[aF _ _ _ (by lia)]
 unfold pt;rw[if_pos hr,if_pos hx]
def Red(A:Mx)(k i:Nat)(v:Nat->Int):Prop:=(∀ j,j<k->v j=0)/\∃(q:Int) (c:Nat->Int),q≠0/\∀ j,q*v j=(q*lm A k)*A i j+su k fun l=>c l*A l j
theorem Red.eq{A:Mx}{k i:Nat}{v:Nat->Int}(h:Red A k i v)(hp:lm A k≠0)(j:Nat):v j=md A k i j:=by
 obtain⟨hz,q,c,q0,hq⟩:=h;have e:=yI (a:=q*lm A k) hq hz j;have e2:(lm A k*q)*v j=(lm A k*q)*md A k i j:=by grind
 exact Int.eq_of_mul_eq_mul_left (Int.mul_ne_zero hp q0) e2
theorem Red.zero(A:Mx)(i:Nat):Red A 0 i (A i):=⟨fun j h=>by lia,1,fun _=>0,by decide,fun j=>by
 show 1*A i j=(1*1)*A i j+0
 lia⟩
theorem Red.step{A:Mx}{k i:Nat}{v w:Nat->Int}(hv:Red A k i v)(hw:Red A k k w)(hp:lm A k≠0)(hl:w k≠0):
 (∀ j,w k*v j-v k*w j=lm A k*md A (k+1) i j)/\Red A (k+1) i (fun j=>(w k*v j-v k*w j)/lm A k):=by
 have ew:w k=lm A (k+1):=by rw[hw.eq hp,yH]
 obtain⟨zv,q,c,q0,hq⟩:=hv;obtain⟨zw,q',c',QC,SK⟩:=hw;have hx:∀ j,(q*q')*(w k*v j-v k*w j)=((q*q')*(w k*lm A k))*A i j+su (k+1) fun l=>(if l=k then-(v k*q*q'*lm A k) else w k*q'*c l-v k*q*c' l)*A l j:=fun j=>by
  have h1:=hq j;have h2:=SK j;have e:su (k+1) (fun l=>(if l=k then-(v k*q*q'*lm A k) else w k*q'*c l-v k*q*c' l)*A l j)=((w k*q')*su k (fun l=>c l*A l j)+(- (v k*q))*su k (fun l=>c' l*A l j))+(- (v k*q*q'*lm A k))*A k j:=by
   rw[<-iV];show su k _+(if k=k then-(v k*q*q'*lm A k) else w k*q'*c k-v k*q*c' k)*A k j=_
   rw[if_pos rfl]
   congr 1
   exact bf fun l hl=>by rw[if_neg (by lia)];grind
  rw[e];have h3:(q*q')*(w k*v j-v k*w j)=(w k*q')*(q*v j)-(v k*q)*(q'*w j):=by grind
  rw[h3,h1,h2]
  grind
 have zx:∀ j,j<k+1->w k*v j-v k*w j=0:=fun j hj=>by
  by_cases e:j=k
  ·subst e;grind
  ·rw[zv j (by lia),zw j (by lia)];lia
 have h1:∀ j,w k*v j-v k*w j=lm A k*md A (k+1) i j:=fun j=>by
  have e:=yI (a:=(q*q')*(w k*lm A k)) hx zx j;rw[<-ew]at e;have e2:(w k*(q*q'))*(w k*v j-v k*w j)=(w k*(q*q'))*(lm A k*md A (k+1) i j):=by grind
  exact Int.eq_of_mul_eq_mul_left (Int.mul_ne_zero hl (Int.mul_ne_zero q0 QC)) e2
 refine⟨h1,fun j hj=>?_,?_⟩
 ·show(w k*v j-v k*w j)/lm A k=0;rw[zx j hj];exact Int.zero_ediv _
 ·have hd:∀ j,lm A k*((w k*v j-v k*w j)/lm A k)=w k*v j-v k*w j:=fun j=>by
   rw[h1 j,Int.mul_ediv_cancel_left _ hp]
  refine⟨(q*q')*lm A k,fun l=>if l=k then-(v k*q*q'*lm A k) else w k*q'*c l-v k*q*c' l,Int.mul_ne_zero (Int.mul_ne_zero q0 QC) hp,fun j=>?_⟩
  rw[<-ew];have e:=hx j;rw[<-hd j]at e;have e3:(q*q')*lm A k*((w k*v j-v k*w j)/lm A k)=(q*q')*(lm A k*((w k*v j-v k*w j)/lm A k)):=by grind
  show(q*q')*lm A k*((w k*v j-v k*w j)/lm A k)=_;rw[e3,e]
  congr 1
  grind
theorem vN:∀{k n:Nat} {M:Mx},k<n->(∀ i c,k<=i->i<n->c<=k->M i c=0)->det n M=0
 | 0,n+1,M,_,h=>jK fun i hi=>by rw[h i 0 (by lia) hi (by lia)];simp
 | k+1,n+1,M,hk,h=>jK fun i hi=>by
   by_cases e:k+1<=i
   ·rw[h i 0 e hi (by lia)];simp
   ·rw[vN (k:=k) (n:=n) (M:=mn M i) (by lia) fun r c h1 h2 h3=>by
     show M (sk i r) (c+1)=0;unfold sk;rw[if_neg (by lia)]
     exact h _ _ (by lia) (by lia) (by lia)]
    simp
theorem vO{A A' : Mx}{k:Nat}(h:∀ l,l<k->A' l=A l):lm A' k=lm A k:=aA fun r c hr _=>by rw[h r hr]
theorem Red.congr{A A' : Mx}{k i i' : Nat}{v:Nat->Int}(h:∀ l,l<k->A' l=A l)(e:A' i' = A i)(r:Red A k i v):Red A' k i' v:=by
 obtain⟨z,q,c,q0,hq⟩:=r;refine⟨z,q,c,q0,fun j=>?_⟩
 rw[hq j,vO h,e]
 congr 1
 exact bf fun l hl=>by rw[h l hl]
theorem vP{n k:Nat}{A:Mx}{v:Mx}(hv:∀ i,k<=i->i<n->Red A k i (v i))(hp:lm A k≠0):∀ m,k<=m->m<=n->∃ B:Mx,∃ z:Int,z≠0/\det n B=z*det n A/\(∀ l,l<k->B l=A l)/\(∀ l,m<=l->B l=A l)/\∀ i,k<=i->i<m->∃ q:Int,∀ j,B i j=q*v i j
 | 0,h,_=>⟨A,1,by decide,by lia,fun _ _=>rfl,fun _ _=>rfl,fun i h1 h2=>by lia⟩
 | m+1,h,hm=>by
   by_cases e:m+1=k
   ·exact⟨A,1,by decide,by lia,fun _ _=>rfl,fun _ _=>rfl,fun i h1 h2=>by lia⟩
   ·obtain⟨B,z,z0,hd,hB,hr,hi⟩:=vP hv hp m (by lia) (by lia)
    obtain⟨_,q,c,q0,hq⟩:=hv m (by lia) (by lia)
    refine⟨put B m fun j=>(q*lm A k)*B m j+su k fun l=>c l*B l j,(q*lm A k)*z,Int.mul_ne_zero (Int.mul_ne_zero q0 hp) z0,?_,fun l hl=>?_,fun l hl=>?_,fun i h1 h2=>?_⟩
    ·rw[qD (n:=n) (M:=B) (r:=m) (q*lm A k) c (by lia) k (by lia),hd];grind
    ·funext j
     rw[aF _ _ _ (by lia),hB l hl]
    ·funext j
     rw[aF _ _ _ (by lia),hr l (by lia)]
    ·by_cases e2:i=m
     ·subst e2;refine⟨q,fun j=>?_⟩
      rw[aC,hq j,hr i (Nat.le_refl _)]
      congr 1
      exact bf fun l hl=>by rw[hB l hl]
     ·obtain⟨q2,h⟩:=hi i h1 (by lia)
      exact⟨q2,fun j=>by rw[aF _ _ _ e2];exact h j⟩
def Bs(n:Nat)(A:Mx)(k:Nat)(sgn d:Int)(R:Mx):Prop:=k<=n/\(sgn=1\/sgn = -1)/\d≠0/\∃ A' : Mx,det n A' = sgn*det n A/\(∀ r,∃ r',A' r=A r')/\lm A' k=d/\∀ i,k<=i->i<n->Red A' k i (R i)
theorem Bs.zero(n:Nat)(A:Mx):Bs n A 0 1 1 A:=⟨Nat.zero_le _,.inl rfl,by decide,A,by lia,fun r=>⟨r,rfl⟩,rfl,fun i _ _=>Red.zero A i⟩
theorem Bs.none{n k:Nat}{A R:Mx}{sgn d:Int}(h:Bs n A k sgn d R)(hk:k<n)(hz:∀ i,k<=i->i<n->R i k=0):det n A=0:=by
 obtain⟨_,hs,d0,A',hd,_,hl,hr⟩:=h;have hp:lm A' k≠0:=by rw[hl];exact d0
 obtain⟨B,z,z0,hB,_,_,hi⟩:=vP hr hp n (by lia) (Nat.le_refl _)
 have e:det n B=0:=vN (k:=k) hk fun i c h1 h2 h3=>by
  obtain⟨q,hq⟩:=hi i h1 h2;rw[hq c]
  by_cases e:c=k
  ·rw[e,hz i h1 h2,Int.mul_zero]
  ·rw[(hr i h1 h2).1 c (by lia),Int.mul_zero]
 rw[e]at hB;have e2:det n A' = 0:=by
  rcases Int.mul_eq_zero.mp hB.symm with h|h
  ·exact absurd h z0
  ·exact h
 rw[e2]at hd;rcases hs with rfl|rfl<;>lia
theorem Bs.sw{n k s:Nat}{A R:Mx}{sgn d:Int}(h:Bs n A k sgn d R)(hk:k<s)(hs:s<n):Bs n A k (-sgn) d (sw R k s):=by
 obtain⟨h1,hg,d0,A',hd,hrw,hl,hr⟩:=h;have low:∀ l,l<k->Dt.sw A' k s l=A' l:=fun l hl=>by
  funext j
  unfold Dt.sw;rw[aF _ _ _ (by lia),aF _ _ _ (by lia)]
 have rows:∀(M:Mx) i,Dt.sw M k s i=if i=s then M k else if i=k then M s else M i:=fun M i=>by
  funext j
  unfold Dt.sw put
  by_cases e1:i=s
  ·rw[if_pos e1,if_pos e1]
  ·rw[if_neg e1,if_neg e1]
   by_cases e2:i=k
   ·rw[if_pos e2,if_pos e2]
   ·rw[if_neg e2,if_neg e2]
 refine⟨h1,by rcases hg with rfl | rfl<;>simp,d0,Dt.sw A' k s,by rw[Br (by lia) hs (by lia),hd];grind,fun r=>by
  rw[rows]
  split
  ·exact hrw k
  ·split
   ·exact hrw s
   ·exact hrw r,by rw[vO low,hl],fun i h2 h3=>?_⟩
 rw[rows R i]
 by_cases e1:i=s
 ·rw[if_pos e1];exact Red.congr low (by rw[rows,if_pos e1]) (hr k (Nat.le_refl _) (by lia))
 ·rw[if_neg e1]
  by_cases e2:i=k
  ·rw[if_pos e2];exact Red.congr low (by rw[rows,if_neg e1,if_pos e2]) (hr s (by lia) hs)
  ·rw[if_neg e2];exact Red.congr low (by rw[rows,if_neg e1,if_neg e2]) (hr i h2 h3)
theorem Bs.out{n k i:Nat}{A R:Mx}{sgn d:Int}(h:Bs n A k sgn d R)(h0:R k k≠0)(hk:k<i)(hi:i<n)(j:Nat):∃ y,R k k*R i j-R i k*R k j=d*y:=by
 obtain⟨_,_,d0,A',_,_,hl,hr⟩:=h;have h2:=(Red.step (hr i (by lia) hi) (hr k (Nat.le_refl _) (by lia)) (by rw[hl];exact d0) h0).1 j
 rw[hl]at h2;exact⟨_,h2⟩
theorem Bs.step{n k:Nat}{A R R' : Mx}{sgn d:Int}(h:Bs n A k sgn d R)(hk:k<n)(h0:R k k≠0)(hR:∀ i j,k<i->i<n->d*R' i j=R k k*R i j-R i k*R k j):Bs n A (k+1) sgn (R k k) R':=by
 obtain⟨_,hg,d0,A',hd,hrw,hl,hr⟩:=h;have hp:lm A' k≠0:=by rw[hl];exact d0
 have hkk:=hr k (Nat.le_refl _) hk;refine⟨hk,hg,h0,A',hd,hrw,by rw[hkk.eq hp,yH],fun i h1 h2=>?_⟩
 have e:=(Red.step (hr i (by lia) h2) hkk hp h0).2
 have e2:R' i=fun j=>(R k k*R i j-R i k*R k j)/lm A' k:=by
  funext j
  rw[<-hR i j (by lia) h2,hl,Int.mul_ediv_cancel_left _ d0]
 rw[e2];exact e
theorem Bs.done{n:Nat}{A R:Mx}{sgn d:Int}(h:Bs n A n sgn d R):sgn*d=det n A:=by
 obtain⟨_,hg,_,A',hd,_,hl,_⟩:=h;have e:d=sgn*det n A:=by rw[<-hl];exact hd
 rw[e];rcases hg with rfl|rfl<;>lia
theorem Bt{E:Nat}:∀{n:Nat} {f:Nat->Int},(∀ i,i<n->(f i).natAbs<=E)->(su n f).natAbs<=n*E
 | 0,_,_=>Nat.zero_le _
 | n+1,f,h=>by
   show(su n f+f n).natAbs<=(n+1)*E;have h1:=Bt (n:=n) fun i hi=>h i (by lia)
   have h2:=h n (by lia)
   have h3:=Int.natAbs_add_le (su n f) (f n);rw[Nat.add_mul,Nat.one_mul]
   lia
def fc:Nat->Nat->Nat
 | _,0=>1
 | E,n+1=>(n+1)*(E*fc E n)
theorem yJ{E:Nat}(h:1<=E):∀{m n:Nat},m<=n->fc E m<=fc E n
 | m,0,e=>by rw[show m=0 by lia];exact Nat.le_refl _
 | m,n+1,e=>by
   by_cases z:m=n+1
   ·rw[z];exact Nat.le_refl _
   ·refine Nat.le_trans (yJ h (n:=n) (by lia)) ?_
    show fc E n<=(n+1)*(E*fc E n);refine Nat.le_trans (Nat.le_mul_of_pos_left _ h) (Nat.le_mul_of_pos_left _ (by lia))
theorem uI{E:Nat}:∀{n:Nat} {M:Mx},(∀ r c,(M r c).natAbs<=E)->(det n M).natAbs<=fc E n
 | 0,_,_=>Nat.le_refl _
 | n+1,M,h=>Bt fun i _=>by
   have h1:=uI (n:=n) (M:=mn M i) fun r c=>h _ _
   have h2:=h i 0;have h3:(sg i*M i 0).natAbs=(M i 0).natAbs:=by
    unfold sg
    split
    ·rw[Int.one_mul]
    ·rw[Int.neg_mul,Int.one_mul,Int.natAbs_neg]
   rw[Int.natAbs_mul,h3];exact Nat.mul_le_mul h2 h1
theorem Bs.bnd{n k E:Nat}{A R:Mx}{sgn d:Int}(h:Bs n A k sgn d R)(hE:1<=E)(hA:∀ r c,(A r c).natAbs<=E):d.natAbs<=fc E n/\∀ i j,k<=i->i<n->(R i j).natAbs<=fc E n:=by
 obtain⟨hk,_,d0,A',_,hrw,hl,hr⟩:=h;have QD:∀ r c,(A' r c).natAbs<=E:=fun r c=>by
  obtain⟨r',e⟩:=hrw r;rw[e];exact hA r' c
 refine⟨by rw[<-hl];exact Nat.le_trans (uI QD) (yJ hE hk),fun i j h1 h2=>?_⟩
 rw[(hr i h1 h2).eq (by rw[hl];exact d0) j]
 exact Nat.le_trans (uI (n:=k+1) fun r c=>QD _ _) (yJ hE (by lia))
theorem uJ{n:Nat}{M:Mx}{r:Nat}(hr:r<n)(a:Nat->Int)(E:Nat->Nat->Int):∀ m,det n (put M r fun c=>su m fun l=>a l*E l c)=su m fun l=>a l*det n (put M r (E l))
 | 0=>by
   have h:=eE (n:=n) (M:=put M r fun c=>su 0 fun l=>a l*E l c) (A:=M) (B:=M) (r:=r) 0 0 hr (fun i c h=>aF _ _ _ h) (fun i c h=>aF _ _ _ h) (fun c=>by rw[aC];simp[su])
   rw[h];show 0*det n M+0*det n M=0
   lia
 | m+1=>by
   have h:=eE (n:=n) (M:=put M r fun c=>su (m+1) fun l=>a l*E l c) (A:=put M r fun c=>su m fun l=>a l*E l c) (B:=put M r (E m)) (r:=r) 1 (a m) hr (fun i c h=>by rw[aF _ _ _ h,aF _ _ _ h]) (fun i c h=>by rw[aF _ _ _ h,aF _ _ _ h]) (fun c=>by
    rw[aC,aC,aC];show su m (fun l=>a l*E l c)+a m*E m c=1*su m (fun l=>a l*E l c)+a m*E m c
    lia)
   rw[h,uJ hr a E m];show 1*su m _+a m*_=su m _+a m*_
   lia
def un(l c:Nat):Int:=if c=l then 1 else 0
def mul(n:Nat)(A B:Mx):Mx:=fun r c=>su n fun l=>A r l*B l c
theorem Bu{n l:Nat}(hl:l<n)(f:Nat->Int):su n (fun c=>un l c*f c)=f l:=by
 rw[qC (r:=l) hl fun i _ hn=>by unfold un;rw[if_neg hn,Int.zero_mul]]
 unfold un;rw[if_pos rfl,Int.one_mul]
theorem qF{n c:Nat}(hc:c<n)(f:Nat->Int):su n (fun l=>f l*un l c)=f c:=by
 rw[qC (r:=c) hc fun i _ hn=>by unfold un;rw[if_neg (Ne.symm hn),Int.mul_zero]]
 unfold un;rw[if_pos rfl,Int.mul_one]
theorem Bv:∀ n,pr n un=1
 | 0=>rfl
 | n+1=>by
   show un 0 0*pr n (fun r c=>un (r+1) (c+1))=1
   have e:(fun r c=>un (r+1) (c+1))=un:=by
    funext r c
    unfold un
    by_cases h:c=r
    ·rw[if_pos h,if_pos (by lia)]
    ·rw[if_neg h,if_neg (by lia)]
   rw[e,Bv n];rfl
theorem m7(n:Nat):det n un=1:=by
 rw[yG fun r c _ hc=>by unfold un;rw[if_neg (by lia)],Bv]
def off(f:Nat->Nat):Nat->Nat
 | 0=>0
 | n+1=>off f n+if f n=n then 0 else 1
theorem vQ{f:Nat->Nat}:∀{n:Nat},off f n=0->∀ i,i<n->f i=i
 | 0,_,i,h=>by lia
 | n+1,h,i,hi=>by
   have h' : off f n+(if f n=n then 0 else 1)=0:=h
   by_cases e:f n=n
   ·by_cases e2:i=n
    ·rw[e2,e]
    ·exact vQ (n:=n) (by lia) i (by lia)
   ·rw[if_neg e]at h';lia
theorem FE{f g:Nat->Nat}{n k:Nat}(hk:k<n)(h1:f k≠k)(h2:g k=k)(h:∀ i,i<n->f i=i->g i=i):off g n<off f n:=by
 have le:∀ m,m<=n->off g m<=off f m:=fun m=>by
  induction m with
  | zero=>exact fun _=>Nat.le_refl _
  | succ m ih =>
    intro hm;show off g m+_<=off f m+_;have:=ih (by lia)
    by_cases e:f m=m
    ·rw[if_pos e,if_pos (h m (by lia) e)];lia
    ·rw[if_neg e];split<;>lia
 have lt:∀ m,m<=n->k<m->off g m<off f m:=fun m=>by
  induction m with
  | zero=>lia
  | succ m ih =>
    intro hm hkm;show off g m+_<off f m+_
    by_cases e:k=m
    ·subst e;rw[if_pos h2,if_neg h1];have:=le k (by lia)
     lia
    ·have:=ih (by lia) (by lia)
     by_cases e3:f m=m
     ·rw[if_pos e3,if_pos (h m (by lia) e3)];lia
     ·rw[if_neg e3];split<;>lia
 exact lt n (Nat.le_refl _) hk
theorem jm{n:Nat}(B:Mx):∀(d:Nat) (f:Nat->Nat),off f n<=d->(∀ i,i<n->f i<n)->det n (fun r c=>B (f r) c)=det n (fun r c=>un (f r) c)*det n B
 | 0,f,h,hf=>by
   have e:=vQ (n:=n) (f:=f) (by lia)
   rw[aA (M':=B) fun r c hr _=>by rw[e r hr],aA (M:=fun r c=>un (f r) c) (M':=un) fun r c hr _=>by rw[e r hr],m7]
   lia
 | d+1,f,h,hf=>by
   by_cases e0:off f n=0
   ·exact jm B 0 f (by lia) hf |>.trans rfl
   by_cases inj:∃ i j,i<n/\j<n/\i≠j/\f i=f j
   ·obtain⟨i,j,hi,hj,hn,e⟩:=inj;rw[fO (M:=fun r c=>B (f r) c) hi hj hn fun c=>by rw[e],fO (M:=fun r c=>un (f r) c) hi hj hn fun c=>by rw[e]]
    lia
   ·have ex:∃ k,k<n/\f k≠k:=Classical.byContradiction fun z=>e0 (by
     have al:∀ i,i<n->f i=i:=fun i hi=>Classical.byContradiction fun y=>z ⟨i,hi,y⟩
     have go:∀ m,m<=n->off f m=0:=fun m=>by
      induction m with
      | zero=>exact fun _=>rfl
      | succ m ih=>exact fun hm=>by show off f m+_=0;rw[ih (by lia),if_pos (al m (by lia))]
     exact go n (Nat.le_refl _))
    obtain⟨k,hk,LC⟩:=ex;have hv:=hf k hk;have nf:f (f k)≠f k:=fun z=>inj ⟨f k,k,hv,hk,LC,z⟩
    let g:Nat->Nat:=fun i=>if i=f k then f k else if i=k then f (f k) else f i
    have gv:g (f k)=f k:=if_pos rfl;have dec:off g n<off f n:=FE hv nf gv fun i hi e=>by
     show(if i=f k then f k else if i=k then f (f k) else f i)=i
     by_cases h1:i=f k
     ·rw[if_pos h1,h1]
     ·rw[if_neg h1]
      by_cases h2:i=k
      ·rw[h2]at e;exact absurd e LC
      ·rw[if_neg h2,e]
    have hg:∀ i,i<n->g i<n:=fun i hi=>by
     show(if i=f k then f k else if i=k then f (f k) else f i)<n
     split
     ·exact hv
     ·split
      ·exact hf _ hv
      ·exact hf i hi
    have ih:=jm B d g (by lia) hg
    have QE:∀ X:Mx,det n (fun r c=>X (g r) c) = - det n (fun r c=>X (f r) c):=fun X=>by
     rw[<-Br (M:=fun r c=>X (f r) c) hk hv (Ne.symm LC)]
     refine aA fun r c _ _=>?_
     show X (if r=f k then f k else if r=k then f (f k) else f r) c=_
     unfold sw put
     by_cases h1:r=f k
     ·rw[if_pos h1,if_pos h1]
     ·rw[if_neg h1,if_neg h1]
      by_cases h2:r=k
      ·rw[if_pos h2,if_pos h2]
      ·rw[if_neg h2,if_neg h2]
    rw[QE B,QE un]at ih
    grind
theorem vR{n:Nat}(B:Mx):∀(k:Nat) (A:Mx) (f:Nat->Nat),k<=n->(∀ i,i<n->f i<n)->(∀ i,k<=i->i<n->A i=un (f i))->det n (mul n A B)=det n A*det n B
 | 0,A,f,_,hf,hA=>by
   have e:=jm B (off f n) f (Nat.le_refl _) hf;rw[aA (M:=A) (M':=fun r c=>un (f r) c) fun r c hr _=>by rw[hA r (by lia) hr],<-e]
   refine aA fun r c hr _=>?_
   show su n (fun l=>A r l*B l c)=B (f r) c
   rw[hA r (by lia) hr]
   exact Bu (hf r hr) fun l=>B l c
 | k+1,A,f,hk,hf,hA=>by
   have e1:det n A=su n fun l=>A k l*det n (put A k (un l)):=by
    rw[<-uJ (n:=n) (M:=A) (r:=k) (by lia) (A k) un n]
    refine aA fun r c _ hc=>?_
    by_cases h:r=k
    ·subst h;rw[aC,qF hc]
    ·rw[aF _ _ _ h]
   have e2:det n (mul n A B)=su n fun l=>A k l*det n (put (mul n A B) k (B l)):=by
    rw[<-uJ (n:=n) (M:=mul n A B) (r:=k) (by lia) (A k) B n]
    refine aA fun r c _ hc=>?_
    by_cases h:r=k
    ·subst h;rw[aC];rfl
    ·rw[aF _ _ _ h]
   have e3:su n (fun l=>A k l*det n (put (mul n A B) k (B l)))=su n (fun l=>det n B*(A k l*det n (put A k (un l)))+0*0):=bf fun l hl=>by
    have hkn:k<=n:=by lia
    have ih:=vR B k (put A k (un l)) (fun i=>if i=k then l else f i) hkn (fun i hi=>by show(if i=k then l else f i)<n;split;exact hl;exact hf i hi) (fun i h1 h2=>by
     funext c
     by_cases h:i=k
     ·subst h;rw[aC,if_pos rfl]
     ·rw[aF _ _ _ h,if_neg h,hA i (Nat.lt_of_le_of_ne h1 (Ne.symm h)) h2])
    have e4:det n (put (mul n A B) k (B l))=det n (mul n (put A k (un l)) B):=aA fun r c _ _=>by
     by_cases h:r=k
     ·subst h;rw[aC];show _=su n fun x=>put A r (un l) r x*B x c
      rw[show(fun x=>put A r (un l) r x*B x c)=fun x=>un l x*B x c from by funext x;rw[aC]]
      exact(Bu hl fun x=>B x c).symm
     ·rw[aF _ _ _ h];show su n (fun x=>A r x*B x c)=su n fun x=>put A k (un l) r x*B x c
      exact bf fun x _=>by rw[aF _ _ _ h]
    rw[e4,ih]
    grind
   rw[e2,e3,iV (det n B) 0 _ (fun _=>0),e1]
   grind
theorem yK(n:Nat)(A B:Mx):det n (mul n A B)=det n A*det n B:=vR B n A id (Nat.le_refl _) (fun _ h=>h) (fun i h1 h2=>by lia)
theorem xM(a:Int)(f:Nat->Int)(n:Nat):su n (fun i=>a*f i)=a*su n f:=by
 have h:=iV a 0 f (fun _=>0) n
 rw[bf (g:=fun i=>a*f i+0*0) fun i _=>by lia,h]
 lia
theorem yL(f:Nat->Nat->Int)(n:Nat):∀ p,su p (fun v=>su n fun j=>f j v)=su n fun j=>su p fun v=>f j v
 | 0=>(jK fun _ _=>rfl).symm
 | p+1=>by
   show su p (fun v=>su n fun j=>f j v)+su n (fun j=>f j p)=su n fun j=>su p (fun v=>f j v)+f j p
   rw[yL f n p];have h:=iV 1 1 (fun j=>su p fun v=>f j v) (fun j=>f j p) n
   have e:su n (fun j=>su p (fun v=>f j v)+f j p)=su n (fun i=>1*su p (fun v=>f i v)+1*f i p):=bf fun i _=>by lia
   rw[e,h]
   lia
theorem yM{f:Nat->Int}:∀{m k:Nat},k<=m->(∀ i,k<=i->i<m->f i=0)->su m f=su k f
 | 0,k,h,_=>by rw[show k=0 by lia]
 | m+1,k,h,hz=>by
   by_cases e:k=m+1
   ·rw[e]
   ·show su m f+f m=su k f;rw[yM (m:=m) (k:=k) (by lia) fun i h1 h2=>hz i h1 (by lia),hz m (by lia) (by lia)]
    lia
end Dt
namespace RM
open Dt
variable {N:Net}
theorem vS{i:Nat}(hi:i<N.br.length):N.br.getD i 0<N.n/\N.lj (N.br.getD i 0)=false:=by
 rw[List.getD_eq_getElem?_getD,List.getElem?_eq_getElem hi];exact jF.mp (List.getElem_mem hi)
theorem zU:HP (N.br.map N.ring):=fun z hz e=>by
 rw[List.length_map]at hz;refine Nat.eq_of_testBit_eq fun j=>?_
 rw[Nat.zero_testBit]
 by_cases hj:j<N.br.length
 ·have e1:=sU (N.br.map N.ring) (k:=N.br.getD j 0) (z:=z) (f:=fun i=>decide (i=j)) fun i r hi=>by
   rw[List.getElem?_map]at hi;obtain⟨c,hc,rfl⟩:=Gz.mp hi;have QF:=(Cq.mp hc).1;have ec:c=N.br.getD i 0:=by rw[List.getD_eq_getElem?_getD,hc];rfl
   rw[ec,xD (vS QF).2 (vS hj).2];refine decide_eq_decide.mpr ⟨fun y=>?_,fun y=>by rw[y]⟩
   rw[List.getD_eq_getElem?_getD,List.getD_eq_getElem?_getD,List.getElem?_eq_getElem QF,List.getElem?_eq_getElem hj]at y;exact(List.getElem_inj zS).mp y
  rw[e,Nat.zero_testBit,List.length_map,mY (a:=j) hj fun k _ hk=>by rw[j9 hk,Bool.and_false],gC rfl,Bool.and_true]at e1
  exact e1.symm
 ·exact Nat.testBit_lt_two_pow (Nat.lt_of_lt_of_le hz (Nat.pow_le_pow_right (by decide) (by lia)))
theorem wY.sX{N' : Net}{f g:Nat->Nat}(h:wY N N' f g):N.br.length<=N'.br.length:=by
 have:=FA (N:=N') (h.ind (fun b hb=>by
  obtain⟨c,hc,rfl⟩:=List.mem_map.mp hb;exact C5 (jF.mp hc).1) zU) fun b hb=>by
   obtain⟨r,hr,rfl⟩:=List.mem_map.mp hb;obtain⟨c,hc,rfl⟩:=List.mem_map.mp hr;exact⟨h.LB (zL (jF.mp hc).1),by rw[h.n];exact Dg _ _ _⟩
 rw[List.length_map,List.length_map]at this;exact this
theorem wY.br{N' : Net}{f g:Nat->Nat}(h:wY N N' f g):N'.br.length=N.br.length:=Nat.le_antisymm h.symm.sX h.sX
end RM
namespace Dt
theorem Bw(f:Nat->Int)(m:Nat):∀ k,su (m+k) f=su m f+su k (fun t=>f (m+t))
 | 0=>by show su m f=su m f+0;lia
 | k+1=>by
   show su (m+k) f+f (m+k)=su m f+(su k (fun t=>f (m+t))+f (m+k))
   rw[Bw f m k]
   lia
theorem vU(f:Nat->Int)(n:Nat):su (n+1) f=f 0+su n (fun i=>f (i+1)):=by
 have h:=Bw f 1 n;rw[Nat.add_comm 1 n]at h;rw[h];show 0+f 0+su n (fun t=>f (1+t))=_
 rw[bf (g:=fun i=>f (i+1)) fun i _=>by rw[Nat.add_comm]]
 lia
theorem yN(i r:Nat):sk (i+1) (r+1)=sk i r+1:=by
 unfold sk
 by_cases h:r<i
 ·rw[if_pos h,if_pos (by lia)]
 ·rw[if_neg h,if_neg (by lia)]
theorem sY:∀{m k:Nat} {M:Mx},(∀ r c,m<=r->r<m+k->c<m->M r c=0)->det (m+k) M=det m M*det k (fun r c=>M (m+r) (m+c))
 | 0,k,M,_=>by
   show det (0+k) M=1*_;rw[Nat.zero_add,Int.one_mul];exact aA fun r c _ _=>by rw[Nat.zero_add,Nat.zero_add]
 | m+1,k,M,h=>by
   rw[show m+1+k=(m+k)+1 by lia]
   show su (m+k+1) (fun i=>sg i*M i 0*det (m+k) (mn M i))=su (m+1) (fun i=>sg i*M i 0*det m (mn M i))*_
   rw[yM (k:=m+1) (by lia) fun i h1 h2=>by rw[h i 0 h1 (by lia) (by lia),Int.mul_zero,Int.zero_mul],Int.mul_comm,<-xM]
   refine bf fun i hi=>?_
   rw[sY (m:=m) (k:=k) (M:=mn M i) fun r c h1 h2 h3=>by
    show M (sk i r) (c+1)=0;unfold sk;rw[if_neg (by lia)]
    exact h _ _ (by lia) (by lia) (by lia)]
   have e:det k (fun r c=>mn M i (m+r) (m+c))=det k (fun r c=>M (m+1+r) (m+1+c)):=aA fun r c _ _=>by
    show M (sk i (m+r)) (m+c+1)=_;unfold sk;rw[if_neg (by lia),show m+r+1=m+1+r by lia,show m+c+1=m+1+c by lia]
   rw[e]
   grind
def mr(M:Mx)(j:Nat):Mx:=fun r c=>M (r+1) (sk j c)
theorem yO:∀(n:Nat) (M:Mx),det (n+1) M=su (n+1) fun j=>sg j*M 0 j*det n (mr M j)
 | 0,M=>rfl
 | n+1,M=>by
   show su (n+2) (fun i=>sg i*M i 0*det (n+1) (mn M i))=_
   rw[vU,vU (fun j=>sg j*M 0 j*det (n+1) (mr M j))]
   have e0:det (n+1) (mn M 0)=det (n+1) (mr M 0):=aA fun r c _ _=>rfl
   rw[e0]
   congr 1
   have e1:su (n+1) (fun i=>sg (i+1)*M (i+1) 0*det (n+1) (mn M (i+1)))=su (n+1) fun i=>su (n+1) fun j=>- (sg i*sg j*M (i+1) 0*M 0 (j+1)*det n (fun r c=>M (sk i r+1) (sk j c+1))):=bf fun i _=>by
    rw[yO n (mn M (i+1)),<-xM];refine bf fun j _=>?_
    have e2:det n (mr (mn M (i+1)) j)=det n (fun r c=>M (sk i r+1) (sk j c+1)):=aA fun r c _ _=>by
     show M (sk (i+1) (r+1)) (sk j c+1)=_;rw[yN]
    have e3:mn M (i+1) 0 j=M 0 (j+1):=rfl;rw[e2,e3,uG]
    grind
   have e4:su (n+1) (fun j=>sg (j+1)*M 0 (j+1)*det (n+1) (mr M (j+1)))=su (n+1) fun j=>su (n+1) fun i=>- (sg i*sg j*M (i+1) 0*M 0 (j+1)*det n (fun r c=>M (sk i r+1) (sk j c+1))):=bf fun j _=>by
    show sg (j+1)*M 0 (j+1)*su (n+1) (fun i=>sg i*mr M (j+1) i 0*det n (mn (mr M (j+1)) i))=_
    rw[<-xM];refine bf fun i _=>?_
    have e2:det n (mn (mr M (j+1)) i)=det n (fun r c=>M (sk i r+1) (sk j c+1)):=aA fun r c _ _=>by
     show M (sk i r+1) (sk (j+1) (c+1))=_;rw[yN]
    have e3:mr M (j+1) i 0=M (i+1) 0:=rfl;rw[e2,e3,uG]
    grind
   rw[e1,e4];exact yL (fun j i=>- (sg i*sg j*M (i+1) 0*M 0 (j+1)*det n (fun r c=>M (sk i r+1) (sk j c+1)))) (n+1) (n+1)
def tr(M:Mx):Mx:=fun r c=>M c r
theorem uK:∀(n:Nat) (M:Mx),det n (tr M)=det n M
 | 0,_=>rfl
 | n+1,M=>by
   rw[yO n M];exact bf fun i _=>by
    show sg i*M 0 i*det n (tr (mr M i))=_;rw[uK n]
theorem Bx(i j:Nat):un i j=un j i:=by
 unfold un
 by_cases h:i=j
 ·rw[if_pos h,if_pos h.symm]
 ·rw[if_neg h,if_neg (Ne.symm h)]
theorem Di{n:Nat}(M:Mx){f:Nat->Nat}(hf:∀ i,i<n->f i<n)(inj:∀ i j,i<n->j<n->f i=f j->i=j):det n (fun r c=>M (f r) (f c))=det n M:=by
 have e1:=jm (n:=n) (fun r c=>M r (f c)) (off f n) f (Nat.le_refl _) hf
 have e2:=jm (n:=n) (tr M) (off f n) f (Nat.le_refl _) hf;have e3:det n (fun r c=>M r (f c))=det n (fun r c=>tr M (f r) c):=uK n (fun r c=>tr M (f r) c)
 have e4:det n (mul n (fun r c=>un (f r) c) (tr fun r c=>un (f r) c))=det n un:=aA fun r c hr hc=>by
  show su n (fun l=>un (f r) l*un (f c) l)=un r c
  rw[Bu (hf r hr) fun l=>un (f c) l]
  unfold un
  by_cases h:c=r
  ·rw[if_pos h,if_pos (by rw[h])]
  ·rw[if_neg h,if_neg fun z=>h (inj c r hc hr z.symm)]
 rw[yK,uK,m7]at e4;rw[e1,e3,e2,uK,<-Int.mul_assoc,e4,Int.one_mul]
theorem Dj{n r:Nat}{M:Mx}(hr:r<n)(a:Nat->Int)(ha:a r=1)(h:∀ c,c<n->su n (fun l=>a l*M l c)=0):det n M=0:=by
 have e:=uJ (n:=n) (M:=M) hr a M n;rw[qC (r:=r) hr fun l hl hn=>by
  rw[fO (M:=put M r (M l)) hr hl (Ne.symm hn) fun c=>by rw[aC,aF _ _ _ hn],Int.mul_zero],ha,Int.one_mul]at e
 have e2:det n (put M r (M r))=det n M:=aA fun i c _ _=>by
  by_cases hi:i=r
  ·subst hi;rw[aC]
  ·rw[aF _ _ _ hi]
 have e3:det n (put M r fun c=>su n fun l=>a l*M l c)=det n (put M r fun _=>0):=aA fun i c _ hc=>by
  by_cases hi:i=r
  ·subst hi;rw[aC,aC];exact h c hc
  ·rw[aF _ _ _ hi,aF _ _ _ hi]
 have e4:=eE (n:=n) (M:=put M r fun _=>0) (A:=M) (B:=M) (r:=r) 0 0 hr (fun i c hi=>aF _ _ _ hi) (fun i c hi=>aF _ _ _ hi) (fun c=>by rw[aC];lia)
 rw[<-e2,<-e,e3,e4]
 lia
theorem vV{n u:Nat}{M:Mx}(hu:u<n)(h:∀ c,c<n->M u c=un u c):det n (fun w c=>if c=u/\w≠u then 0 else M w c)=det n M:=by
 have key:∀ j,j<=n->det n (fun w c=>if w<j/\c=u/\w≠u then 0 else M w c)=det n M:=fun j=>by
  induction j with
  | zero=>exact fun _=>aA fun w c _ _=>if_neg (by lia)
  | succ j ih =>
    intro hj;rw[<-ih (by lia)]
    by_cases e:j=u
    ·subst e;refine aA fun w c _ _=>?_
     by_cases hw:w<j/\c=j/\w≠j
     ·rw[if_pos hw,if_pos (by lia)]
     ·rw[if_neg hw,if_neg (by lia)]
    ·have e1:=pT (n:=n) (M:=fun w c=>if w<j/\c=u/\w≠u then 0 else M w c) (r:=j) (s:=u) 1 (- M j u) (by lia) hu e
     rw[Int.one_mul]at e1;rw[<-e1];refine aA fun w c hw hc=>?_
     by_cases QG:w=j
     ·subst QG;rw[aC];rw[if_neg (show ¬(w<w/\c=u/\w≠u) by lia),if_neg (show ¬(u<w/\c=u/\u≠u) by lia),h c hc]
      unfold un
      by_cases hcu:c=u
      ·subst hcu;rw[if_pos (by lia),if_pos rfl]
       lia
      ·rw[if_neg (by lia),if_neg hcu]
       lia
     ·rw[aF _ _ _ QG]
      by_cases jY:w<j/\c=u/\w≠u
      ·rw[if_pos jY,if_pos (by lia)]
      ·rw[if_neg jY,if_neg (by lia)]
 rw[<-key n (Nat.le_refl _)];refine aA fun w c hw _=>?_
 by_cases hc:c=u/\w≠u
 ·rw[if_pos hc,if_pos ⟨hw,hc⟩]
 ·rw[if_neg hc,if_neg fun z=>hc z.2]
def dl(e:Nat×Nat)(w:Nat):Int:=un e.1 w-un e.2 w
def dg:List (Nat×Nat)->Mx
 | [],_,_=>0
 | e::l,w,c=>dl e w*dl e c+dg l w c
def mv(u v x:Nat):Nat:=if x=v then u else x
def bD(u v:Nat)(l:List (Nat×Nat)):List (Nat×Nat):=(l.map fun e=>(mv u v e.1,mv u v e.2)).filter fun e=>decide (e.1≠e.2)
theorem mz(u v:Nat)(e:Nat×Nat)(l:List (Nat×Nat)):bD u v (e::l)=if mv u v e.1=mv u v e.2 then bD u v l else(mv u v e.1,mv u v e.2)::bD u v l:=by
 unfold bD;rw[List.map_cons,List.filter_cons]
 by_cases h:mv u v e.1=mv u v e.2
 ·rw[if_pos h,if_neg (by rw[decide_eq_true_eq];exact fun z=>z h)]
 ·rw[if_neg h,if_pos (gC h)]
theorem sZ(u v:Nat)(l:List (Nat×Nat)):(bD u v l).length<=l.length:=by
 unfold bD;exact Nat.le_trans (List.length_filter_le _ _) (by rw[List.length_map];exact Nat.le_refl _)
theorem Eb{u v w:Nat}(hw:w≠v)(x:Nat):un (mv u v x) w=un x w+un u w*un x v:=by
 unfold mv un
 by_cases hx:x=v
 ·subst hx;rw[if_pos rfl,if_neg hw,if_pos rfl]
  lia
 ·rw[if_neg hx,if_neg (Ne.symm hx),Int.mul_zero]
  lia
theorem mC{u v w c:Nat}(hw:w≠v)(hc:c≠v):∀ l,dg (bD u v l) w c=dg l w c+un u c*dg l w v+un u w*dg l v c+un u w*un u c*dg l v v
 | []=>by
   show(0:Int)=0+un u c*0+un u w*0+un u w*un u c*0;rw[Int.mul_zero,Int.mul_zero,Int.mul_zero];rfl
 | e::l=>by
   have ih:=mC (u:=u) hw hc l;have d1:∀ x,x≠v->dl (mv u v e.1,mv u v e.2) x=dl e x+un u x*dl e v:=fun x hx=>by
    show un (mv u v e.1) x-un (mv u v e.2) x=(un e.1 x-un e.2 x)+un u x*(un e.1 v-un e.2 v);rw[Eb hx,Eb hx]
    grind
   have d2:dg (bD u v (e::l)) w c=dl (mv u v e.1,mv u v e.2) w*dl (mv u v e.1,mv u v e.2) c+dg (bD u v l) w c:=by
    rw[mz]
    by_cases h:mv u v e.1=mv u v e.2
    ·rw[if_pos h];have:dl (mv u v e.1,mv u v e.2) w=0:=by show un (mv u v e.1) w-un (mv u v e.2) w=0;rw[h];lia
     rw[this]
     lia
    ·rw[if_neg h];rfl
   rw[d2,d1 w hw,d1 c hc,ih];show _=(dl e w*dl e c+dg l w c)+un u c*(dl e w*dl e v+dg l w v)+un u w*(dl e v*dl e c+dg l v c)+un u w*un u c*(dl e v*dl e v+dg l v v)
   grind
def gM(L:Mx)(R:Nat->Bool):Mx:=fun w c=>if(R w || R c)=true then un w c else L w c
theorem cf{L:Mx}{R:Nat->Bool}{w c:Nat}(h:R w=true\/R c=true):gM L R w c=un w c:=if_pos (by rcases h with h | h<;>rw[h];exact Bool.true_or _;exact Bool.or_true _)
theorem dD{L:Mx}{R:Nat->Bool}{w c:Nat}(h1:R w=false)(h2:R c=false):gM L R w c=L w c:=if_neg (by rw[h1,h2];decide)
def Dd(p:Nat)(l:List (Nat×Nat))(R:Nat->Bool):Int:=det p (gM (dg l) R)
theorem cD{a b:Nat}(h:a≠b):un a b=0:=if_neg (Ne.symm h)
theorem qG(a:Nat):un a a=1:=if_pos rfl
theorem yP{n u:Nat}(hu:u<n)(M:Mx)(x y:Nat->Int):det n (put M u fun c=>x c+y c)=det n (put M u x)+det n (put M u y):=by
 have:=eE (n:=n) (M:=put M u fun c=>x c+y c) (A:=put M u x) (B:=put M u y) (r:=u) 1 1 hu (fun i c hi=>by rw[aF _ _ _ hi,aF _ _ _ hi]) (fun i c hi=>by rw[aF _ _ _ hi,aF _ _ _ hi]) (fun c=>by rw[aC,aC,aC];lia)
 rw[this]
 lia
theorem By{n:Nat}(M:Mx)(u:Nat):det n (put M u (M u))=det n M:=aA fun i c _ _=>by
 by_cases hi:i=u
 ·subst hi;rw[aC]
 ·rw[aF _ _ _ hi]
theorem BA{p u v x y:Nat}{l:List (Nat×Nat)}{R R' : Nat->Bool}(hx:(x=u/\y=v)\/(x=v/\y=u))(hne:u≠v)(QH:x<p)(h1:R x=false)(h2:R y=true)(hR:∀ w,R' w=(R w || decide (w=x))):Dd p ((u,v)::l) R=Dd p l R+Dd p (bD u v l) R':=by
 have hxy:x≠y:=by rcases hx with⟨rfl,rfl⟩ | ⟨rfl,rfl⟩;exact hne;exact Ne.symm hne
 have hd:∀ w c,w≠y->c≠y->dl (u,v) w*dl (u,v) c=un x w*un x c:=fun w c hw hc=>by
  show(un u w-un v w)*(un u c-un v c)=_;rcases hx with⟨rfl,rfl⟩|⟨rfl,rfl⟩
  ·rw[cD (Ne.symm hw),cD (Ne.symm hc)]
   grind
  ·rw[cD (Ne.symm hw),cD (Ne.symm hc)]
   grind
 have e1:Dd p ((u,v)::l) R=det p (put (gM (dg l) R) x fun c=>gM (dg l) R x c+un x c):=aA fun w c _ _=>by
  by_cases hw:w=x
  ·subst hw;rw[aC];cases hc:R c with
   | true =>
     rw[cf (.inr hc),cf (.inr hc),cD (fun z=>by rw[z,hc]at h1;cases h1)]
     rfl
   | false =>
     rw[dD h1 hc,dD h1 hc];show dl (u,v) w*dl (u,v) c+dg l w c=_;rw[hd w c hxy (fun z=>by rw[z,h2]at hc;cases hc),qG,Int.one_mul]
     lia
  ·rw[aF _ _ _ hw];cases jY:R w with
   | true=>rw[cf (.inl jY),cf (.inl jY)]
   | false =>
     cases hc:R c with
     | true=>rw[cf (.inr hc),cf (.inr hc)]
     | false =>
       rw[dD jY hc,dD jY hc];show dl (u,v) w*dl (u,v) c+dg l w c=_;rw[hd w c (fun z=>by rw[z,h2]at jY;cases jY) (fun z=>by rw[z,h2]at hc;cases hc),cD (Ne.symm hw),Int.zero_mul]
       lia
 rw[e1,yP QH,By]
 congr 1
 rw[<-vV QH (M:=put (gM (dg l) R) x (un x)) fun c _=>aC _ _ _ _]
 refine aA fun w c _ _=>?_
 by_cases hw:w=x
 ·subst hw;rw[if_neg (by lia),aC,cf (.inl (by rw[hR,gC rfl,Bool.or_true]))]
 ·rw[aF _ _ _ hw]
  by_cases hc:c=x
  ·subst hc;rw[if_pos ⟨rfl,hw⟩,cf (.inr (by rw[hR,gC rfl,Bool.or_true])),cD hw]
  ·rw[if_neg (by lia)]
   have eR:∀ z,z≠x->R' z=R z:=fun z hz=>by rw[hR,j9 hz,Bool.or_false]
   cases jY:R w with
   | true=>rw[cf (.inl jY),cf (.inl (by rw[eR w hw];exact jY))]
   | false =>
     cases hc2:R c with
     | true=>rw[cf (.inr hc2),cf (.inr (by rw[eR c hc];exact hc2))]
     | false =>
       rw[dD jY hc2,dD (by rw[eR w hw];exact jY) (by rw[eR c hc];exact hc2)]
       have VD:w≠y:=fun z=>by rw[z,h2]at jY;cases jY
       have VE:c≠y:=fun z=>by rw[z,h2]at hc2;cases hc2
       have f:w≠v/\c≠v/\w≠u/\c≠u:=by rcases hx with⟨rfl,rfl⟩ | ⟨rfl,rfl⟩<;>exact⟨by assumption,by assumption,by assumption,by assumption⟩
       rw[mC f.1 f.2.1,cD (Ne.symm f.2.2.1),cD (Ne.symm f.2.2.2)]
       lia
theorem FF{p u v:Nat}{l:List (Nat×Nat)}{R R' : Nat->Bool}(hne:u≠v)(hu:u<p)(hv:v<p)(h1:R u=false)(h2:R v=false)(hR:∀ w,R' w=(R w || decide (w=v))):Dd p ((u,v)::l) R=Dd p l R+Dd p (bD u v l) R':=by
 have big:∀ w c,gM (dg ((u,v)::l)) R w c=gM (dg l) R w c+dl (u,v) w*dl (u,v) c:=fun w c=>by
  have z:∀ x,R x=true->dl (u,v) x=0:=fun x hx=>by
   show un u x-un v x=0;rw[cD (fun z=>by rw[z,hx]at h1;cases h1),cD (fun z=>by rw[z,hx]at h2;cases h2)]
   rfl
  cases hw:R w with
  | true=>rw[cf (.inl hw),cf (.inl hw),z w hw];lia
  | false =>
    cases hc:R c with
    | true=>rw[cf (.inr hc),cf (.inr hc),z c hc];lia
    | false =>
      rw[dD hw hc,dD hw hc];show dl (u,v) w*dl (u,v) c+dg l w c=_
      lia
 have du:dl (u,v) u=1:=by show un u u-un v u=1;rw[qG,cD (Ne.symm hne)];rfl
 have dv:dl (u,v) v = -1:=by show un u v-un v v = -1;rw[qG,cD hne];rfl
 have dz:∀ w,w≠u->w≠v->dl (u,v) w=0:=fun w a b=>by show un u w-un v w=0;rw[cD (Ne.symm a),cD (Ne.symm b)];rfl
 generalize hA:gM (dg l) R=A at big;have hM:Dd p ((u,v)::l) R=det p (gM (dg ((u,v)::l)) R):=rfl;generalize gM (dg ((u,v)::l)) R=M at big hM;rw[hM];have e1:=pT (n:=p) (M:=M) (r:=u) (s:=v) 1 1 hu hv hne;rw[Int.one_mul]at e1;rw[<-e1];have e2:det p (put M u fun c=>1*M u c+1*M v c)=det p (put (put A u fun c=>A u c+A v c) v fun c=>A v c+(un v c-un u c)):=aA fun w c _ _=>by
  by_cases hw:w=u
  ·subst hw;rw[aC,aF _ _ _ hne,aC,big,big,du,dv]
   lia
  ·rw[aF _ _ _ hw]
   by_cases jY:w=v
   ·subst jY;rw[aC,big,dv];show _ + -1*(un u c-un w c)=_
    lia
   ·rw[aF _ _ _ jY,aF _ _ _ hw,big,dz w hw jY]
    lia
 rw[e2,yP hv];have e3:det p (put (put A u fun c=>A u c+A v c) v (A v))=det p A:=by
  have e4:=pT (n:=p) (M:=A) (r:=u) (s:=v) 1 1 hu hv hne;rw[Int.one_mul]at e4;rw[<-e4];refine aA fun w c _ _=>?_
  by_cases jY:w=v
  ·subst jY;rw[aC,aF _ _ _ (Ne.symm hne)]
  ·rw[aF _ _ _ jY]
   by_cases hw:w=u
   ·subst hw;rw[aC,aC]
    lia
   ·rw[aF _ _ _ hw,aF _ _ _ hw]
 have e5:det p (put (put A u fun c=>A u c+A v c) v (fun c=>A v c))=det p A:=e3
 rw[e5];have e6:Dd p l R=det p A:=by show det p (gM (dg l) R)=_;rw[hA]
 rw[e6]
 congr 1
 generalize hB:put (put A u fun c=>A u c+A v c) v (fun c=>un v c-un u c)=B
 have e7:=yK p B (put un v fun c=>1*un v c+1*un u c)
 rw[pT (n:=p) (M:=un) (r:=v) (s:=u) 1 1 hv hu (Ne.symm hne),m7,Int.one_mul,Int.mul_one]at e7;have e8:∀ r c,c<p->mul p B (put un v fun c=>1*un v c+1*un u c) r c=B r c+B r v*un u c:=fun r c hc=>by
  show su p (fun l=>B r l*put un v (fun c=>1*un v c+1*un u c) l c)=_
  have e9:su p (fun l=>B r l*put un v (fun c=>1*un v c+1*un u c) l c)=su p (fun l=>1*(B r l*un l c)+un u c*(B r l*un l v)):=bf fun l _=>by
   by_cases hl:l=v
   ·subst hl;rw[aC,qG]
    grind
   ·rw[aF _ _ _ hl,cD hl]
    grind
  rw[e9,iV,qF hc fun l=>B r l,qF hv fun l=>B r l]
  grind
 rw[<-e7];have Dk:∀ c,B v c=un v c-un u c:=fun c=>by rw[<-hB,aC]
 rw[<-vV hv (M:=mul p B (put un v fun c=>1*un v c+1*un u c)) fun c hc=>by
  rw[e8 v c hc,Dk,Dk,qG,cD hne]
  lia]
 refine aA fun w c _ hc=>?_
 have eR:∀ z,z≠v->R' z=R z:=fun z hz=>by rw[hR,j9 hz,Bool.or_false]
 have Rv:R' v=true:=by rw[hR,gC rfl,Bool.or_true]
 by_cases hw:w=v
 ·subst hw;rw[if_neg (by lia),e8 _ _ hc,Dk,Dk,qG,cD hne,cf (.inl Rv)]
  lia
 ·by_cases HQ:c=v
  ·subst HQ;rw[if_pos ⟨rfl,hw⟩,cf (.inr Rv),cD hw]
  ·rw[if_neg (by lia),e8 _ _ hc]
   have FG:∀ x,B u x=A u x+A v x:=fun x=>by rw[<-hB,aF _ _ _ hne,aC]
   have BB:∀ x,w≠u->B w x=A w x:=fun x h=>by rw[<-hB,aF _ _ _ hw,aF _ _ _ h]
   cases jY:R w with
   | true =>
     have yQ:w≠u:=fun z=>by rw[z,h1]at jY;cases jY
     rw[BB c yQ,BB v yQ,<-hA,cf (.inl jY),cf (.inl jY),cD hw,cf (.inl (by rw[eR w hw];exact jY))]
     lia
   | false =>
     cases hc2:R c with
     | true =>
       have hcu:c≠u:=fun z=>by rw[z,h1]at hc2;cases hc2
       have LD:w≠c:=fun z=>by rw[z,hc2]at jY;cases jY
       rw[cf (.inr (by rw[eR c HQ];exact hc2)),cD (Ne.symm hcu),Int.mul_zero,cD LD]
       by_cases yQ:w=u
       ·subst yQ;rw[FG,<-hA,cf (.inr hc2),cf (.inr hc2),cD LD,cD (Ne.symm HQ)];rfl
       ·rw[BB c yQ,<-hA,cf (.inr hc2),cD LD];rfl
     | false =>
       rw[dD (by rw[eR w hw];exact jY) (by rw[eR c HQ];exact hc2),mC hw HQ]
       by_cases yQ:w=u
       ·subst yQ;rw[FG,FG,<-hA,dD jY hc2,dD h2 hc2,dD jY h2,dD h2 h2,qG]
        grind
       ·rw[BB c yQ,BB v yQ,<-hA,dD jY hc2,dD jY h2,cD (Ne.symm yQ)]
        grind
inductive Cn(l:List (Nat×Nat))(x:Nat):Nat->Prop
 | refl:Cn l x x
 | step {y z:Nat} (h:Cn l x y) (e:(y,z)∈l\/(z,y)∈l):Cn l x z
section
variable {l l' : List (Nat×Nat)}{x y z u v:Nat}
theorem Cn.trans(h:Cn l x y)(h' : Cn l y z):Cn l x z:=by
 induction h' with
 | refl=>exact h
 | step _ e ih=>exact .step ih e
theorem Cn.symm(h:Cn l x y):Cn l y x:=by
 induction h with
 | refl=>exact .refl
 | step _ e ih=>exact Cn.trans (.step .refl e.symm) ih
theorem Cn.mono(h:Cn l x y)(hs:∀ e∈l,e∈l'):Cn l' x y:=by
 induction h with
 | refl=>exact .refl
 | step _ e ih=>exact .step ih (e.imp (hs _) (hs _))
theorem Cn.wZ{e:Nat×Nat}(h:e∈l):Cn l e.1 e.2:=.step .refl (.inl h)
theorem Cn.more{e:Nat×Nat}(h:Cn l x y):Cn (e::l) x y:=h.mono fun _ z=>sA _ z
theorem BC(h:Cn [] x y):x=y:=by
 induction h with
 | refl=>rfl
 | step _ e _=>rcases e with e | e<;>cases e
theorem yR(hne:u≠v)(x:Nat):mv u v x≠v:=by
 unfold mv
 split
 ·exact hne
 ·next h=>exact h
theorem vW(h:x≠v):mv u v x=x:=if_neg h
theorem jn{e:Nat×Nat}:e∈bD u v l↔∃ d∈l,e=(mv u v d.1,mv u v d.2)/\e.1≠e.2:=by
 unfold bD;rw[List.mem_filter,List.mem_map,decide_eq_true_eq]
 constructor
 ·rintro⟨⟨d,hd,rfl⟩,h⟩;exact⟨d,hd,rfl,h⟩
 ·rintro⟨d,hd,rfl,h⟩;exact⟨⟨d,hd,rfl⟩,h⟩
theorem BD(hne:u≠v)(h:Cn ((u,v)::l) x y):Cn (bD u v l) (mv u v x) (mv u v y):=by
 induction h with
 | refl=>exact .refl
 | @step y z _ e ih =>
   have two:∀ a b,(a,b)∈(u,v)::l->Cn (bD u v l) (mv u v a) (mv u v b):=fun a b h=>by
    rcases List.mem_cons.mp h with h|h
    ·cases h;rw[vW hne,show mv u v v=u from if_pos rfl]
     exact .refl
    ·by_cases hq:mv u v a=mv u v b
     ·rw[hq];exact .refl
     ·exact .step .refl (.inl (jn.mpr ⟨(a,b),h,rfl,hq⟩))
   rcases e with e|e
   ·exact ih.trans (two _ _ e)
   ·exact ih.trans (two _ _ e).symm
theorem tu(x:Nat):Cn ((u,v)::l) (mv u v x) x:=by
 unfold mv
 split
 ·next h=>subst h;exact .step .refl (.inl List.mem_cons_self)
 ·exact .refl
theorem BE(h:Cn (bD u v l) x y):Cn ((u,v)::l) x y:=by
 induction h with
 | refl=>exact .refl
 | @step y z _ e ih =>
   have two:∀ a b,(a,b)∈bD u v l->Cn ((u,v)::l) a b:=fun a b h=>by
    obtain⟨d,hd,e,_⟩:=jn.mp h;cases e;exact(tu d.1).trans ((Cn.wZ (sA _ hd)).trans (tu d.2).symm)
   rcases e with e|e
   ·exact ih.trans (two _ _ e)
   ·exact ih.trans (two _ _ e).symm
theorem yS(hne:u≠v)(h:Cn (bD u v l) v y):y=v:=by
 induction h with
 | refl=>rfl
 | @step y z _ e ih =>
   subst ih;rcases e with e|e
   ·obtain⟨d,_,e,_⟩:=jn.mp e;exact absurd (congrArg Prod.fst e).symm (yR hne _)
   ·obtain⟨d,_,e,_⟩:=jn.mp e;exact absurd (congrArg Prod.snd e).symm (yR hne _)
theorem qH(h:Cn ((u,v)::l) x y):Cn l x y\/(Cn l x u/\Cn l v y)\/(Cn l x v/\Cn l u y):=by
 induction h with
 | refl=>exact .inl .refl
 | @step y z _ e ih =>
   have two:(y,z)=(u,v)\/(z,y)=(u,v)\/Cn l y z:=by
    rcases e with e|e<;>rcases List.mem_cons.mp e with e|e
    ·exact .inl e
    ·exact .inr (.inr (Cn.wZ e))
    ·exact .inr (.inl e)
    ·exact .inr (.inr (Cn.wZ e).symm)
   rcases two with e|e|e
   ·cases e;rcases ih with h|⟨h,_⟩|⟨h,_⟩
    ·exact .inr (.inl ⟨h,.refl⟩)
    ·exact .inr (.inl ⟨h,.refl⟩)
    ·exact .inl h
   ·cases e;rcases ih with h|⟨h,_⟩|⟨h,_⟩
    ·exact .inr (.inr ⟨h,.refl⟩)
    ·exact .inl h
    ·exact .inr (.inr ⟨h,.refl⟩)
   ·rcases ih with h|⟨h,g⟩|⟨h,g⟩
    ·exact .inl (h.trans e)
    ·exact .inr (.inl ⟨h,g.trans e⟩)
    ·exact .inr (.inr ⟨h,g.trans e⟩)
end
def Gd(p:Nat)(l:List (Nat×Nat)):Prop:=∀ e∈l,e.1<p/\e.2<p/\e.1≠e.2
theorem Gd.tail{p:Nat}{e:Nat×Nat}{l:List (Nat×Nat)}(h:Gd p (e::l)):Gd p l:=fun d hd=>h d (sA _ hd)
theorem Gd.bD{p u v:Nat}{l:List (Nat×Nat)}(h:Gd p l)(hu:u<p):Gd p (bD u v l):=fun e he=>by
 obtain⟨d,hd,rfl,hn⟩:=jn.mp he;obtain⟨h1,h2,_⟩:=h d hd;refine⟨?_,?_,hn⟩
 ·show mv u v d.1<p;unfold mv
  split<;>assumption
 ·show mv u v d.2<p;unfold mv
  split<;>assumption
structure Tr(p:Nat)(l:List (Nat×Nat))(R:Nat->Bool):Prop where
 ex:∀ x,x<p->∃ r,r<p/\R r=true/\Cn l x r
 one:∀ r r',r<p->r'<p->R r=true->R r' = true->Cn l r r'->r=r'
theorem Tr.bD{p u v:Nat}{l:List (Nat×Nat)}{R R' : Nat->Bool}(hne:u≠v)(hu:u<p)(hv:v<p)(h:Tr p ((u,v)::l) R)(h1:R' v=true)(h2:R' u=(R u || R v))(h3:∀ w,w≠u->w≠v->R' w=R w):Tr p (bD u v l) R':=by
 refine⟨fun x hx=>?_,fun r r' hr hr' e e' c=>?_⟩
 ·by_cases hxv:x=v
  ·subst hxv;exact⟨x,hx,h1,.refl⟩
  ·obtain⟨r,hr,e,c⟩:=h.ex x hx;have c:=BD hne c;rw[vW hxv]at c;refine⟨mv u v r,?_,?_,c⟩
   ·unfold mv
    split<;>assumption
   ·unfold mv
    split
    ·next z=>subst z;rw[h2,e,Bool.or_true]
    ·next z =>
     by_cases QI:r=u
     ·subst QI;rw[h2,e,Bool.true_or]
     ·rw[h3 r QI z];exact e
 ·by_cases QJ:r=v
  ·subst QJ;exact(yS hne c).symm
  by_cases HR:r' = v
  ·subst HR;exact yS hne c.symm
  have back:∀ w,w<p->w≠v->R' w=true->∃ o,o<p/\R o=true/\Cn ((u,v)::l) w o/\(w≠u->o=w)/\(w=u->o=u\/o=v):=fun w hw SM ew=>by
   by_cases yQ:w=u
   ·subst yQ;rw[h2,Bool.or_eq_true]at ew;rcases ew with ew|ew
    ·exact⟨w,hw,ew,.refl,fun z=>absurd rfl z,fun _=>.inl rfl⟩
    ·exact⟨v,hv,ew,Cn.wZ (e:=(w,v)) List.mem_cons_self,fun z=>absurd rfl z,fun _=>.inr rfl⟩
   ·exact⟨w,hw,by rw[<-h3 w yQ SM];exact ew,.refl,fun _=>rfl,fun z=>absurd z yQ⟩
  obtain⟨o,ho,eo,co,o1,o2⟩:=back r hr QJ e;obtain⟨o',ho',SN,SO,QK,SQ⟩:=back r' hr' HR e';have q:=h.one o o' ho ho' eo SN (co.symm.trans ((BE c).trans SO))
  by_cases a:r=u<;>by_cases b:r' = u
  ·rw[a,b]
  ·have:=QK b;rcases o2 a with z|z
   ·lia
   ·lia
  ·have:=o1 a;rcases SQ b with z|z
   ·lia
   ·lia
  ·rw[<-o1 a,<-QK b,q]
open Classical in
noncomputable def tk:Nat->List (Nat×Nat)->Nat
 | 0,_=>1
 | _+1,[]=>1
 | n+1,e::l=>tk n (bD e.1 e.2 l)+(if Cn l e.1 e.2 then tk n l else 0)
theorem tw{p c:Nat}{f:Nat->Int}:∀{l:List (Nat×Nat)},(∀ e∈l,e.1<p/\e.2<p/\f e.1=f e.2)->su p (fun w=>f w*dg l w c)=0
 | [],_=>jK fun _ _=>Int.mul_zero _
 | e::l,h=>by
   obtain⟨h1,h2,h3⟩:=h e List.mem_cons_self;have ih:=tw (p:=p) (c:=c) (f:=f) (l:=l) fun d hd=>h d (sA _ hd)
   have e1:su p (fun w=>f w*dg (e::l) w c)=su p (fun w=>dl e c*(f w*dl e w)+1*(f w*dg l w c)):=bf fun w _=>by
    show f w*(dl e w*dl e c+dg l w c)=_
    grind
   have e2:su p (fun w=>f w*dl e w)=0:=by
    have e3:su p (fun w=>f w*dl e w)=su p (fun w=>1*(f w*un w e.1)+(-1)*(f w*un w e.2)):=bf fun w _=>by
     show f w*(un e.1 w-un e.2 w)=_;rw[Bx e.1,Bx e.2]
     grind
    rw[e3,iV,qF h1 f,qF h2 f,h3]
    lia
   rw[e1,iV,ih,e2]
   lia
open Classical in
theorem Dl{p s:Nat}{l:List (Nat×Nat)}{R:Nat->Bool}(g:Gd p l)(hs:s<p)(h:∀ r,r<p->R r=true->¬ Cn l s r):Dd p l R=0:=by
 refine Dj hs (fun w=>if Cn l s w then 1 else 0) (if_pos .refl) fun c hc=>?_
 have hw:∀ w,w<p->Cn l s w->R w=false:=fun w hw hc=>by
  cases e:R w with
  | false=>rfl
  | true=>exact absurd hc (h w hw e)
 cases hR:R c with
 | true =>
   refine jK fun w hwp=>?_
   by_cases hq:Cn l s w
   ·rw[cf (.inr hR),cD (fun z=>by rw[<-z,hw w hwp hq]at hR;cases hR),Int.mul_zero]
   ·(try dsimp only)
    rw[if_neg hq,Int.zero_mul]
 | false =>
   refine Eq.trans ?_ (tw (p:=p) (c:=c) (f:=fun w=>if Cn l s w then 1 else 0) (l:=l) fun e he=>?_)
   ·refine bf fun w hwp=>?_
    by_cases hq:Cn l s w
    ·rw[dD (hw w hwp hq) hR]
    ·(try dsimp only)
     rw[if_neg hq,Int.zero_mul,Int.zero_mul]
   ·obtain⟨h1,h2,_⟩:=g e he;refine⟨h1,h2,?_⟩
    by_cases hq:Cn l s e.1
    ·rw[if_pos hq,if_pos (hq.trans (Cn.wZ he))]
    ·rw[if_neg hq,if_neg fun z=>hq (z.trans (Cn.wZ he).symm)]
open Classical in
theorem HS{p:Nat}:∀(n:Nat) (l:List (Nat×Nat)),l.length<=n->Gd p l->∀ R,Tr p l R->Dd p l R=(tk n l:Int):=by
 have nil:∀ R,Tr p [] R->Dd p [] R=1:=fun R t=>by
  rw[<-m7 p];refine aA fun w c hw hc=>cf (.inl ?_)
  obtain⟨r,_,e,c⟩:=t.ex w hw;rw[BC c];exact e
 intro n
 induction n with
 | zero =>
   intro l hl g R t;have:l=[]:=List.length_eq_zero_iff.mp (by lia)
   subst this;exact nil R t
 | succ n ih =>
   intro l hl g R t
   match l,hl,g,t with
   | [],_,_,t=>exact nil R t
   | (u,v)::l,hl,g,t =>
     have hl:l.length<=n:=by rw[List.length_cons]at hl;lia
     obtain⟨hu,hv,hne⟩:=g _ List.mem_cons_self;have hu:u<p:=hu;have hv:v<p:=hv;have hne:u≠v:=hne;have g1:=g.tail;have both:R u=true->R v=true->False:=fun a b=>hne (t.one u v hu hv a b (Cn.wZ (e:=(u,v)) List.mem_cons_self))
     have hC:∃ R' : Nat->Bool,Dd p ((u,v)::l) R=Dd p l R+Dd p (bD u v l) R'/\R' v=true/\R' u=(R u || R v)/\∀ w,w≠u->w≠v->R' w=R w:=by
      cases hv2:R v with
      | true =>
        have Gn:R u=false:=by
         cases e:R u with
         | false=>rfl
         | true=>exact(both e hv2).elim
        refine⟨fun w=>R w || decide (w=u),BA (.inl ⟨rfl,rfl⟩) hne hu Gn hv2 fun _=>rfl,?_,?_,fun w h1 _=>?_⟩
        ·show(R v || _)=true;rw[hv2,Bool.true_or]
        ·show(R u || decide (u=u))=_;rw[gC rfl,Bool.or_true]
        ·show(R w || decide (w=u))=_;rw[j9 h1,Bool.or_false]
      | false =>
        refine⟨fun w=>R w || decide (w=v),?_,?_,?_,fun w _ h1=>?_⟩
        ·cases Gn:R u with
         | true=>exact BA (.inr ⟨rfl,rfl⟩) hne hv hv2 Gn fun _=>rfl
         | false=>exact FF hne hu hv Gn hv2 fun _=>rfl
        ·show(R v || decide (v=v))=true;rw[gC rfl,Bool.or_true]
        ·show(R u || decide (u=v))=_;rw[j9 hne]
        ·show(R w || decide (w=v))=_;rw[j9 h1,Bool.or_false]
     obtain⟨R',e,r1,r2,r3⟩:=hC;rw[e,ih (bD u v l) (Nat.le_trans (sZ _ _ _) hl) (g1.bD hu) R' (t.bD hne hu hv r1 r2 r3)];rw[show tk (n+1) ((u,v)::l)=tk n (bD u v l)+(if Cn l u v then tk n l else 0) from rfl]
     by_cases hq:Cn l u v
     ·rw[if_pos hq,ih l hl g1 R ⟨fun x hx=>?_,fun r r' a b c d cn=>t.one r r' a b c d cn.more⟩]
      ·lia
      ·obtain⟨r,hr,er,c⟩:=t.ex x hx;refine⟨r,hr,er,?_⟩;rcases qH c with h|⟨h,h'⟩|⟨h,h'⟩
       ·exact h
       ·exact h.trans (hq.trans h')
       ·exact h.trans (hq.symm.trans h')
     ·rw[if_neg hq];obtain⟨r0,hr0,QL,c0⟩:=t.ex u hu;have hs:∃ s,s<p/\∀ r,r<p->R r=true->¬ Cn l s r:=by
       rcases qH c0 with h|⟨_,h⟩|⟨h,_⟩
       ·refine⟨v,hv,fun r hr er c=>hq ?_⟩
        have:=t.one r r0 hr hr0 er QL (c.symm.more.trans ((Cn.wZ (e:=(u,v)) List.mem_cons_self).symm.trans c0));subst this;exact h.trans c.symm
       ·refine⟨u,hu,fun r hr er c=>hq ?_⟩
        have:=t.one r r0 hr hr0 er QL (c.symm.more.trans c0);subst this;exact c.trans h.symm
       ·exact absurd h hq
      obtain⟨s,hs,hn⟩:=hs;rw[Dl g1 hs hn]
      lia
end Dt
namespace RM
open Dt
def ps(N:Net):List (Nat×Nat):=(List.range N.n).map fun k=>(N.a k,N.b k)
theorem mD{N:Net}{e:Nat×Nat}:e∈ps N↔∃ k,k<N.n/\e=(N.a k,N.b k):=by
 unfold ps;rw[List.mem_map];exact⟨fun⟨k,h,z⟩=>⟨k,List.mem_range.mp h,z.symm⟩,fun⟨k,h,z⟩=>⟨k,List.mem_range.mpr h,z.symm⟩⟩
theorem xN(N:Net):(ps N).length=N.n:=by unfold ps;rw[List.length_map,List.length_range]
theorem tD(N:Net):Gd N.p (ps N):=fun e he=>by
 obtain⟨k,hk,rfl⟩:=mD.mp he;exact⟨N.al k hk,N.bl k hk,N.ne k hk⟩
theorem Dm{N:Net}{x y:Nat}:N.j7 (fun _=>true) N.n x y↔Cn (ps N) x y:=by
 constructor
 ·intro h
  induction h with
  | refl=>exact .refl
  | fwd _ hj _ ih=>exact .step ih (.inl (mD.mpr ⟨_,hj,rfl⟩))
  | bwd _ hj _ ih=>exact .step ih (.inr (mD.mpr ⟨_,hj,rfl⟩))
 ·intro h
  induction h with
  | refl=>exact .refl
  | step _ e ih =>
    rcases e with e|e
    ·obtain⟨k,hk,z⟩:=mD.mp e;cases z;exact .fwd ih hk rfl
    ·obtain⟨k,hk,z⟩:=mD.mp e;cases z;exact .bwd ih hk rfl
theorem ku{N:Net}{x y:Nat}:N.dB N.n x=N.dB N.n y↔Cn (ps N) x y:=by
 rw[<-Dm];exact vB
open Classical in
theorem xO{N N1:Net}(hn:N.n=N1.n+1)(hp:N1.p=N.p)(ha:∀ k,k<N1.n->N1.a k=N.a (k+1))(hb:∀ k,k<N1.n->N1.b k=N.b (k+1)):N.br.length=N1.br.length+if Cn (ps N1) (N.a 0) (N.b 0) then 1 else 0:=by
 have N' : ∃ N' : Net,N'.n=N1.n+1/\N'.p=N1.p/\(∀ k,k<N1.n->N'.a k=N1.a k)/\(∀ k,k<N1.n->N'.b k=N1.b k)/\N'.a N1.n=N.a 0/\N'.b N1.n=N.b 0:=by
  refine⟨⟨N1.p,N1.n+1,fun k=>if k<N1.n then N1.a k else N.a 0,fun k=>if k<N1.n then N1.b k else N.b 0,fun k _=>?_,fun k _=>?_,fun k _=>?_⟩,rfl,rfl,fun k hk=>if_pos hk,fun k hk=>if_pos hk,if_neg (Nat.lt_irrefl _),if_neg (Nat.lt_irrefl _)⟩
  ·by_cases h:k<N1.n
   ·rw[if_pos h];exact N1.al k h
   ·rw[if_neg h,hp];exact N.al 0 (by lia)
  ·by_cases h:k<N1.n
   ·rw[if_pos h];exact N1.bl k h
   ·rw[if_neg h,hp];exact N.bl 0 (by lia)
  ·by_cases h:k<N1.n
   ·rw[if_pos h,if_pos h];exact N1.ne k h
   ·rw[if_neg h,if_neg h];exact N.ne 0 (by lia)
 obtain⟨N',n1,p1,a1,b1,a2,b2⟩:=N';have ext:Ext N1 N':=⟨n1,p1,a1,b1⟩;have iso:wY N N' (fun i=>if i<N1.n then i+1 else 0) (fun k=>if k=0 then N1.n else k-1):=by
  refine⟨by lia,by rw[p1,hp],fun i hi=>?_,fun i hi=>?_,fun i hi=>?_,fun i hi=>?_,fun i x hi=>?_⟩
  ·(try dsimp only);split<;>lia
  ·(try dsimp only);split<;>lia
  ·(try dsimp only)
   by_cases h:i=0
   ·rw[if_pos h,if_neg (by lia)];lia
   ·rw[if_neg h,if_pos (by lia)];lia
  ·(try dsimp only)
   by_cases h:i<N1.n
   ·rw[if_pos h,if_neg (by lia)];lia
   ·rw[if_neg h,if_pos rfl];lia
  ·unfold Net.inc
   (try dsimp only)
   by_cases h:i<N1.n
   ·rw[if_pos h,a1 i h,b1 i h,ha i h,hb i h]
   ·rw[if_neg h,show i=N1.n by lia,a2,b2]
 rw[<-iso.br,ext.br]
 congr 1
 unfold Net.lj;rw[ext.dB _ (Nat.le_refl _),a2,b2]
 by_cases h:Cn (ps N1) (N.a 0) (N.b 0)
 ·rw[if_pos h,gC (ku.mpr h)];rfl
 ·rw[if_neg h,j9 fun z=>h (ku.mp z)]
  rfl
end RM
namespace Dt
theorem oJ(P:Nat->Bool):∀ l:List Nat,(l.filter (fun x=>!P x)++l.filter P).Perm l
 | []=>List.Perm.refl _
 | x::l=>by
   have ih:=oJ P l;cases h:P x with
   | false =>
     rw[List.filter_cons,if_pos (by rw[h];rfl),List.filter_cons,if_neg (by rw[h];decide)]
     exact ih.cons x
   | true =>
     rw[List.filter_cons,if_neg (by rw[h];decide),List.filter_cons,if_pos h]
     exact List.perm_middle.trans (ih.cons x)
theorem Dn(p:Nat)(l:List (Nat×Nat))(R:Nat->Bool):Dd p l R=det ((List.range p).filter fun x=>!R x).length (fun i j=>dg l (((List.range p).filter fun x=>!R x).getD i 0) (((List.range p).filter fun x=>!R x).getD j 0)):=by
 have pm:=oJ R (List.range p);have hk:∀ x∈(List.range p).filter (fun x=>!R x),R x=false:=fun x hx=>by simpa using(List.mem_filter.mp hx).2
 have hr:∀ x∈(List.range p).filter R,R x=true:=fun x hx=>(List.mem_filter.mp hx).2
 have QM:((List.range p).filter R).Nodup:=List.Pairwise.filter _ List.nodup_range;generalize (List.range p).filter (fun x=>!R x)=ks at pm hk ⊢
 generalize (List.range p).filter R=rs at pm hr QM;have len:p=ks.length+rs.length:=by
  have:=pm.length_eq;rw[List.length_append,List.length_range]at this;exact this.symm
 have nd:(ks++rs).Nodup:=pm.nodup_iff.mpr List.nodup_range;have get:∀ i,i<p->∃ h:i<(ks++rs).length,(ks++rs).getD i 0=(ks++rs)[i]:=fun i hi=>by
  have h:i<(ks++rs).length:=by rw[List.length_append];lia
  exact⟨h,by rw[List.getD_eq_getElem?_getD,List.getElem?_eq_getElem h];rfl⟩
 have lt:∀ i,i<p->(ks++rs).getD i 0<p:=fun i hi=>by
  obtain⟨h,e⟩:=get i hi;rw[e];exact List.mem_range.mp (pm.mem_iff.mp (List.getElem_mem h))
 have inj:∀ i j,i<p->j<p->(ks++rs).getD i 0=(ks++rs).getD j 0->i=j:=fun i j hi hj e=>by
  obtain⟨h1,e1⟩:=get i hi;obtain⟨h2,e2⟩:=get j hj;rw[e1,e2]at e;exact(List.getElem_inj nd).mp e
 unfold Dd;rw[<-Di (gM (dg l) R) lt inj];have fk:∀ i,i<ks.length->(ks++rs).getD i 0=ks.getD i 0/\R (ks.getD i 0)=false:=fun i hi=>by
  constructor
  ·rw[List.getD_eq_getElem?_getD,List.getD_eq_getElem?_getD,List.getElem?_append_left hi]
  ·rw[List.getD_eq_getElem?_getD,List.getElem?_eq_getElem hi];exact hk _ (List.getElem_mem hi)
 have fr:∀ i,i<rs.length->(ks++rs).getD (ks.length+i) 0=rs.getD i 0/\R (rs.getD i 0)=true:=fun i hi=>by
  constructor
  ·rw[List.getD_eq_getElem?_getD,List.getD_eq_getElem?_getD,List.getElem?_append_right (by lia),Nat.add_sub_cancel_left]
  ·rw[List.getD_eq_getElem?_getD,List.getElem?_eq_getElem hi];exact hr _ (List.getElem_mem hi)
 generalize hf:(fun i=>(ks++rs).getD i 0)=f
 have LF:∀ i,i<ks.length->f i=ks.getD i 0/\R (ks.getD i 0)=false:=fun i hi=>by rw[<-hf];exact fk i hi
 have LG:∀ i,i<rs.length->f (ks.length+i)=rs.getD i 0/\R (rs.getD i 0)=true:=fun i hi=>by rw[<-hf];exact fr i hi
 have goal:det p (fun r c=>gM (dg l) R (f r) (f c))=det ks.length (fun i j=>dg l (ks.getD i 0) (ks.getD j 0)):=by
  rw[len,sY fun r c h1 h2 h3=>by
   obtain⟨s,hs,rfl⟩:∃ s,s<rs.length/\r=ks.length+s:=⟨r-ks.length,by lia,by lia⟩
   obtain⟨e1,q1⟩:=LG s hs;obtain⟨e2,q2⟩:=LF c h3
   (try dsimp only)
   rw[e1,e2,cf (.inl q1),cD fun z=>by rw[z,q2]at q1;cases q1]]
  have e1:det rs.length (fun r c=>gM (dg l) R (f (ks.length+r)) (f (ks.length+c)))=1:=by
   rw[<-m7 rs.length];refine aA fun r c hr hc=>?_
   obtain⟨e1,q1⟩:=LG r hr;obtain⟨e2,q2⟩:=LG c hc;rw[e1,e2,cf (.inl q1)];unfold un
   by_cases h:c=r
   ·rw[if_pos h,if_pos (by rw[h])]
   ·rw[if_neg h,if_neg fun z=>h ?_]
    rw[List.getD_eq_getElem?_getD,List.getD_eq_getElem?_getD,List.getElem?_eq_getElem hr,List.getElem?_eq_getElem hc]at z;exact(List.getElem_inj QM).mp z
  rw[e1,Int.mul_one];refine aA fun i j hi hj=>?_
  obtain⟨e1,q1⟩:=LF i hi;obtain⟨e2,q2⟩:=LF j hj;rw[e1,e2,dD q1 q2]
 rw[<-goal,<-hf]
end Dt
namespace RM
open Dt
variable {N:Net}
def fo(N:Net):Int:=Dd N.p (ps N) fun x=>decide (N.dB N.n x=x)
theorem FH(N:Net):Tr N.p (ps N) fun x=>decide (N.dB N.n x=x):=by
 refine⟨fun x hx=>⟨N.dB N.n x,uE hx,gC (bW _ _),ku.mp (bW (S:=fun _=>true) N.n x).symm⟩,fun r r' _ _ e e' c=>?_⟩
 have:=ku.mpr c;rw[Am e,Am e']at this;exact this
theorem Ec{n:Nat}(h:N.n<=n):fo N=(tk n (ps N):Int):=HS n (ps N) (by rw[xN];exact h) (tD N) _ (FH N)
def kp(N:Net):List Nat:=(List.range N.p).filter fun x=>!decide (N.dB N.n x=x)
end RM
namespace Dt
open RM (cnt)
def sel:List (Nat×Nat)->Nat->List (Nat×Nat)
 | [],_=>[]
 | e::l,m=>if m%2=1 then e::sel l (m/2) else sel l (m/2)
def pH:List (Nat×Nat)->Prop
 | []=>True
 | e::s=>pH s/\¬ Cn s e.1 e.2
def Fo(s l:List (Nat×Nat)):Prop:=pH s/\∀ x y,Cn s x y↔Cn l x y
theorem yT(f:Nat->Bool):∀ n,cnt f (2*n)=cnt (fun m=>f (2*m)) n+cnt (fun m=>f (2*m+1)) n
 | 0=>rfl
 | n+1=>by
   show cnt f (2*n+1+1)=(cnt (fun m=>f (2*m)) n+_)+(cnt (fun m=>f (2*m+1)) n+_)
   show cnt f (2*n)+(if f (2*n)=true then 1 else 0)+(if f (2*n+1)=true then 1 else 0)=(cnt (fun m=>f (2*m)) n+(if f (2*n)=true then 1 else 0))+(cnt (fun m=>f (2*m+1)) n+(if f (2*n+1)=true then 1 else 0))
   rw[yT f n]
   lia
theorem cnt_none{f:Nat->Bool}:∀{n:Nat},(∀ k,k<n->f k=false)->cnt f n=0
 | 0,_=>rfl
 | n+1,h=>by
   show cnt f n+(if f n=true then 1 else 0)=0
   rw[cnt_none fun k hk=>h k (by lia),h n (by lia)]
   rfl
theorem pU{e:Nat×Nat}:∀{l:List (Nat×Nat)} {m:Nat},e∈sel l m->e∈l
 | [],_,h=>h
 | d::l,m,h=>by
   unfold sel at h
   split at h
   ·rcases List.mem_cons.mp h with h|h
    ·rw[h];exact List.mem_cons_self
    ·exact sA _ (pU h)
   ·exact sA _ (pU h)
theorem yU(h:Nat×Nat->Nat×Nat):∀(l:List (Nat×Nat)) (m:Nat),sel (l.map h) m=(sel l m).map h
 | [],_=>rfl
 | d::l,m=>by
   show(if m%2=1 then h d::sel (l.map h) (m/2) else sel (l.map h) (m/2))=List.map h (if m%2=1 then d::sel l (m/2) else sel l (m/2))
   rw[yU h l (m/2)]
   split<;>rfl
def mp(u v:Nat)(l:List (Nat×Nat)):List (Nat×Nat):=l.map fun e=>(mv u v e.1,mv u v e.2)
section
variable {u v x y:Nat}{l s:List (Nat×Nat)}
theorem vX(hne:u≠v):Cn (mp u v l) (mv u v x) (mv u v y)↔Cn ((u,v)::l) x y:=by
 constructor
 ·intro h;have back:∀{a b},Cn (mp u v l) a b->Cn ((u,v)::l) a b:=fun h=>by
   induction h with
   | refl=>exact .refl
   | step _ e ih =>
     have two:∀ a b,(a,b)∈mp u v l->Cn ((u,v)::l) a b:=fun a b h=>by
      obtain⟨d,hd,e⟩:=List.mem_map.mp h;cases e;exact(tu d.1).trans ((Cn.wZ (sA _ hd)).trans (tu d.2).symm)
     rcases e with e|e
     ·exact ih.trans (two _ _ e)
     ·exact ih.trans (two _ _ e).symm
  exact(tu x).symm.trans ((back h).trans (tu y))
 ·intro h
  induction h with
  | refl=>exact .refl
  | step _ e ih =>
    have two:∀ a b,(a,b)∈(u,v)::l->Cn (mp u v l) (mv u v a) (mv u v b):=fun a b h=>by
     rcases List.mem_cons.mp h with h|h
     ·cases h;rw[vW hne,show mv u v v=u from if_pos rfl]
      exact .refl
     ·exact .step .refl (.inl (List.mem_map.mpr ⟨(a,b),h,rfl⟩))
    rcases e with e|e
    ·exact ih.trans (two _ _ e)
    ·exact ih.trans (two _ _ e).symm
theorem pV(hne:u≠v)(h:Cn (mp u v l) v y):y=v:=by
 induction h with
 | refl=>rfl
 | @step y z _ e ih =>
   subst ih;rcases e with e|e
   ·obtain⟨d,_,e⟩:=List.mem_map.mp e;exact absurd (congrArg Prod.fst e) (yR hne _)
   ·obtain⟨d,_,e⟩:=List.mem_map.mp e;exact absurd (congrArg Prod.snd e) (yR hne _)
theorem m8:Cn ((u,v)::l) x y↔Cn l x y\/(Cn l x u/\Cn l v y)\/(Cn l x v/\Cn l u y):=by
 refine⟨qH,fun h=>?_⟩
 have t:Cn ((u,v)::l) u v:=Cn.wZ (e:=(u,v)) List.mem_cons_self;rcases h with h|⟨h,h'⟩|⟨h,h'⟩
 ·exact h.more
 ·exact h.more.trans (t.trans h'.more)
 ·exact h.more.trans (t.symm.trans h'.more)
theorem yV(hne:u≠v):∀{s:List (Nat×Nat)},pH (mp u v s)↔pH ((u,v)::s)
 | []=>by
   show True↔(True/\¬ Cn [] u v);exact⟨fun _=>⟨trivial,fun h=>hne (BC h)⟩,fun _=>trivial⟩
 | (f,g)::s=>by
   have ih:=yV hne (s:=s);show(pH (mp u v s)/\¬ Cn (mp u v s) (mv u v f) (mv u v g))↔((pH s/\¬ Cn s f g)/\¬ Cn ((f,g)::s) u v);rw[ih,vX hne];show((pH s/\¬ Cn s u v)/\¬ Cn ((u,v)::s) f g)↔_;rw[m8,m8]
   constructor
   ·rintro⟨⟨h1,h2⟩,h3⟩;refine⟨⟨h1,fun z=>h3 (.inl z)⟩,fun z=>?_⟩
    rcases z with z|⟨z,z'⟩|⟨z,z'⟩
    ·exact h2 z
    ·exact h3 (.inr (.inl ⟨z.symm,z'.symm⟩))
    ·exact h3 (.inr (.inr ⟨z',z⟩))
   ·rintro⟨⟨h1,h2⟩,h3⟩;refine⟨⟨h1,fun z=>h3 (.inl z)⟩,fun z=>?_⟩
    rcases z with z|⟨z,z'⟩|⟨z,z'⟩
    ·exact h2 z
    ·exact h3 (.inr (.inl ⟨z.symm,z'.symm⟩))
    ·exact h3 (.inr (.inr ⟨z',z⟩))
theorem HU(hne:u≠v):Fo ((u,v)::s) ((u,v)::l)↔Fo (mp u v s) (mp u v l):=by
 unfold Fo;rw[yV hne];refine and_congr_right fun _=>⟨fun h x y=>?_,fun h x y=>?_⟩
 ·by_cases hx:x=v
  ·subst hx
   constructor
   ·intro c;rw[pV hne c];exact .refl
   ·intro c;rw[pV hne c];exact .refl
  by_cases hy:y=v
  ·subst hy
   constructor
   ·intro c;rw[pV hne c.symm];exact .refl
   ·intro c;rw[pV hne c.symm];exact .refl
  have:=h x y;rw[<-vX hne,<-vX hne,vW hx,vW hy]at this;exact this
 ·rw[<-vX hne,<-vX hne];exact h _ _
theorem BF(hs:∀ e∈s,e∈l):Fo s ((u,v)::l)↔Cn l u v/\Fo s l:=by
 unfold Fo
 constructor
 ·rintro⟨h1,h2⟩;have c:Cn l u v:=((h2 u v).mpr (Cn.wZ (e:=(u,v)) List.mem_cons_self)).mono hs;exact⟨c,h1,fun x y=>⟨fun z=>z.mono hs,fun z=>(h2 x y).mpr z.more⟩⟩
 ·rintro⟨c,h1,h2⟩;refine⟨h1,fun x y=>?_⟩
  rw[h2,m8]
  constructor
  ·exact .inl
  ·rintro(z|⟨z,z'⟩|⟨z,z'⟩)
   ·exact z
   ·exact z.trans (c.trans z')
   ·exact z.trans (c.symm.trans z')
end
open Classical in
noncomputable def nf (l:List (Nat×Nat)):Nat:=cnt (fun m=>decide (Fo (sel l m) l)) (2^l.length)
open Classical in
theorem Dp(u v:Nat)(l:List (Nat×Nat)):nf ((u,v)::l)=(if u=v then 0 else nf (mp u v l))+(if Cn l u v then nf l else 0):=by
 have e0:nf ((u,v)::l)=cnt (fun m=>decide (Fo (sel ((u,v)::l) m) ((u,v)::l))) (2*2^l.length):=by
  unfold nf;rw[List.length_cons,Nat.pow_succ,Nat.mul_comm]
 rw[e0,yT,Nat.add_comm];have s0:∀ m,sel ((u,v)::l) (2*m)=sel l m:=fun m=>by
  unfold sel;rw[if_neg (by lia),show 2*m/2=m by lia]
  cases l<;>rfl
 have s1:∀ m,sel ((u,v)::l) (2*m+1)=(u,v)::sel l m:=fun m=>by
  show(if(2*m+1)%2=1 then(u,v)::sel l ((2*m+1)/2) else sel l ((2*m+1)/2))=_
  rw[if_pos (by lia),show(2*m+1)/2=m by lia]
 congr 1
 ·by_cases h:u=v
  ·rw[if_pos h];refine cnt_none fun m _=>j9 fun z=>?_
   rw[s1]at z;exact z.1.2 (by rw[h];exact .refl)
  ·rw[if_neg h];unfold nf;rw[show(mp u v l).length=l.length from List.length_map _]
   refine RM.eM fun m _=>decide_eq_decide.mpr ?_
   rw[s1,HU h];unfold mp;rw[yU]
 ·by_cases h:Cn l u v
  ·rw[if_pos h];refine RM.eM fun m _=>decide_eq_decide.mpr ?_
   rw[s0,BF fun e he=>pU he]
   exact⟨fun z=>z.2,fun z=>⟨h,z⟩⟩
  ·rw[if_neg h];refine cnt_none fun m _=>j9 fun z=>?_
   rw[s0,BF fun e he=>pU he]at z
   exact h z.1
theorem uL:∀(n:Nat) (l:List (Nat×Nat)),l.length<=n->tk (n+1) l=tk n l
 | 0,[],_=>rfl
 | 0,_::_,h=>by rw[List.length_cons]at h;lia
 | n+1,[],_=>rfl
 | n+1,e::l,h=>by
   have h:l.length<=n:=by rw[List.length_cons]at h;lia
   have e1:=uL n (bD e.1 e.2 l) (Nat.le_trans (sZ _ _ _) h);have e2:=uL n l h;show tk (n+1) (bD e.1 e.2 l)+_=tk n (bD e.1 e.2 l)+_;rw[e1,e2]
def nl(l:List (Nat×Nat)):List (Nat×Nat):=l.filter fun e=>decide (e.1≠e.2)
theorem Ed{l:List (Nat×Nat)}{x y:Nat}:Cn (nl l) x y↔Cn l x y:=by
 constructor
 ·exact fun h=>h.mono fun e he=>(List.mem_filter.mp he).1
 ·intro h
  induction h with
  | refl=>exact .refl
  | @step y z _ e ih =>
    by_cases hq:y=z
    ·rw[<-hq];exact ih
    ·refine .step ih ?_;rcases e with e|e
     ·exact .inl (List.mem_filter.mpr ⟨e,gC hq⟩)
     ·exact .inr (List.mem_filter.mpr ⟨e,gC (Ne.symm hq)⟩)
theorem Ef(u v:Nat):∀ l:List (Nat×Nat),nl (mp u v l)=bD u v (nl l)
 | []=>rfl
 | e::l=>by
   have ih:=Ef u v l;show nl ((mv u v e.1,mv u v e.2)::mp u v l)=bD u v (nl (e::l))
   by_cases h:e.1=e.2
   ·rw[show nl (e::l)=nl l from List.filter_cons_of_neg (by rw[decide_eq_true_eq];exact fun z=>z h),show nl ((mv u v e.1,mv u v e.2)::mp u v l)=nl (mp u v l) from List.filter_cons_of_neg (by rw[decide_eq_true_eq];exact fun z=>z (by rw[h]))]
    exact ih
   ·rw[show nl (e::l)=e::nl l from List.filter_cons_of_pos (by rw[decide_eq_true_eq];exact h),mz]
    by_cases h2:mv u v e.1=mv u v e.2
    ·rw[if_pos h2,show nl ((mv u v e.1,mv u v e.2)::mp u v l)=nl (mp u v l) from List.filter_cons_of_neg (by rw[decide_eq_true_eq];exact fun z=>z h2)]
     exact ih
    ·rw[if_neg h2,show nl ((mv u v e.1,mv u v e.2)::mp u v l)=(mv u v e.1,mv u v e.2)::nl (mp u v l) from List.filter_cons_of_pos (by rw[decide_eq_true_eq];exact h2),ih]
theorem FI(l:List (Nat×Nat)):(nl l).length<=l.length:=List.length_filter_le _ _
open Classical in
theorem HV:∀(n:Nat) (l:List (Nat×Nat)),l.length<=n->nf l=tk n (nl l):=by
 have nil:nf []=1:=by
  show 0+(if decide (Fo (sel [] 0) [])=true then 1 else 0)=1
  rw[if_pos (gC ⟨trivial,fun x y=>Iff.rfl⟩)]
 intro n
 induction n with
 | zero =>
   intro l hl;have:l=[]:=List.length_eq_zero_iff.mp (by lia)
   subst this;exact nil
 | succ n ih =>
   intro l hl
   match l,hl with
   | [],_=>exact nil
   | (u,v)::l,hl =>
     have hl:l.length<=n:=by rw[List.length_cons]at hl;lia
     rw[Dp]
     by_cases h:u=v
     ·rw[if_pos h,if_pos (by rw[h];exact .refl),ih l hl,show nl ((u,v)::l)=nl l from List.filter_cons_of_neg (by rw[decide_eq_true_eq];exact fun z=>z h),uL n (nl l) (Nat.le_trans (FI l) hl),Nat.zero_add]
     ·rw[if_neg h,ih (mp u v l) (by rw[show(mp u v l).length=l.length from List.length_map _];exact hl),show nl ((u,v)::l)=(u,v)::nl l from List.filter_cons_of_pos (by rw[decide_eq_true_eq];exact h),Ef]
      show _=tk n (bD u v (nl l))+(if Cn (nl l) u v then tk n (nl l) else 0)
      congr 1
      by_cases hc:Cn l u v
      ·rw[if_pos hc,if_pos (Ed.mpr hc),ih l hl]
      ·rw[if_neg hc,if_neg fun z=>hc (Ed.mp z)]
theorem zV{e f:Nat×Nat}{s:List (Nat×Nat)}(h:pH (e::f::s)):pH (f::e::s):=by
 obtain⟨⟨h1,h2⟩,h3⟩:=h;obtain⟨e1,e2⟩:=e;obtain⟨f1,f2⟩:=f;have h3 : ¬ Cn ((f1,f2)::s) e1 e2:=h3;rw[m8]at h3;refine⟨⟨h1,fun z=>h3 (.inl z)⟩,?_⟩
 show ¬ Cn ((e1,e2)::s) f1 f2;rw[m8];rintro(z|⟨z,z'⟩|⟨z,z'⟩)
 ·exact h2 z
 ·exact h3 (.inr (.inl ⟨z.symm,z'.symm⟩))
 ·exact h3 (.inr (.inr ⟨z',z⟩))
theorem tE{s t:List (Nat×Nat)}(h:s.Perm t):pH s->pH t:=by
 induction h with
 | nil=>exact id
 | cons x p ih=>exact fun⟨a,b⟩=>⟨ih a,fun c=>b (c.mono fun e he=>p.mem_iff.mpr he)⟩
 | swap x y l=>exact zV
 | trans _ _ h1 h2=>exact fun a=>h2 (h1 a)
theorem vY(e:Nat×Nat):∀(l:List (Nat×Nat)) (m:Nat),sel (l++[e]) m=sel l m++if m.testBit l.length=true then[e] else[]
 | [],m=>by
   show(if m%2=1 then[e] else[])=[]++if m.testBit 0=true then[e] else[]
   rw[List.nil_append,Nat.testBit_zero]
   by_cases h:m%2=1
   ·rw[if_pos h,if_pos (gC h)]
   ·rw[if_neg h,if_neg fun z=>h (Am z)]
 | d::l,m=>by
   show(if m%2=1 then d::sel (l++[e]) (m/2) else sel (l++[e]) (m/2))=(if m%2=1 then d::sel l (m/2) else sel l (m/2))++if m.testBit (l.length+1)=true then[e] else[]
   rw[vY e l (m/2),Nat.testBit_succ]
   split<;>rfl
end Dt
namespace RM
open Dt
variable {N:Net}
def sl(N:Net)(m k:Nat):List (Nat×Nat):=sel ((List.range k).map fun j=>(N.a j,N.b j)) m
theorem yW(N:Net)(m k:Nat):sl N m (k+1)=sl N m k++if m.testBit k=true then[(N.a k,N.b k)] else[]:=by
 unfold sl;rw[List.range_succ,List.map_append];show sel (_++[(N.a k,N.b k)]) m=_;rw[vY,List.length_map,List.length_range]
theorem mE{m:Nat}{e:Nat×Nat}:∀{k:Nat},e∈sl N m k↔∃ j,j<k/\m.testBit j=true/\e=(N.a j,N.b j)
 | 0=>⟨(fun h=>nomatch h),fun⟨j,h,_⟩=>by lia⟩
 | k+1=>by
   rw[yW,List.mem_append,mE (k:=k)]
   constructor
   ·rintro(⟨j,h1,h2,h3⟩|h)
    ·exact⟨j,by lia,h2,h3⟩
    ·by_cases hb:m.testBit k=true
     ·rw[if_pos hb]at h;exact⟨k,by lia,hb,List.mem_singleton.mp h⟩
     ·rw[if_neg hb]at h;cases h
   ·rintro⟨j,h1,h2,h3⟩
    by_cases e:j=k
    ·subst e;exact .inr (by rw[if_pos h2,h3];exact List.mem_singleton_self _)
    ·exact .inl ⟨j,by lia,h2,h3⟩
theorem tF{m k x y:Nat}:N.aS (fun j=>m.testBit j) k x=N.aS (fun j=>m.testBit j) k y↔Cn (sl N m k) x y:=by
 rw[vB]
 constructor
 ·intro h
  induction h with
  | refl=>exact .refl
  | fwd _ hj hs ih=>exact .step ih (.inl (mE.mpr ⟨_,hj,hs,rfl⟩))
  | bwd _ hj hs ih=>exact .step ih (.inr (mE.mpr ⟨_,hj,hs,rfl⟩))
 ·intro h
  induction h with
  | refl=>exact .refl
  | step _ e ih =>
    rcases e with e|e
    ·obtain⟨j,hj,hs,z⟩:=mE.mp e;cases z;exact .fwd ih hj hs
    ·obtain⟨j,hj,hs,z⟩:=mE.mp e;cases z;exact .bwd ih hj hs
theorem tG{m:Nat}:∀ k,(∀ j,j<k->m.testBit j=true->N.aS (fun i=>m.testBit i) j (N.a j)≠N.aS (fun i=>m.testBit i) j (N.b j))↔pH (sl N m k)
 | 0=>⟨fun _=>trivial,fun _ j h=>by lia⟩
 | k+1=>by
   have ih:=tG (m:=m) k;rw[yW]
   by_cases hb:m.testBit k=true
   ·rw[if_pos hb];have pm:(sl N m k++[(N.a k,N.b k)]).Perm ((N.a k,N.b k)::sl N m k):=List.perm_append_singleton _ _
    constructor
    ·intro h;refine tE pm.symm ⟨ih.mp fun j hj=>h j (by lia),fun c=>h k (by lia) hb (tF.mpr c)⟩
    ·intro h j hj JM;obtain⟨h1,h2⟩:=tE pm h
     by_cases e:j=k
     ·subst e;exact fun c=>h2 (tF.mp c)
     ·exact ih.mpr h1 j (by lia) JM
   ·rw[if_neg hb,List.append_nil,<-ih];exact⟨fun h j hj=>h j (by lia),fun h j hj JM=>h j (by
     by_cases e:j=k
     ·subst e;exact absurd JM hb
     ·lia) JM⟩
theorem BG{L L' : Nat->Nat}(h1:∀ x,L x<=x)(h2:∀ x,L (L x)=L x)(SR:∀ x,L' x<=x)(SS:∀ x,L' (L' x)=L' x)(h:∀ x y,L x=L y↔L' x=L' y)(x:Nat):L x=L' x:=by
 have a:L' (L x)=L' x:=(h (L x) x).mp (h2 x);have b:L (L' x)=L x:=(h (L' x) x).mpr (SS x);have c:=SR (L x);have d:=h1 (L' x)
 lia
theorem yX{p:Nat}{l:List (Nat×Nat)}(g:Gd p l){x y:Nat}(h:Cn l x y):x=y\/(x<p/\y<p):=by
 induction h with
 | refl=>exact .inl rfl
 | @step y z _ e ih =>
   have two:y<p/\z<p:=by
    rcases e with e|e
    ·have:=g _ e;exact⟨this.1,this.2.1⟩
    ·have:=g _ e;exact⟨this.2.1,this.1⟩
   rcases ih with rfl|ih
   ·exact .inr two
   ·exact .inr ⟨ih.1,two.2⟩
theorem FJ{m:Nat}:(xJ N m/\∀ x,x<N.p->N.aS (fun j=>m.testBit j) N.n x=N.dB N.n x)↔Fo (sel (ps N) m) (ps N):=by
 have e:sel (ps N) m=sl N m N.n:=rfl;unfold Fo;rw[e];refine and_congr (tG N.n) ?_
 constructor
 ·intro h x y;rw[<-tF,<-ku]
  by_cases hx:x<N.p
  ·by_cases hy:y<N.p
   ·rw[h x hx,h y hy]
   ·constructor
    ·intro z;rcases yX (p:=N.p) (fun e he=>by
      obtain⟨j,hj,_,rfl⟩:=mE.mp he;exact tD N _ (mD.mpr ⟨j,hj,rfl⟩)) (tF.mp z) with w | w
     ·rw[w]
     ·exact absurd w.2 hy
    ·intro z;rcases yX (tD N) (ku.mp z) with w|w
     ·rw[w]
     ·exact absurd w.2 hy
  ·constructor
   ·intro z;rcases yX (p:=N.p) (fun e he=>by
     obtain⟨j,hj,_,rfl⟩:=mE.mp he;exact tD N _ (mD.mpr ⟨j,hj,rfl⟩)) (tF.mp z) with w | w
    ·rw[w]
    ·exact absurd w.1 hx
   ·intro z;rcases yX (tD N) (ku.mp z) with w|w
    ·rw[w]
    ·exact absurd w.1 hx
 ·intro h x _;exact BG (fun x=>iG _ x) (fun x=>bW _ x) (fun x=>iG _ x) (fun x=>bW _ x) (fun x y=>by rw[tF,h,<-ku];rfl) x
open Classical in
theorem FL(N:Net){f:Nat->Bool}(hf:∀ m,m<2^N.n->(f m=true↔(xJ N m/\∀ x,x<N.p->N.aS (fun j=>m.testBit j) N.n x=N.dB N.n x))):((((List.range (2^N.n)).filter f).length:Nat):Int)=fo N:=by
 rw[Ec (Nat.le_refl N.n),fN];have e:=HV N.n (ps N) (by rw[xN];exact Nat.le_refl _)
 have e2:nl (ps N)=ps N:=List.filter_eq_self.mpr fun d hd=>gC (tD N d hd).2.2
 rw[e2]at e;rw[<-e];unfold nf;rw[xN]
 congr 1
 refine eM fun m hm=>?_
 rw[Bool.eq_iff_iff,hf m hm,decide_eq_true_eq,FJ]
end RM
namespace L2
open PySem PySem.Spec PyProof.Rows
theorem zW{X:Cx}(hc:X.calm=true):gn X (.builtin "min") (fun xs H Q=>∃ i j k,xs=[.int i,.int j,.int k]/\∀ z,z<=i->z<=j->z<=k->(z=i\/z=j\/z=k)->Q (.int z) H):=by
 intro pq s σ H xs us Q I r h;obtain⟨i,j,k,rfl,q⟩:=h
 match us,r with
 | [_,_,_],.cons ⟨t,rfl⟩ (.cons ⟨t',rfl⟩ (.cons ⟨t'',rfl⟩ .nil)) =>
   refine min_three_ints (I.ok.hd hc) fun h' tk kp=>?_
   have fin:∀ z,z<=i->z<=j->z<=k->(z=i\/z=j\/z=k)->∀ v,RelV (.int z) v->∃ x H',Inv X pq σ H' { s with heap:=h',toks:=tk}/\RelV x v/\Q x H':=fun z a b c d v rv=>⟨.int z,H,I.kept kp,rv,q z a b c d⟩
   by_cases h1:j<i
   ·rw[if_pos h1]
    by_cases h2:k<j
    ·rw[if_pos h2];exact fin k (by lia) (by lia) (by lia) (.inr (.inr rfl)) _ ⟨_,rfl⟩
    ·rw[if_neg h2];exact fin j (by lia) (by lia) (by lia) (.inr (.inl rfl)) _ ⟨_,rfl⟩
   ·rw[if_neg h1]
    by_cases h2:k<i
    ·rw[if_pos h2];exact fin k (by lia) (by lia) (by lia) (.inr (.inr rfl)) _ ⟨_,rfl⟩
    ·rw[if_neg h2];exact fin i (by lia) (by lia) (by lia) (.inl rfl) _ ⟨_,rfl⟩
open PySem
theorem jL{lo:Int}{n:Nat}{g:TG}{tb:TS}{D:Ends}{σ:St}{H:Hp}(Pv:Nat->St->Hp->Prop)(h0:Pv 0 σ H)
 (hs:∀ i,let D' : Ends:={ D with nx:=Pv (i+1),ct:=Pv (i+1),bk:=D.nx};∀ σ H,i<n->Pv i σ H->g (.int (lo+i)) σ H fun σ2 H2=>tb D' σ2 H2) (hd:∀ σ H,Pv n σ H->D.nx σ H) :
 ∃ W:Nat->Nat->St->Hp->Prop,(∃ m,W 0 m σ H)/\∀ i m σ H,W i m σ H->
   ((Ax lo n).stop i H/\D.nx σ H)\/((Ax lo n).go i H/\∃ N:St->Hp->Prop,(∀ σ' H',N σ' H'->∃ m',m'<m/\W (i+1) m' σ' H')/\∀ x H',(Ax lo n).DR i H x H'->g x σ H' fun σ2 H2=>tb { D with nx:=N,ct:=N,bk:=D.nx} σ2 H2) :=
 gJ Pv h0 (fun i σ H hi p=>hs i σ H hi p) hd
theorem tH{K:bF}{a:Addr}{xs:List V}{g:TG}{tb:TS}{D:Ends}{σ:St}{H:Hp}(Pv:Nat->St->Hp->Prop)(h0:Pv 0 σ H)(hl:∀ i σ H,i<=xs.length->Pv i σ H->bg K H a xs)
 (hs:∀ i x,let D' : Ends:={ D with nx:=Pv (i+1),ct:=Pv (i+1),bk:=D.nx};∀ σ H,xs[i]?=some x->Pv i σ H->g x σ H fun σ2 H2=>tb D' σ2 H2) (hd:∀ σ H,Pv xs.length σ H->D.nx σ H) :
 ∃ W:Nat->Nat->St->Hp->Prop,(∃ m,W 0 m σ H)/\∀ i m σ H,W i m σ H->
   ((CF K a).stop i H/\D.nx σ H)\/((CF K a).go i H/\∃ N:St->Hp->Prop,(∀ σ' H',N σ' H'->∃ m',m'<m/\W (i+1) m' σ' H')/\∀ x H',(CF K a).DR i H x H'->g x σ H' fun σ2 H2=>tb { D with nx:=N,ct:=N,bk:=D.nx} σ2 H2) :=
 qh Pv h0 hl (fun i x σ H hi p=>hs i x σ H hi p) hd
theorem BH{X:Cx}{e:Expr}{T:String}{r:V->List V->Hp->VK->Prop}{to:TE}{t:TA}(K:bF)(p:PE X e (K6 X.K T r to t))(h:X.K=K:=by rfl):PE X e (K6 K T r to t):=by subst h;exact p
theorem jy{K:bF}{H:Hp}{a:Addr}{xs:List V}{k:Int}{v:V}{R:V->Prop}(hs:cE K H a xs)(ha:Ao xs k=some v)(q:R v):∃ p ys k' w,V.ref a = .ref p/\V.int k = .int k'/\cE K H p ys/\Ao ys k' = some w/\R w:=⟨a,xs,k,v,rfl,rfl,hs,ha,q⟩
theorem pI{K:bF}{H:Hp}{a:Addr}{xs:List V}{k:Int}{v:V}{R:V->Prop}(hs:bg K H a xs)(ha:Ao xs k=some v)(q:R v):∃ p ys k' w,V.ref a = .ref p/\V.int k = .int k'/\bg K H p ys/\Ao ys k' = some w/\R w:=⟨a,xs,k,v,rfl,rfl,hs,ha,q⟩
theorem bX{i j:Int}{R:Int->Int->Prop}(h:R i j):∃ i' j',V.int i = .int i'/\V.int j = .int j'/\R i' j':=⟨i,j,rfl,rfl,h⟩
theorem pW{K:bF}{H:Hp}{a:Addr}{xs:List V}{E:Addr->Prop}{R:List V->Prop}(e:E a)(h:bg K H a xs\/cE K H a xs)(q:R xs):∃ p ys,E p/\(bg K H p ys\/cE K H p ys)/\R ys:=⟨a,xs,e,h,q⟩
theorem ak{α:Type}{A R:α->Prop}{x:α}(h:A x)(r:R x):∃ x,A x/\R x:=⟨x,h,r⟩
end L2
set_option maxHeartbeats 4000000
namespace K49
open PySem L2 Ring
def top(i:Nat):Stmt:=PySem.Challenge.pw_ringbase_k49_forests_counted.main.body.getD i (.Pass ⟨0,0,0,0⟩)
abbrev gP:Stmt:=top 15
theorem xP:aM ["tie_set","tie"] ["tie_set","tie"] (af gP):=⟨rfl,rfl,rfl,by decide +kernel,rfl,by decide +kernel,by decide +kernel⟩
abbrev fP:Stmt:=top 16
theorem xQ:aM ["tie_set"] ["tie_set"] (af fP):=⟨rfl,rfl,rfl,by decide +kernel,rfl,by decide +kernel,by decide +kernel⟩
abbrev fQ:Stmt:=top 17
theorem vZ:aM ["web"] ["web"] (af fQ):=⟨rfl,rfl,rfl,by decide +kernel,rfl,by decide +kernel,by decide +kernel⟩
abbrev jo:Stmt:=top 18
theorem zX:aM ["web","number"] ["web","number"] (af jo):=⟨rfl,rfl,rfl,by decide +kernel,rfl,by decide +kernel,by decide +kernel⟩
abbrev eN:Stmt:=top 19
theorem uM:aM ["web","tie_set"] ["web","tie_set"] (af eN):=⟨rfl,rfl,rfl,by decide +kernel,rfl,by decide +kernel,by decide +kernel⟩
theorem uN{dF:TS}{lH:TT}{D:Ends}{σ:St}{H:Hp}(h:let dG:TS:=dF;(cJ lH dG bA) D σ H):(cJ lH dF bA) D σ H:=h
abbrev cQ:Stmt:=top 20
theorem rV:aM ["web","tie_set"] ["web","tie_set"] (af cQ):=⟨rfl,rfl,rfl,by decide +kernel,rfl,by decide +kernel,by decide +kernel⟩
theorem rW{dF d8:TS}{D:Ends}{σ:St}{H:Hp}(h:let dG:TS:=dF;(av d8 dG) D σ H):(av d8 dF) D σ H:=h
abbrev bE:Stmt:=top 21
theorem fm:aM ["leasts","one","other","low","high"] ["leasts","one","other"] (af bE):=⟨rfl,rfl,rfl,by decide +kernel,rfl,by decide +kernel,by decide +kernel⟩
theorem m9{dF d8 iJ:TS}{D:Ends}{σ:St}{H:Hp}(h:let dG:TS:=dF;let gq:TS:=(av d8 dG);(av iJ gq) D σ H):(av iJ (av d8 dF)) D σ H:=h
abbrev hU:Stmt:=top 22
theorem eO:aM ["web","tie_set","leasts","one","other","length","found","start"] ["web","tie_set"] (af hU):=⟨rfl,rfl,rfl,by decide +kernel,rfl,by decide +kernel,by decide +kernel⟩
theorem zY{dF d8 iJ kA lI:TS}{lH:TT}{nc Eg:TI}{ng Eh:TG}{D:Ends}{σ:St}{H:Hp}(h:let dG:TS:=dF;let gq:TS:=d8;let jZ:TS:=(cJ lH gq bA);let kB:TS:=(av (fD nc ng jZ) dG);let nh:TS:=(av iJ kB);let ni:TS:=kA;let v9:TS:=(av (fD Eg Eh ni) nh);(av lI v9) D σ H):(av lI (av (fD Eg Eh kA) (av iJ (av (fD nc ng (cJ lH d8 bA)) dF)))) D σ H:=h
abbrev n8:Stmt:=top 23
theorem Dq:aM ["web"] ["web"] (af n8):=⟨rfl,rfl,rfl,by decide +kernel,rfl,by decide +kernel,by decide +kernel⟩
abbrev cU:Stmt:=top 25
theorem kC:aM ["rows","step","place"] ["rows","step"] (af cU):=⟨rfl,rfl,rfl,by decide +kernel,rfl,by decide +kernel,by decide +kernel⟩
theorem qI{dF d8:TS}{lH:TT}{nc:TI}{ng:TG}{D:Ends}{σ:St}{H:Hp}(h:let dG:TS:=dF;let gq:TS:=d8;let jZ:TS:=(cJ lH gq bA);(av (fD nc ng jZ) dG) D σ H):(av (fD nc ng (cJ lH d8 bA)) dF) D σ H:=h
abbrev cj:Stmt:=top 26
theorem qJ:aM ["row","lead_row","step","divisor"] ["row","lead_row","step","divisor"] (af cj):=⟨rfl,rfl,rfl,by decide +kernel,rfl,by decide +kernel,by decide +kernel⟩
abbrev cV:Stmt:=top 27
theorem bu:aM ["table","rows","sign","divisor","step","place","lead_row","below"] ["table"] (af cV):=⟨rfl,rfl,rfl,by decide +kernel,rfl,by decide +kernel,by decide +kernel⟩
theorem qK{dF d8 iJ kA lI oK BI Ei Ej HW BJ BK:TS}{lH BL:TT}{nc Eg:TI}{ng Eh:TG}{D:Ends}{σ:St}{H:Hp}(h:let dG:TS:=dF;let gq:TS:=d8;let jZ:TS:=iJ;let kB:TS:=(av (fD Eg Eh jZ) gq);let nh:TS:=kA;let ni:TS:=(av lI nh);let v9:TS:=(av oK ni);let Ek:TS:=(av BI v9);let El:TS:=(av (cJ lH Ek bA) kB);let Dr:TS:=Ei;let wc:TS:=(av (cJ BL Dr bA) El);let wd:TS:=(av Ej wc);let BN:TS:=(av (fD nc ng wd) dG);let BO:TS:=(av HW BN);let BP:TS:=(av BJ BO);(av BK BP) D σ H):(av BK (av BJ (av HW (av (fD nc ng (av Ej (av (cJ BL Ei bA) (av (cJ lH (av BI (av oK (av lI kA))) bA) (av (fD Eg Eh iJ) d8))))) dF)))) D σ H:=h
abbrev eS:Stmt:=top 30
theorem jM:aM ["web","tie_set","over_set","ringless"] ["web","tie_set"] (af eS):=⟨rfl,rfl,rfl,by decide +kernel,rfl,by decide +kernel,by decide +kernel⟩
theorem uO{dF d8 iJ:TS}{D:Ends}{σ:St}{H:Hp}(h:let dG:TS:=dF;let gq:TS:=(av d8 dG);(av iJ gq) D σ H):(av iJ (av d8 dF)) D σ H:=h
abbrev bU:Stmt:=top 31
theorem pJ:aM ["web","one","other"] ["web","one","other"] (af bU):=⟨rfl,rfl,rfl,by decide +kernel,rfl,by decide +kernel,by decide +kernel⟩
abbrev bw:Stmt:=top 32
theorem bY:aM ["web","leasts","kept","table","one","counts"] ["web"] (af bw):=⟨rfl,rfl,rfl,by decide +kernel,rfl,by decide +kernel,by decide +kernel⟩
theorem pK{dF d8 iJ kA lI oK:TS}{nc:TI}{ng:TG}{D:Ends}{σ:St}{H:Hp}(h:let dG:TS:=dF;let gq:TS:=d8;let jZ:TS:=(av iJ gq);let kB:TS:=(av (fD nc ng jZ) dG);let nh:TS:=(av kA kB);let ni:TS:=(av lI nh);(av oK ni) D σ H):(av oK (av lI (av kA (av (fD nc ng (av iJ d8)) dF)))) D σ H:=h
abbrev cW:Stmt:=top 33
theorem qL:aM ["web"] ["web"] (af cW):=⟨rfl,rfl,rfl,by decide +kernel,rfl,by decide +kernel,by decide +kernel⟩
abbrev eT:Stmt:=top 34
theorem uP:aM ["web"] ["web"] (af eT):=⟨rfl,rfl,rfl,by decide +kernel,rfl,by decide +kernel,by decide +kernel⟩
theorem uQ{dF:TS}{lH:TT}{D:Ends}{σ:St}{H:Hp}(h:let dG:TS:=dF;(cJ lH dG bA) D σ H):(cJ lH dF bA) D σ H:=h
abbrev eU:Stmt:=top 35
theorem uR:aM ["end","one","other"] ["end","one","other"] (af eU):=⟨rfl,rfl,rfl,by decide +kernel,rfl,by decide +kernel,by decide +kernel⟩
abbrev aT:Stmt:=top 36
theorem fG:aM ["web","one","other","ties"] ["web","one","other"] (af aT):=⟨rfl,rfl,rfl,by decide +kernel,rfl,by decide +kernel,by decide +kernel⟩
theorem j8{dF d8:TS}{D:Ends}{σ:St}{H:Hp}(h:let dG:TS:=dF;(av d8 dG) D σ H):(av d8 dF) D σ H:=h
abbrev cX:Stmt:=top 37
theorem dH:aM ["web","first","without","many"] ["web"] (af cX):=⟨rfl,rfl,rfl,by decide +kernel,rfl,by decide +kernel,by decide +kernel⟩
theorem qM{dF d8 iJ kA lI oK:TS}{lH BL:TT}{D:Ends}{σ:St}{H:Hp}(h:let dG:TS:=dF;let gq:TS:=d8;let jZ:TS:=(av (cJ lH gq bA) dG);let kB:TS:=(av iJ jZ);let nh:TS:=(av kA kB);let ni:TS:=(av lI nh);let v9:TS:=oK;(av (cJ BL v9 bA) ni) D σ H):(av (cJ BL oK bA) (av lI (av kA (av iJ (av (cJ lH d8 bA) dF))))) D σ H:=h
abbrev bB:Stmt:=top 38
theorem kD:aM ["web"] ["web"] (af bB):=⟨rfl,rfl,rfl,by decide +kernel,rfl,by decide +kernel,by decide +kernel⟩
theorem kE{dF d8:TS}{D:Ends}{σ:St}{H:Hp}(h:let dG:TS:=dF;(av d8 dG) D σ H):(av d8 dF) D σ H:=h
abbrev ck:Stmt:=top 39
theorem qN:aM ["web"] ["web"] (af ck):=⟨rfl,rfl,rfl,by decide +kernel,rfl,by decide +kernel,by decide +kernel⟩
theorem qO{dF d8:TS}{D:Ends}{σ:St}{H:Hp}(h:let dG:TS:=dF;(av d8 dG) D σ H):(av d8 dF) D σ H:=h
abbrev fR:Stmt:=top 41
theorem we:aM ["script","k"] ["script","k"] (af fR):=⟨rfl,rfl,rfl,by decide +kernel,rfl,by decide +kernel,by decide +kernel⟩
theorem wg{dF d8:TS}{lH:TT}{D:Ends}{σ:St}{H:Hp}(h:let dG:TS:=dF;let gq:TS:=d8;(av (cJ lH gq bA) dG) D σ H):(av (cJ lH d8 bA) dF) D σ H:=h
abbrev fS:Stmt:=top 42
theorem kF:aM ["cell","k","near"] ["cell","k"] (af fS):=⟨rfl,rfl,rfl,by decide +kernel,rfl,by decide +kernel,by decide +kernel⟩
theorem wj{dF d8 iJ:TS}{D:Ends}{σ:St}{H:Hp}(h:let dG:TS:=dF;let gq:TS:=(av d8 dG);(av iJ gq) D σ H):(av iJ (av d8 dF)) D σ H:=h
abbrev gQ:Stmt:=top 43
theorem h7:aM ["c","points","times","one","other"] ["c","points","times"] (af gQ):=⟨rfl,rfl,rfl,by decide +kernel,rfl,by decide +kernel,by decide +kernel⟩
theorem xR{dF d8 iJ kA lI:TS}{D:Ends}{σ:St}{H:Hp}(h:let dG:TS:=dF;let gq:TS:=(av d8 dG);let jZ:TS:=(av iJ gq);let kB:TS:=(av kA jZ);(av lI kB) D σ H):(av lI (av kA (av iJ (av d8 dF)))) D σ H:=h
abbrev gR:Stmt:=top 44
theorem cu:aM ["script","most","head","points","times","ties","c","k","tie"] ["script","most"] (af gR):=⟨rfl,rfl,rfl,by decide +kernel,rfl,by decide +kernel,by decide +kernel⟩
theorem xS{dF d8 iJ kA lI oK BI Ei Ej:TS}{lH BL:TT}{nc Eg:TI}{ng Eh:TG}{D:Ends}{σ:St}{H:Hp}(h:let dG:TS:=dF;let gq:TS:=d8;let jZ:TS:=(fD nc ng gq);let kB:TS:=(av (cJ lH jZ bA) dG);let nh:TS:=iJ;let ni:TS:=(av kA nh);let v9:TS:=(fD Eg Eh ni);let Ek:TS:=(av lI v9);let El:TS:=(av (cJ BL Ek bA) kB);let Dr:TS:=(av oK El);let wc:TS:=(av BI Dr);let wd:TS:=(av Ei wc);(av Ej wd) D σ H):(av Ej (av Ei (av BI (av oK (av (cJ BL (av lI (fD Eg Eh (av kA iJ))) bA) (av (cJ lH (fD nc ng d8) bA) dF)))))) D σ H:=h
abbrev eG:Stmt:=top 45
theorem wk:aM ["some"] ["some"] (af eG):=⟨rfl,rfl,rfl,by decide +kernel,rfl,by decide +kernel,by decide +kernel⟩
abbrev eV:Stmt:=top 47
theorem uS:aM ["found"] ["found"] (af eV):=⟨rfl,rfl,rfl,by decide +kernel,rfl,by decide +kernel,by decide +kernel⟩
abbrev eH:Stmt:=top 48
theorem wm:aM ["found","due"] ["found","due"] (af eH):=⟨rfl,rfl,rfl,by decide +kernel,rfl,by decide +kernel,by decide +kernel⟩
theorem wo{dF d8:TS}{lH:TT}{D:Ends}{σ:St}{H:Hp}(h:let dG:TS:=dF;let gq:TS:=d8;(av (cJ lH gq bA) dG) D σ H):(av (cJ lH d8 bA) dF) D σ H:=h
abbrev dI:Stmt:=top 49
theorem bM:aM ["web","ties","heads","tie","one","other","length","low","high"] ["web","ties"] (af dI):=⟨rfl,rfl,rfl,by decide +kernel,rfl,by decide +kernel,by decide +kernel⟩
theorem uT{dF d8 iJ kA lI oK:TS}{nc:TI}{ng:TG}{D:Ends}{σ:St}{H:Hp}(h:let dG:TS:=dF;let gq:TS:=d8;let jZ:TS:=(av iJ gq);let kB:TS:=(av kA jZ);let nh:TS:=(av lI kB);let ni:TS:=(av (fD nc ng nh) dG);(av oK ni) D σ H):(av oK (av (fD nc ng (av lI (av kA (av iJ d8)))) dF)) D σ H:=h
abbrev cy:Stmt:=top 50
theorem cM:aM ["web","heads","many","found","some","ties"] ["web"] (af cy):=⟨rfl,rfl,rfl,by decide +kernel,rfl,by decide +kernel,by decide +kernel⟩
theorem qP{dF d8 iJ kA lI oK:TS}{lH:TT}{nc:TI}{ng:TG}{D:Ends}{σ:St}{H:Hp}(h:let dG:TS:=dF;let gq:TS:=d8;let jZ:TS:=(cJ lH gq bA);let kB:TS:=(av iJ jZ);let nh:TS:=(av (fD nc ng kB) dG);let ni:TS:=(av kA nh);let v9:TS:=(av lI ni);(av oK v9) D σ H):(av oK (av lI (av kA (av (fD nc ng (av iJ (cJ lH d8 bA))) dF)))) D σ H:=h
abbrev fT:Stmt:=top 51
theorem iK:aM ["web","many","ties","k","one"] ["web","many"] (af fT):=⟨rfl,rfl,rfl,by decide +kernel,rfl,by decide +kernel,by decide +kernel⟩
theorem wq{dF d8 iJ kA:TS}{nc:TI}{ng:TG}{D:Ends}{σ:St}{H:Hp}(h:let dG:TS:=dF;let gq:TS:=d8;let jZ:TS:=(av iJ gq);let kB:TS:=(av (fD nc ng jZ) dG);(av kA kB) D σ H):(av kA (av (fD nc ng (av iJ d8)) dF)) D σ H:=h
abbrev cY:Stmt:=top 52
theorem dJ:aM ["way","web","caught","e","others"] ["way","web"] (af cY):=⟨rfl,rfl,rfl,by decide +kernel,rfl,by decide +kernel,by decide +kernel⟩
theorem qQ{dF d8 iJ kA lI oK BI:TS}{D:Ends}{σ:St}{H:Hp}(h:let dG:TS:=dF;let gq:TS:=(av d8 dG);let jZ:TS:=(av iJ gq);let kB:TS:=(av kA jZ);let nh:TS:=(av lI kB);let ni:TS:=(av oK nh);(av BI ni) D σ H):(av BI (av oK (av lI (av kA (av iJ (av d8 dF)))))) D σ H:=h
abbrev dM:Stmt:=top 53
theorem dW:aM ["script","head","points","ties","k","one"] ["script"] (af dM):=⟨rfl,rfl,rfl,by decide +kernel,rfl,by decide +kernel,by decide +kernel⟩
theorem uU{dF d8 iJ kA lI oK:TS}{nc:TI}{ng:TG}{D:Ends}{σ:St}{H:Hp}(h:let dG:TS:=dF;let gq:TS:=d8;let jZ:TS:=(av iJ gq);let kB:TS:=(av (fD nc ng jZ) dG);let nh:TS:=(av kA kB);let ni:TS:=(av lI nh);(av oK ni) D σ H):(av oK (av lI (av kA (av (fD nc ng (av iJ d8)) dF)))) D σ H:=h
abbrev nj:Stmt:=top 54
theorem iW:aM ["script","web","due","found","many","shown","great","twelve"] ["script"] (af nj):=⟨rfl,rfl,rfl,by decide +kernel,rfl,by decide +kernel,by decide +kernel⟩
theorem FN{dF d8 iJ kA lI oK BI Ei Ej HW BJ BK HX HY HZ:TS}{lH BL JF QN JG JH JI:TT}{nc:TI}{ng:TG}{D:Ends}{σ:St}{H:Hp}(h:let dG:TS:=dF;let gq:TS:=(av d8 dG);let jZ:TS:=iJ;let kB:TS:=(av (cJ lH jZ bA) gq);let nh:TS:=(av kA kB);let ni:TS:=lI;let v9:TS:=(av (cJ BL ni bA) nh);let Ek:TS:=oK;let El:TS:=(cJ JF Ek bA);let Dr:TS:=(av (fD nc ng El) v9);let wc:TS:=BI;let wd:TS:=Ei;let BN:TS:=(av (cJ JG wd bA) wc);let BO:TS:=(av Ej BN);let BP:TS:=HW;let Ia:TS:=(av (cJ JH BP bA) BO);let Ib:TS:=(av BJ Ia);let Ic:TS:=(av BK Ib);let Ie:TS:=HX;let FO:TS:=(av (cJ QN Ic Ie) Dr);let Ig:TS:=HY;let Ih:TS:=(av (cJ JI Ig bA) FO);(av HZ Ih) D σ H):(av HZ (av (cJ JI HY bA) (av (cJ QN (av BK (av BJ (av (cJ JH HW bA) (av Ej (av (cJ JG Ei bA) BI))))) HX) (av (fD nc ng (cJ JF oK bA)) (av (cJ BL lI bA) (av kA (av (cJ lH iJ bA) (av d8 dF)))))))) D σ H:=h
set_option genInjectivity false
set_option genSizeOf false
structure vd where
 jq:Addr
 lq:FuncData
 gS:Addr
 jr:FuncData
 cR:Addr
 dN:FuncData
 kG:Addr
 nk:FuncData
 gr:Addr
 iL:FuncData
 fu:Addr
 gI:FuncData
 cN:Addr
 dX:FuncData
 h8:Addr
 jt:FuncData
 qR:Addr
 uV:FuncData
 d9:Addr
 fX:FuncData
 ee:Addr
 fY:FuncData
 ef:Addr
 fZ:FuncData
 gu:Addr
 iM:FuncData
 dO:Addr
 fz:FuncData
 dP:Addr
 fB:FuncData
 eg:Addr
 gb:FuncData
 eW:Addr
 gw:FuncData
 gx:Addr
 iN:FuncData
 bH:Addr
 cg:FuncData
 cz:Addr
 cZ:FuncData
 bC:Addr
 bJ:FuncData
 dc:Addr
 ej:FuncData
 eI:Addr
 fU:FuncData
 eJ:Addr
 fV:FuncData
 ju:Addr
 lu:FuncData
 jv:Addr
 ly:FuncData
 ia:Addr
 jN:FuncData
 eX:Addr
 gy:FuncData
 ic:Addr
 jO:FuncData
 gz:Addr
 iO:FuncData
 eu:Addr
 gc:FuncData
 ie:Addr
 jP:FuncData
 ez:Addr
 gi:FuncData
 gA:Addr
 iP:FuncData
 BQ:Addr
 BR:FuncData
 oM:Addr
 wu:Addr
 cO:Addr
 qS:Addr
 tI:Addr
 tJ:Addr
 wz:Addr
 wA:Addr
 az:Addr
 wB:Addr
 wC:Addr
 tK:Addr
 wD:Addr
structure Txt(K:bF)(mg:iS)(a:vd):Prop where
 tL:jc K "has_tie" "has_tie" gP a.jq a.lq
 zZ:mg "has_tie"=some (.ref a.jq)
 z4:Binds K a.lq ["tie_set","tie"] []
 tM:jc K "ties_in" "ties_in" fP a.gS a.jr
 tN:mg "ties_in"=some (.ref a.gS)
 tO:Binds K a.jr ["tie_set"] []
 qT:jc K "all_ties" "all_ties" fQ a.cR a.dN
 ig:mg "all_ties"=some (.ref a.cR)
 ik:Binds K a.dN ["web"] []
 wF:jc K "is_set" "is_set" jo a.kG a.nk
 BS:mg "is_set"=some (.ref a.kG)
 BU:Binds K a.nk ["web","number"] []
 oN:jc K "check_set" "check_set" eN a.gr a.iL
 wG:mg "check_set"=some (.ref a.gr)
 wH:Binds K a.iL ["web","tie_set"] []
 nq:jc K "triples_in" "triples_in" cQ a.fu a.gI
 uW:mg "triples_in"=some (.ref a.fu)
 uX:Binds K a.gI ["web","tie_set"] []
 jw:jc K "drawn_together" "drawn_together" bE a.cN a.dX
 oh:mg "drawn_together"=some (.ref a.cN)
 oi:Binds K a.dX ["leasts","one","other"] []
 wI:jc K "pieces" "pieces" hU a.h8 a.jt
 nt:mg "pieces"=some (.ref a.h8)
 nu:Binds K a.jt ["web","tie_set"] []
 BV:jc K "rank" "rank" n8 a.qR a.uV
 BW:mg "rank"=some (.ref a.qR)
 BX:Binds K a.uV ["web"] []
 lJ:jc K "row_to_lead" "row_to_lead" cU a.d9 a.fX
 rX:mg "row_to_lead"=some (.ref a.d9)
 rY:Binds K a.fX ["rows","step"] []
 lK:jc K "row_cleared" "row_cleared" cj a.ee a.fY
 rZ:mg "row_cleared"=some (.ref a.ee)
 r6:Binds K a.fY ["row","lead_row","step","divisor"] []
 lM:jc K "determinant" "determinant" cV a.ef a.fZ
 r9:mg "determinant"=some (.ref a.ef)
 sd:Binds K a.fZ ["table"] []
 oO:jc K "is_forest" "is_forest" eS a.gu a.iM
 wJ:mg "is_forest"=some (.ref a.gu)
 wK:Binds K a.iM ["web","tie_set"] []
 kH:jc K "ties_between" "ties_between" bU a.dO a.fz
 qU:mg "ties_between"=some (.ref a.dO)
 qV:Binds K a.fz ["web","one","other"] []
 kI:jc K "points_table" "points_table" bw a.dP a.fB
 qW:mg "points_table"=some (.ref a.dP)
 qX:Binds K a.fB ["web"] []
 lN:jc K "forest_many" "forest_many" cW a.eg a.gb
 iX:mg "forest_many"=some (.ref a.eg)
 iY:Binds K a.gb ["web"] []
 oQ:jc K "check_few" "check_few" eT a.eW a.gw
 oR:mg "check_few"=some (.ref a.eW)
 oS:Binds K a.gw ["web"] []
 oU:jc K "end_moved" "end_moved" eU a.gx a.iN
 oV:mg "end_moved"=some (.ref a.gx)
 oW:Binds K a.iN ["end","one","other"] []
 gB:jc K "web_drawn_together" "web_drawn_together" aT a.bH a.cg
 kJ:mg "web_drawn_together"=some (.ref a.bH)
 kK:Binds K a.cg ["web","one","other"] []
 lO:jc K "taken_apart" "taken_apart" cX a.cz a.cZ
 iZ:mg "taken_apart"=some (.ref a.cz)
 i0:Binds K a.cZ ["web"] []
 gE:jc K "forests_by_taking" "forests_by_taking" bB a.bC a.bJ
 cG:mg "forests_by_taking"=some (.ref a.bC)
 cH:Binds K a.bJ ["web"] []
 lP:jc K "all_forests" "all_forests" ck a.dc a.ej
 i3:mg "all_forests"=some (.ref a.dc)
 i4:Binds K a.ej ["web"] []
 qY:jc K "_law_cell" "_law_cell" fR a.eI a.fU
 jQ:mg "_law_cell"=some (.ref a.eI)
 jR:Binds K a.fU ["script","k"] []
 qZ:jc K "_law_stir" "_law_stir" fS a.eJ a.fV
 iq:mg "_law_stir"=some (.ref a.eJ)
 ir:Binds K a.fV ["cell","k"] []
 tP:jc K "_law_tie" "_law_tie" gQ a.ju a.lu
 tQ:mg "_law_tie"=some (.ref a.ju)
 tR:Binds K a.lu ["c","points","times"] []
 tS:jc K "_law_web" "_law_web" gR a.jv a.ly
 z5:mg "_law_web"=some (.ref a.jv)
 z7:Binds K a.ly ["script","most"] []
 q5:jc K "_law_ties" "_law_ties" eG a.ia a.jN
 xT:mg "_law_ties"=some (.ref a.ia)
 xU:Binds K a.jN ["some"] []
 oX:jc K "_law_whole" "_law_whole" eV a.eX a.gy
 kL:mg "_law_whole"=some (.ref a.eX)
 kM:Binds K a.gy ["found"] []
 q9:jc K "_law_list" "_law_list" eH a.ic a.jO
 rf:mg "_law_list"=some (.ref a.ic)
 rg:Binds K a.jO ["found","due"] []
 oY:jc K "_law_heads" "_law_heads" dI a.gz a.iO
 oZ:mg "_law_heads"=some (.ref a.gz)
 o4:Binds K a.iO ["web","ties"] []
 lQ:jc K "_law_forests" "_law_forests" cy a.eu a.gc
 se:mg "_law_forests"=some (.ref a.eu)
 sf:Binds K a.gc ["web"] []
 rh:jc K "_law_many" "_law_many" fT a.ie a.jP
 rj:mg "_law_many"=some (.ref a.ie)
 rm:Binds K a.jP ["web","many"] []
 lR:jc K "_law_refused" "_law_refused" cY a.ez a.gi
 lS:mg "_law_refused"=some (.ref a.ez)
 lT:Binds K a.gi ["way","web"] []
 o5:jc K "_law_round" "_law_round" dM a.gA a.iP
 wL:mg "_law_round"=some (.ref a.gA)
 wM:Binds K a.iP ["script"] []
 Ii:jc K "law" "law" nj a.BQ a.BR
 QO:mg "law"=some (.ref a.BQ)
 QS:Binds K a.BR ["script"] []
 uY:mg "ValueError"=none
 FP:mg "bool"=none
 Em:mg "int"=none
 aR:mg "isinstance"=none
 dY:mg "len"=none
 oj:mg "list"=none
 BY:mg "max"=none
 yY:mg "min"=none
 bN:mg "range"=none
 pX:mg "tuple"=none
 En:mg "zip"=none
 uZ:∃ t,mg "MOST_TAKEN"=some (.int 12 t)
 wN:mg "RingError"=some (.ref a.oM)
 BZ:mg "BadWeb"=some (.ref a.wu)
 B0:mg "BadSet"=some (.ref a.cO)
 xV:mg "BadPoint"=some (.ref a.qS)
 z8:mg "NotRing"=some (.ref a.tI)
 z9:mg "NoChord"=some (.ref a.tJ)
 B3:mg "NoBase"=some (.ref a.wz)
 B4:mg "NoSuch"=some (.ref a.wA)
 Aa:mg "TooMany"=some (.ref a.az)
 B5:mg "BadRow"=some (.ref a.wB)
 B6:mg "NoDeed"=some (.ref a.wC)
 Ab:mg "NotEven"=some (.ref a.tK)
 B7:mg "NoText"=some (.ref a.wD)
 B8:∀ h:Heap,K.In h->h.Ns mainGlobals mg->PyProof.Rows.OwnCls "BadSet" a.cO [.type "ValueError",.type "Exception",.type "BaseException",.type "object"] "ValueError.__new__" mg h
 Ac:∀ h:Heap,K.In h->h.Ns mainGlobals mg->PyProof.Rows.OwnCls "TooMany" a.az [.type "ValueError",.type "Exception",.type "BaseException",.type "object"] "ValueError.__new__" mg h
 bR:uw K a.az
 Ad:PySem.W.exmOne K (.ref a.az) (.ref a.oM)=some true
 xW:PySem.W.kitOne K (.ref a.az) (.type "ValueError")=some true
 q_TooMany_BadWeb:PySem.W.kitOne K (.ref a.az) (.ref a.wu)=some false
 q_TooMany_BadSet:PySem.W.kitOne K (.ref a.az) (.ref a.cO)=some false
 q_TooMany_BadPoint:PySem.W.kitOne K (.ref a.az) (.ref a.qS)=some false
 q_TooMany_NotRing:PySem.W.kitOne K (.ref a.az) (.ref a.tI)=some false
 q_TooMany_NoChord:PySem.W.kitOne K (.ref a.az) (.ref a.tJ)=some false
 q_TooMany_NoBase:PySem.W.kitOne K (.ref a.az) (.ref a.wz)=some false
 q_TooMany_NoSuch:PySem.W.kitOne K (.ref a.az) (.ref a.wA)=some false
 q_TooMany_TooMany:PySem.W.kitOne K (.ref a.az) (.ref a.az)=some true
 q_TooMany_BadRow:PySem.W.kitOne K (.ref a.az) (.ref a.wB)=some false
 q_TooMany_NoDeed:PySem.W.kitOne K (.ref a.az) (.ref a.wC)=some false
 q_TooMany_NotEven:PySem.W.kitOne K (.ref a.az) (.ref a.tK)=some false
 q_TooMany_NoText:PySem.W.kitOne K (.ref a.az) (.ref a.wD)=some false
section
variable {K:bF}{mg:iS}{a:vd}
theorem Txt.Ae(T:Txt K mg a):PySem.W.keepIn K (.ref a.jq)=true:=T.tL.kp
theorem Txt.tT(T:Txt K mg a):PySem.W.keepIn K (.ref a.gS)=true:=T.tM.kp
theorem Txt.iu(T:Txt K mg a):PySem.W.keepIn K (.ref a.cR)=true:=T.qT.kp
theorem Txt.B9(T:Txt K mg a):PySem.W.keepIn K (.ref a.kG)=true:=T.wF.kp
theorem Txt.wO(T:Txt K mg a):PySem.W.keepIn K (.ref a.gr)=true:=T.oN.kp
theorem Txt.u0(T:Txt K mg a):PySem.W.keepIn K (.ref a.fu)=true:=T.nq.kp
theorem Txt.om(T:Txt K mg a):PySem.W.keepIn K (.ref a.cN)=true:=T.jw.kp
theorem Txt.nv(T:Txt K mg a):PySem.W.keepIn K (.ref a.h8)=true:=T.wI.kp
theorem Txt.Ca(T:Txt K mg a):PySem.W.keepIn K (.ref a.qR)=true:=T.BV.kp
theorem Txt.sj(T:Txt K mg a):PySem.W.keepIn K (.ref a.d9)=true:=T.lJ.kp
theorem Txt.sq(T:Txt K mg a):PySem.W.keepIn K (.ref a.ee)=true:=T.lK.kp
theorem Txt.sr(T:Txt K mg a):PySem.W.keepIn K (.ref a.ef)=true:=T.lM.kp
theorem Txt.wQ(T:Txt K mg a):PySem.W.keepIn K (.ref a.gu)=true:=T.oO.kp
theorem Txt.rq(T:Txt K mg a):PySem.W.keepIn K (.ref a.dO)=true:=T.kH.kp
theorem Txt.rz(T:Txt K mg a):PySem.W.keepIn K (.ref a.dP)=true:=T.kI.kp
theorem Txt.i5(T:Txt K mg a):PySem.W.keepIn K (.ref a.eg)=true:=T.lN.kp
theorem Txt.o6(T:Txt K mg a):PySem.W.keepIn K (.ref a.eW)=true:=T.oQ.kp
theorem Txt.o7(T:Txt K mg a):PySem.W.keepIn K (.ref a.gx)=true:=T.oU.kp
theorem Txt.kN(T:Txt K mg a):PySem.W.keepIn K (.ref a.bH)=true:=T.gB.kp
theorem Txt.i6(T:Txt K mg a):PySem.W.keepIn K (.ref a.cz)=true:=T.lO.kp
theorem Txt.cI(T:Txt K mg a):PySem.W.keepIn K (.ref a.bC)=true:=T.gE.kp
theorem Txt.i7(T:Txt K mg a):PySem.W.keepIn K (.ref a.dc)=true:=T.lP.kp
theorem Txt.jS(T:Txt K mg a):PySem.W.keepIn K (.ref a.eI)=true:=T.qY.kp
theorem Txt.iw(T:Txt K mg a):PySem.W.keepIn K (.ref a.eJ)=true:=T.qZ.kp
theorem Txt.tU(T:Txt K mg a):PySem.W.keepIn K (.ref a.ju)=true:=T.tP.kp
theorem Txt.Af(T:Txt K mg a):PySem.W.keepIn K (.ref a.jv)=true:=T.tS.kp
theorem Txt.xX(T:Txt K mg a):PySem.W.keepIn K (.ref a.ia)=true:=T.q5.kp
theorem Txt.kO(T:Txt K mg a):PySem.W.keepIn K (.ref a.eX)=true:=T.oX.kp
theorem Txt.rA(T:Txt K mg a):PySem.W.keepIn K (.ref a.ic)=true:=T.q9.kp
theorem Txt.o8(T:Txt K mg a):PySem.W.keepIn K (.ref a.gz)=true:=T.oY.kp
theorem Txt.sy(T:Txt K mg a):PySem.W.keepIn K (.ref a.eu)=true:=T.lQ.kp
theorem Txt.rB(T:Txt K mg a):PySem.W.keepIn K (.ref a.ie)=true:=T.rh.kp
theorem Txt.lU(T:Txt K mg a):PySem.W.keepIn K (.ref a.ez)=true:=T.lR.kp
theorem Txt.wR(T:Txt K mg a):PySem.W.keepIn K (.ref a.gA)=true:=T.o5.kp
end
def rC:Sp:=fun vs H Q _=>∃(S:Int) (k:Nat),vs=[.int S,.int (k:Int)]/\Q (.bl (bit S k)) H
def mF:Sp:=fun vs H Q _=>∃ m:Nat,vs=[.int (m:Int)]/\Builtin.Int.intBits (m:Int)<=1000/\∀ D H',H D=none->ao H H'->H' D=some (.lst (bh (dw (m:Int))))->Q (.ref D) H'
def eY:Sp:=fun vs H Q _=>∃ w p ts,vs=[.ref w]/\bI H w p ts/\HK p ts/\Q (.int (2^ts.length-1)) H
def tV:Sp:=fun vs H Q _=>∃ w p ts S,vs=[.ref w,.int S]/\bI H w p ts/\HK p ts/\Q (.bl (decide (0<=S/\S<2^ts.length))) H
def yZ(ts:List dZ)(S:Int)(bad:Prop)(R:Nat->Prop):Prop:=(∃ m:Nat,S=(m:Int)/\m<2^ts.length/\R m)\/((S<0\/2^ts.length<=S)/\bad)
def ny(C:Addr):Sp:=fun vs H Q E=>∃ w p ts S,vs=[.ref w,.int S]/\bI H w p ts/\HK p ts/\yZ ts S (E (.ref C) none H) fun _=>Q .fH H
def lV(C:Addr):Sp:=fun vs H Q E=>∃ w p ts S,vs=[.ref w,.int S]/\bI H w p ts/\HK p ts/\yZ ts S (E (.ref C) none H) fun m =>
 ∀ D ys H',H D=none->ao H H'->H' D=some (.lst ys)->Paired (TupAt H') ys ((dw (m:Int)).map (fF ts))->Q (.ref D) H'
section
variable {P:Program}{w:World}{K:bF}{mg:iS}{base:Heap}{a:vd}
theorem oq(T:Txt K mg a):aN P w K mg base dm 1 a.jq a.lq ["tie_set","tie"] rC:=by
 refine T.tL.ok xP (fun vs H Q E h=>?_) (fun cdv A outer s H vs Q E hr h=>?_)
 ·obtain⟨S,k,rfl,_⟩:=h;rfl
 ·obtain⟨S,k,rfl,q⟩:=h;refine⟨_,(aq (aO (gF gp (aE EL (aE AA (pv 0) (pv 1)) ah) ah (aX _)))),?_⟩;refine(ak rfl (ak rfl (bX ⟨(by lia),bX ⟨rfl,?_⟩⟩)))
  rw[Int.toNat_natCast,Fv];exact q
theorem gU(T:Txt K mg a):aN P w K mg base dm 2 a.gS a.jr ["tie_set"] mF:=by
 have oq:aN P w K mg base dm 1 a.jq a.lq ["tie_set","tie"] rC:=oq T;refine T.tM.ok xQ (fun vs H Q E h=>?_) (fun cdv A outer s H vs Q E hr h=>?_)
 ·obtain⟨m,rfl,_⟩:=h;rfl
 ·obtain⟨m,rfl,hm,k⟩:=h;refine⟨_,(aq (aO (dU (own:=["tie"]) (fq:=["tie_set"]) (js:=[0]) (aQ (af fP) ["tie_set"]) rfl (bO (by rfl) T.bN (aa (AJ PySem.F.plainAttrs_int PyProof.Rows.slot_int_bit_length PyProof.Rows.type_int_bit_length yl (pv 0)) ae)) (fun _ _ _ _=>(aJ (i:=0) (show(["tie","tie_set"]:List Str).Nodup by decide +kernel) rfl (Or.inl rfl))) (fun _ _ _ _=>(gH (gV (ay oq (hr.mono (by decide)) (by rfl) T.zZ T.Ae T.z4 .nil aU (aa (pv 1) (aa (pv 0) ae)))))) (fun _ _ _ _=>(pv 0))))),?_⟩
  refine(ak rfl ⟨rfl,ak rfl ⟨rfl,ak rfl ⟨(by lia),(by lia),fun D hD=>eF (lo:=0) (m:=Builtin.Int.intBits (m:Int)) (lD (bit (m:Int)) H D) (.start hD) (fun i acc H2 _ p=>p.len) (dl (Nat.ble_eq.mpr hm)) ?_ ?_⟩⟩⟩)
  ·intro i acc H2 hi p;rw[Int.zero_add];refine⟨rfl,ak rfl (ak rfl ⟨(m:Int),i,rfl,ak rfl (?_)⟩)⟩;cases hb:bit (m:Int) i with
   | true=>exact(ak rfl (p.yes hD (ao.refl _) hb))
   | false=>exact p.no (ao.refl _) hb
  ·intro acc H2 p;exact k D H2 hD p.1 (by rw[p.2.1,p.2.2];rfl)
theorem bz(T:Txt K mg a):aN P w K mg base dm 1 a.cR a.dN ["web"] eY:=by
 refine T.qT.ok vZ (fun vs H Q E h=>?_) (fun cdv A outer s H vs Q E hr h=>?_)
 ·obtain⟨w,p,ts,rfl,_⟩:=h;rfl
 ·obtain⟨wb,p,ts,rfl,hw,W,q⟩:=h;refine⟨_,(aq (aO (aE iT (aE Az ah (aB (iC K) (by rfl) T.dY PySem.boot_len (aa (aI (jx K) (pv 0) ah (fun _ _=>rfl)) ae))) ah))),?_⟩
  obtain⟨b,xs,h1,h2,h3⟩:=hw.ex;have hl:=h3.length;have wl:=W.len;refine(ak rfl (jy (cE.of h1) (au (j:=1) rfl) (pW rfl (.inr (cE.of h2)) (bX ⟨⟨by lia,by lia,by decide⟩,bX (?_)⟩))))
  rw[Int.toNat_natCast,hl,Int.one_mul];exact q
theorem rD(T:Txt K mg a):aN P w K mg base dm 2 a.kG a.nk ["web","number"] tV:=by
 have bz:aN P w K mg base dm 1 a.cR a.dN ["web"] eY:=bz T;refine T.wF.ok zX (fun vs H Q E h=>?_) (fun cdv A outer s H vs Q E hr h=>?_)
 ·obtain⟨w,p,ts,S,rfl,_⟩:=h;rfl
 ·obtain⟨wb,p,ts,S,rfl,hw,W,q⟩:=h;refine⟨_,(aq (aO (qb (gF GY (pv 1) ah (aX _)) (ud (gF GX (pv 1) (ay bz (hr.mono (by decide)) (by rfl) T.ig T.iu T.ik .nil aU (aa (pv 0) ae)) (aX _)))))),?_⟩
  refine(ak rfl (bX (ak rfl (ur (fun hlt=>?_) (fun hlt=>?_)))))
  ·have hlt:0<=S:=Am hlt;refine(ak rfl (ak rfl ⟨wb,p,ts,rfl,hw,W,_,_,rfl,rfl,?_⟩));have e:decide (S<=2^ts.length-1)=decide (0<=S/\S<2^ts.length):=decide_eq_decide.mpr ⟨fun z=>⟨hlt,by lia⟩,fun z=>by lia⟩
   rw[<-e]at q;exact q
  ·have hlt : ¬ 0<=S:=fun z=>hlt (gC z)
   rw[j9 (fun z=>hlt z.1)]at q
   exact q
theorem kP(T:Txt K mg a):aN P w K mg base (lG P w) 3 a.gr a.iL ["web","tie_set"] (ny a.cO):=by
 have rD:aN P w K mg base dm 2 a.kG a.nk ["web","number"] tV:=rD T;refine T.oN.Ff uM (fun vs H Q E h=>?_) (fun cdv A outer s H vs Q E hr h=>?_)
 ·obtain⟨w,p,ts,S,rfl,_⟩:=h;rfl
 ·obtain⟨wb,p,ts,S,rfl,hw,W,q⟩:=h;refine⟨_,(aq (d7 (jz (gV (ay rD (hr.mono (by decide)) (by rfl) T.BS T.B9 T.BU .nil aU (aa (pv 0) (aa (pv 1) ae))))) (aq (vy ko.Qt rfl (by rfl) T.B8 PySem.F.excBase_ValueError (aa Av ae))) bK)),?_⟩
  refine uN ?_;intro dG;refine(ak rfl (ak rfl ⟨wb,p,ts,S,rfl,hw,W,?_⟩));have h2:((2:Int)^ts.length)=((2^ts.length:Nat):Int):=by simp
  rcases q with⟨m,rfl,hm,q⟩|⟨hS,q⟩
  ·rw[gC ⟨by lia,by lia⟩]
   exact(ak rfl (fK q))
  ·rw[j9 (by lia)]
   exact(ak rfl (ki ⟨dl rfl,q⟩))
theorem jT(T:Txt K mg a):aN P w K mg base (lG P w) 4 a.fu a.gI ["web","tie_set"] (lV a.cO):=by
 have kP:aN P w K mg base (lG P w) 3 a.gr a.iL ["web","tie_set"] (ny a.cO):=kP T;have gU:aN P w K mg base dm 2 a.gS a.jr ["tie_set"] mF:=gU T;refine T.nq.Ff rV (fun vs H Q E h=>?_) (fun cdv A outer s H vs Q E hr h=>?_)
 ·obtain⟨w,p,ts,S,rfl,_⟩:=h;rfl
 ·obtain⟨wb,p,ts,S,rfl,hw,W,q⟩:=h;refine⟨_,(ai (cF (ay kP (hr.mono (by decide)) (by rfl) T.wG T.wO T.wH .nil ko.passes (aa (pv 0) (aa (pv 1) ae))))
   (aq (aO (dU (own:=["tie"]) (fq:=["web"]) (js:=[0]) (aQ (af cQ) ["web","tie_set"]) rfl (AU K (ay gU (hr.mono (by decide)) (by rfl) T.tN T.tT T.tO .nil aU (aa (pv 1) ae))) (fun _ _ _ _=>(aJ (i:=0) (show(["tie","web"]:List Str).Nodup by decide +kernel) rfl (Or.inl rfl))) (fun _ _ _ _=>gG) (fun _ _ _ _=>(aI (jx K) (aI (jx K) (pv 1) ah (fun _ _=>rfl)) (pv 0) (fun _ _=>rfl))))))),?_⟩
  refine rW ?_;intro dG;refine(ak rfl (ak rfl ⟨wb,p,ts,S,rfl,hw,W,?_⟩));rcases q with⟨m,rfl,hm,q⟩|⟨hS,q⟩
  ·refine .inl ⟨m,rfl,hm,?_⟩;have wl:=W.len;have hb:Builtin.Int.intBits (m:Int)<=ts.length:=bits_le hm;refine(ak rfl ⟨m,rfl,by lia,fun L H1 _ s1 hL=>⟨L,rfl,⟨_,bg.of hL⟩,fun D hD=>?_⟩⟩)
   obtain⟨b,xs,h1,h2,h3⟩:=(hw.same s1).ex;have u3:=h3.length;refine fL (xs:=bh (dw (m:Int))) (fun i acc H2=>ao H1 H2/\H2 D=some (.lst acc)/\Paired (TupAt H2) acc (((dw (m:Int)).take i).map (fF ts))/\acc.length=i) ⟨ao.new hD,aj,.nil,rfl⟩ ?_ ?_ ?_ ?_
   ·rintro i acc H2 _ ⟨s2,hd,pr,hac⟩;exact⟨bg.of (s2 _ _ hL),hd,Nat.le_of_eq hac⟩
   ·rw[bj];refine dl (Nat.ble_eq.mpr (Nat.le_trans (List.length_filter_le _ _) ?_));rw[List.length_range]
    lia
   ·rintro i x acc H2 hx ⟨s2,hd,pr,hac⟩;obtain⟨k,hk,rfl⟩:=gK hx;have vo:k<ts.length:=uy hm (Cy hk);have hkx:k<xs.length:=by lia
    obtain⟨t,ht,c,hc,hct⟩:=Paired.rR h3 (i:=k) (x:=xs[k]) (by simp[hkx])
    have LH:fF ts k=t:=by
     unfold fF;rw[List.getD_eq_getElem?_getD,ht];rfl
    refine⟨rfl,ak rfl (jy (cE.of (s2 _ _ h1)) (au (j:=1) rfl) (ak rfl (jy (v:=xs[k]) (cE.of (s2 _ _ h2)) (au (j:=k) (by simp[hkx])) (?_))))⟩
    rw[hc];refine⟨hd,s2.put hD,aj,?_,by rw[List.length_append,List.length_singleton,hac]⟩
    rw[List.take_add_one,hk,List.map_append];refine Paired.snoc (Paired.imp' (fun _ _ z=>z.tups (nS.put hd)) pr) ?_
    rw[LH];exact⟨c,rfl,nS.put hd _ _ (s2 _ _ hct)⟩
   ·rintro acc H2 ⟨s2,hd,pr,hac⟩;rw[bj,List.take_length]at pr;exact q D acc H2 (s1.free hD) (s1.trans s2) hd pr
  ·exact .inr ⟨hS,q⟩
end
def wU:Sp:=fun vs H Q _=>∃(l:Addr) (L:Nat->Nat) (p u v:Nat),vs=[.ref l,.int (u:Int),.int (v:Int)]/\H l=some (.lst (g7 L p))/\p<=10/\u<p/\v<p/\
 ∀ D H',H D=none->ao H H'->H' D=some (.lst (g7 (RM.join L u v) p))->Q (.ref D) H'
def lz(C:Addr):Sp:=fun vs H Q E=>∃ w p ts,∃ g:aD p ts,∃ S,vs=[.ref w,.int S]/\bI H w p ts/\yZ ts S (∀ H',ao H H'->E (.ref C) none H') fun m =>
 ∀ D ys H',H D=none->ao H H'->H' D=some (.lst ys)->Paired (yx D H H') ys ((bG (aZ p ts g m) p).map (pieceOf (aZ p ts g m) p))->Q (.ref D) H'
def y9:Sp:=fun vs H Q _=>∃ w p ts,∃ g:aD p ts,vs=[.ref w]/\bI H w p ts/\∀ H',ao H H'->Q (.int (g.N.br.length:Int)) H'
section
variable {P:Program}{w:World}{K:bF}{mg:iS}{base:Heap}{a:vd}
theorem fW(T:Txt K mg a):aN P w K mg base dm 1 a.cN a.dX ["leasts","one","other"] wU:=by
 refine T.jw.ok fm (fun vs H Q E h=>?_) (fun cdv A outer s H vs Q E hr h=>?_)
 ·obtain⟨l,L,p,u,v,rfl,_⟩:=h;rfl
 ·obtain⟨l,L,p,u,v,rfl,hl,hp,hu,hv,q⟩:=h;refine⟨_,(ai (aG (i:=3) fm.nd rfl (Or.inr rfl) (aB (nP rfl) (by rfl) T.yY PyProof.Rows.boot_min (aa (aI (nI K) (pv 0) (pv 1) (fun _ _=>rfl)) (aa (aI (nI K) (pv 0) (pv 2) (fun _ _=>rfl)) ae))))
   (ai (aG (i:=4) fm.nd rfl (Or.inr rfl) (aB (nO rfl) (by rfl) T.BY PyProof.Rows.boot_max (aa (aI (nI K) (pv 0) (pv 1) (fun _ _=>rfl)) (aa (aI (nI K) (pv 0) (pv 2) (fun _ _=>rfl)) ae))))
   (aq (aO (dU (own:=["least"]) (fq:=["low","high"]) (js:=[3,4]) (aQ (af bE) ["leasts","one","other","low","high"]) rfl (AU K (pv 0)) (fun _ _ _ _=>(aJ (i:=0) (show(["least","low","high"]:List Str).Nodup by decide +kernel) rfl (Or.inl rfl))) (fun _ _ _ _=>gG) (fun _ _ _ _=>(qd (aV gp (pv 0) (pv 2) (aX _)) (pv 1) (pv 0)))))))),?_⟩
  refine m9 ?_;intro dG gq;refine(ak rfl (ak rfl (pI (bg.of hl) (au (j:=u) (cT hu)) (ak rfl (ak rfl (pI (bg.of hl) (au (j:=v) (cT hv)) ⟨_,_,rfl,?_⟩))))));refine(ak rfl (ak rfl (pI (bg.of hl) (au (j:=u) (cT hu)) (ak rfl (ak rfl (pI (bg.of hl) (au (j:=v) (cT hv)) ⟨_,_,rfl,?_⟩))))));refine(ak rfl ⟨l,rfl,⟨_,bg.of hl⟩,fun D hD=>fL (xs:=g7 L p) (uF (RM.join L u v) H D) (.start hD) (fun i acc H2 _ pd=>⟨bg.of (pd.1 _ _ hl),pd.len⟩) (by rw[jk];exact dl (Nat.ble_eq.mpr (by lia))) ?_ ?_⟩)
  ·intro i x acc H2 hx pd;obtain⟨hi,rfl⟩:=yw hx;refine⟨rfl,ak rfl (ak rfl ⟨rfl,ak rfl (?_)⟩)⟩;rw[yz,jH]
   by_cases hm:L i=max (L u) (L v)
   ·rw[gC hm];refine ki (ak rfl (pd.next hD (ao.refl _) ?_));rw[yy];unfold RM.join;rw[if_pos hm]
   ·rw[j9 hm];refine fK (ak rfl (pd.next hD (ao.refl _) ?_));unfold RM.join;rw[if_neg hm]
  ·intro acc H2 pd;rw[jk]at pd;exact q D H2 hD pd.1 (by rw[pd.2.1,pd.2.2])
theorem eA(T:Txt K mg a):aN P w K mg base (lG P w) 5 a.h8 a.jt ["web","tie_set"] (lz a.cO):=by
 have jT:aN P w K mg base (lG P w) 4 a.fu a.gI ["web","tie_set"] (lV a.cO):=jT T;have fW:aN P w K mg base dm 1 a.cN a.dX ["leasts","one","other"] wU:=fW T;refine T.wI.Ff eO (fun vs H Q E h=>?_) (fun cdv A outer s H vs Q E hr h=>?_)
 ·obtain⟨w,p,ts,g,S,rfl,_⟩:=h;rfl
 ·obtain⟨wb,p,ts,g,S,rfl,hw,q⟩:=h;refine⟨_,(ai (aG (i:=2) eO.nd rfl (Or.inr rfl) (bP (A6 rfl) (by rfl) T.oj PyProof.Rows.boot_list (aa (bP qm (by rfl) T.bN PyProof.Rows.boot_range (aa (aI (jx K) (pv 0) ah (fun _ _=>rfl)) ae)) ae)))
   (ai (yq rfl (AU K (ay jT (hr.mono (by decide)) (by rfl) T.uW T.u0 T.uX .nil ko.passes (aa (pv 0) (aa (pv 1) ae)))) (Hz K (n:=3) rfl (cS (aJ (i:=3) eO.nd rfl (Or.inl rfl)) (cS (aJ (i:=4) eO.nd rfl (Or.inl rfl)) (cS (aJ (i:=5) eO.nd rfl (Or.inl rfl)) mK))))
   (aq (aG (i:=2) eO.nd rfl (Or.inr rfl) (ay fW (hr.mono (by decide)) (by rfl) T.oh T.om T.oi .nil aU (aa (pv 2) (aa (pv 3) (aa (pv 4) ae)))))))
   (ai (aG (i:=6) eO.nd rfl (Or.inl rfl) (g5 ae))
   (ai (yq rfl (bO (by rfl) T.bN (aa (aI (jx K) (pv 0) ah (fun _ _=>rfl)) ae)) (aJ (i:=7) eO.nd rfl (Or.inr rfl))
   (aq (d7 (aV gp (aI (nI K) (pv 2) (pv 7) (fun _ _=>rfl)) (pv 7) (aX _)) (aq (cF (BH K (kh PySem.F.plainAttrs_list PySem.F.slot_list_append PySem.F.type_list_append dS (pv 6) (aa (dU (own:=["point"]) (fq:=["leasts","start"]) (js:=[2,7]) (aQ (af hU) ["web","tie_set","leasts","one","other","length","found","start"]) rfl (bO (by rfl) T.bN (aa (aI (jx K) (pv 0) ah (fun _ _=>rfl)) ae)) (fun _ _ _ _=>(aJ (i:=0) (show(["point","leasts","start"]:List Str).Nodup by decide +kernel) rfl (Or.inl rfl))) (fun _ _ _ _=>(gH (aV gp (aI (nI K) (pv 1) (pv 0) (fun _ _=>rfl)) (pv 2) (aX _)))) (fun _ _ _ _=>(pv 0))) ae))))) bK)))
   (aq (aO (pv 6))))))),?_⟩
  refine zY ?_;intro dG gq jZ kB nh ni v9;obtain⟨b,xs,h1,h2,h3⟩:=id hw.ex;have W:=g.HL;have wp:=W.SE;have wl:=W.len;refine(ak rfl (jy (cE.of h1) (au (j:=0) rfl) (ak rfl (fun r hr=>⟨r,p,rfl,aj,by lia,fun l hl=>?_⟩))))
  have s1:ao H (upd (upd H r (.wX 0 (p:Int))) l (.lst (nW p))):=(ao.new hr).trans (ao.new hl);have hl1:upd (upd H r (.wX 0 (p:Int))) l (.lst (nW p)) l=some (.lst (g7 (fun x=>x) p)):=aj
  generalize upd (upd H r (.wX 0 (p:Int))) l (.lst (nW p))=H1 at s1 hl1;refine(ak rfl (ak rfl ⟨wb,p,ts,S,rfl,hw.same s1,W,?_⟩));rcases q with⟨m,rfl,hm,q⟩|⟨hS,q⟩
  ·refine .inl ⟨m,rfl,hm,fun T0 ys H2 Qx s2 hT pr=>⟨T0,rfl,⟨_,bg.of hT⟩,?_⟩⟩
   have Gs:ys.length<=24:=by
    rw[pr.length,List.length_map];have hb:Builtin.Int.intBits (m:Int)<=ts.length:=bits_le hm;have:=List.length_filter_le (bit (m:Int)) (List.range (Builtin.Int.intBits (m:Int)));rw[List.length_range]at this;exact Nat.le_trans this (by lia)
   refine tH (K:=K) (a:=T0) (xs:=ys) (fun i σ H3=>∃ la v3 v4 v5,σ=[some (.ref wb),some (.int (m:Int)),some (.ref la),v3,v4,v5,none,none]/\ao H2 H3/\H3 la=some (.lst (g7 (iH p ts g ((dw (m:Int)).take i)) p)))
    ⟨l,none,none,none,rfl,ao.refl _,s2 _ _ hl1⟩ (fun i σ H3 _ ⟨_,_,_,_,_,z,_⟩=>bg.of (z _ _ hT)) ?_ ?_
   ·rintro i y D' σ H3 hi ⟨la,v3,v4,v5,rfl,s3,hla⟩;obtain⟨t,ht,c,rfl,hc⟩:=Paired.rR pr hi;have hc3:=s3 _ _ hc;rw[List.getElem?_map]at ht;obtain⟨k,hk,hkt⟩:=Gz.mp ht;have vo:=uy hm (Cy hk);have ea:=D8 (g:=g) vo;have eb:=D9 (g:=g) vo;rw[hkt]at ea eb;have la':=g.N.al k vo;have lb':=g.N.bl k vo;refine⟨c,_,rfl,cE.of hc3,rfl,_,_,rfl,_,_,rfl,_,_,rfl,rfl,?_⟩;refine(ak rfl (ak rfl (ak rfl ⟨la,iH p ts g ((dw (m:Int)).take i),p,g.N.a k,g.N.b k,?_,hla,wp,la',lb',fun D H4 LI s4 hD=>?_⟩)))
    ·rw[<-ea,<-eb];rfl
    ·refine⟨D,_,_,_,rfl,s3.trans s4,?_⟩;rw[hD,List.take_add_one,hk];show _=some (HO.lst (g7 (iH p ts g ((dw (m:Int)).take i++[k])) p));rw[qx]
   ·rintro σ H3 ⟨la,v3,v4,v5,rfl,s3,hla⟩;have hys:ys.length=(dw (m:Int)).length:=by rw[pr.length,List.length_map]
    rw[hys,List.take_length,mw hm]at hla;have za:ao H H3:=(s1.trans s2).trans s3;refine⟨dl rfl,fun D hD=>?_⟩
    have t0:qv (aZ p ts g m) p H3 D 0 (upd H3 D (.lst [])):=qv.start hD;generalize upd H3 D (.lst [])=H4 at t0;refine(ak rfl (jy (cE.of (t0.1 _ _ (za _ _ h1))) (au (j:=0) rfl) (ak rfl ⟨(by lia),(by lia),?_⟩)))
    refine jL (lo:=0) (n:=(p:Int).toNat) (fun i σ H5=>∃ v7,σ=[some (.ref wb),some (.int (m:Int)),some (.ref la),v3,v4,v5,some (.ref D),v7]/\qv (aZ p ts g m) p H3 D i H5) ⟨none,rfl,t0⟩ ?_ ?_
    ·rintro i D' σ H5 hi ⟨v7,rfl,t5⟩;rw[Int.toNat_natCast]at hi;rw[Int.zero_add];have Ij:=t5.1 _ _ hla;refine(ak rfl (ak rfl (pI (bg.of Ij) (au (j:=i) (cT hi)) (ak rfl ⟨rfl,ak rfl (?_)⟩))));rw[jH]
     by_cases hr:aZ p ts g m i=i
     ·rw[gC hr];obtain⟨Cv,Ds⟩:∃ ys,H5 D=some (.lst ys):=let⟨_,ys,z,_⟩:=t5;⟨ys,z⟩;refine ki (ak rfl ⟨.inl ⟨rfl,_,bg.of Ds⟩,ak rfl (jy (cE.of (t5.1 _ _ (za _ _ h1))) (au (j:=0) rfl) (ak rfl ⟨(by lia),(by lia),fun B hB=>eF (lo:=0) (m:=(p:Int).toNat) (lD (fun x=>decide (aZ p ts g m x=i)) H5 B) (.start hB) (fun i acc H6 _ pk=>pk.len) (dl (Nat.ble_eq.mpr (by lia))) ?_ ?_⟩))⟩)
      ·intro x acc H6 hx pk;rw[Int.toNat_natCast]at hx;rw[Int.zero_add];refine⟨rfl,ak rfl (ak rfl (pI (bg.of (pk.1 _ _ Ij)) (au (j:=x) (cT hx)) (ak rfl ⟨rfl,ak rfl (?_)⟩)))⟩;rw[jH];cases hb:decide (aZ p ts g m x=i) with
       | true=>exact(ak rfl (pk.yes hB (ao.refl _) hb))
       | false=>exact pk.no (ao.refl _) hb
      ·intro acc H6 pk;have SV:H6 B=some (.lst (bh (pieceOf (aZ p ts g m) p i))):=by rw[pk.2.1,pk.2.2,Int.toNat_natCast];rfl
       obtain⟨SW,LJ,hl1,t7⟩:=t5.push hD hr pk.1 hB SV;exact⟨D,SW,_,rfl,rfl,LJ,jE (by lia),ak rfl (t7)⟩
     ·rw[j9 hr];exact fK (ak rfl (t5.skip hr))
    ·rintro σ H5 ⟨v7,rfl,t5⟩;rw[Int.toNat_natCast]at t5;obtain⟨s5,Gu,Ds,zb,SX⟩:=t5;exact(ak rfl (q D Gu H5 (za.free hD) (za.trans s5) Ds (Paired.imp' (fun _ _ ⟨e,he,hn,h0,z⟩=>⟨e,he,hn,za.free h0,z⟩) zb)))
  ·exact .inr ⟨hS,q _ s1⟩
theorem u4(T:Txt K mg a):aN P w K mg base dm 6 a.qR a.uV ["web"] y9:=by
 have eA:aN P w K mg base (lG P w) 5 a.h8 a.jt ["web","tie_set"] (lz a.cO):=eA T;have bz:aN P w K mg base dm 1 a.cR a.dN ["web"] eY:=bz T;refine T.BV.ok Dq (fun vs H Q E h=>?_) (fun cdv A outer s H vs Q E hr h=>?_)
 ·obtain⟨w,p,ts,g,rfl,_⟩:=h;rfl
 ·obtain⟨wb,p,ts,g,rfl,hw,q⟩:=h;refine⟨_,(aq (aO (aE cK (aE iT (aB (iC K) (by rfl) T.dY PySem.boot_len (aa (aI (jx K) (pv 0) ah (fun _ _=>rfl)) ae)) (aI (jx K) (pv 0) ah (fun _ _=>rfl))) (aB (iC K) (by rfl) T.dY PySem.boot_len (aa (ay eA (hr.mono (by decide)) (by rfl) T.nt T.nv T.nu .nil oF (aa (pv 0) (aa (ay bz (hr.mono (by decide)) (by rfl) T.ig T.iu T.ik .nil aU (aa (pv 0) ae)) ae))) ae))))),?_⟩
  obtain⟨b,xs,h1,h2,h3⟩:=id hw.ex;have u3:=h3.length;have e2:((2:Int)^ts.length-1)=((2^ts.length-1:Nat):Int):=by
   have h:((2:Int)^ts.length)=((2^ts.length:Nat):Int):=by simp
   have:=Nat.two_pow_pos ts.length
   lia
  have hlt:2^ts.length-1<2^ts.length:=by have:=Nat.two_pow_pos ts.length;lia
  refine(ak rfl (jy (cE.of h1) (au (j:=1) rfl) (pW rfl (.inr (cE.of h2)) (ak rfl (jy (cE.of h1) (au (j:=0) rfl) (bX (?_)))))));refine(ak rfl (ak rfl ⟨wb,p,ts,rfl,hw,g.HL,wb,p,ts,g,_,rfl,hw,.inl ⟨2^ts.length-1,e2,hlt,fun D ys H' LI s' hD pr=>(pW rfl (.inl (bg.of hD)) (bX (?_)))⟩⟩))
  have hv:=C7 (g:=g);have hy:ys.length=(bG (aZ p ts g (2^ts.length-1)) p).length:=by rw[pr.length,List.length_map]
  show Q (.int ((xs.length:Int)-(p:Int)+(ys.length:Int))) H';rw[u3,hy,hv];exact q H' s'
end
def zc(p:Nat)(ts:List dZ)(g:aD p ts)(m:Nat):Prop:=RM.xJ g.N m/\∀ x,x<p->aZ p ts g m x=aZ p ts g (2^ts.length-1) x
def nA(C:Addr):Sp:=fun vs H Q E=>∃ w p ts,∃ g:aD p ts,∃ S,vs=[.ref w,.int S]/\bI H w p ts/\yZ ts S (∀ H',ao H H'->E (.ref C) none H') fun m =>
 (zc p ts g m->∀ H',ao H H'->Q (.bl true) H')/\(¬ zc p ts g m->∀ H',ao H H'->Q (.bl false) H')
def fC(t:dZ)(u:Nat):Bool:=EW (.int (u:Int)) [.int t.1,.int t.2.1]
def pL(ts:List dZ)(u v:Nat):Nat:=(ts.filter fun t=>fC t u&&fC t v).length
def rE:Sp:=fun vs H Q _=>∃ w p ts,∃ u v:Nat,vs=[.ref w,.int (u:Int),.int (v:Int)]/\bI H w p ts/\ts.length<=24/\∀ H',ao H H'->Q (.int (pL ts u v:Int)) H'
def dh(p:Nat)(ts:List dZ)(g:aD p ts):List Nat:=(List.range p).filter fun x=>!decide (aZ p ts g (2^ts.length-1) x=x)
def pM(ts:List dZ)(u v:Nat):Int:=if v=u then(pL ts u v:Int) else -(pL ts u v:Int)
def u5(p:Nat)(ts:List dZ)(g:aD p ts):List (List Int):=(dh p ts g).map fun u=>(dh p ts g).map fun v=>pM ts u v
def j4:Sp:=fun vs H Q _=>∃ w p ts,∃ g:aD p ts,vs=[.ref w]/\bI H w p ts/\∀ D ys H',H D=none->ao H H'->H' D=some (.lst ys)->Paired (kr D H H') ys (u5 p ts g)->Q (.ref D) H'
section
variable {P:Program}{w:World}{K:bF}{mg:iS}{base:Heap}{a:vd}
theorem Dv(x y z:Nat):decide (V.int (x:Int)=V.int ((y:Int)-(z:Int)))=decide (x+z=y):=by
 rw[Bool.eq_iff_iff,decide_eq_true_eq,decide_eq_true_eq]
 constructor
 ·intro h;have:=V.int.inj h
  lia
 ·intro h;exact congrArg V.int (by lia)
theorem Ag{p:Nat}{ts:List dZ}{g:aD p ts}{m:Nat}:(bG (aZ p ts g m) p).length=RM.cnt (g.N.root (fun j=>m.testBit j) ts.length) p:=RM.fN _ _
theorem wV{m n:Nat}(hm:m<2^n):(dw (m:Int)).length=RM.cnt (fun j=>m.testBit j) n:=by
 rw[mW hm];exact RM.fN _ _
theorem kQ(T:Txt K mg a):aN P w K mg base (lG P w) 6 a.gu a.iM ["web","tie_set"] (nA a.cO):=by
 have eA:aN P w K mg base (lG P w) 5 a.h8 a.jt ["web","tie_set"] (lz a.cO):=eA T;have bz:aN P w K mg base dm 1 a.cR a.dN ["web"] eY:=bz T;have gU:aN P w K mg base dm 2 a.gS a.jr ["tie_set"] mF:=gU T;refine T.oO.Ff jM (fun vs H Q E h=>?_) (fun cdv A outer s H vs Q E hr h=>?_)
 ·obtain⟨w,p,ts,g,S,rfl,_⟩:=h;rfl
 ·obtain⟨wb,p,ts,g,S,rfl,hw,q⟩:=h;refine⟨_,(ai (aG (i:=2) jM.nd rfl (Or.inl rfl) (ay eA (hr.mono (by decide)) (by rfl) T.nt T.nv T.nu .nil ko.passes (aa (pv 0) (aa (pv 1) ae))))
   (ai (aG (i:=3) jM.nd rfl (Or.inl rfl) (gF gp (aB (iC K) (by rfl) T.dY PySem.boot_len (aa (ay gU (hr.mono (by decide)) (by rfl) T.tN T.tT T.tO .nil aU (aa (pv 1) ae)) ae)) (aE iT (aI (jx K) (pv 0) ah (fun _ _=>rfl)) (aB (iC K) (by rfl) T.dY PySem.boot_len (aa (pv 2) ae))) (aX _)))
   (aq (aO (qb (pv 3) (ud (gF (AR K hr.units) (pv 2) (ay eA (hr.mono (by decide)) (by rfl) T.nt T.nv T.nu .nil ko.passes (aa (pv 0) (aa (ay bz (hr.mono (by decide)) (by rfl) T.ig T.iu T.ik .nil aU (aa (pv 0) ae)) ae))) (aX _)))))))),?_⟩
  refine uO ?_;intro dG gq;refine(ak rfl (ak rfl ⟨wb,p,ts,g,S,rfl,hw,?_⟩));rcases q with⟨m,rfl,hm,q1,q2⟩|⟨hS,q⟩
  ·refine .inl ⟨m,rfl,hm,fun D ys H1 LI s1 hD pr=>?_⟩
   have wl:=g.len;have hb:Builtin.Int.intBits (m:Int)<=ts.length:=bits_le hm;obtain⟨bt,xs,h1,h2,h3⟩:=id hw.ex;refine(ak rfl ⟨m,rfl,by lia,fun L H2 _ s2 hL=>(pW rfl (.inl (bg.of hL)) (ak rfl (jy (cE.of ((s1.trans s2) _ _ h1)) (au (j:=0) rfl) (ak rfl (pW rfl (.inl (bg.of (s2 _ _ hD))) (bX ⟨rfl,?_⟩))))))⟩)
   have Gs:ys.length=(bG (aZ p ts g m) p).length:=by rw[pr.length,List.length_map]
   dsimp only;rw[Dv,bj,Gs,Ag,wV hm];have s12:=s1.trans s2;have cc:RM.cnt (fun j=>m.testBit j) ts.length+RM.cnt (g.N.root (fun j=>m.testBit j) ts.length) p=p↔RM.xJ g.N m:=RM.vJ (N:=g.N)
   by_cases hc:RM.xJ g.N m
   ·rw[gC (cc.mpr hc)];refine(ak rfl (ak rfl (ki (ak rfl (ak rfl (ak rfl ⟨wb,p,ts,rfl,hw.same s12,g.HL,wb,p,ts,g,_,rfl,hw.same s12,.inl ⟨2^ts.length-1,?_,?_,fun D3 VF H3 SY s3 Cu Eo=>?_⟩⟩))))))
    ·have h:((2:Int)^ts.length)=((2^ts.length:Nat):Int):=by simp
     have:=Nat.two_pow_pos ts.length
     lia
    ·have:=Nat.two_pow_pos ts.length
     lia
    have S0:Paired (yx D H H3) ys (piecesOf (aZ p ts g m) p):=Paired.imp' (fun _ _ ⟨b,e,n,h0,q⟩=>⟨b,e,n,h0,(s2.trans s3) _ _ q⟩) pr
    refine⟨_,_,.lst (bg.of ((s2.trans s3) _ _ hD)) (qz S0),.lst (bg.of Cu) (qz Eo),sN _,sN _,?_⟩;rw[Fy];have pc:piecesOf (aZ p ts g m) p=(bG (aZ p ts g (2^ts.length-1)) p).map (pieceOf (aZ p ts g (2^ts.length-1)) p)↔∀ x,x<p->aZ p ts g m x=aZ p ts g (2^ts.length-1) x:=xK (L:=aZ p ts g m) (L':=aZ p ts g (2^ts.length-1)) (fun x=>RM.bW _ _) (fun x=>RM.iG _ _) (fun x=>RM.bW _ _) (fun x=>RM.iG _ _)
    by_cases hl:∀ x,x<p->aZ p ts g m x=aZ p ts g (2^ts.length-1) x
    ·rw[gC (pc.mpr hl)];exact q1 ⟨hc,hl⟩ _ (s12.trans s3)
    ·rw[j9 (fun z=>hl (pc.mp z))]
     exact q2 (fun z=>hl z.2) _ (s12.trans s3)
   ·rw[j9 (fun z=>hc (cc.mp z))]
    exact(ak rfl (ak rfl (fK (q2 (fun z=>hc z.1) _ s12))))
  ·exact .inr ⟨hS,fun H' s'=>q H' s'⟩
theorem iy(T:Txt K mg a):aN P w K mg base dm 1 a.dO a.fz ["web","one","other"] rE:=by
 refine T.kH.ok pJ (fun vs H Q E h=>?_) (fun cdv A outer s H vs Q E hr h=>?_)
 ·obtain⟨w,p,ts,u,v,rfl,_⟩:=h;rfl
 ·obtain⟨wb,p,ts,u,v,rfl,hw,wl,q⟩:=h;refine⟨_,(aq (aO (aB (iC K) (by rfl) T.dY PySem.boot_len (aa (dU (own:=["tie"]) (fq:=["one","other"]) (js:=[1,2]) (aQ (af bU) ["web","one","other"]) rfl (Qo K (aI (jx K) (pv 0) ah (fun _ _=>rfl))) (fun _ _ _ _=>(aJ (i:=0) (show(["tie","one","other"]:List Str).Nodup by decide +kernel) rfl (Or.inl rfl))) (fun _ _ _ _=>(gH (PW.pt (uc (aV (Qn K) (pv 1) (mO (Ft) (pv 0) pQ (pR ah)) (by with_unfolding_all rfl)) (pP (aV (Qn K) (pv 2) (mO (Ft) (pv 0) pQ (pR ah)) (by with_unfolding_all rfl))))))) (fun _ _ _ _=>(pv 0))) ae)))),?_⟩
  obtain⟨bt,xs,h1,h2,h3⟩:=id hw.ex;have u3:=h3.length;refine(ak rfl (jy (cE.of h1) (au (j:=1) rfl) ⟨bt,rfl,⟨_,cE.of h2⟩,fun D hD=>vp (xs:=xs) (fun i acc H2=>ao H H2/\H2 D=some (.lst acc)/\acc.length=((ts.take i).filter fun t=>fC t u&&fC t v).length/\acc.length<=i) ⟨ao.new hD,aj,rfl,Nat.le_refl _⟩ ?_ (dl (Nat.ble_eq.mpr (by lia))) ?_ ?_⟩))
  ·rintro i acc H2 hi ⟨s2,nB,_,hl2⟩;exact⟨cE.of (s2 _ _ h2),nB,hl2⟩
  ·rintro i x acc H2 hx ⟨s2,nB,hc2,hl2⟩;obtain⟨t,ht,ct,rfl,hct⟩:=Paired.rR h3 hx;have e1:(ts.take (i+1)).filter (fun t=>fC t u&&fC t v)=(ts.take i).filter (fun t=>fC t u&&fC t v)++(if(fC t u&&fC t v)=true then[t] else[]):=by
    rw[List.take_add_one,ht,List.filter_append]
    congr 1
    show List.filter _ [t]=_;rw[List.filter_cons];rfl
   refine⟨rfl,ak rfl (ak rfl (ak rfl ⟨ct,_,rfl,s2 _ _ hct,fun c1 H3 s3 hc1=>?_⟩))⟩
   have hc1:H3 c1=some (.tup [.int t.1,.int t.2.1]):=hc1;refine(pW rfl (.inr (cE.of hc1)) ⟨rfl,rfl,fC t u,rfl,?_⟩);cases hu:fC t u with
   | false =>
     rw[hu,Bool.false_and,if_neg Bool.false_ne_true,List.append_nil]at e1;exact fK (fK ⟨s2.trans s3,s3 _ _ nB,by rw[e1];exact hc2,by lia⟩)
   | true =>
     refine ki (ak rfl (ak rfl (ak rfl ⟨ct,_,rfl,(s2.trans s3) _ _ hct,fun c2 H4 s4 FQ=>?_⟩)))
     have FQ:H4 c2=some (.tup [.int t.1,.int t.2.1]):=FQ;refine(pW rfl (.inr (cE.of FQ)) ⟨rfl,rfl,fC t v,rfl,?_⟩);rw[hu,Bool.true_and]at e1;cases hv:fC t v with
     | false =>
       rw[hv,if_neg Bool.false_ne_true,List.append_nil]at e1;exact fK ⟨(s2.trans s3).trans s4,(s3.trans s4) _ _ nB,by rw[e1];exact hc2,by lia⟩
     | true =>
       rw[hv,if_pos rfl]at e1;exact ki (ak rfl ⟨(s3.trans s4) _ _ nB,((s2.trans s3).trans s4).put hD,aj,by rw[e1,List.length_append,List.length_append,hc2];rfl,by rw[List.length_append,List.length_singleton];lia⟩)
  ·rintro acc H2 ⟨s2,nB,hc2,_⟩;rw[u3,List.take_length]at hc2;refine(pW rfl (.inl (bg.of nB)) (?_));rw[hc2];exact q _ s2
theorem tW{p:Nat}{L:Nat->Nat}{x:Nat}:x∈bG L p↔x<p/\L x=x:=by
 unfold bG;rw[List.mem_filter,List.mem_range,decide_eq_true_eq]
theorem iz(T:Txt K mg a):aN P w K mg base dm 6 a.dP a.fB ["web"] j4:=by
 have eA:aN P w K mg base (lG P w) 5 a.h8 a.jt ["web","tie_set"] (lz a.cO):=eA T;have bz:aN P w K mg base dm 1 a.cR a.dN ["web"] eY:=bz T;have iy:aN P w K mg base dm 1 a.dO a.fz ["web","one","other"] rE:=iy T;refine T.kI.ok bY (fun vs H Q E h=>?_) (fun cdv A outer s H vs Q E hr h=>?_)
 ·obtain⟨w,p,ts,g,rfl,_⟩:=h;rfl
 ·obtain⟨wb,p,ts,g,rfl,hw,q⟩:=h;refine⟨_,(ai (aG (i:=1) bY.nd rfl (Or.inr rfl) (dU (own:=["piece"]) (fq:=[]) (js:=[]) (aQ (af bw) ["web","leasts","kept","table","one","counts"]) rfl (AU K (ay eA (hr.mono (by decide)) (by rfl) T.nt T.nv T.nu .nil oF (aa (pv 0) (aa (ay bz (hr.mono (by decide)) (by rfl) T.ig T.iu T.ik .nil aU (aa (pv 0) ae)) ae)))) (fun _ _ _ _=>(aJ (i:=0) (show(["piece"]:List Str).Nodup by decide +kernel) rfl (Or.inl rfl))) (fun _ _ _ _=>gG) (fun _ _ _ _=>(aI (nI K) (pv 0) ah (fun _ _=>rfl)))))
   (ai (mS (i:=2) bY.nd rfl rfl (own:=["point"]) (fq:=["leasts"]) (js:=[1]) (aQ (af bw) ["web","leasts","kept","table","one","counts"]) rfl (bO (by rfl) T.bN (aa (aI (jx K) (pv 0) ah (fun _ _=>rfl)) ae)) (fun _ _ _ _=>(aJ (i:=0) (show(["point","leasts"]:List Str).Nodup by decide +kernel) rfl (Or.inl rfl))) (fun _ _ _ _=>(gH (aV (AS K) (pv 0) (pv 1) (by with_unfolding_all rfl)))) (fun _ _ _ _=>(pv 0)))
   (ai (aG (i:=3) bY.nd rfl (Or.inl rfl) (g5 ae))
   (ai (gY PassesOwn.never rfl (AU K (pv 2)) (aJ (i:=4) bY.nd rfl (Or.inr rfl))
   (ai (mS (i:=5) bY.nd rfl rfl (own:=["other"]) (fq:=["web","one"]) (js:=[0,4]) (aQ (af bw) ["web","leasts","kept","table","one","counts"]) rfl (AU K (pv 2)) (fun _ _ _ _=>(aJ (i:=0) (show(["other","web","one"]:List Str).Nodup by decide +kernel) rfl (Or.inl rfl))) (fun _ _ _ _=>gG) (fun _ _ _ _=>(ay iy (hr.mono (by decide)) (by rfl) T.qU T.rq T.qV .nil aU (aa (pv 1) (aa (pv 2) (aa (pv 0) ae))))))
   (aq (cF (BH K (kh PySem.F.plainAttrs_list PySem.F.slot_list_append PySem.F.type_list_append dS (pv 3) (aa (dU (own:=["other","many"]) (fq:=["one"]) (js:=[4]) (aQ (af bw) ["web","leasts","kept","table","one","counts"]) rfl (A5 K (by rfl) T.En (aa (pv 2) (aa (pv 5) ae))) (fun _ _ _ _=>(Hz K (n:=2) rfl (cS (aJ (i:=0) (show(["other","many","one"]:List Str).Nodup by decide +kernel) rfl (Or.inl rfl)) (cS (aJ (i:=1) (show(["other","many","one"]:List Str).Nodup by decide +kernel) rfl (Or.inl rfl)) mK)))) (fun _ _ _ _=>gG) (fun _ _ _ _=>(qd (aV gp (pv 0) (pv 2) (aX _)) (pv 1) (DU AB (pv 1))))) ae)))))))
   (aq (aO (pv 3))))))),?_⟩
  refine pK ?_;intro dG gq jZ kB nh ni;obtain⟨bt,xs,h1,h2,h3⟩:=id hw.ex;have u3:=h3.length;have wp:=g.p2;have wl:=g.len;have e2:((2:Int)^ts.length-1)=((2^ts.length-1:Nat):Int):=by
   have h:((2:Int)^ts.length)=((2^ts.length:Nat):Int):=by simp
   have:=Nat.two_pow_pos ts.length
   lia
  have hlt:2^ts.length-1<2^ts.length:=by have:=Nat.two_pow_pos ts.length;lia
  generalize hL:aZ p ts g (2^ts.length-1)=L;have zd:∀ x,L (L x)=L x:=fun x=>by rw[<-hL];exact RM.bW _ _
  have hle:∀ x,L x<=x:=fun x=>by rw[<-hL];exact RM.iG _ _
  have vH:(bG L p).length<=p:=by
   have:=List.length_filter_le (fun x=>decide (L x=x)) (List.range p)
   rw[List.length_range]at this;exact this
  have LK:(dh p ts g).length<=p:=by
   have:=List.length_filter_le (fun x=>!decide (aZ p ts g (2^ts.length-1) x=x)) (List.range p)
   rw[List.length_range]at this;exact this
  refine(ak rfl (ak rfl ⟨wb,p,ts,rfl,hw,g.HL,wb,p,ts,g,_,rfl,hw,.inl ⟨2^ts.length-1,e2,hlt,fun D ys H1 LI s1 hD pr=>⟨D,rfl,⟨_,bg.of hD⟩,?_⟩⟩⟩))
  rw[hL]at pr;have Gs:ys.length=(bG L p).length:=by rw[pr.length,List.length_map]
  intro D1 JN;refine fL (xs:=ys) (fun i acc H2=>ao H1 H2/\H2 D1=some (.lst acc)/\acc=bh ((bG L p).take i)) ⟨ao.new JN,aj,rfl⟩ ?_ (dl (Nat.ble_eq.mpr (by lia))) ?_ ?_
  ·rintro i acc H2 hi ⟨s2,nB,rfl⟩;exact⟨bg.of (s2 _ _ hD),nB,by rw[bj,List.length_take];exact Nat.min_le_left _ _⟩
  ·rintro i x acc H2 hx ⟨s2,nB,rfl⟩;obtain⟨l,hl,bb,rfl,_,_,K8⟩:=Paired.rR pr hx;rw[List.getElem?_map]at hl;obtain⟨r,hr0,rfl⟩:=Gz.mp hl;have LL:=tW.mp (Cy hr0);refine⟨rfl,ak rfl (pI (bg.of (s2 _ _ K8)) (au (j:=0) (Dc (my hle LL.2 LL.1))) ⟨nB,s2.put JN,aj,?_⟩)⟩;rw[List.take_add_one,hr0];exact(qo _ _).symm
  ·rintro acc H2 ⟨s2,nB,rfl⟩;rw[Gs,List.take_length]at nB;have s12:=s1.trans s2;refine(ak rfl (jy (cE.of (s12 _ _ h1)) (au (j:=0) rfl) (ak rfl ⟨(by lia),(by lia),fun D2 Ik=>eF (lo:=0) (m:=(p:Int).toNat) (lD (fun x=>!decide (L x=x)) H2 D2) (.start Ik) (fun i acc H3 _ pk=>pk.len) (dl (Nat.ble_eq.mpr (by lia))) ?_ ?_⟩)))
   ·intro i acc H3 hi pk;rw[Int.toNat_natCast]at hi;rw[Int.zero_add];refine⟨rfl,ak rfl (ak rfl (pW rfl (.inl (bg.of (pk.1 _ _ nB))) ⟨rfl,zP _,!decide (L i=i),?_,?_⟩))⟩
    ·show V.bl (!EW (.int (i:Int)) (bh (bG L p)))=_;rw[vF];have e:decide (i∈bG L p)=decide (L i=i):=by
      rw[Bool.eq_iff_iff,decide_eq_true_eq,decide_eq_true_eq,tW];exact⟨fun z=>z.2,fun z=>⟨hi,z⟩⟩
     rw[e]
    ·cases hb : !decide (L i=i) with
     | true=>exact ki (ak rfl (pk.yes Ik (ao.refl _) hb))
     | false=>exact fK (pk.no (ao.refl _) hb)
   ·intro acc H3 pk;have Dw:H3 D2=some (.lst (bh (dh p ts g))):=by
     rw[pk.2.1,pk.2.2,Int.toNat_natCast];unfold dh;rw[hL]
    have za:=s12.trans pk.1;generalize hks:dh p ts g=ks at Dw LK;refine⟨dl rfl,fun D3 Cu=>?_⟩
    have LM:ao H3 (upd H3 D3 (.lst [])):=ao.new Cu;have Il:upd H3 D3 (.lst []) D3=some (.lst []):=aj;have LN:H D3=none:=za.free Cu;generalize upd H3 D3 (.lst [])=H4 at LM Il;refine(ak rfl ⟨D2,rfl,⟨_,bg.of (LM _ _ Dw)⟩,qh (K:=K) (a:=D2) (xs:=bh ks) (fun i σ H5=>∃ v4 v5 ys,σ=[some (.ref wb),some (.ref D1),some (.ref D2),some (.ref D3),v4,v5]/\ao H3 H5/\H5 D3=some (.lst ys)/\Paired (kr D3 H H5) ys ((ks.take i).map fun u=>ks.map fun v=>pM ts u v)/\ys.length<=i)
     ⟨none,none,[],rfl,LM,Il,by rw[List.take_zero];exact .nil,Nat.le_refl _⟩ (fun i σ H5 _ ⟨_,_,_,_,z,_⟩=>bg.of (z _ _ Dw)) ?_ ?_⟩)
    ·rintro i y σ H5 hi ⟨v4,v5,ys,rfl,s5,Ds,zb,S1⟩;obtain⟨u,hu,rfl⟩:=gK hi;have FT:=s5 _ _ Dw;have VG:i<ks.length:=by
      have:=(Cq.mp hi).1;rw[bj]at this;exact this
     refine(ak rfl ⟨D2,rfl,⟨_,bg.of FT⟩,fun D4 FU=>fL (xs:=bh ks) (qA (fun v=>(pL ts u v:Int)) ks H5 D4) (.start FU) (fun j acc H6 _ pd=>⟨bg.of (pd.1 _ _ FT),pd.len⟩) (by rw[bj];exact dl (Nat.ble_eq.mpr (by lia))) ?_ ?_⟩)
     ·intro j x acc H6 hx pd;obtain⟨v,hv,rfl⟩:=gK hx;exact⟨rfl,ak rfl (ak rfl (ak rfl ⟨wb,p,ts,u,v,rfl,hw.same ((za.trans s5).trans pd.1),wl,fun H7 s7=>pd.next FU s7 hv rfl⟩))⟩
     ·intro acc H6 pd;rw[bj]at pd;have Im:=pd.fin;have Io:=pd.1 _ _ FT;have LO:=pd.1 _ _ Ds;refine(ak rfl ⟨.inl ⟨rfl,_,bg.of LO⟩,ak rfl (ak rfl ⟨D2,D4,rfl,⟨_,bg.of Io⟩,⟨_,bg.of Im⟩,fun D5 Cb=>vz (xs:=bh ks) (ys:=(ks.map fun v=>(pL ts u v:Int)).map V.int) (by rw[bj,List.length_map,List.length_map]) (qA (fun v=>pM ts u v) ks H6 D5) (.start Cb) (fun j acc H7 _ pd=>⟨bg.of (pd.1 _ _ Io),bg.of (pd.1 _ _ Im),pd.len⟩) (by rw[bj];exact dl (Nat.ble_eq.mpr (by lia))) ?_ ?_⟩)⟩)
      ·intro j x y T0 acc H7 hx hy Gv hT;obtain⟨v,hv,rfl⟩:=gK hx;have S3:y = .int (pL ts u v:Int):=by
        rw[List.getElem?_map,List.getElem?_map,hv]at hy;exact(Option.some.inj hy).symm
       subst S3;have s8:ao H7 (upd H7 T0 (.tup [.int (v:Int),.int (pL ts u v:Int)])):=ao.new hT;have QT:upd H7 T0 (.tup [.int (v:Int),.int (pL ts u v:Int)]) T0=some (.tup [.int (v:Int),.int (pL ts u v:Int)]):=aj;generalize upd H7 T0 (.tup [.int (v:Int),.int (pL ts u v:Int)])=H8 at s8 QT;refine⟨T0,_,rfl,cE.of QT,rfl,_,_,rfl,_,_,rfl,rfl,rfl,?_⟩;refine(ak rfl (ak rfl ⟨rfl,ak rfl (?_)⟩));rw[jH]
       by_cases huv:v=u
       ·rw[gC huv];exact ki (ak rfl (Gv.next Cb s8 hv (by unfold pM;rw[if_pos huv])))
       ·rw[j9 huv];exact fK (ak rfl (ak rfl (Gv.next Cb s8 hv (by unfold pM;rw[if_neg huv]))))
      ·intro acc H7 Gv;rw[bj]at Gv;have LP:=Gv.fin;have LQ:=pd.1.trans Gv.1;have LR:=LQ _ _ Ds;have n5:D5≠D3:=(bS (pd.1 _ _ Ds) Cb).symm;refine⟨D3,ys,_,rfl,rfl,LR,jE (by lia),?_⟩
       refine⟨_,_,_,rfl,(s5.trans LQ).put Cu,aj,?_,by rw[List.length_append,List.length_singleton];lia⟩
       rw[List.take_add_one,hu,List.map_append];refine Paired.snoc (Paired.imp' (fun _ _ z=>(z.same LQ).put) zb) (kr.put ⟨D5,rfl,n5,((za.trans s5).trans pd.1).free Cb,LP⟩)
    ·rintro σ H5 ⟨v4,v5,ys,rfl,s5,Ds,zb,S1⟩;rw[bj,List.take_length]at zb;exact(ak rfl (q D3 ys H5 LN (za.trans s5) Ds (by unfold u5;rw[hks];exact zb)))
end
theorem Cc{x y:V}{A B:Prop}(h:x≠y)(ha:A):if(!decide (x=y))=true then A else B:=by
 rw[j9 h];exact ki ha
def ze:Sp:=fun vs H Q _=>∃(t:Addr) (rs:List (List Int)) (n k:Nat),vs=[.ref t,.int (k:Int)]/\TabAt H t rs/\Tab n rs/\n<=12/\k<n/\
 (∀ i:Nat,k<=i->i<n->ent rs i k≠0->Q (.int (i:Int)) H)/\((∀ i:Nat,k<=i->i<n->ent rs i k=0)->Q .fH H)
def rF:Sp:=fun vs H Q _=>∃(b1 b2:Addr) (r l:List Int) (n k:Nat) (d:Int) (f:Nat->Int),vs=[.ref b1,.ref b2,.int (k:Int),.int d]/\H b1=some (.lst (dj r))/\H b2=some (.lst (dj l))/\r.length=n/\l.length=n/\n<=12/\k<n/\
 d≠0/\d.natAbs<2^1000/\(∀ j,j<n->(r.getD j 0).natAbs<2^1000/\(l.getD j 0).natAbs<2^1000)/\(∀ j,j<n->l.getD k 0*r.getD j 0-r.getD k 0*l.getD j 0=d*f j)/\
 ∀ D H',H D=none->ao H H'->H' D=some (.lst (dj (oG n f)))->Q (.ref D) H'
def Cd:Sp:=fun vs H Q _=>∃(t:Addr) (rs:List (List Int)) (n E:Nat),vs=[.ref t]/\TabAt H t rs/\Tab n rs/\n<=12/\1<=E/\Dt.fc E n<2^1000/\(∀ r c,(ent rs r c).natAbs<=E)/\∀ H',ao H H'->Q (.int (Dt.det n (ent rs))) H'
theorem u6{n:Nat}{rs:List (List Int)}(Tb:Tab n rs){r j:Nat}(hj:n<=j):ent rs r j=0:=by
 show(rs.getD r []).getD j 0=0
 by_cases h:r<n
 ·rw[List.getD_eq_getElem?_getD,List.getElem?_eq_none (by rw[Tb.vH h];exact hj)]
  rfl
 ·rw[List.getD_eq_getElem?_getD (l:=rs),List.getElem?_eq_none (by rw[Tb.len];lia)]
  rfl
section
variable {P:Program}{w:World}{K:bF}{mg:iS}{base:Heap}{a:vd}
theorem i8(T:Txt K mg a):aN P w K mg base dm 1 a.d9 a.fX ["rows","step"] ze:=by
 refine T.lJ.ok kC (fun vs H Q E h=>?_) (fun cdv A outer s H vs Q E hr h=>?_)
 ·obtain⟨t,rs,n,k,rfl,_⟩:=h;rfl
 ·obtain⟨t,rs,n,k,rfl,⟨ys,ht,pr⟩,Tb,hn,hk,qy,qn⟩:=h;refine⟨_,(ai (gY PassesOwn.never rfl (nL (by rfl) T.bN (aa (pv 1) (aa (aB (iC K) (by rfl) T.dY PySem.boot_len (aa (pv 0) ae)) ae))) (aJ (i:=2) kC.nd rfl (Or.inl rfl))
   (aq (d7 (aV vg (aI (nI K) (aI (nI K) (pv 0) (pv 2) (fun _ _=>rfl)) (pv 1) (fun _ _=>rfl)) ah (aX _)) (aq (aO (pv 2))) bK)))
   (aq (aO w5))),?_⟩
  refine qI ?_;intro dG gq jZ;have Gs:ys.length=n:=by rw[pr.length,Tb.len]
  refine(ak rfl (ak rfl (pW rfl (.inl (bg.of ht)) ⟨_,_,rfl,⟨by lia,by lia,by lia,by lia⟩,?_⟩)))
  refine gJ (lo:=(k:Int)) (n:=_) (fun i σ H2=>∃ v2,σ=[some (.ref t),some (.int (k:Int)),v2]/\H2=H/\∀ j:Nat,k<=j->j<k+i->ent rs j k=0) ⟨none,rfl,rfl,fun j h1 h2=>by lia⟩ ?_ ?_
  ·rintro i σ H2 hi ⟨v2,rfl,rfl,hz⟩;have ek:(k:Int)+(i:Int)=((k+i:Nat):Int):=by lia
   rw[ek];have hki:k+i<n:=by lia
   obtain⟨b,hb,S4⟩:=TabAt.get pr Tb hki;refine(ak rfl (ak rfl (pI (bg.of ht) (au (j:=k+i) hb) (ak rfl (pI (bg.of S4) (au (j:=k) (kZ (by rw[Tb.vH hki];exact hk))) ⟨rfl,ak rfl (?_)⟩)))))
   by_cases h0:ent rs (k+i) k=0
   ·refine yi (congrArg V.int h0) (ak rfl ⟨rfl,fun j h1 h2=>?_⟩)
    by_cases hj:j=k+i
    ·rw[hj];exact h0
    ·exact hz j h1 (by lia)
   ·exact Cc (fun z=>h0 (V.int.inj z)) (ak rfl (qy (k+i) (by lia) hki h0))
  ·rintro σ H2 ⟨v2,rfl,rfl,hz⟩;exact qn fun i h1 h2=>hz i h1 (by lia)
theorem i9(T:Txt K mg a):aN P w K mg base dm 1 a.ee a.fY ["row","lead_row","step","divisor"] rF:=by
 refine T.lK.ok qJ (fun vs H Q E h=>?_) (fun cdv A outer s H vs Q E hr h=>?_)
 ·obtain⟨b1,b2,r,l,n,k,d,f,rfl,_⟩:=h;rfl
 ·obtain⟨b1,b2,r,l,n,k,d,f,rfl,h1,h2,zd,hl1,hn,hk,hd,hdb,bn,ex,q⟩:=h;refine⟨_,(aq (aO (dU (own:=["number","lead"]) (fq:=["row","lead_row","step","divisor"]) (js:=[0,1,2,3]) (aQ (af cj) ["row","lead_row","step","divisor"]) rfl (A5 K (by rfl) T.En (aa (pv 0) (aa (pv 1) ae))) (fun _ _ _ _=>(Hz K (n:=2) rfl (cS (aJ (i:=0) (show(["number","lead","row","lead_row","step","divisor"]:List Str).Nodup by decide +kernel) rfl (Or.inl rfl)) (cS (aJ (i:=1) (show(["number","lead","row","lead_row","step","divisor"]:List Str).Nodup by decide +kernel) rfl (Or.inl rfl)) mK)))) (fun _ _ _ _=>gG) (fun _ _ _ _=>(aE Bj (aE iT (aE ux (aI (nI K) (pv 3) (pv 4) (fun _ _=>rfl)) (pv 0)) (aE ux (aI (nI K) (pv 2) (pv 4) (fun _ _=>rfl)) (pv 1))) (pv 5)))))),?_⟩
  refine(ak rfl (ak rfl ⟨b1,b2,rfl,⟨_,bg.of h1⟩,⟨_,bg.of h2⟩,fun D hD=>vz (xs:=dj r) (ys:=dj l) (by rw[jl,jl,zd,hl1]) (vI f H D) (.start hD) (fun i acc H4 _ pd=>⟨bg.of (pd.1 _ _ h1),bg.of (pd.1 _ _ h2),pd.len⟩) (by rw[jl,zd];exact dl (Nat.ble_eq.mpr (by lia))) ?_ ?_⟩))
  ·intro i x y T0 acc H2 hx hy pd hT;obtain⟨hi,rfl⟩:=qB hx;obtain⟨_,rfl⟩:=qB hy;rw[zd]at hi;have s2:ao H2 (upd H2 T0 (.tup [.int (r.getD i 0),.int (l.getD i 0)])):=ao.new hT;have hT2:upd H2 T0 (.tup [.int (r.getD i 0),.int (l.getD i 0)]) T0=some (.tup [.int (r.getD i 0),.int (l.getD i 0)]):=aj;generalize upd H2 T0 (.tup [.int (r.getD i 0),.int (l.getD i 0)])=H3 at s2 hT2;have Lx:=s2 _ _ (pd.1 _ _ h1);have Ly:=s2 _ _ (pd.1 _ _ h2);refine⟨T0,_,rfl,cE.of hT2,rfl,_,_,rfl,_,_,rfl,rfl,rfl,?_⟩;refine(ak rfl (ak rfl (pI (bg.of Ly) (au (j:=k) (kZ (by rw[hl1];exact hk))) (ak rfl (bX ⟨mulOk_of (bn k hk).2 (bn i hi).1,?_⟩)))))
   refine(ak rfl (ak rfl (pI (bg.of Lx) (au (j:=k) (kZ (by rw[zd];exact hk))) (ak rfl (bX ⟨mulOk_of (bn k hk).1 (bn i hi).2,_,_,rfl,rfl,ak rfl (bX ⟨⟨hd,hdb⟩,?_⟩)⟩)))))
   exact pd.next hD s2 (congrArg V.int (xF hd (ex i hi)))
  ·intro acc H2 pd;rw[jl,zd]at pd;exact q D H2 hD pd.1 (by rw[pd.2.1,pd.2.2])
theorem ja(T:Txt K mg a):aN P w K mg base dm 2 a.ef a.fZ ["table"] Cd:=by
 have i8:aN P w K mg base dm 1 a.d9 a.fX ["rows","step"] ze:=i8 T;have i9:aN P w K mg base dm 1 a.ee a.fY ["row","lead_row","step","divisor"] rF:=i9 T;refine T.lM.ok bu (fun vs H Q E h=>?_) (fun cdv A outer s H vs Q E hr h=>?_)
 ·obtain⟨t,rs,n,E,rfl,_⟩:=h;rfl
 ·obtain⟨t,Ip,n,E,rfl,⟨Cv,ht,Iq⟩,QU,hn,hE,hfc,S6,q⟩:=h;refine⟨_,(ai (aG (i:=1) bu.nd rfl (Or.inl rfl) (bP (D0 K) (by rfl) T.oj PyProof.Rows.boot_list (aa (pv 0) ae)))
   (ai (aG (i:=2) bu.nd rfl (Or.inl rfl) ah)
   (ai (aG (i:=3) bu.nd rfl (Or.inl rfl) ah)
   (ai (gY PassesOwn.never rfl (bO (by rfl) T.bN (aa (aB (iC K) (by rfl) T.dY PySem.boot_len (aa (pv 1) ae)) ae)) (aJ (i:=4) bu.nd rfl (Or.inl rfl))
   (ai (aG (i:=5) bu.nd rfl (Or.inl rfl) (ay i8 (hr.mono (by decide)) (by rfl) T.rX T.sj T.rY .nil aU (aa (pv 1) (aa (pv 4) ae))))
   (ai (d7 (aV EM (pv 5) w5 (aX _)) (aq (aO ah)) bK)
   (ai (d7 (aV vg (pv 5) (pv 4) (aX _)) (ai (aG (i:=6) bu.nd rfl (Or.inl rfl) (aI (nI K) (pv 1) (pv 5) (fun _ _=>rfl)))
   (ai (qg (aI (nI K) (pv 1) (pv 4) (fun _ _=>rfl)) (w9 (pv 1) (pv 5) set_list))
   (ai (qg (pv 6) (w9 (pv 1) (pv 4) set_list))
   (aq (aG (i:=2) bu.nd rfl (Or.inl rfl) (DU AB (pv 2))))))) bK)
   (ai (gY PassesOwn.never rfl (nL (by rfl) T.bN (aa (aE cK (pv 4) ah) (aa (aB (iC K) (by rfl) T.dY PySem.boot_len (aa (pv 1) ae)) ae))) (aJ (i:=7) bu.nd rfl (Or.inl rfl))
   (aq (qg (ay i9 (hr.mono (by decide)) (by rfl) T.rZ T.sq T.r6 .nil aU (aa (aI (nI K) (pv 1) (pv 7) (fun _ _=>rfl)) (aa (aI (nI K) (pv 1) (pv 4) (fun _ _=>rfl)) (aa (pv 4) (aa (pv 3) ae))))) (w9 (pv 1) (pv 7) set_list))))
   (aq (aG (i:=3) bu.nd rfl (Or.inl rfl) (aI (nI K) (aI (nI K) (pv 1) (pv 4) (fun _ _=>rfl)) (pv 4) (fun _ _=>rfl)))))))))
   (aq (aO (aE nN (pv 2) (pv 3)))))))),?_⟩
  refine qK ?_;intro dG gq jZ kB nh ni v9 Ek El Dr wc wd BN BO BP;refine(ak rfl (pW rfl (.inl (bg.of ht)) (fun R hR=>?_)))
  have s0:ao H (upd H R (.lst Cv)):=ao.new hR;have LS:upd H R (.lst Cv) R=some (.lst Cv):=aj;have Iq:Paired (jJ R (upd H R (.lst Cv))) Cv Ip:=Paired.imp' (fun _ _ ⟨b,e,z⟩=>⟨b,e,bS z hR,s0 _ _ z⟩) Iq
  generalize upd H R (.lst Cv)=H0 at s0 LS Iq;have Gs:Cv.length=n:=by rw[Iq.length,QU.len]
  refine(ak rfl (pW rfl (.inl (bg.of LS)) (ak rfl ⟨(by lia),(by lia),?_⟩)))
  refine gJ (lo:=0) (n:=_) (fun i σ H2=>∃ ys rs sg d v4 v5 v6 v7,σ=[some (.ref t),some (.ref R),some (.int sg),some (.int d),v4,v5,v6,v7]/\ao H H2/\H2 R=some (.lst ys)/\Paired (jJ R H2) ys rs/\Tab n rs/\Dt.Bs n (ent Ip) i sg d (ent rs))
   ⟨Cv,Ip,1,1,none,none,none,none,rfl,s0,LS,Iq,QU,Dt.Bs.zero _ _⟩ ?_ ?_
  ·rintro i σ H2 hi ⟨ys,rs,sg,d,v4,v5,v6,v7,rfl,s2,Ep,pr,Tb,bs⟩;have hin:i<n:=by lia
   rw[Int.zero_add];refine(ak rfl (ak rfl ⟨R,rs,n,i,rfl,⟨ys,Ep,Paired.imp' (fun _ _ z=>z.is) pr⟩,Tb,hn,hin,fun r0 hr0 zd JO=>?_,fun hz=>?_⟩))
   case refine_2 =>
    have h0:Dt.det n (ent Ip)=0:=bs.none hin hz;refine(ak rfl ⟨rfl,ak rfl (vt rfl ?_)⟩);show Q (V.int 0) _;rw[<-h0];exact q _ s2
   refine(ak rfl ⟨rfl,ak rfl (zE (fun z=>nomatch z) (ak rfl (ak rfl ⟨rfl,ak rfl (?_)⟩)))⟩)
   by_cases LU:r0=i
   case' pos =>
    refine yi (by rw[LU]) ?_
    rw[LU]at JO;generalize H2=H2x at s2 Ep pr;generalize ys=ysx at Ep pr;generalize rs=rsx at pr Tb bs JO;generalize sg=sgx at bs;have s3:=s2;have Ir:=Ep;have Eo:=pr;have Gw:=Tb;have FW:=bs;have Dy:=JO
   case' neg =>
    refine Cc (fun z=>LU (by have:=V.int.inj z;lia)) ?_
    obtain⟨b1,e1,S7,hb1⟩:=jJ.get pr Tb zd;obtain⟨b2,e2,S8,S9⟩:=jJ.get pr Tb hin;have Tc:ys.length=n:=by rw[pr.length,Tb.len]
    refine(ak rfl (ak rfl (pI (bg.of Ep) (au (j:=r0) e1) (?_))));refine(ak rfl (ak rfl (pI (bg.of Ep) (au (j:=i) e2) (ak rfl (ak rfl ⟨R,ys,_,r0,rfl,rfl,Ep,uz (by lia),?_⟩)))))
    refine(ak rfl (ak rfl (ak rfl ⟨R,_,_,i,rfl,rfl,aj,uz (by rw[List.length_set];lia),ak rfl (ak rfl (?_))⟩)))
    have s3:ao H (upd (upd H2 R (.lst (ys.set r0 (.ref b2)))) R (.lst ((ys.set r0 (.ref b2)).set i (.ref b1)))):=(s2.put hR).put hR;have Ir:upd (upd H2 R (.lst (ys.set r0 (.ref b2)))) R (.lst ((ys.set r0 (.ref b2)).set i (.ref b1))) R=some (.lst ((ys.set r0 (.ref b2)).set i (.ref b1))):=aj;have Eo:Paired (jJ R (upd (upd H2 R (.lst (ys.set r0 (.ref b2)))) R (.lst ((ys.set r0 (.ref b2)).set i (.ref b1))))) ((ys.set r0 (.ref b2)).set i (.ref b1)) ((rs.set r0 (rs.getD i [])).set i (rs.getD r0 [])) :=
     Paired.imp' (fun _ _ z=>z.put.put) (jI ⟨b1,rfl,S7,hb1⟩ i (jI ⟨b2,rfl,S8,S9⟩ r0 pr))
    have Gw:Tab n ((rs.set r0 (rs.getD i [])).set i (rs.getD r0 [])):=(Tb.set r0 (Tb.vH hin)).set i (Tb.vH zd);have Td:ent ((rs.set r0 (rs.getD i [])).set i (rs.getD r0 []))=Dt.sw (ent rs) i r0:=by
     funext r j
     rw[m6 (by rw[List.length_set,Tb.len];exact hin),m6 (by rw[Tb.len];exact zd)]
     unfold Dt.sw Dt.put
     by_cases c1:r=i
     ·rw[if_pos c1,if_neg (by lia),if_pos c1]
      rfl
     ·rw[if_neg c1,if_neg c1]
      by_cases c2:r=r0
      ·rw[if_pos c2,if_pos c2];rfl
      ·rw[if_neg c2,if_neg c2]
    have FW:Dt.Bs n (ent Ip) i (-sg) d (ent ((rs.set r0 (rs.getD i [])).set i (rs.getD r0 []))):=by
     rw[Td];exact bs.sw (by lia) zd
    have Dy:ent ((rs.set r0 (rs.getD i [])).set i (rs.getD r0 [])) i i≠0:=by
     rw[m6 (by rw[List.length_set,Tb.len];exact hin),if_pos rfl]
     exact JO
    dsimp only[List.set];generalize upd (upd H2 R (.lst (ys.set r0 (.ref b2)))) R (.lst ((ys.set r0 (.ref b2)).set i (.ref b1)))=H2x at s3 Ir Eo;generalize (rs.set r0 (rs.getD i [])).set i (rs.getD r0 [])=rsx at Eo Gw FW Dy;generalize (ys.set r0 (.ref b2)).set i (.ref b1)=ysx at Ir Eo;generalize -sg=sgx at FW
   all_goals (
    have Tf:ysx.length=n:=by rw[Eo.length,Gw.len]
    have bd:=FW.bnd hE S6;have d0:d≠0:=FW.2.2.1;refine(ak rfl (bX (ak rfl (pW rfl (.inl (bg.of Ir)) ⟨_,_,rfl,⟨by lia,by lia,by lia,by lia⟩,?_⟩))))
    refine gJ (lo:=(i:Int)+1) (n:=_) (fun m σ H5=>∃ ys rs v6 v7,σ=[some (.ref t),some (.ref R),some (.int sgx),some (.int d),some (.int (i:Int)),some (.int (r0:Int)),v6,v7]/\ao H H5/\H5 R=some (.lst ys)/\Paired (jJ R H5) ys rs/\Tab n rs/\(∀ j,ent rs i j=ent rsx i j)/\
     ∀ r,i<r->r<n->∀ j,if r<i+1+m then d*ent rs r j=ent rsx i i*ent rsx r j-ent rsx r i*ent rsx i j else ent rs r j=ent rsx r j)
     ⟨ysx,rsx,_,_,rfl,s3,Ir,Eo,Gw,fun j=>rfl,fun r h1 h2 j=>by rw[if_neg (by lia)]⟩ ?_ ?_
    ·rintro m σ H5 hm ⟨Gu,Gx,v6,v7,rfl,s5,FY,zb,Ah,JP,JQ⟩;have ek:(i:Int)+1+(m:Int)=((i+1+m:Nat):Int):=by lia
     rw[ek];have hb:i+1+m<n:=by lia
     obtain⟨c1,e1,n1,h1⟩:=jJ.get zb Ah hb;obtain⟨c2,e2,n2,h2⟩:=jJ.get zb Ah hin;have er:∀ j,(Gx.getD (i+1+m) []).getD j 0=ent rsx (i+1+m) j:=fun j=>by
      have:=JQ _ (by lia) hb j
      rw[if_neg (by lia)]at this
      exact this
     have el:∀ j,(Gx.getD i []).getD j 0=ent rsx i j:=JP;obtain⟨f,hf⟩:=Classical.axiomOfChoice (fun j=>FW.out Dy (i:=i+1+m) (by lia) hb j)
     refine(ak rfl (ak rfl (pI (bg.of FY) (au (j:=i+1+m) e1) (ak rfl (ak rfl (pI (bg.of FY) (au (j:=i) e2) (ak rfl (ak rfl ⟨c1,c2,_,_,n,i,d,f,rfl,h1,h2,Ah.vH hb,Ah.vH hin,hn,hin,d0,Nat.lt_of_le_of_lt bd.1 hfc,fun j hj=>⟨by rw[er j];exact Nat.lt_of_le_of_lt (bd.2 _ _ (by lia) hb) hfc,by rw[el j];exact Nat.lt_of_le_of_lt (bd.2 _ _ (Nat.le_refl _) hin) hfc⟩,fun j hj=>?_,fun D H6 hD s6 LJ=>?_⟩))))))))
     ·rw[er j,el j,er i,el i];exact hf j
     ·have nD:D≠R:=fun e=>by rw[e,FY]at hD;cases hD
      have SX:Gu.length=n:=by rw[zb.length,Ah.len]
      refine(ak rfl (ak rfl ⟨R,Gu,_,i+1+m,rfl,rfl,s6 _ _ FY,uz (by lia),?_⟩))
      refine⟨_,Gx.set (i+1+m) (oG n f),_,_,rfl,(s5.trans s6).put hR,aj,Paired.imp' (fun _ _ z=>z.put) (jI ⟨D,rfl,nD,LJ⟩ _ (Paired.imp' (fun _ _ z=>z.same s6) zb)),Ah.set _ (nY _ _),fun j=>?_,fun r h1 h2 j=>?_⟩
      ·rw[m6 (by rw[Ah.len];exact hb),if_neg (by lia)]
       exact JP j
      ·by_cases hj:j<n
       ·rw[m6 (by rw[Ah.len];exact hb)]
        by_cases c:r=i+1+m
        ·rw[if_pos c,if_pos (by lia),zR _ hj,c]
         exact(hf j).symm
        ·rw[if_neg c];have:=JQ r h1 h2 j
         by_cases c2:r<i+1+m
         ·rw[if_pos c2]at this;rw[if_pos (by lia)]
          exact this
         ·rw[if_neg c2]at this;rw[if_neg (by lia)]
          exact this
       ·have z1:=u6 (r:=r) (j:=j) Gw (by lia)
        have z2:=u6 (r:=i) (j:=j) Gw (by lia)
        have z3:=u6 (r:=r) (j:=j) (Ah.set (i+1+m) (nY n f)) (by lia)
        rw[z3,z1,z2]
        split<;>simp
    ·rintro σ H5 ⟨Gu,Gx,v6,v7,rfl,s5,FY,zb,Ah,JP,JQ⟩;obtain⟨c2,e2,n2,h2⟩:=jJ.get zb Ah hin;have ed:(Gx.getD i []).getD i 0=ent rsx i i:=JP i;refine(ak rfl (ak rfl (pI (bg.of FY) (au (j:=i) e2) (ak rfl (pI (bg.of h2) (au (j:=i) (kZ (by rw[Ah.vH hin];exact hin))) (?_))))))
     refine⟨Gu,Gx,sgx,ent rsx i i,_,_,_,_,by rw[<-ed];rfl,s5,FY,zb,Ah,FW.step hin Dy fun r j h1 h2=>?_⟩
     have:=JQ r h1 h2 j;rw[if_pos (by lia)]at this
     exact this)
  ·rintro σ H2 ⟨ys,rs,sg,d,v4,v5,v6,v7,rfl,s2,Ep,pr,Tb,bs⟩;have e:((Cv.length:Int).toNat)=n:=by lia
   refine(ak rfl (ak rfl (bX ⟨.inl (by rcases bs.2.1 with rfl | rfl<;>decide),?_⟩)))
   rw[e]at bs;show Q (.int (sg*d)) H2;rw[bs.done];exact q _ s2
end
def prs(ts:List dZ):List (Nat×Nat):=ts.map fun t=>(t.1.toNat,t.2.1.toNat)
theorem xY{p:Nat}{ts:List dZ}(g:aD p ts):RM.ps g.N=prs ts:=by
 unfold RM.ps prs;refine List.ext_getElem (by rw[List.length_map,List.length_map,List.length_range];rfl) fun i h1 h2=>?_
 rw[List.length_map]at h2;rw[List.getElem_map,List.getElem_map,List.getElem_range];show((fF ts i).1.toNat,(fF ts i).2.1.toNat)=_;unfold fF;rw[List.getD_eq_getElem?_getD,List.getElem?_eq_getElem h2];rfl
def mG(u v e:Int):Int:=if e=v then u else e
def Dz(u v:Int)(ts:List dZ):List dZ:=(ts.map fun t=>(mG u v t.1,mG u v t.2.1,t.2.2)).filter fun t=>decide (t.1≠t.2.1)
theorem zf(u v:Int)(ts:List dZ):(Dz u v ts).length<=ts.length:=by
 unfold Dz;exact Nat.le_trans (List.length_filter_le _ _) (by rw[List.length_map];exact Nat.le_refl _)
theorem zg{u v e:Int}{p:Int}(hu:0<=u/\u<p)(he:0<=e/\e<p):0<=mG u v e/\mG u v e<p:=by
 unfold mG
 split
 ·exact hu
 ·exact he
theorem Ce{p:Nat}{ts:List dZ}{u v:Int}(g:aD p ts)(hu:0<=u/\u<(p:Int)):aD p (Dz u v ts):=by
 refine⟨g.p1,g.p2,Nat.le_trans (zf u v ts) g.len,fun t ht=>?_⟩
 obtain⟨h1,h2⟩:=List.mem_filter.mp ht;obtain⟨d,hd,rfl⟩:=List.mem_map.mp h1;have z:=g.pF d hd;have e1:=zg (v:=v) hu ⟨z.a0,z.a1⟩;have e2:=zg (v:=v) hu ⟨z.b0,z.b1⟩;exact⟨e1.1,e1.2,e2.1,e2.2,Am h2,z.l0,z.l1⟩
theorem zh{p:Nat}{u v:Nat}:∀{ts:List dZ},(∀ t∈ts,fj (p:Int) t)->prs (Dz (u:Int) (v:Int) ts)=Dt.bD u v (prs ts)
 | [],_=>rfl
 | t::ts,h=>by
   have ih:=zh (u:=u) (v:=v) fun d hd=>h d (sA _ hd)
   have z:=h t List.mem_cons_self;have e:∀ x:Int,0<=x->mG (u:Int) (v:Int) x=((Dt.mv u v x.toNat:Nat):Int):=fun x hx=>by
    unfold mG Dt.mv
    by_cases q:x=(v:Int)
    ·rw[if_pos q,if_pos (by lia)]
    ·rw[if_neg q,if_neg (by lia)];lia
   show prs (List.filter _ ((mG u v t.1,mG u v t.2.1,t.2.2)::ts.map _))=Dt.bD u v ((t.1.toNat,t.2.1.toNat)::prs ts);rw[Dt.mz,List.filter_cons,e t.1 z.a0,e t.2.1 z.b0]
   by_cases q:Dt.mv u v t.1.toNat=Dt.mv u v t.2.1.toNat
   ·rw[if_pos q,if_neg (by rw[decide_eq_true_eq];exact fun n=>n (by rw[q]))]
    exact ih
   ·rw[if_neg q,if_pos (by rw[decide_eq_true_eq];exact fun n=>q (by have:((Dt.mv u v t.1.toNat:Nat):Int)=((Dt.mv u v t.2.1.toNat:Nat):Int):=n;lia))]
    show(_,_)::prs (Dz u v ts)=_;rw[ih];rfl
def nC:Sp:=fun vs H Q _=>∃ e u v:Int,vs=[.int e,.int u,.int v]/\Q (.int (mG u v e)) H
def nE:Sp:=fun vs H Q _=>∃ w p ts,∃ u v:Int,vs=[.ref w,.int u,.int v]/\bI H w p ts/\ts.length<=24/\∀ D H',ao H H'->bI H' D p (Dz u v ts)->Q (.ref D) H'
def kR(n:Nat):Sp:=fun vs H Q _=>∃ w p ts,∃ _:aD p ts,vs=[.ref w]/\bI H w p ts/\ts.length<=n/\∀ H',ao H H'->Q (.int ((Dt.tk n (prs ts):Nat):Int)) H'
section
variable {P:Program}{w:World}{K:bF}{mg:iS}{base:Heap}{a:vd}
theorem iQ(T:Txt K mg a):aN P w K mg base dm 1 a.gx a.iN ["end","one","other"] nC:=by
 refine T.oU.ok uR (fun vs H Q E h=>?_) (fun cdv A outer s H vs Q E hr h=>?_)
 ·obtain⟨e,u,v,rfl,_⟩:=h;rfl
 ·obtain⟨e,u,v,rfl,q⟩:=h;refine⟨_,(aq (aO (qd (aV gp (pv 0) (pv 2) (aX _)) (pv 1) (pv 0)))),?_⟩;refine(ak rfl (ak rfl ⟨rfl,ak rfl (?_)⟩));unfold mG at q
  by_cases h:e=v
  ·rw[if_pos h]at q;exact vt (congrArg V.int h) (ak rfl (q))
  ·rw[if_neg h]at q;exact zE (fun z=>h (V.int.inj z)) (ak rfl (q))
theorem dQ(T:Txt K mg a):aN P w K mg base dm 2 a.bH a.cg ["web","one","other"] nE:=by
 have iQ:aN P w K mg base dm 1 a.gx a.iN ["end","one","other"] nC:=iQ T;refine T.gB.ok fG (fun vs H Q E h=>?_) (fun cdv A outer s H vs Q E hr h=>?_)
 ·obtain⟨w,p,ts,u,v,rfl,_⟩:=h;rfl
 ·obtain⟨wb,p,ts,u,v,rfl,hw,wl,q⟩:=h;refine⟨_,(ai (mS (i:=3) fG.nd rfl rfl (own:=["tie"]) (fq:=["one","other"]) (js:=[1,2]) (aQ (af aT) ["web","one","other","ties"]) rfl (Qo K (aI (jx K) (pv 0) ah (fun _ _=>rfl))) (fun _ _ _ _=>(aJ (i:=0) (show(["tie","one","other"]:List Str).Nodup by decide +kernel) rfl (Or.inl rfl))) (fun _ _ _ _=>gG) (fun _ _ _ _=>(gZ (aa (ay iQ (hr.mono (by decide)) (by rfl) T.oV T.o7 T.oW .nil aU (aa (aI (jx K) (pv 0) ah (fun _ _=>rfl)) (aa (pv 1) (aa (pv 2) ae)))) (aa (ay iQ (hr.mono (by decide)) (by rfl) T.oV T.o7 T.oW .nil aU (aa (aI (jx K) (pv 0) ah (fun _ _=>rfl)) (aa (pv 1) (aa (pv 2) ae)))) (aa (aI (jx K) (pv 0) ah (fun _ _=>rfl)) ae))))))
   (aq (aO (gZ (aa (aI (jx K) (pv 0) ah (fun _ _=>rfl)) (aa (bP (ym K) (by rfl) T.pX PyProof.Rows.boot_tuple (aa (dU (own:=["tie"]) (fq:=[]) (js:=[]) (aQ (af aT) ["web","one","other","ties"]) rfl (AU K (pv 3)) (fun _ _ _ _=>(aJ (i:=0) (show(["tie"]:List Str).Nodup by decide +kernel) rfl (Or.inl rfl))) (fun _ _ _ _=>(gH (aV vg (aI (jx K) (pv 0) ah (fun _ _=>rfl)) (aI (jx K) (pv 0) ah (fun _ _=>rfl)) (aX _)))) (fun _ _ _ _=>(pv 0))) ae)) ae)))))),?_⟩
  refine j8 ?_;intro dG;obtain⟨bt,xs,h1,h2,h3⟩:=id hw.ex;have u3:=h3.length;refine(ak rfl (jy (cE.of h1) (au (j:=1) rfl) ⟨bt,rfl,⟨_,cE.of h2⟩,fun D hD=>vp (xs:=xs) (fun i acc H2=>ao H H2/\H2 D=some (.lst acc)/\Paired (TupAt H2) acc ((ts.take i).map fun t=>(mG u v t.1,mG u v t.2.1,t.2.2))) ⟨ao.new hD,aj,by rw[List.take_zero];exact .nil⟩ (fun i acc H2 _ ⟨s2,nB,e⟩=>⟨cE.of (s2 _ _ h2),nB,by rw[e.length,List.length_map];exact List.length_take_le _ _⟩) (dl (Nat.ble_eq.mpr (by lia))) ?_ ?_⟩))
  ·rintro i x acc H2 hx ⟨s2,nB,e⟩;obtain⟨t,ht,ct,rfl,hct⟩:=Paired.rR h3 hx;have hct:=s2 _ _ hct;refine⟨rfl,ak rfl (jy (cE.of hct) (au (j:=0) rfl) (ak rfl (ak rfl ⟨t.1,u,v,rfl,ak rfl (jy (cE.of hct) (au (j:=1) rfl) (ak rfl (ak rfl ⟨t.2.1,u,v,rfl,ak rfl (jy (cE.of hct) (au (j:=2) rfl) ⟨dl rfl,fun c hc=>?_⟩)⟩)))⟩)))⟩
   have Tg:c≠D:=fun z=>by rw[z,nB]at hc;cases hc
   refine⟨ao.new hc _ _ nB,(s2.trans (ao.new hc)).put hD,aj,?_⟩;rw[List.take_add_one,ht,List.map_append];refine iI ⟨c,rfl,by rw[aL Tg,aj];rfl⟩ (Paired.imp' (fun x t z=>?_) e)
   obtain⟨c',rfl,hc'⟩:=z;refine⟨c',rfl,?_⟩;rw[aL (fun z=>by rw[z,nB]at hc';cases hc')]
   exact ao.new hc _ _ hc'
  rintro ac H2 ⟨s2,nB,e⟩;rw[u3,List.take_length]at e;have al:ac.length=ts.length:=by rw[e.length,List.length_map]
  generalize Th:(ts.map fun t=>((mG u v t.1,mG u v t.2.1,t.2.2):dZ))=ms at e
  have el:=e.length;refine(ak rfl (jy (cE.of (s2 _ _ h1)) (au (j:=0) rfl) (ak rfl ⟨D,rfl,⟨_,bg.of nB⟩,fun C hC=>fL (xs:=ac) (fun i acc H3=>ao H2 H3/\H3 C=some (.lst acc)/\acc.length<=i/\Paired (TupAt H3) acc ((ms.take i).filter fun t=>decide (t.1≠t.2.1))) ⟨ao.new hC,aj,Nat.le_refl _,by rw[List.take_zero];exact .nil⟩ (fun i acc H3 _ ⟨s3,Er,e,_⟩=>⟨bg.of (s3 _ _ nB),Er,e⟩) (uA (by lia)) ?_ ?_⟩)))
  ·rintro i x acc H3 hx ⟨s3,Er,Ti,e3⟩;obtain⟨t,ht,ct,rfl,hct⟩:=Paired.rR e hx;have hct:=s3 _ _ hct;refine⟨rfl,ak rfl (jy (cE.of hct) (au (j:=0) rfl) (ak rfl (jy (cE.of hct) (au (j:=1) rfl) ⟨rfl,ak rfl (?_)⟩)))⟩;rw[List.take_add_one,ht,List.filter_append]
   by_cases q:t.1=t.2.1
   ·refine yi (congrArg V.int q) ⟨s3,Er,by lia,?_⟩
    show Paired _ _ (_++List.filter _ [t]);rw[List.filter_cons,if_neg (by rw[decide_eq_true_eq];exact fun n=>n q),List.filter_nil,List.append_nil]
    exact e3
   ·have hcC:ct≠C:=fun z=>by rw[z,Er]at hct;cases hct
    refine Cc (fun z=>q (V.int.inj z)) (ak rfl ⟨Er,s3.put hC,aj,by rw[List.length_append];show _+1<=_;lia,?_⟩)
    show Paired _ _ (_++List.filter _ [t]);rw[List.filter_cons,if_pos (by rw[decide_eq_true_eq];exact q),List.filter_nil]
    refine iI ⟨ct,rfl,by rw[aL hcC];exact hct⟩ (Paired.imp' (fun x t z=>?_) e3)
    obtain⟨c',rfl,hc'⟩:=z;refine⟨c',rfl,?_⟩;rw[aL (fun z=>by rw[z,Er]at hc';cases hc')]
    exact hc'
  rintro LV H3 ⟨s3,Er,Ti,e3⟩;rw[el,List.take_length,<-Th]at e3;have e3:Paired (TupAt H3) LV (Dz u v ts):=e3;refine⟨C,_,rfl,.inl ⟨bg.of Er,fun Tp Iu=>⟨dl rfl,fun W hW=>?_⟩⟩⟩
  have s8:ao H3 (upd (upd H3 Tp (.tup LV)) W (.tup [.int (p:Int),.ref Tp])):=(ao.new Iu).trans (ao.new hW);exact q W _ ((s2.trans s3).trans s8) ⟨Tp,LV,aj,ao.new hW _ _ aj,Paired.imp' (fun x t ⟨c,e,hc⟩=>⟨c,e,s8 _ _ hc⟩) e3⟩
end
def Cf:Nat->Sp
 | 0=>fun _ _ _ _=>False
 | n+1=>kR n
theorem Cg{n m:Nat}(e:n=m+1){vs:List V}{H:Hp}{Q:VK}{E:XK}(h:kR m vs H Q E):Cf n vs H Q E:=by
 subst e;exact h
theorem Ai{p:Nat}{t:dZ}{ts:List dZ}(g:aD p (t::ts)):aD p ts:=⟨g.p1,g.p2,by have:=g.len;rw[List.length_cons]at this;lia,fun d hd=>g.pF d (sA _ hd)⟩
open Classical in
theorem Aj{p:Nat}{t:dZ}{ts:List dZ}(g:aD p (t::ts))(g1:aD p ts):g.N.br.length=g1.N.br.length+if Dt.Cn (prs ts) t.1.toNat t.2.1.toNat then 1 else 0:=by
 have:=RM.xO (N:=g.N) (N1:=g1.N) rfl rfl (fun k _=>rfl) (fun k _=>rfl)
 rw[xY g1]at this;exact this
theorem Ci(xs:List V)(k:Nat):pC xs (some (k:Int)) none=xs.drop k:=by
 unfold pC;rw[HT.yd,HT.vm]
 by_cases h:k<=xs.length
 ·rw[Nat.min_eq_left h,List.take_of_length_le (by rw[List.length_drop];exact Nat.le_refl _)]
 ·rw[Nat.min_eq_right (by lia),Nat.sub_self,List.take_zero,List.drop_eq_nil_of_le (by lia)]
section
variable {P:Program}{w:World}{K:bF}{mg:iS}{base:Heap}{a:vd}
open Classical in
theorem rG(T:Txt K mg a)(n:Nat)(gj:aN P w K mg base dm (6+n) a.cz a.cZ ["web"] (Cf n)):aN P w K mg base dm (6+n+1) a.cz a.cZ ["web"] (kR n):=by
 have u4:aN P w K mg base dm 6 a.qR a.uV ["web"] y9:=u4 T;have dQ:aN P w K mg base dm 2 a.bH a.cg ["web","one","other"] nE:=dQ T;refine T.lO.ok dH (fun vs H Q E h=>?_) (fun cdv A outer s H vs Q E hr h=>?_)
 ·obtain⟨w,p,ts,g,rfl,_⟩:=h;rfl
 ·obtain⟨wb,p,ts,g,rfl,hw,hn,q⟩:=h;refine⟨_,(ai (d7 (aV gp (aB (iC K) (by rfl) T.dY PySem.boot_len (aa (aI (jx K) (pv 0) ah (fun _ _=>rfl)) ae)) ah (aX _)) (aq (aO ah)) bK)
   (ai (aG (i:=1) dH.nd rfl (Or.inl rfl) (aI (jx K) (aI (jx K) (pv 0) ah (fun _ _=>rfl)) ah (fun _ _=>rfl)))
   (ai (aG (i:=2) dH.nd rfl (Or.inl rfl) (gZ (aa (aI (jx K) (pv 0) ah (fun _ _=>rfl)) (aa (mO (Ft) (aI (jx K) (pv 0) ah (fun _ _=>rfl)) (pR ah) pQ) ae))))
   (ai (aG (i:=3) dH.nd rfl (Or.inl rfl) (ay gj (hr.mono (by lia)) (by rfl) T.iZ T.i6 T.i0 .nil aU (aa (ay dQ (hr.mono (by lia)) (by rfl) T.kJ T.kN T.kK .nil aU (aa (pv 2) (aa (aI (jx K) (pv 1) ah (fun _ _=>rfl)) (aa (aI (jx K) (pv 1) ah (fun _ _=>rfl)) ae)))) ae)))
   (ai (d7 (aV yc (ay u4 (hr.mono (by lia)) (by rfl) T.BW T.Ca T.BX .nil aU (aa (pv 2) ae)) (ay u4 (hr.mono (by lia)) (by rfl) T.BW T.Ca T.BX .nil aU (aa (pv 0) ae)) (aX _)) (aq (EG (i:=3) dH.nd rfl (Or.inl rfl) (ay gj (hr.mono (by lia)) (by rfl) T.iZ T.i6 T.i0 .nil aU (aa (pv 2) ae)) CJ)) bK)
   (aq (aO (pv 3)))))))),?_⟩
  refine qM ?_;intro dG gq jZ kB nh ni v9;obtain⟨bt,xs,h1,h2,h3⟩:=id hw.ex;have u3:=h3.length;have wl:=g.len;refine(ak rfl (jy (cE.of h1) (au (j:=1) rfl) (pW rfl (.inr (cE.of h2)) ⟨rfl,ak rfl (?_)⟩)))
  match ts,xs,h3,g,hw,hn,q,u3,wl,h2 with
  | [],xs,h3,g,hw,hn,q,u3,wl,h2 =>
    rw[show decide (V.int ((xs.length:Nat):Int)=V.int 0)=true from gC (by rw[u3];rfl)]
    have e:Dt.tk n (prs [])=1:=by cases n<;>rfl
    rw[e]at q;exact ki (q H (ao.refl _))
  | t::ts,x::xs,.cons ⟨c,ex,hc⟩ h3,g,hw,hn,q,u3,wl,h2 =>
    subst ex;obtain⟨m,em⟩:∃ m,n=m+1:=⟨n-1,by rw[List.length_cons]at hn;lia⟩
    have hn:ts.length<=m:=by rw[List.length_cons]at hn;lia
    have wl:ts.length<=23:=by rw[List.length_cons]at wl;lia
    have g1:=Ai g;have z:=g.pF t List.mem_cons_self;rw[show decide (V.int ((((V.ref c::xs).length:Nat)):Int)=V.int 0)=false from j9 (fun y=>by have:=V.int.inj y;rw[List.length_cons]at this;lia)]
    refine fK (ak rfl (jy (cE.of h1) (au (j:=1) rfl) (jy (cE.of h2) (au (j:=0) rfl) (?_))));refine(ak rfl (jy (cE.of h1) (au (j:=0) rfl) (ak rfl (jy (cE.of h1) (au (j:=1) rfl) (ak rfl ⟨bt,_,rfl,h2,fun tp H2 s2 htp=>⟨dl rfl,fun W hW=>?_⟩⟩)))))
    have htp:H2 tp=some (.tup xs):=by rw[htp,show pC (V.ref c::xs) (some 1) none=(V.ref c::xs).drop 1 from Ci _ 1];rfl
    have s3:ao H (upd H2 W (.tup [.int (p:Int),.ref tp])):=s2.trans (ao.new hW);have JR:bI (upd H2 W (.tup [.int (p:Int),.ref tp])) W p ts:=⟨tp,xs,aj,ao.new hW _ _ htp,Paired.imp' (fun x t ⟨c,e,hc⟩=>⟨c,e,s3 _ _ hc⟩) h3⟩
    generalize upd H2 W (.tup [.int (p:Int),.ref tp])=H3 at s3 JR;have hc3:=s3 _ _ hc;refine(ak rfl (ak rfl (jy (cE.of hc3) (au (j:=0) rfl) (ak rfl (jy (cE.of hc3) (au (j:=1) rfl) ⟨W,p,ts,t.1,t.2.1,rfl,JR,by lia,fun D H4 s4 hD=>?_⟩)))))
    refine Cg em ⟨D,p,Dz t.1 t.2.1 ts,Ce g1 ⟨z.a0,z.a1⟩,rfl,hD,Nat.le_trans (zf _ _ _) hn,fun H5 s5=>?_⟩
    have LW:=s4.trans s5;have ec:prs (Dz t.1 t.2.1 ts)=Dt.bD t.1.toNat t.2.1.toNat (prs ts):=by
     have:=zh (p:=p) (u:=t.1.toNat) (v:=t.2.1.toNat) g1.pF;rw[Int.toNat_of_nonneg z.a0,Int.toNat_of_nonneg z.b0]at this;exact this
    rw[ec];have eq:Dt.tk n (prs (t::ts))=Dt.tk m (Dt.bD t.1.toNat t.2.1.toNat (prs ts))+if Dt.Cn (prs ts) t.1.toNat t.2.1.toNat then Dt.tk m (prs ts) else 0:=by rw[em];rfl
    have er:=Aj g g1;refine(ak rfl ⟨W,p,ts,g1,rfl,JR.same LW,fun H6 s6=>(ak rfl ⟨wb,p,t::ts,g,rfl,hw.same ((s3.trans LW).trans s6),fun H7 s7=>(bX (ak rfl (?_)))⟩)⟩)
    have LX:=(LW.trans s6).trans s7
    by_cases hq:Dt.Cn (prs ts) t.1.toNat t.2.1.toNat
    ·rw[if_pos hq]at er eq;rw[eq]at q;refine ur (fun _=>(ak rfl (ak rfl (Cg em ⟨W,p,ts,g1,rfl,JR.same LX,hn,fun H8 s8=>(bX (?_))⟩)))) (fun y=>absurd (gC (by lia)) y)
     have:=q H8 ((s3.trans LX).trans s8);rw[Int.natCast_add]at this;exact(ak rfl (this))
    ·rw[if_neg hq]at er eq;rw[eq]at q;refine ur (fun y=>absurd (Am y) (by lia)) (fun _=>?_)
     exact(ak rfl (q H7 (s3.trans LX)))
theorem tX(T:Txt K mg a):∀ n,aN P w K mg base dm (6+n+1) a.cz a.cZ ["web"] (kR n)
 | 0=>rG T 0 ⟨fun _ _ _ _ h=>h.elim,fun _ _ _ _ _ _ _ _ _ _ _ _ _ h=>h.elim⟩
 | n+1=>rG T (n+1) (tX T n)
end
theorem FZ(x u v:Nat):EW (.int (x:Int)) [.int (u:Int),.int (v:Int)]=decide (u=x\/v=x):=by
 have e:([.int (u:Int),.int (v:Int)]:List V)=bh [u,v]:=rfl;rw[e,vF];refine decide_eq_decide.mpr ?_;simp[eq_comm]
theorem DA{rs:List (List Int)}{b:Nat}(h:∀ r∈rs,∀ x∈r,x.natAbs<=b)(i j:Nat):(ent rs i j).natAbs<=b:=by
 unfold ent;rw[List.getD_eq_getElem?_getD,List.getD_eq_getElem?_getD];cases e:rs[i]? with
 | none=>exact Nat.zero_le _
 | some r =>
   show(r[j]?.getD 0).natAbs<=b;cases e2:r[j]? with
   | none=>exact Nat.zero_le _
   | some x=>exact h r (Cy e) x (Cy e2)
def jU(C:Addr):Sp:=fun vs H Q E=>∃ w p ts,∃ _:aD p ts,vs=[.ref w]/\bI H w p ts/\(ts.length<=12->Q .fH H)/\(12<ts.length->E (.ref C) none H)
def jV(C:Addr):Sp:=fun vs H Q E=>∃ w p ts,∃ g:aD p ts,vs=[.ref w]/\bI H w p ts/\(ts.length<=12->∀ H',ao H H'->Q (.int (RM.fo g.N)) H')/\(12<ts.length->E (.ref C) none H)
def kT:Sp:=fun vs H Q _=>∃ w p ts,∃ g:aD p ts,vs=[.ref w]/\bI H w p ts/\∀ H',ao H H'->Q (.int (RM.fo g.N)) H'
theorem tY{p:Nat}{t:dZ}(z:fj (p:Int) t)(u:Nat):fC t u=decide (t.1.toNat=u\/t.2.1.toNat=u):=by
 have:=FZ u t.1.toNat t.2.1.toNat;rw[Int.toNat_of_nonneg z.a0,Int.toNat_of_nonneg z.b0]at this;exact this
theorem Ak(t:dZ)(ts:List dZ)(u v:Nat):pM (t::ts) u v=(if(fC t u&&fC t v)=true then(if v=u then 1 else -1) else 0)+pM ts u v:=by
 unfold pM pL;rw[List.filter_cons]
 by_cases h:(fC t u&&fC t v)=true
 ·rw[if_pos h,if_pos h,List.length_cons]
  by_cases e:v=u
  ·rw[if_pos e,if_pos e,if_pos e];lia
  ·rw[if_neg e,if_neg e,if_neg e];lia
 ·rw[if_neg h,if_neg h]
  lia
theorem tZ{p:Nat}{u v:Nat}:∀{ts:List dZ},(∀ t∈ts,fj (p:Int) t)->pM ts u v=Dt.dg (prs ts) u v
 | [],_=>by
   show(if v=u then(0:Int) else -0)=0
   split<;>rfl
 | t::ts,h=>by
   have ih:=tZ (u:=u) (v:=v) fun d hd=>h d (sA _ hd)
   have z:=h t List.mem_cons_self;rw[Ak,ih,tY z,tY z];show _=Dt.dl (t.1.toNat,t.2.1.toNat) u*Dt.dl (t.1.toNat,t.2.1.toNat) v+Dt.dg (prs ts) u v
   congr 1
   have ne:t.1.toNat≠t.2.1.toNat:=by
    have:=z.ne;have:=z.a0;have:=z.b0
    lia
   unfold Dt.dl Dt.un;dsimp only;generalize t.1.toNat=a at ne;generalize t.2.1.toNat=b at ne;have two:∀ x:Nat,(x=a/\x≠b)\/(x≠a/\x=b)\/(x≠a/\x≠b):=fun x=>by lia
   have f:∀ x:Nat,(decide (a=x\/b=x))=decide (x=a\/x=b):=fun x=>decide_eq_decide.mpr (by lia)
   rw[f,f];rcases two u with⟨h1,h2⟩|⟨h1,h2⟩|⟨h1,h2⟩<;>rcases two v with⟨h3,h4⟩|⟨h3,h4⟩|⟨h3,h4⟩
   all_goals
    first | rw[if_pos h1] | rw[if_neg h1]
    first | rw[if_pos h2] | rw[if_neg h2]
    first | rw[if_pos h3] | rw[if_neg h3]
    first | rw[if_pos h4] | rw[if_neg h4]
    first
     | (rw[if_pos (by rw[gC (by lia),gC (by lia)];rfl),if_pos (by lia)];rfl)
     | (rw[if_pos (by rw[gC (by lia),gC (by lia)];rfl),if_neg (by lia)];rfl)
     | (rw[if_neg (by rw[j9 (p:=v=a\/v=b) (by lia),Bool.and_false];decide)];rfl)
     | (rw[if_neg (by rw[j9 (p:=u=a\/u=b) (by lia),Bool.false_and];decide)];rfl)
theorem DB{p:Nat}{ts:List dZ}(g:aD p ts):dh p ts g=RM.kp g.N:=by
 unfold dh RM.kp;show(List.range p).filter _=(List.range p).filter _;refine List.filter_congr fun x _=>?_
 have e:aZ p ts g (2^ts.length-1)=g.N.dB ts.length:=by
  unfold aZ RM.Net.dB;exact RM.jG fun k hk=>by rw[pS];simp[hk]
 rw[e];rfl
theorem DC{p:Nat}{ts:List dZ}(g:aD p ts):Dt.det (dh p ts g).length (ent (u5 p ts g))=RM.fo g.N:=by
 unfold RM.fo;rw[Dt.Dn];have e:=DB g;show _=Dt.det (RM.kp g.N).length (fun i j=>Dt.dg (RM.ps g.N) ((RM.kp g.N).getD i 0) ((RM.kp g.N).getD j 0))
 rw[<-e,xY];refine Dt.aA fun i j hi hj=>?_
 show((u5 p ts g).getD i []).getD j 0=_;unfold u5;rw[List.getD_eq_getElem?_getD (l:=List.map _ _),List.getElem?_map,List.getElem?_eq_getElem hi];show(List.map (fun v=>pM ts (dh p ts g)[i] v) (dh p ts g)).getD j 0=_
 rw[List.getD_eq_getElem?_getD,List.getElem?_map,List.getElem?_eq_getElem hj,List.getD_eq_getElem?_getD,List.getElem?_eq_getElem hi,List.getD_eq_getElem?_getD,List.getElem?_eq_getElem hj];exact tZ g.pF
theorem Cj{ts:List dZ}(h:ts.length<=24)(u v:Nat):(pM ts u v).natAbs<=24:=by
 unfold pM;have:pL ts u v<=ts.length:=List.length_filter_le _ _
 split<;>lia
section
variable {P:Program}{w:World}{K:bF}{mg:iS}{base:Heap}{a:vd}
theorem eZ(T:Txt K mg a):aN P w K mg base (lG P w) 1 a.eW a.gw ["web"] (jU a.az):=by
 refine T.oQ.Ff uP (fun vs H Q E h=>?_) (fun cdv A outer s H vs Q E hr h=>?_)
 ·obtain⟨w,p,ts,g,rfl,_⟩:=h;rfl
 ·obtain⟨wb,p,ts,g,rfl,hw,q1,q2⟩:=h;refine⟨_,(aq (d7 (aV AE (aB (iC K) (by rfl) T.dY PySem.boot_len (aa (aI (jx K) (pv 0) ah (fun _ _=>rfl)) ae)) (CY (by rfl) T.uZ) (aX _)) (aq (vy ko.Qt rfl (by rfl) T.Ac PySem.F.excBase_ValueError (aa Av ae))) bK)),?_⟩
  refine uQ ?_;intro dG;obtain⟨bt,xs,h1,h2,h3⟩:=id hw.ex;have u3:=h3.length;refine(ak rfl (jy (cE.of h1) (au (j:=1) rfl) (pW rfl (.inr (cE.of h2)) (bX (ak rfl (ur (fun y=>?_) (fun y=>?_)))))))
  ·have:=Am y;exact⟨dl rfl,q2 (by lia)⟩
  ·refine q1 ?_;have : ¬ _:=fun x=>y (gC x)
   lia
theorem aW(T:Txt K mg a):aN P w K mg base (lG P w) 20 a.bC a.bJ ["web"] (jV a.az):=by
 have eZ:aN P w K mg base (lG P w) 1 a.eW a.gw ["web"] (jU a.az):=eZ T;have gj:aN P w K mg base dm 19 a.cz a.cZ ["web"] (kR 12):=tX T 12;refine T.gE.Ff kD (fun vs H Q E h=>?_) (fun cdv A outer s H vs Q E hr h=>?_)
 ·obtain⟨w,p,ts,g,rfl,_⟩:=h;rfl
 ·obtain⟨wb,p,ts,g,rfl,hw,q1,q2⟩:=h;refine⟨_,(ai (cF (ay eZ (hr.mono (by decide)) (by rfl) T.oR T.o6 T.oS .nil ko.passes (aa (pv 0) ae)))
   (aq (aO (ay gj (hr.mono (by decide)) (by rfl) T.iZ T.i6 T.i0 .nil aU (aa (pv 0) ae))))),?_⟩
  refine kE ?_;intro dG;refine(ak rfl ⟨wb,p,ts,g,rfl,hw,fun h12=>?_,q2⟩)
  refine(ak rfl ⟨wb,p,ts,g,rfl,hw,h12,fun H' s'=>?_⟩)
  have:=q1 h12 H' s';rw[RM.Ec (N:=g.N) h12,xY]at this;exact this
theorem eB(T:Txt K mg a):aN P w K mg base dm 7 a.eg a.gb ["web"] kT:=by
 have iz:aN P w K mg base dm 6 a.dP a.fB ["web"] j4:=iz T;have ja:aN P w K mg base dm 2 a.ef a.fZ ["table"] Cd:=ja T;refine T.lN.ok qL (fun vs H Q E h=>?_) (fun cdv A outer s H vs Q E hr h=>?_)
 ·obtain⟨w,p,ts,g,rfl,_⟩:=h;rfl
 ·obtain⟨wb,p,ts,g,rfl,hw,q⟩:=h;refine⟨_,(aq (aO (ay ja (hr.mono (by decide)) (by rfl) T.r9 T.sr T.sd .nil aU (aa (ay iz (hr.mono (by decide)) (by rfl) T.qW T.rz T.qX .nil aU (aa (pv 0) ae)) ae)))),?_⟩
  have kl:(dh p ts g).length<=10:=Nat.le_trans (List.length_filter_le _ _) (by rw[List.length_range];exact g.p2)
  refine(ak rfl ⟨wb,p,ts,g,rfl,hw,fun D ys H1 hD s1 JN py=>⟨D,u5 p ts g,(dh p ts g).length,24,rfl,⟨ys,JN,Paired.imp' (fun _ _ z=>z.is) py⟩,⟨by unfold u5;rw[List.length_map],fun r hr=>by
   unfold u5 at hr;obtain⟨l,_,rfl⟩:=List.mem_map.mp hr;exact List.length_map _⟩,by lia,by decide,Nat.lt_of_le_of_lt (Dt.yJ (by decide) kl) (by decide),DA fun r hr x hx=>by
   unfold u5 at hr;obtain⟨l,_,rfl⟩:=List.mem_map.mp hr;obtain⟨c,_,rfl⟩:=List.mem_map.mp hx;exact Cj g.len _ _,fun H2 s2=>?_⟩⟩)
  rw[DC];exact q H2 (s1.trans s2)
end
open Classical in
noncomputable def frsL (p:Nat) (ts:List dZ) (g:aD p ts):List Nat:=(List.range (2^ts.length)).filter fun m=>decide (zc p ts g m)
def iA(C:Addr):Sp:=fun vs H Q E=>∃ w p ts,∃ g:aD p ts,vs=[.ref w]/\bI H w p ts/\((ts.length<=9/\∀ D H',H D=none->ao H H'->H' D=some (.lst (bh (frsL p ts g)))->Q (.ref D) H')\/(12<ts.length/\E (.ref C) none H))
theorem DE{p:Nat}{ts:List dZ}{g:aD p ts}{m:Nat}:zc p ts g m↔(RM.xJ g.N m/\∀ x,x<p->g.N.aS (fun j=>m.testBit j) ts.length x=g.N.dB ts.length x):=by
 unfold zc;have e:aZ p ts g (2^ts.length-1)=g.N.dB ts.length:=by
  unfold aZ RM.Net.dB;exact RM.jG fun k hk=>by rw[pS];simp[hk]
 rw[e];rfl
open Classical in
theorem DF{p:Nat}{ts:List dZ}(g:aD p ts):(((frsL p ts g).length:Nat):Int)=RM.fo g.N:=by
 refine RM.FL g.N fun m _=>?_
 rw[decide_eq_true_eq];exact DE
theorem DG{p:Nat}{ts:List dZ}{g:aD p ts}(h:ts.length<=9):(frsL p ts g).length<=512:=by
 refine Nat.le_trans (List.length_filter_le _ _) ?_;rw[List.length_range];exact Nat.le_trans (Nat.pow_le_pow_right (n:=2) (by decide) h) (by decide)
section
variable {P:Program}{w:World}{K:bF}{mg:iS}{base:Heap}{a:vd}
open Classical in
theorem cA(T:Txt K mg a):aN P w K mg base (lG P w) 7 a.dc a.ej ["web"] (iA a.az):=by
 have eZ:aN P w K mg base (lG P w) 1 a.eW a.gw ["web"] (jU a.az):=eZ T;have bz:aN P w K mg base dm 1 a.cR a.dN ["web"] eY:=bz T;have kQ:aN P w K mg base (lG P w) 6 a.gu a.iM ["web","tie_set"] (nA a.cO):=kQ T;refine T.lP.Ff qN (fun vs H Q E h=>?_) (fun cdv A outer s H vs Q E hr h=>?_)
 ·obtain⟨w,p,ts,g,rfl,_⟩:=h;rfl
 ·obtain⟨wb,p,ts,g,rfl,hw,q⟩:=h;refine⟨_,(ai (cF (ay eZ (hr.mono (by decide)) (by rfl) T.oR T.o6 T.oS .nil ko.passes (aa (pv 0) ae)))
   (aq (aO (dU (own:=["tie_set"]) (fq:=["web"]) (js:=[0]) (aQ (af ck) ["web"]) rfl (bO (by rfl) T.bN (aa (aE cK (ay bz (hr.mono (by decide)) (by rfl) T.ig T.iu T.ik .nil aU (aa (pv 0) ae)) ah) ae)) (fun _ _ _ _=>(aJ (i:=0) (show(["tie_set","web"]:List Str).Nodup by decide +kernel) rfl (Or.inl rfl))) (fun _ _ _ _=>(gH (gV (ay kQ (hr.mono (by decide)) (by rfl) T.wJ T.wQ T.wK .nil oF (aa (pv 1) (aa (pv 0) ae)))))) (fun _ _ _ _=>(pv 0)))))),?_⟩
  refine qO ?_;intro dG;rcases q with⟨h9,q⟩|⟨h12,q⟩
  case inr=>exact(ak rfl ⟨wb,p,ts,g,rfl,hw,fun h=>absurd h (by lia),fun _=>q⟩)
  refine(ak rfl ⟨wb,p,ts,g,rfl,hw,fun _=>?_,fun h=>absurd h (by lia)⟩)
  have pp:=Nat.two_pow_pos ts.length;have LY:2^ts.length<=512:=Nat.le_trans (Nat.pow_le_pow_right (n:=2) (by decide) h9) (by decide)
  have QV:((2:Int)^ts.length)=((2^ts.length:Nat):Int):=by simp
  have e0:(2:Int)^ts.length-1+1=((2^ts.length:Nat):Int):=by lia
  refine(ak rfl ⟨wb,p,ts,rfl,hw,g.HL,_,_,rfl,rfl,((2^ts.length:Nat):Int),congrArg (fun z=>[V.int z]) e0,by lia,by lia,fun D hD=>eF (lo:=0) (m:=(((2^ts.length:Nat):Int)).toNat) (lD (fun m=>decide (zc p ts g m)) H D) (.start hD) (fun i ac H3 _ pk=>pk.len) (Nat.le_of_lt (eK (by lia))) ?_ ?_⟩)
  ·intro i ac H3 hi pk;rw[Int.zero_add];rw[Int.toNat_natCast]at hi;refine⟨rfl,ak rfl (ak rfl ⟨wb,p,ts,g,_,rfl,hw.same pk.1,.inl ⟨i,rfl,hi,fun hf H4 s4=>?_,fun hf H4 s4=>?_⟩⟩)⟩
   ·exact(ak rfl (ki (ak rfl (pk.yes hD s4 (gC hf)))))
   ·exact(ak rfl (fK (pk.no s4 (j9 hf))))
  ·intro ac H3 pk;refine q D H3 hD pk.1 ?_;rw[pk.2.1,pk.2.2,Int.toNat_natCast];rfl
end
def pY(K:bF):Sp:=fun vs H Q _=>∃(a:Addr) (ns:List Int) (k:Nat),vs=[.ref a,.int (k:Int)]/\bg K H a (ns.map V.int)/\∀ z,Q (.int z) H
def pZ:Sp:=fun vs H Q _=>∃ c k,vs=[.int c,.int k]/\∀ z,0<=z->Q (.int z) H
def Ck:Sp:=fun vs H Q _=>∃(c:Int) (p:Nat) (t:Int),vs=[.int c,.int (p:Int),.int t]/\2<=p/\p<=10/\1<=t/\t<=100000000000000000000000000000/\
 ∀ wZ b r c' H',ao H H'->fj (p:Int) wZ->H' b=some (.tup (A8 wZ))->H' r=some (.tup [.ref b,.int c'])->Q (.ref r) H'
def Cm(K:bF):Sp:=fun vs H Q _=>∃(a:Addr) (ns:List Int) (most:Nat),vs=[.ref a,.int (most:Int)]/\bg K H a (ns.map V.int)/\ns.length<=63/\most<=24/\
 ∀ w p ts H',ao H H'->aD p ts->p<=6->ts.length<=most->bI H' w p ts->Q (.ref w) H'
theorem Iv(y:Int):∃ m,Ao [V.int 1,.int 1,.int 1,.int (10^(29:Int).toNat)] (y%4)=some (.int m)/\1<=m/\m<=100000000000000000000000000000:=by
 obtain⟨h0,h1⟩:=eL y 4 (by decide)
 generalize y%4=i at h0 h1;have hi:i=0\/i=1\/i=2\/i=3:=by lia
 rcases hi with rfl|rfl|rfl|rfl
 ·exact⟨1,au (j:=0) rfl,by decide,by decide⟩
 ·exact⟨1,au (j:=1) rfl,by decide,by decide⟩
 ·exact⟨1,au (j:=2) rfl,by decide,by decide⟩
 ·exact⟨10^(29:Int).toNat,au (j:=3) rfl,by decide,by decide⟩
section
variable {P:Program}{w:World}{K:bF}{mg:iS}{base:Heap}{a:vd}
theorem cB(T:Txt K mg a):aN P w K mg base dm 1 a.eI a.fU ["script","k"] (pY K):=by
 refine T.qY.ok we (fun vs H Q E h=>?_) (fun cdv A outer s H vs Q E hr h=>?_)
 ·obtain⟨b,ns,k,rfl,_⟩:=h;rfl
 ·obtain⟨b,ns,k,rfl,hS,q⟩:=h;refine⟨_,(ai (d7 (aV yc (pv 1) (aB (iC K) (by rfl) T.dY PySem.boot_len (aa (pv 0) ae)) (aX _)) (aq (aO (aI (nI K) (pv 0) (pv 1) (fun _ _=>rfl)))) bK)
   (aq (aO ah))),?_⟩
  refine wg ?_;intro dG gq;refine(ak rfl (ak rfl ⟨b,_,rfl,.inl hS,_,_,rfl,rfl,ak rfl (ur (fun hlt=>?_) (fun _=>q 0))⟩))
  have hlt:=Am hlt;rw[List.length_map]at hlt;exact(ak rfl (ak rfl ⟨b,_,_,_,rfl,rfl,hS,au (j:=k) (yt (by lia)),q _⟩))
theorem bV(T:Txt K mg a):aN P w K mg base dm 1 a.eJ a.fV ["cell","k"] pZ:=by
 refine T.qZ.ok kF (fun vs H Q E h=>?_) (fun cdv A outer s H vs Q E hr h=>?_)
 ·obtain⟨c,k,rfl,_⟩:=h;rfl
 ·obtain⟨c,k,rfl,q⟩:=h;refine⟨_,(ai (aG (i:=2) kF.nd rfl (Or.inl rfl) (aE bL (aE cK (aE cK (pv 0) (aE nN ah (pv 1))) ah) ah))
   (ai (aG (i:=2) kF.nd rfl (Or.inl rfl) (aE bL (aE nN (pv 2) (pv 2)) ah))
   (aq (aO (aE iE (aE bL (aE nN (pv 2) ah) ah) ah))))),?_⟩
  refine wj ?_;intro dG gq;refine(ak rfl (ak rfl (bX ⟨.inl ⟨by decide,by decide⟩,bX (bX (bX ⟨(lY rfl),?_⟩))⟩)))
  have h1:=eL (c+7919*k+101) 2147483647 (by decide)
  dsimp only;generalize (c+7919*k+101)%2147483647=n at h1;refine(ak rfl (ak rfl (bX ⟨.inl ⟨by lia,by lia⟩,bX ⟨(lY rfl),?_⟩⟩)))
  refine(ak rfl (bX ⟨.inr ⟨by decide,by decide⟩,bX ⟨(lY rfl),bX ⟨⟨by decide,by decide⟩,?_⟩⟩⟩))
  have h2:=eL (n*n%2147483647*48271) 2147483629 (by decide)
  exact q _ (Int.ediv_nonneg h2.1 (by decide))
theorem lA(T:Txt K mg a):aN P w K mg base dm 1 a.ju a.lu ["c","points","times"] Ck:=by
 refine T.tP.ok h7 (fun vs H Q E h=>?_) (fun cdv A outer s H vs Q E hr h=>?_)
 ·obtain⟨c,p,t,rfl,_⟩:=h;rfl
 ·obtain⟨c,p,t,rfl,QW,Hs,VH,VI,q⟩:=h;refine⟨_,(ai (aG (i:=3) h7.nd rfl (Or.inl rfl) (aE bL (pv 0) (pv 1)))
   (ai (aG (i:=0) h7.nd rfl (Or.inl rfl) (aE iE (pv 0) (pv 1)))
   (ai (aG (i:=4) h7.nd rfl (Or.inl rfl) (aE bL (aE cK (aE cK (pv 3) ah) (aE bL (pv 0) (aE iT (pv 1) ah))) (pv 1)))
   (ai (aG (i:=0) h7.nd rfl (Or.inl rfl) (aE iE (pv 0) (aE iT (pv 1) ah)))
   (aq (aO (gZ (aa (gZ (aa (pv 3) (aa (pv 4) (aa (aE nN (aE cK ah (aE bL (pv 0) ah)) (pv 2)) ae)))) (aa (aE iE (pv 0) ah) ae))))))))),?_⟩
  refine xR ?_;intro dG gq jZ kB;have p0:(0:Int)<(p:Int):=by lia
  have p9:(0:Int)<(p:Int)-1:=by lia
  have hd:∀ i,EJ i (p:Int):=fun i=>⟨by lia,by lia⟩
  have hd1:∀ i,EJ i ((p:Int)-1):=fun i=>⟨by lia,by lia⟩
  refine(ak rfl (ak rfl (bX ⟨p0,?_⟩)));refine(ak rfl (ak rfl (bX ⟨hd _,?_⟩)));refine(ak rfl (bX (ak rfl (ak rfl (bX (bX ⟨p9,_,_,rfl,rfl,ak rfl (bX ⟨p0,?_⟩)⟩))))));refine(ak rfl (ak rfl (bX (bX ⟨hd1 _,?_⟩))));obtain⟨r0,r1⟩:=eL (c/p/(p-1)) 9 (by decide)
  refine(ak rfl (ak rfl (ak rfl (bX ⟨(lY rfl),bX (ak rfl (bX ⟨.inl ⟨by lia,by lia⟩,dl rfl,fun b hb=>?_⟩))⟩))))
  refine(ak rfl (bX ⟨⟨by decide,by decide⟩,dl rfl,fun r hr=>?_⟩))
  obtain⟨o1,o2,o3⟩:=A9 (p:=p) (o:=c%p) (r:=c/p%(p-1)) (eL _ _ p0).1 (eL _ _ p0).2 (eL _ _ p9).1 (eL _ _ p9).2;refine q (c%p,(c%p+1+c/p%(p-1))%p,(1+c/p/(p-1)%9)*t) b r _ _ ((ao.new hb).trans (ao.new hr)) ?_ (ao.new hr _ _ aj) aj;generalize c/p/(p-1)%9=r at r0 r1;have hr' : r=0\/r=1\/r=2\/r=3\/r=4\/r=5\/r=6\/r=7\/r=8:=by lia
  refine⟨(eL _ _ p0).1,(eL _ _ p0).2,o1,o2,o3,?_,?_⟩
  ·show 1<=(1+r)*t;rcases hr' with rfl|rfl|rfl|rfl|rfl|rfl|rfl|rfl|rfl<;>lia
  ·show(1+r)*t<=_;rcases hr' with rfl|rfl|rfl|rfl|rfl|rfl|rfl|rfl|rfl<;>lia
theorem ou(T:Txt K mg a):aN P w K mg base dm 2 a.jv a.ly ["script","most"] (Cm K):=by
 have cB:aN P w K mg base dm 1 a.eI a.fU ["script","k"] (pY K):=cB T;have bV:aN P w K mg base dm 1 a.eJ a.fV ["cell","k"] pZ:=bV T;have lA:aN P w K mg base dm 1 a.ju a.lu ["c","points","times"] Ck:=lA T;refine T.tS.ok cu (fun vs H Q E h=>?_) (fun cdv A outer s H vs Q E hr h=>?_)
 ·obtain⟨b,ns,most,rfl,_⟩:=h;rfl
 ·obtain⟨b,ns,most,rfl,hS,hn,hm,q⟩:=h;refine⟨_,(ai (aG (i:=2) cu.nd rfl (Or.inl rfl) (aE bL (ay cB (hr.mono (by decide)) (by rfl) T.jQ T.jS T.jR .nil aU (aa (pv 0) (aa ah ae))) (aE ue ah ah)))
   (ai (aG (i:=3) cu.nd rfl (Or.inl rfl) (aE cK ah (aE bL (aE iE (pv 2) ah) ah)))
   (ai (aG (i:=4) cu.nd rfl (Or.inl rfl) (aI (nI K) (g5 (aa ah (aa ah (aa ah (aa (aE ue ah ah) ae))))) (aE bL (aE iE (pv 2) ah) ah) (fun _ _=>rfl)))
   (ai (aG (i:=5) cu.nd rfl (Or.inl rfl) (g5 ae))
   (ai (d7 (PW.pt (uc (aV AE (pv 3) ah (aX _)) (pP (aV gp (aE bL (pv 2) ah) ah (aX _))))) (ai (aG (i:=6) cu.nd rfl (Or.inl rfl) (aE bL (ay cB (hr.mono (by decide)) (by rfl) T.jQ T.jS T.jR .nil aU (aa (pv 0) (aa ah ae))) (aE ux (aE ue ah ah) (aE ue ah ah))))
   (aq (gY PassesOwn.never rfl (bO (by rfl) T.bN (aa (aE bL (aE iE (pv 2) ah) (aE cK (pv 1) ah)) ae)) (aJ (i:=7) cu.nd rfl (Or.inl rfl))
   (ai (qg (ay lA (hr.mono (by decide)) (by rfl) T.tQ T.tU T.tR .nil aU (aa (pv 6) (aa (pv 3) (aa (pv 4) ae)))) (Hz K (n:=2) rfl (cS (aJ (i:=8) cu.nd rfl (Or.inl rfl)) (cS (aJ (i:=6) cu.nd rfl (Or.inl rfl)) mK))))
   (aq (cF (BH K (kh PySem.F.plainAttrs_list PySem.F.slot_list_append PySem.F.type_list_append dS (pv 5) (aa (pv 8) ae))))))))) bK)
   (ai (d7 (PW.pt (uc (aV AE (pv 3) ah (aX _)) (pP (aV gp (aE bL (pv 2) ah) ah (aX _))))) (aq (gY PassesOwn.never rfl (nL (by rfl) T.bN (aa ah (aa (aB (nP rfl) (by rfl) T.yY PyProof.Rows.boot_min (aa (aB (iC K) (by rfl) T.dY PySem.boot_len (aa (pv 0) ae)) (aa (aE cK ah (pv 1)) ae))) ae))) (aJ (i:=7) cu.nd rfl (Or.inl rfl))
   (aq (cF (BH K (kh PySem.F.plainAttrs_list PySem.F.slot_list_append PySem.F.type_list_append dS (pv 5) (aa (aI (jx K) (ay lA (hr.mono (by decide)) (by rfl) T.tQ T.tU T.tR .nil aU (aa (ay bV (hr.mono (by decide)) (by rfl) T.iq T.iw T.ir .nil aU (aa (aI (nI K) (pv 0) (pv 7) (fun _ _=>rfl)) (aa (pv 7) ae))) (aa (pv 3) (aa (pv 4) ae)))) ah (fun _ _=>rfl)) ae))))))) bK)
   (aq (aO (gZ (aa (pv 3) (aa (bP (ym K) (by rfl) T.pX PyProof.Rows.boot_tuple (aa (pv 5) ae)) ae))))))))))),?_⟩
  refine xS ?_;intro dG gq jZ kB nh ni v9 Ek El Dr wc wd;refine(ak rfl ⟨b,ns,0,rfl,hS,fun z=>(bX ⟨⟨by decide,by decide,by decide⟩,bX ⟨(lY rfl),?_⟩⟩)⟩)
  have h0:=(eL z (10^(60:Int).toNat) (by decide)).1
  dsimp only;generalize z%10^(60:Int).toNat=hd at h0;refine(ak rfl (bX ⟨⟨by decide,by decide⟩,bX ⟨(lY rfl),bX (?_)⟩⟩))
  obtain⟨p,hp,p1,p6⟩:∃ p:Nat,1+hd/2%6=(p:Int)/\1<=p/\p<=6:=⟨(1+hd/2%6).toNat,by lia,by lia,by lia⟩
  dsimp only;rw[hp];obtain⟨m,hat,m1,m2⟩:=Iv (hd/12);refine(bX ⟨⟨by decide,by decide,by decide⟩,dl rfl,fun l hl=>(ak rfl (bX ⟨⟨by decide,by decide⟩,bX ⟨(lY rfl),pI (bg.of aj) (hat) (?_)⟩⟩))⟩)
  have s1:ao H (upd H l (.lst [.int 1,.int 1,.int 1,.int (10^(29:Int).toNat)])):=ao.new hl;generalize upd H l (.lst [.int 1,.int 1,.int 1,.int (10^(29:Int).toNat)])=H1 at s1;refine⟨dl rfl,fun D hD=>?_⟩
  have hk0:0<=hd/48%((most:Int)+1)/\hd/48%((most:Int)+1)<(most:Int)+1:=eL _ _ (by lia)
  have fin:∀(n:Nat) (H2:Hp),pG (p:Int) H1 D n H2->n<=most->∃ acc,H2 D=some (.lst acc)/\∀ l',H2 l' = none->([V.int (p:Int),.ref l']:List V).length<=sizeLine/\∀ w',upd H2 l' (.tup acc) w' = none->Q (.ref w') (upd (upd H2 l' (.tup acc)) w' (.tup [.int (p:Int),.ref l'])):=by
   intro n H2 ht hnm;obtain⟨acc,ts,hd,hl,gt,z⟩:=ht.fin;refine⟨acc,hd,fun l' hl'=>⟨dl rfl,fun w' hw=>?_⟩⟩
   obtain⟨z1,z2⟩:=z l' hl' w' hw;exact q w' p ts _ (s1.trans z1) ⟨p1,by lia,by lia,gt⟩ p6 (by lia) z2
  have t0:pG (p:Int) H1 D 0 (upd H1 D (.lst [])):=pG.start hD;generalize upd H1 D (.lst [])=H2 at t0
  by_cases QW:p=1
  ·subst QW;refine(ak rfl (bX (ak rfl (zE (by decide) (fK ?_)))))
   refine(ak rfl (bX (ak rfl (zE (by decide) (fK ?_)))))
   obtain⟨acc,nB,z⟩:=fin 0 H2 t0 (by lia)
   exact(ak rfl (ak rfl ⟨D,acc,rfl,.inl ⟨bg.of nB,z⟩⟩))
  ·by_cases Iw:hd%2=0
   ·refine(ak rfl (bX (ak rfl (vt (by lia) (ak rfl (bX ⟨(lY rfl),rfl,ak rfl (vt (congrArg V.int Iw) ?_)⟩))))))
    refine(ak rfl ⟨b,ns,1,rfl,(s1.trans t0.1).seq hS,fun z1=>(bX ⟨⟨by decide,by decide,by decide⟩,bX ⟨⟨by decide,by decide,by decide⟩,bX ⟨mulOk_of (by decide) (by decide),bX ⟨(lY rfl),?_⟩⟩⟩⟩)⟩)
    refine(ak rfl (bX ⟨⟨by decide,by decide⟩,ak rfl (bX (bX ⟨(by lia),ak rfl ⟨(by lia),(by lia),?_⟩⟩))⟩))
    refine gJ (lo:=0) (n:=(hd/48%((most:Int)+1)).toNat) (fun i σ H3=>∃ c v7 v8,σ=[some (.ref b),some (.int (most:Int)),some (.int hd),some (.int (p:Int)),some (.int m),some (.ref D),some (.int c),v7,v8]/\pG (p:Int) H1 D i H3) ⟨_,none,none,rfl,t0⟩ ?_ ?_
    ·rintro i σ H3 hi ⟨c,v7,v8,rfl,t3⟩;refine(ak rfl (ak rfl (ak rfl ⟨c,p,m,rfl,by lia,by lia,m1,m2,fun wZ bb r c' H4 s4 gt hb hr=>?_⟩)))
     obtain⟨acc,FU,hac,t5⟩:=t3.push hD s4 gt hb;refine⟨r,_,rfl,cE.of hr,rfl,_,_,rfl,_,_,rfl,rfl,?_⟩;exact(ak rfl ⟨.inl ⟨rfl,_,bg.of FU⟩,ak rfl ⟨D,acc,_,rfl,rfl,FU,jE (by lia),_,_,_,rfl,t5⟩⟩)
    ·rintro σ H3 ⟨c,v7,v8,rfl,t3⟩;refine(ak rfl (bX (ak rfl (vt (by lia) (ak rfl (bX ⟨(lY rfl),rfl,ak rfl (zE (fun z=>by have:=V.int.inj z;lia) ?_)⟩))))))
     obtain⟨acc,nB,z⟩:=fin _ H3 t3 (by lia)
     exact(ak rfl (ak rfl ⟨D,acc,rfl,.inl ⟨bg.of nB,z⟩⟩))
   ·refine(ak rfl (bX (ak rfl (vt (by lia) (ak rfl (bX ⟨(lY rfl),rfl,ak rfl (zE (fun z=>Iw (V.int.inj z)) ?_)⟩))))))
    refine(ak rfl (bX (ak rfl (vt (by lia) (ak rfl (bX ⟨(lY rfl),rfl,ak rfl (vt (congrArg V.int (by lia)) ?_)⟩))))))
    have hml:(ns.map V.int).length=ns.length:=List.length_map ..;refine(ak rfl ⟨b,_,rfl,.inl ((s1.trans t0.1).seq hS),ak rfl (bX ⟨_,_,rfl,_,_,rfl,⟨by decide,by decide,?_,?_⟩,?_⟩)⟩)
    ·rw[hml];split<;>lia
    ·rw[hml];split<;>lia
    have zd:∃ r:Nat,((if(2+(most:Int))<((ns.map V.int).length:Int) then 2+(most:Int) else((ns.map V.int).length:Int))-2).toNat=r/\r<=most/\(r=0\/r+2<=ns.length):=(ak rfl ⟨by rw[hml];split<;>lia,by rw[hml];split<;>lia⟩)
    obtain⟨r,hr0,zd,LL⟩:=zd;refine gJ (lo:=2) (n:=_) (fun i σ H3=>∃ v6 v7 v8,σ=[some (.ref b),some (.int (most:Int)),some (.int hd),some (.int (p:Int)),some (.int m),some (.ref D),v6,v7,v8]/\pG (p:Int) H1 D i H3) ⟨none,none,none,rfl,t0⟩ ?_ ?_
    ·rintro i σ H3 hi ⟨v6,v7,v8,rfl,t3⟩;rw[hr0]at hi;have ek:(2:Int)+(i:Int)=((2+i:Nat):Int):=by lia
     rw[ek];have Cu:∃ acc,H3 D=some (.lst acc):=let⟨_,acc,_,z,_⟩:=t3;⟨acc,z⟩;obtain⟨Tj,Cu⟩:=Cu;refine(ak rfl ⟨.inl ⟨rfl,_,bg.of Cu⟩,ak rfl (ak rfl ⟨b,_,_,_,rfl,rfl,(s1.trans t3.1).seq hS,au (j:=2+i) (yt (by lia)),ak rfl ⟨_,_,rfl,fun z z0=>?_⟩⟩)⟩)
     refine(ak rfl (ak rfl ⟨z,p,m,rfl,by lia,by lia,m1,m2,fun wZ bb rr c' H4 s4 gt hb hr=>?_⟩))
     obtain⟨acc,FU,hac,t5⟩:=t3.push hD s4 gt hb;exact(jy (cE.of hr) (au (j:=0) rfl) ⟨D,acc,_,rfl,rfl,FU,jE (by lia),_,_,_,rfl,t5⟩)
    ·rintro σ H3 ⟨v6,v7,v8,rfl,t3⟩;rw[hr0]at t3;obtain⟨acc,nB,z⟩:=fin _ H3 t3 (by lia)
     exact(ak rfl (ak rfl ⟨D,acc,rfl,.inl ⟨bg.of nB,z⟩⟩))
end
def o9:Sp:=fun vs H Q _=>∃ m:Nat,vs=[.int (m:Int)]/\Builtin.Int.intBits (m:Int)<=1000/\∀ D H',H D=none->ao H H'->H' D=some (.lst (bh (dw (m:Int))))->Q (.ref D) H'
section
variable {P:Program}{w:World}{K:bF}{mg:iS}{base:Heap}{a:vd}
theorem mH(T:Txt K mg a):aN P w K mg base dm 1 a.ia a.jN ["some"] o9:=by
 refine T.q5.ok wk (fun vs H Q E h=>?_) (fun cdv A outer s H vs Q E hr h=>?_)
 ·obtain⟨m,rfl,_⟩:=h;rfl
 ·obtain⟨m,rfl,hm,k⟩:=h;refine⟨_,(aq (aO (dU (own:=["tie"]) (fq:=["some"]) (js:=[0]) (aQ (af eG) ["some"]) rfl (bO (by rfl) T.bN (aa (AJ PySem.F.plainAttrs_int PyProof.Rows.slot_int_bit_length PyProof.Rows.type_int_bit_length yl (pv 0)) ae)) (fun _ _ _ _=>(aJ (i:=0) (show(["tie","some"]:List Str).Nodup by decide +kernel) rfl (Or.inl rfl))) (fun _ _ _ _=>(gH (aV gp (aE bL (aE AA (pv 1) (pv 0)) ah) ah (aX _)))) (fun _ _ _ _=>(pv 0))))),?_⟩
  refine(ak rfl ⟨rfl,ak rfl ⟨rfl,ak rfl ⟨(by lia),(by lia),fun D hD=>eF (lo:=0) (m:=Builtin.Int.intBits (m:Int)) (lD (bit (m:Int)) H D) (.start hD) (fun i acc H2 _ p=>p.len) (dl (Nat.ble_eq.mpr hm)) ?_ ?_⟩⟩⟩)
  ·intro i acc H2 hi p;rw[Int.zero_add];refine⟨rfl,ak rfl (ak rfl (bX ⟨(by lia),bX ⟨(lY rfl),rfl,ak rfl (?_)⟩⟩))⟩
   rw[Int.toNat_natCast,Fw];cases hb:bit (m:Int) i with
   | true=>exact(ak rfl (p.yes hD (ao.refl _) hb))
   | false=>exact p.no (ao.refl _) hb
  ·intro acc H2 p;exact k D H2 hD p.1 (by rw[p.2.1,p.2.2];rfl)
end
def rH:Sp:=fun vs H Q _=>∃ c,vs=[.int c]/\Q (.bl true) H
section
variable {P:Program}{w:World}{K:bF}{mg:iS}{base:Heap}{a:vd}
theorem dR(T:Txt K mg a):aN P w K mg base dm 1 a.eX a.gy ["found"] rH:=by
 refine T.oX.ok uS (fun vs H Q E h=>?_) (fun cdv A outer s H vs Q E hr h=>?_)
 ·obtain⟨c,rfl,_⟩:=h;rfl
 ·obtain⟨c,rfl,k⟩:=h;refine⟨_,(aq (aO (qb (aB (Fb K) (by rfl) T.aR PyProof.Rows.boot_isinstance (aa (pv 0) (aa (yn (by rfl) T.Em PyProof.Rows.boot_int) ae))) (ud (ED (aB (Fb K) (by rfl) T.aR PyProof.Rows.boot_isinstance (aa (pv 0) (aa (yn (by rfl) T.FP PyProof.Rows.boot_bool) ae)))))))),?_⟩
  exact(ak rfl ⟨_,_,_,_,_,rfl,rfl,.int c,E6 K,_,rfl,ki (ak rfl ⟨_,_,_,_,_,rfl,rfl,.int c,E7 K,_,rfl,k⟩)⟩)
end
def pe:Sp:=fun vs H Q _=>∃(f d:Addr) (l:List Nat),vs=[.ref f,.ref d]/\H f=some (.lst (bh l))/\H d=some (.lst (bh l))/\l.length<=900/\∀ H',ao H H'->Q (.bl true) H'
section
variable {P:Program}{w:World}{K:bF}{mg:iS}{base:Heap}{a:vd}
theorem jW(T:Txt K mg a):aN P w K mg base dm 2 a.ic a.jO ["found","due"] pe:=by
 have dR:aN P w K mg base dm 1 a.eX a.gy ["found"] rH:=dR T;refine T.q9.ok wm (fun vs H Q E h=>?_) (fun cdv A outer s H vs Q E hr h=>?_)
 ·obtain⟨f,d,l,rfl,_⟩:=h;rfl
 ·obtain⟨f,d,l,rfl,hf,hd,hl,q⟩:=h;refine⟨_,(ai (d7 (PW.pt (x8 (jz (gV (aB (Fb K) (by rfl) T.aR PyProof.Rows.boot_isinstance (aa (pv 0) (aa (yn (by rfl) T.oj PyProof.Rows.boot_list) ae))))) (w6 (aV (E9 K hr.units) (pv 0) (pv 1) (aX _))))) (aq (aO qa)) bK)
   (aq (aO (gF gp (aB (iC K) (by rfl) T.dY PySem.boot_len (aa (dU (own:=["one"]) (fq:=[]) (js:=[]) (aQ (af eH) ["found","due"]) rfl (AU K (pv 0)) (fun _ _ _ _=>(aJ (i:=0) (show(["one"]:List Str).Nodup by decide +kernel) rfl (Or.inl rfl))) (fun _ _ _ _=>(gH (jz (gV (ay dR (hr.mono (by decide)) (by rfl) T.kL T.kO T.kM .nil aU (aa (pv 0) ae)))))) (fun _ _ _ _=>(pv 0))) ae)) ah (aX _))))),?_⟩
  refine wo ?_;intro dG gq;refine(ak rfl ⟨_,_,_,_,_,rfl,rfl,.lst hf,E8 K,_,rfl,fK (ak rfl (ak rfl ⟨_,_,.lst (bg.of hf) (jh l),.lst (bg.of hd) (jh l),iF l,iF l,_,rfl,?_⟩))⟩);rw[Bg];refine fK (ak rfl ⟨f,rfl,⟨_,bg.of hf⟩,fun C hC=>fL (xs:=bh l) (fun i acc H4=>ao H H4/\H4 C=some (.lst [])/\acc=[]) ⟨ao.new hC,aj,rfl⟩ ?_ (by rw[bj];exact Nat.le_of_lt (eK (by lia))) ?_ ?_⟩)
  ·rintro i acc H4 _ ⟨s4,Ga,rfl⟩;exact⟨bg.of (s4 _ _ hf),Ga,Nat.zero_le _⟩
  ·rintro i x acc H4 hx ⟨s4,Ga,rfl⟩;obtain⟨k,_,rfl⟩:=gK hx;exact⟨rfl,ak rfl (ak rfl (ak rfl (fK ⟨s4,Ga,rfl⟩)))⟩
  ·rintro acc H4 ⟨s4,Ga,rfl⟩;exact⟨C,[],rfl,.inl (bg.of Ga),rfl,q H4 s4⟩
end
def wW:Sp:=fun vs H Q _=>∃ w p ts,∃ g:aD p ts,∃(l:Addr) (ks:List Nat),vs=[.ref w,.ref l]/\bI H w p ts/\H l=some (.lst (bh ks))/\(∀ k∈ks,k<ts.length)/\ks.length<=900/\
 ∀ D H',H D=none->ao H H'->H' D=some (.lst (g7 (iH p ts g ks) p))->Q (.ref D) H'
section
variable {P:Program}{w:World}{K:bF}{mg:iS}{base:Heap}{a:vd}
theorem iR(T:Txt K mg a):aN P w K mg base dm 1 a.gz a.iO ["web","ties"] wW:=by
 refine T.oY.ok bM (fun vs H Q E h=>?_) (fun cdv A outer s H vs Q E hr h=>?_)
 ·obtain⟨w,p,ts,g,l,ks,rfl,_⟩:=h;rfl
 ·obtain⟨wb,p,ts,g,l,ks,rfl,hw,hl,hks,vo,q⟩:=h;refine⟨_,(ai (aG (i:=2) bM.nd rfl (Or.inl rfl) (bP (A6 rfl) (by rfl) T.oj PyProof.Rows.boot_list (aa (bP qm (by rfl) T.bN PyProof.Rows.boot_range (aa (aI (jx K) (pv 0) ah (fun _ _=>rfl)) ae)) ae)))
   (ai (gY PassesOwn.never rfl (AU K (pv 1)) (aJ (i:=3) bM.nd rfl (Or.inl rfl))
   (ai (qg (aI (jx K) (aI (jx K) (pv 0) ah (fun _ _=>rfl)) (pv 3) (fun _ _=>rfl)) (Hz K (n:=3) rfl (cS (aJ (i:=4) bM.nd rfl (Or.inl rfl)) (cS (aJ (i:=5) bM.nd rfl (Or.inl rfl)) (cS (aJ (i:=6) bM.nd rfl (Or.inl rfl)) mK)))))
   (ai (aG (i:=7) bM.nd rfl (Or.inr rfl) (aB (nP rfl) (by rfl) T.yY PyProof.Rows.boot_min (aa (aI (nI K) (pv 2) (pv 4) (fun _ _=>rfl)) (aa (aI (nI K) (pv 2) (pv 5) (fun _ _=>rfl)) ae))))
   (ai (aG (i:=8) bM.nd rfl (Or.inr rfl) (aB (nO rfl) (by rfl) T.BY PyProof.Rows.boot_max (aa (aI (nI K) (pv 2) (pv 4) (fun _ _=>rfl)) (aa (aI (nI K) (pv 2) (pv 5) (fun _ _=>rfl)) ae))))
   (aq (mS (i:=2) bM.nd rfl rfl (own:=["head"]) (fq:=["low","high"]) (js:=[7,8]) (aQ (af dI) ["web","ties","heads","tie","one","other","length","low","high"]) rfl (AU K (pv 2)) (fun _ _ _ _=>(aJ (i:=0) (show(["head","low","high"]:List Str).Nodup by decide +kernel) rfl (Or.inl rfl))) (fun _ _ _ _=>gG) (fun _ _ _ _=>(aI (nI K) (g5 (aa (pv 0) (aa (pv 1) ae))) (bP zu (by rfl) T.Em PyProof.Rows.boot_int (aa (gF gp (pv 0) (pv 2) (aX _)) ae)) (fun _ _=>rfl)))))))))
   (aq (aO (pv 2))))),?_⟩
  refine uT ?_;intro dG gq jZ kB nh ni;obtain⟨bt,xs,h1,h2,h3⟩:=id hw.ex;have u3:=h3.length;have wp:=g.p2;refine(ak rfl (jy (cE.of h1) (au (j:=0) rfl) (ak rfl (fun r hr=>⟨r,p,rfl,aj,by lia,fun L0 QX=>?_⟩))))
  have s1:ao H (upd (upd H r (.wX 0 (p:Int))) L0 (.lst (nW p))):=(ao.new hr).trans (ao.new QX);have Gy:upd (upd H r (.wX 0 (p:Int))) L0 (.lst (nW p)) L0=some (.lst (g7 (fun x=>x) p)):=aj
  have LZ:H L0=none:=(ao.new hr).free QX;generalize upd (upd H r (.wX 0 (p:Int))) L0 (.lst (nW p))=H1 at s1 Gy;refine(ak rfl ⟨l,rfl,⟨_,bg.of (s1 _ _ hl)⟩,qh (K:=K) (a:=l) (xs:=bh ks) (fun i σ H2=>∃ la v3 v4 v5 v6 v7 v8,σ=[some (.ref wb),some (.ref l),some (.ref la),v3,v4,v5,v6,v7,v8]/\ao H H2/\H la=none/\H2 la=some (.lst (g7 (iH p ts g (ks.take i)) p)))
   ⟨L0,none,none,none,none,none,none,rfl,s1,LZ,Gy⟩ (fun i σ H2 _ ⟨_,_,_,_,_,_,_,_,z,_⟩=>bg.of (z _ _ hl)) ?_ ?_⟩)
  ·rintro i y σ H2 hi ⟨la,v3,v4,v5,v6,v7,v8,rfl,s2,Iz,hla⟩;obtain⟨k,hk,rfl⟩:=gK hi;have vo:=hks k (Cy hk);have hkx:k<xs.length:=by lia
   obtain⟨t,ht,c,hc,hct⟩:=Paired.rR h3 (i:=k) (x:=xs[k]) (by simp[hkx])
   have ex:xs[k]?=some (.ref c):=by rw[<-hc];simp[hkx]
   have LH:t=fF ts k:=by
    have z:=zN vo;rw[ht]at z;exact Option.some.inj z
   have Gb:H2 c=some (.tup [.int ((g.N.a k:Nat):Int),.int ((g.N.b k:Nat):Int),.int t.2.2]):=by
    rw[s2 _ _ hct,<-D8 vo,<-D9 vo,LH];rfl
   have la':=g.N.al k vo;have lb':=g.N.bl k vo;have e:iH p ts g (ks.take (i+1))=RM.join (iH p ts g (ks.take i)) (g.N.a k) (g.N.b k):=by
    rw[List.take_add_one,hk];exact qx
   generalize iH p ts g (ks.take i)=F at hla e;generalize g.N.a k=u at Gb la' e;generalize g.N.b k=v at Gb lb' e;have IA:u<p:=la';have IB:v<p:=lb';refine(ak rfl (jy (cE.of (s2 _ _ h1)) (au (j:=1) rfl) (ak rfl (jy (cE.of (s2 _ _ h2)) (au (j:=k) ex) ⟨c,_,rfl,cE.of Gb,rfl,_,_,rfl,_,_,rfl,_,_,rfl,rfl,?_⟩))));refine(ak rfl (ak rfl (pI (bg.of hla) (au (j:=u) (cT IA)) (ak rfl (ak rfl (pI (bg.of hla) (au (j:=v) (cT IB)) ⟨_,_,rfl,?_⟩))))));refine(ak rfl (ak rfl (pI (bg.of hla) (au (j:=u) (cT IA)) (ak rfl (ak rfl (pI (bg.of hla) (au (j:=v) (cT IB)) ⟨_,_,rfl,?_⟩))))));refine(ak rfl ⟨la,rfl,⟨_,bg.of hla⟩,fun D hD=>fL (xs:=g7 F p) (uF (RM.join F u v) H2 D) (.start hD) (fun j acc H3 _ pd=>⟨bg.of (pd.1 _ _ hla),pd.len⟩) (by rw[jk];exact dl (Nat.ble_eq.mpr (by lia))) ?_ ?_⟩)
   ·intro j x acc H3 hx pd;obtain⟨hj,rfl⟩:=yw hx;refine⟨rfl,ak rfl (ak rfl ⟨dl rfl,fun m hm=>?_⟩)⟩
    have s4:ao H3 (upd H3 m (.lst [.int ((F j:Nat):Int),.int (if((F v:Nat):Int)<((F u:Nat):Int) then((F v:Nat):Int) else((F u:Nat):Int))])):=ao.new hm
    refine(ak rfl (ak rfl ⟨rfl,.inr (ak rfl (?_))⟩));rw[yz,jH]
    by_cases JS:F j=max (F u) (F v)
    ·rw[gC JS,if_pos rfl];refine(pI (bg.of aj) (au (j:=1) rfl) (pd.next hD s4 ?_));rw[yy];unfold RM.join;rw[if_pos JS]
    ·rw[j9 JS,if_neg Bool.false_ne_true];refine(pI (bg.of aj) (au (j:=0) rfl) (pd.next hD s4 ?_));unfold RM.join;rw[if_neg JS]
   ·intro acc H3 pd;rw[jk]at pd;exact⟨D,_,_,_,_,_,_,rfl,s2.trans pd.1,s2.free hD,by rw[pd.2.1,pd.2.2,e]⟩
  ·rintro σ H2 ⟨la,v3,v4,v5,v6,v7,v8,rfl,s2,Iz,hla⟩;rw[bj,List.take_length]at hla;exact(ak rfl (q la H2 Iz s2 hla))
end
def kU:Sp:=fun vs H Q _=>∃ w p ts,∃ g:aD p ts,vs=[.ref w]/\bI H w p ts/\ts.length<=9/\∀ D H',H D=none->ao H H'->H' D=some (.lst (bh (frsL p ts g)))->Q (.ref D) H'
theorem Al(l:List Nat)(x:Nat):bh l++[.int (x:Int)]=bh (l++[x]):=by
 unfold bh;rw[List.map_append];rfl
theorem all_range{p:Nat}{ts:List dZ}{g:aD p ts}:iH p ts g (List.range ts.length)=aZ p ts g (2^ts.length-1):=by
 have hlt:2^ts.length-1<2^ts.length:=by have:=Nat.two_pow_pos ts.length;lia
 rw[<-mw hlt,mW hlt]
 congr 1
 refine(List.filter_eq_self.mpr fun k hk=>?_).symm
 rw[pS]
 simpa using List.mem_range.mp hk
theorem DH{p:Nat}{ts:List dZ}{g:aD p ts}{m:Nat}(hm:m<2^ts.length):zc p ts g m↔((dw (m:Int)).length=(dh p ts g).length/\(List.range p).map (aZ p ts g m)=(List.range p).map (aZ p ts g (2^ts.length-1))):=by
 rw[De];unfold zc;rw[and_congr_left_iff];intro hl;rw[<-RM.vJ (N:=g.N)];show RM.cnt (fun j=>m.testBit j) ts.length+RM.cnt (g.N.root (fun j=>m.testBit j) ts.length) p=p↔_
 rw[<-wV hm];have e1:RM.cnt (g.N.root (fun j=>m.testBit j) ts.length) p=RM.cnt (fun x=>decide (aZ p ts g (2^ts.length-1) x=x)) p:=RM.eM fun x hx=>by
  rw[<-hl x hx];rfl
 have e2:(dh p ts g).length=RM.cnt (fun x=>!decide (aZ p ts g (2^ts.length-1) x=x)) p:=RM.fN _ _
 have e3:=RM.uC (fun x=>decide (aZ p ts g (2^ts.length-1) x=x)) p
 rw[e1,e2]
 lia
section
variable {P:Program}{w:World}{K:bF}{mg:iS}{base:Heap}{a:vd}
open Classical in
theorem jb(T:Txt K mg a):aN P w K mg base dm 2 a.eu a.gc ["web"] kU:=by
 have iR:aN P w K mg base dm 1 a.gz a.iO ["web","ties"] wW:=iR T;have mH:aN P w K mg base dm 1 a.ia a.jN ["some"] o9:=mH T;refine T.lQ.ok cM (fun vs H Q E h=>?_) (fun cdv A outer s H vs Q E hr h=>?_)
 ·obtain⟨w,p,ts,g,rfl,_⟩:=h;rfl
 ·obtain⟨wb,p,ts,g,rfl,hw,h9,q⟩:=h;refine⟨_,(ai (aG (i:=1) cM.nd rfl (Or.inr rfl) (ay iR (hr.mono (by decide)) (by rfl) T.oZ T.o8 T.o4 .nil aU (aa (pv 0) (aa (bP (A6 rfl) (by rfl) T.oj PyProof.Rows.boot_list (aa (bP qm (by rfl) T.bN PyProof.Rows.boot_range (aa (aB (iC K) (by rfl) T.dY PySem.boot_len (aa (aI (jx K) (pv 0) ah (fun _ _=>rfl)) ae)) ae)) ae)) ae))))
   (ai (aG (i:=2) cM.nd rfl (Or.inl rfl) (aB (iC K) (by rfl) T.dY PySem.boot_len (aa (dU (own:=["point"]) (fq:=["heads"]) (js:=[1]) (aQ (af cy) ["web","heads","many","found","some","ties"]) rfl (bO (by rfl) T.bN (aa (aI (jx K) (pv 0) ah (fun _ _=>rfl)) ae)) (fun _ _ _ _=>(aJ (i:=0) (show(["point","heads"]:List Str).Nodup by decide +kernel) rfl (Or.inl rfl))) (fun _ _ _ _=>(gH (aV vg (aI (nI K) (pv 1) (pv 0) (fun _ _=>rfl)) (pv 0) (aX _)))) (fun _ _ _ _=>(pv 0))) ae)))
   (ai (aG (i:=3) cM.nd rfl (Or.inl rfl) (g5 ae))
   (ai (gY PassesOwn.never rfl (bO (by rfl) T.bN (aa (aE Az ah (aB (iC K) (by rfl) T.dY PySem.boot_len (aa (aI (jx K) (pv 0) ah (fun _ _=>rfl)) ae))) ae)) (aJ (i:=4) cM.nd rfl (Or.inl rfl))
   (ai (aG (i:=5) cM.nd rfl (Or.inl rfl) (ay mH (hr.mono (by decide)) (by rfl) T.xT T.xX T.xU .nil aU (aa (pv 4) ae)))
   (aq (d7 (PW.pt (uc (aV gp (aB (iC K) (by rfl) T.dY PySem.boot_len (aa (pv 5) ae)) (pv 2) (aX _)) (pP (aV (AR K hr.units) (ay iR (hr.mono (by decide)) (by rfl) T.oZ T.o8 T.o4 .nil aU (aa (pv 0) (aa (pv 5) ae))) (pv 1) (aX _))))) (aq (cF (BH K (kh PySem.F.plainAttrs_list PySem.F.slot_list_append PySem.F.type_list_append dS (pv 3) (aa (pv 4) ae))))) bK))))
   (aq (aO (pv 3))))))),?_⟩
  refine qP ?_;intro dG gq jZ kB nh ni v9;obtain⟨bt,xs,h1,h2,h3⟩:=id hw.ex;have u3:=h3.length;have wp:=g.p2;have LY:2^ts.length<=512:=Nat.le_trans (Nat.pow_le_pow_right (n:=2) (by decide) h9) (by decide)
  have pp:=Nat.two_pow_pos ts.length;have QV:((2:Int)^ts.length)=((2^ts.length:Nat):Int):=by simp
  refine(ak rfl (ak rfl (jy (cE.of h1) (au (j:=1) rfl) (pW rfl (.inr (cE.of h2)) (ak rfl (fun r hr=>⟨r,xs.length,rfl,aj,by lia,fun l0 Lc=>?_⟩))))))
  have s2:ao H (upd (upd H r (.wX 0 (xs.length:Int))) l0 (.lst (nW xs.length))):=(ao.new hr).trans (ao.new Lc);have IC:upd (upd H r (.wX 0 (xs.length:Int))) l0 (.lst (nW xs.length)) l0=some (.lst (bh (List.range xs.length))):=aj;generalize upd (upd H r (.wX 0 (xs.length:Int))) l0 (.lst (nW xs.length))=H2 at s2 IC;refine⟨wb,p,ts,g,l0,List.range xs.length,rfl,hw.same s2,IC,fun k hk=>by rw[List.mem_range]at hk;lia,by rw[List.length_range];lia,fun hd H3 hdn s3 L6=>?_⟩
  rw[u3,all_range]at L6;have za:=s2.trans s3;refine(ak rfl (jy (cE.of (za _ _ h1)) (au (j:=0) rfl) (ak rfl ⟨by lia,by lia,fun C hC=>eF (lo:=0) (m:=((p:Nat):Int).toNat) (lD (fun x=>!decide (aZ p ts g (2^ts.length-1) x=x)) H3 C) (.start hC) (fun i ac H4 _ pk=>pk.len) (uA (by lia)) ?_ ?_⟩)))
  ·intro i ac H4 hi pk;rw[Int.zero_add];rw[Int.toNat_natCast]at hi;refine⟨rfl,ak rfl (ak rfl (pI (bg.of (pk.1 _ _ L6)) (au (j:=i) (cT hi)) (ak rfl ⟨rfl,ak rfl (?_)⟩)))⟩;rw[jH];cases hb:decide (aZ p ts g (2^ts.length-1) i=i) with
   | true=>exact pk.no (ao.refl _) (by rw[hb];rfl)
   | false=>exact(ak rfl (pk.yes hC (ao.refl _) (by rw[hb];rfl)))
  intro ac H4 pk;have Ga:H4 C=some (.lst (bh (dh p ts g))):=by rw[pk.2.1,pk.2.2,Int.toNat_natCast];rfl
  have QY:=za.trans pk.1;have Ge:=pk.1 _ _ L6;refine(pW rfl (.inl (bg.of Ga)) (?_));refine⟨dl rfl,fun F hF=>?_⟩
  have QZ:H F=none:=QY.free hF;have JT:ao H (upd H4 F (.lst [])):=QY.trans (ao.new hF);have Q0:upd H4 F (.lst []) F=some (.lst (bh [])):=aj;have ID:upd H4 F (.lst []) hd=some (.lst (g7 (aZ p ts g (2^ts.length-1)) p)):=ao.new hF _ _ Ge;have Tn:hd≠F:=fun z=>by rw[z,hF]at Ge;cases Ge
  generalize upd H4 F (.lst [])=H5 at JT Q0 ID;rw[bj];have To:(1:Int)*2^((xs.length:Nat):Int).toNat=((2^ts.length:Nat):Int):=by rw[Int.toNat_natCast,u3,Int.one_mul];exact QV
  refine(ak rfl (jy (cE.of (JT _ _ h1)) (au (j:=1) rfl) (pW rfl (.inr (cE.of (JT _ _ h2))) (bX ⟨⟨by lia,by lia,by decide⟩,((2^ts.length:Nat):Int),congrArg (fun z=>[V.int z]) To,by lia,by lia,jL (lo:=0) (n:=((2^ts.length:Nat):Int).toNat) (fun i σ H6=>∃ v4 v5,σ=[some (.ref wb),some (.ref hd),some (.int (((dh p ts g).length:Nat):Int)),some (.ref F),v4,v5]/\ao H H6/\H6 hd=some (.lst (g7 (aZ p ts g (2^ts.length-1)) p))/\H6 F=some (.lst (bh ((List.range i).filter fun m=>decide (zc p ts g m))))) ⟨none,none,rfl,JT,ID,Q0⟩ ?_ ?_⟩))))
  ·rintro m D' σ H6 hm ⟨v4,v5,rfl,s6,IE,JU⟩;rw[Int.toNat_natCast]at hm;rw[Int.zero_add];have hbm:Builtin.Int.intBits (m:Int)<=ts.length:=bits_le hm;have JV:=hw.same s6;have fl:((List.range m).filter fun m=>decide (zc p ts g m)).length<=m:=by
    refine Nat.le_trans (List.length_filter_le _ _) ?_;rw[List.length_range];exact Nat.le_refl _
   have step:(List.range (m+1)).filter (fun m=>decide (zc p ts g m))=(List.range m).filter (fun m=>decide (zc p ts g m))++if zc p ts g m then[m] else[]:=by
    rw[List.range_succ,List.filter_append,List.filter_cons,List.filter_nil]
    congr 1
    by_cases h:zc p ts g m
    ·rw[if_pos h,if_pos (gC h)]
    ·rw[if_neg h,if_neg (fun z=>h (Am z))]
   have ff:=DH (g:=g) hm;refine(ak rfl ⟨m,rfl,by lia,fun L H7 VJ s7 hL=>?_⟩)
   have L7:=s6.trans s7;have IF:=s7 _ _ IE;have Q2:=s7 _ _ JU;refine(ak rfl (pW rfl (.inl (bg.of hL)) (ak rfl ⟨rfl,ak rfl (?_)⟩)));rw[bj,jH]
   by_cases hc:(dw (m:Int)).length=(dh p ts g).length
   case neg =>
    rw[j9 hc];refine fK (fK ⟨_,_,rfl,L7,IF,?_⟩);rw[step,if_neg (fun z=>hc (ff.mp z).1),List.append_nil]
    exact Q2
   rw[gC hc];refine ki (ak rfl (ak rfl ⟨wb,p,ts,g,L,dw (m:Int),rfl,JV.same s7,hL,fun k hk=>uy hm hk,?_,fun hh H8 VL s8 Q3=>?_⟩))
   ·have:=List.length_filter_le (bit (m:Int)) (List.range (Builtin.Int.intBits (m:Int)));rw[List.length_range]at this;exact Nat.le_trans this (by lia)
   rw[mw hm,sR]at Q3;have Gf:=s8 _ _ IF;have Es:=Gf;rw[sR]at Es;have L8:=s8 _ _ Q2;refine(ak rfl ⟨_,_,.lst (bg.of Q3) (jh _),.lst (bg.of Es) (jh _),iF _,iF _,_,rfl,?_⟩);rw[sQ]
   by_cases he:(List.range p).map (aZ p ts g m)=(List.range p).map (aZ p ts g (2^ts.length-1))
   ·rw[gC he];refine ki (ak rfl ⟨.inl ⟨rfl,_,bg.of L8⟩,ak rfl ⟨F,_,_,rfl,rfl,L8,eK (by rw[bj];lia),_,_,rfl,(L7.trans s8).put QZ,?_,?_⟩⟩)
    ·rw[aL Tn];exact Gf
    ·rw[aj,Al,step,if_pos (ff.mpr ⟨hc,he⟩)]
   ·rw[j9 he];refine fK ⟨_,_,rfl,L7.trans s8,Gf,?_⟩;rw[step,if_neg (fun z=>he (ff.mp z).2),List.append_nil]
    exact L8
  ·rintro σ H6 ⟨v4,v5,rfl,s6,IE,JU⟩;rw[Int.toNat_natCast]at JU;exact(ak rfl (q F H6 QZ s6 JU))
end
def pA:Sp:=fun vs H Q _=>∃ w p ts,∃ _:aD p ts,∃ n:Nat,vs=[.ref w,.int (n:Int)]/\bI H w p ts/\2<=p/\ts.length<=n/\n<=24/\∀ D DI H',aD p DI->DI.length=n->ao H H'->bI H' D p DI->Q (.ref D) H'
def nF(K:bF):Sp:=fun vs H Q _=>∃(b:Addr) (ns:List Int),vs=[.ref b]/\bg K H b (ns.map V.int)/\ns.length<=63/\∀ D p DI H',aD p DI->DI.length<=12->ao H H'->bI H' D p DI->Q (.ref D) H'
def kW:Sp:=fun vs H Q _=>∃ w p ts,∃ _:aD p ts,∃ k:Int,vs=[.int k,.ref w]/\bI H w p ts/\12<ts.length/\∀ H',ao H H'->Q (.bl true) H'
theorem ow{H:Hp}{L c:Addr}{acc:List V}{ms:List dZ}{t:dZ}(hL:H L=some (.lst acc))(e:Paired (TupAt H) acc ms)(hc:H c=none)(hv:A8 t=[.int t.1,.int t.2.1,.int t.2.2]):Paired (TupAt (upd (upd H c (.tup (A8 t))) L (.lst (acc++[.ref c])))) (acc++[.ref c]) (ms++[t]):=by
 have Tq:c≠L:=fun z=>by rw[z,hL]at hc;cases hc
 refine iI ⟨c,rfl,by rw[aL Tq,aj]⟩ (Paired.imp' (fun x t z=>?_) e)
 obtain⟨c',rfl,hc'⟩:=z;refine⟨c',rfl,?_⟩;rw[aL (fun z=>by rw[z,hL]at hc';cases hc')]
 exact ao.new hc _ _ hc'
theorem DJ(xs:List V){n:Nat}(h:xs.length=n):pC xs none (some (n:Int))=xs:=by
 unfold pC;rw[HT.vm,HT.yd,h,Nat.min_self,List.drop_zero,Nat.sub_zero,<-h,List.take_length]
section
variable {P:Program}{w:World}{K:bF}{mg:iS}{base:Heap}{a:vd}
theorem jX(T:Txt K mg a):aN P w K mg base dm 1 a.ie a.jP ["web","many"] pA:=by
 refine T.rh.ok iK (fun vs H Q E h=>?_) (fun cdv A outer s H vs Q E hr h=>?_)
 ·obtain⟨w,p,ts,g,n,rfl,_⟩:=h;rfl
 ·obtain⟨wb,p,ts,g,n,rfl,hw,hp,hl,hn,q⟩:=h;refine⟨_,(ai (aG (i:=2) iK.nd rfl (Or.inl rfl) (bP (D0 K) (by rfl) T.oj PyProof.Rows.boot_list (aa (aI (jx K) (pv 0) ah (fun _ _=>rfl)) ae)))
   (ai (gY PassesOwn.never rfl (bO (by rfl) T.bN (aa (aE iT (pv 1) (aB (iC K) (by rfl) T.dY PySem.boot_len (aa (pv 2) ae))) ae)) (aJ (i:=3) iK.nd rfl (Or.inl rfl))
   (ai (aG (i:=4) iK.nd rfl (Or.inl rfl) (aE bL (aE nN (pv 3) (pv 3)) (aI (jx K) (pv 0) ah (fun _ _=>rfl))))
   (aq (cF (BH K (kh PySem.F.plainAttrs_list PySem.F.slot_list_append PySem.F.type_list_append dS (pv 2) (aa (gZ (aa (pv 4) (aa (aE bL (aE cK (aE cK (pv 4) ah) (aE bL (pv 3) (aB (nO rfl) (by rfl) T.BY PyProof.Rows.boot_max (aa ah (aa (aE iT (aI (jx K) (pv 0) ah (fun _ _=>rfl)) ah) ae))))) (aI (jx K) (pv 0) ah (fun _ _=>rfl))) (aa (aE cK ah (pv 3)) ae)))) ae)))))))
   (aq (aO (gZ (aa (aI (jx K) (pv 0) ah (fun _ _=>rfl)) (aa (bP (ym K) (by rfl) T.pX PyProof.Rows.boot_tuple (aa (mO (Sd K) (pv 2) pQ (pR (pv 1))) ae)) ae))))))),?_⟩
  refine wq ?_;intro dG gq jZ kB;obtain⟨bt,xs,h1,h2,h3⟩:=id hw.ex;have u3:=h3.length;have Q4:=g.p2;refine(ak rfl (jy (cE.of h1) (au (j:=1) rfl) (pW rfl (.inr (cE.of h2)) (fun L hL=>?_))))
  have s1:ao H (upd H L (.lst xs)):=ao.new hL;have Gy:upd H L (.lst xs) L=some (.lst xs):=aj;generalize upd H L (.lst xs)=H1 at s1 Gy;refine(ak rfl (ak rfl (pW rfl (.inl (bg.of Gy)) (bX ⟨((n-xs.length:Nat):Int),congrArg (fun z=>[V.int z]) (by lia),by lia,by lia,jL (lo:=0) (n:=((n-xs.length:Nat):Int).toNat) (fun k σ H2=>∃ v3 v4 acc ms,σ=[some (.ref wb),some (.int (n:Int)),some (.ref L),v3,v4]/\ao H H2/\H2 L=some (.lst acc)/\Paired (TupAt H2) acc ms/\ms.length=ts.length+k/\∀ t∈ms,fj (p:Int) t) ⟨none,none,xs,ts,rfl,s1,Gy,Paired.imp' (fun x t ⟨c,e,hc⟩=>⟨c,e,s1 _ _ hc⟩) h3,rfl,g.pF⟩ ?_ ?_⟩))))
  ·rintro k D' σ H2 hk ⟨v3,v4,acc,ms,rfl,s2,Cw,e2,el,gm⟩;rw[Int.zero_add];rw[Int.toNat_natCast]at hk;refine(ak rfl (ak rfl (bX ⟨.inl ⟨by lia,by lia⟩,ak rfl (jy (cE.of (s2 _ _ h1)) (au (j:=0) rfl) (bX ⟨(by lia),?_⟩))⟩)))
   dsimp only;obtain⟨o0,o1⟩:=eL ((k:Int)*(k:Int)) (p:Int) (by lia)
   generalize (k:Int)*(k:Int)%(p:Int)=one at o0 o1;have mx:(0:Int)<if(p:Int)-1 > 1 then(p:Int)-1 else 1:=by split<;>lia
   have mp:(if(p:Int)-1 > 1 then(p:Int)-1 else 1)<=(p:Int)-1:=by split<;>lia
   refine(ak rfl ⟨.inl ⟨rfl,_,bg.of Cw⟩,ak rfl (ak rfl (bX (ak rfl (ak rfl (jy (cE.of (s2 _ _ h1)) (au (j:=0) rfl) (bX ⟨_,_,rfl,_,_,rfl,rfl,mx,_,_,rfl,rfl,ak rfl (jy (cE.of (s2 _ _ h1)) (au (j:=0) rfl) (bX ⟨(by lia),ak rfl (bX ⟨dl rfl,fun c hc=>?_⟩)⟩))⟩))))))⟩)
   dsimp only;obtain⟨k0,k1⟩:=eL (k:Int) _ mx;generalize (if(p:Int)-1 > 1 then(p:Int)-1 else 1)=M at mx mp k0 k1
   generalize (k:Int)%M=kk at k0 k1;obtain⟨b0,b1⟩:=eL (one+1+kk) (p:Int) (by lia)
   have hne:one≠(one+1+kk)%(p:Int):=fun z=>by
    by_cases h:one+1+kk<(p:Int)
    ·rw[Int.emod_eq_of_lt (by lia) h]at z
     lia
    ·have:(one+1+kk)%(p:Int)=one+1+kk-p:=by
      rw[<-Int.sub_emod_right,Int.emod_eq_of_lt (by lia) (by lia)]
     lia
   generalize (one+1+kk)%(p:Int)=oth at b0 b1 hne;have tp:Paired (TupAt (upd (upd H2 c (.tup [.int one,.int oth,.int (1+(k:Int))])) L (.lst (acc++[V.ref c])))) (acc++[V.ref c]) (ms++[(one,oth,1+(k:Int))]):=ow (t:=((one,oth,1+(k:Int)):dZ)) Cw e2 hc rfl;exact⟨L,acc,V.ref c,rfl,rfl,ao.new hc _ _ Cw,jE (by rw[e2.length];lia),_,_,acc++[V.ref c],ms++[(one,oth,1+(k:Int))],rfl,(s2.trans (ao.new hc)).put hL,aj,tp,by rw[List.length_append,el];rfl,fun t ht=>by
    rcases List.mem_append.mp ht with z|z
    ·exact gm t z
    ·rw[List.mem_singleton.mp z];exact⟨o0,o1,b0,b1,hne,show(1:Int)<=1+(k:Int) by lia,show 1+(k:Int)<=_ by lia⟩⟩
  ·rintro σ H2 ⟨v3,v4,acc,ms,rfl,s2,Cw,e2,el,gm⟩;rw[Int.toNat_natCast]at el;have al:=e2.length;refine(ak rfl (jy (cE.of (s2 _ _ h1)) (au (j:=0) rfl) (ak rfl (ak rfl (ak rfl ⟨L,_,rfl,bg.of Cw,fun C hC=>?_⟩)))))
   rw[DJ acc (n:=n) (by lia)]
   refine⟨C,_,rfl,.inl ⟨bg.of aj,fun Tp Iu=>⟨dl rfl,fun W hW=>?_⟩⟩⟩
   have s8:ao H2 (upd (upd (upd H2 C (.lst acc)) Tp (.tup acc)) W (.tup [.int (p:Int),.ref Tp])):=((ao.new hC).trans (ao.new Iu)).trans (ao.new hW);exact q W ms _ ⟨g.p1,g.p2,by lia,gm⟩ (by lia) (s2.trans s8) ⟨Tp,acc,aj,ao.new hW _ _ aj,Paired.imp' (fun x t ⟨c,e,hc⟩=>⟨c,e,s8 _ _ hc⟩) e2⟩
theorem kX(T:Txt K mg a):aN P w K mg base dm 2 a.gA a.iP ["script"] (nF K):=by
 have cB:aN P w K mg base dm 1 a.eI a.fU ["script","k"] (pY K):=cB T;have bV:aN P w K mg base dm 1 a.eJ a.fV ["cell","k"] pZ:=bV T;refine T.o5.ok dW (fun vs H Q E h=>?_) (fun cdv A outer s H vs Q E hr h=>?_)
 ·obtain⟨b,ns,rfl,_⟩:=h;rfl
 ·obtain⟨b,ns,rfl,hS,hn,q⟩:=h;refine⟨_,(ai (aG (i:=1) dW.nd rfl (Or.inl rfl) (ay bV (hr.mono (by decide)) (by rfl) T.iq T.iw T.ir .nil aU (aa (ay cB (hr.mono (by decide)) (by rfl) T.jQ T.jS T.jR .nil aU (aa (pv 0) (aa ah ae))) (aa ah ae))))
   (ai (aG (i:=2) dW.nd rfl (Or.inr rfl) (aE cK ah (aE bL (aE iE (pv 1) ah) ah)))
   (ai (mS (i:=3) dW.nd rfl rfl (own:=["k"]) (fq:=["points"]) (js:=[2]) (aQ (af dM) ["script","head","points","ties","k","one"]) rfl (bO (by rfl) T.bN (aa (pv 2) ae)) (fun _ _ _ _=>(aJ (i:=0) (show(["k","points"]:List Str).Nodup by decide +kernel) rfl (Or.inl rfl))) (fun _ _ _ _=>gG) (fun _ _ _ _=>(gZ (aa (pv 0) (aa (aE bL (aE cK (pv 0) ah) (pv 1)) (aa (aE cK ah (pv 0)) ae))))))
   (ai (gY PassesOwn.never rfl (bO (by rfl) T.bN (aa (aB (zW rfl) (by rfl) T.yY PyProof.Rows.boot_min (aa ah (aa (aE iT ah (pv 2)) (aa (aB (iC K) (by rfl) T.dY PySem.boot_len (aa (pv 0) ae)) ae)))) ae)) (aJ (i:=4) dW.nd rfl (Or.inl rfl))
   (ai (aG (i:=5) dW.nd rfl (Or.inl rfl) (aE bL (ay bV (hr.mono (by decide)) (by rfl) T.iq T.iw T.ir .nil aU (aa (aI (nI K) (pv 0) (pv 4) (fun _ _=>rfl)) (aa (pv 4) ae))) (pv 2)))
   (aq (cF (BH K (kh PySem.F.plainAttrs_list PySem.F.slot_list_append PySem.F.type_list_append dS (pv 3) (aa (gZ (aa (pv 5) (aa (aE bL (aE cK (aE cK (pv 5) ah) (aE bL (ay bV (hr.mono (by decide)) (by rfl) T.iq T.iw T.ir .nil aU (aa (aI (nI K) (pv 0) (pv 4) (fun _ _=>rfl)) (aa (aE cK (pv 4) ah) ae))) (aE iT (pv 2) ah))) (pv 2)) (aa ah ae)))) ae)))))))
   (aq (aO (gZ (aa (pv 2) (aa (bP (ym K) (by rfl) T.pX PyProof.Rows.boot_tuple (aa (pv 3) ae)) ae))))))))),?_⟩
  refine uU ?_;intro dG gq jZ kB nh ni;refine(ak rfl ⟨b,ns,0,rfl,hS,fun z1=>⟨_,_,rfl,fun z hz=>?_⟩⟩)
  refine(ak rfl (bX ⟨⟨by decide,by decide⟩,bX ⟨(lY rfl),bX (?_)⟩⟩))
  dsimp only;obtain⟨p,ep,p2,Q4⟩:∃ p:Nat,2+z/8%9=(p:Int)/\2<=p/\p<=10:=by
   obtain⟨h0,h1⟩:=eL (z/8) 9 (by decide)
   exact⟨(2+z/8%9).toNat,by lia,by lia,by lia⟩
  rw[ep];refine(ak rfl (ak rfl ⟨by lia,by lia,fun L hL=>eF (lo:=0) (m:=((p:Nat):Int).toNat) (fun i ac H2=>ao H H2/\H2 L=some (.lst ac)/\∃ ms,Paired (TupAt H2) ac ms/\ms.length=i/\∀ t∈ms,fj (p:Int) t) ⟨ao.new hL,aj,[],.nil,rfl,(fun _ h=>nomatch h)⟩ (fun i ac H2 _ ⟨f1,f2,ms,e,el,_⟩=>⟨f2,by rw[e.length,el];exact Nat.le_refl _⟩) (uA (by lia)) ?_ ?_⟩))
  ·rintro i ac H2 hi ⟨s2,Cw,ms,e2,el,gm⟩;rw[Int.zero_add];rw[Int.toNat_natCast]at hi;refine⟨rfl,ak rfl (ak rfl (bX (ak rfl (bX ⟨(by lia),ak rfl (bX ⟨dl rfl,fun c hc=>?_⟩)⟩))))⟩
   dsimp only;obtain⟨b0,b1⟩:=eL ((i:Int)+1) (p:Int) (by lia)
   have hne:(i:Int)≠((i:Int)+1)%(p:Int):=fun z=>by
    by_cases h:(i:Int)+1<(p:Int)
    ·rw[Int.emod_eq_of_lt (by lia) h]at z
     lia
    ·rw[show(i:Int)+1=(p:Int) by lia,Int.emod_self]at z
     lia
   generalize ((i:Int)+1)%(p:Int)=oth at b0 b1 hne;have tp:=ow (t:=(((i:Int),oth,1+(i:Int)):dZ)) Cw e2 hc rfl;exact⟨ao.new hc _ _ Cw,(s2.trans (ao.new hc)).put hL,aj,ms++[((i:Int),oth,1+(i:Int))],tp,by rw[List.length_append,el];rfl,fun t ht=>by
    rcases List.mem_append.mp ht with z|z
    ·exact gm t z
    ·rw[List.mem_singleton.mp z];exact⟨show(0:Int)<=(i:Int) by lia,show(i:Int)<p by lia,b0,b1,hne,show(1:Int)<=1+(i:Int) by lia,show 1+(i:Int)<=_ by lia⟩⟩
  rintro ac H2 ⟨s2,Cw,ms,e2,el,gm⟩;rw[Int.toNat_natCast]at el;refine(ak rfl (bX (ak rfl ⟨b,_,rfl,.inl (s2.seq hS),5,_,_,rfl,fun zm m1 m2 m3 m4=>?_⟩)))
  refine⟨zm,rfl,by lia,by lia,jL (lo:=0) (n:=zm.toNat) (fun k σ H3=>∃ v4 v5 acc ms,σ=[some (.ref b),some (.int z),some (.int (p:Int)),some (.ref L),v4,v5]/\ao H H3/\H3 L=some (.lst acc)/\Paired (TupAt H3) acc ms/\ms.length=p+k/\∀ t∈ms,fj (p:Int) t) ⟨none,none,ac,ms,rfl,s2,Cw,e2,el,gm⟩ ?_ ?_⟩
  ·rintro k D' σ H3 hk ⟨v4,v5,acc,ms,rfl,s3,IG,e3,Q5,Ma⟩;rw[Int.zero_add];have hkn:k<ns.length:=by rw[List.length_map]at m3;lia
   have Q6:Ao (ns.map V.int) ((k:Nat):Int)=some (.int (ns.getD k 0)):=au (j:=k) (int_at hkn);refine(ak rfl (ak rfl ⟨b,_,_,_,rfl,rfl,s3.seq hS,Q6,_,rfl,_,_,rfl,fun z2 hz2=>(ak rfl (bX ⟨(by lia),?_⟩))⟩))
   dsimp only;obtain⟨o0,o1⟩:=eL z2 (p:Int) (by lia)
   generalize z2%(p:Int)=one at o0 o1;refine(ak rfl ⟨.inl ⟨rfl,_,bg.of IG⟩,ak rfl (ak rfl (bX (ak rfl (ak rfl ⟨b,_,_,_,rfl,rfl,s3.seq hS,Q6,_,rfl,bX ⟨_,_,rfl,fun z3 Qy=>(ak rfl (bX (bX ⟨(by lia),bX (ak rfl (bX ⟨(by lia),dl rfl,fun c hc=>?_⟩))⟩)))⟩⟩))))⟩)
   dsimp only;obtain⟨k0,k1⟩:=eL z3 ((p:Int)-1) (by lia)
   generalize z3%((p:Int)-1)=kk at k0 k1;obtain⟨b0,b1⟩:=eL (one+1+kk) (p:Int) (by lia)
   have hne:one≠(one+1+kk)%(p:Int):=fun z=>by
    by_cases h:one+1+kk<(p:Int)
    ·rw[Int.emod_eq_of_lt (by lia) h]at z
     lia
    ·have:(one+1+kk)%(p:Int)=one+1+kk-p:=by
      rw[<-Int.sub_emod_right,Int.emod_eq_of_lt (by lia) (by lia)]
     lia
   generalize (one+1+kk)%(p:Int)=oth at b0 b1 hne;have tp:Paired (TupAt (upd (upd H3 c (.tup [.int one,.int oth,.int 1])) L (.lst (acc++[V.ref c])))) (acc++[V.ref c]) (ms++[(one,oth,1)]):=ow (t:=((one,oth,1):dZ)) IG e3 hc rfl;exact⟨L,acc,V.ref c,rfl,rfl,ao.new hc _ _ IG,jE (by rw[e3.length];lia),_,_,acc++[V.ref c],ms++[(one,oth,1)],rfl,(s3.trans (ao.new hc)).put hL,aj,tp,by rw[List.length_append,Q5];rfl,fun t ht=>by
    rcases List.mem_append.mp ht with z|z
    ·exact Ma t z
    ·rw[List.mem_singleton.mp z];exact⟨o0,o1,b0,b1,hne,show(1:Int)<=1 by lia,show(1:Int)<=_ by lia⟩⟩
  ·rintro σ H3 ⟨v4,v5,acc,ms,rfl,s3,IG,e3,Q5,Ma⟩;refine(ak rfl (ak rfl ⟨L,_,rfl,.inl ⟨bg.of IG,fun Tp Iu=>⟨dl rfl,fun W hW=>?_⟩⟩⟩))
   have s8:ao H3 (upd (upd H3 Tp (.tup acc)) W (.tup [.int (p:Int),.ref Tp])):=(ao.new Iu).trans (ao.new hW);exact q W p ms _ ⟨by lia,Q4,by lia,Ma⟩ (by lia) (s3.trans s8) ⟨Tp,acc,aj,ao.new hW _ _ aj,Paired.imp' (fun x t ⟨c,e,hc⟩=>⟨c,e,s8 _ _ hc⟩) e3⟩
theorem gk(T:Txt K mg a):aN P w K mg base dm 21 a.ez a.gi ["way","web"] kW:=by
 have cA:aN P w K mg base (lG P w) 7 a.dc a.ej ["web"] (iA a.az):=cA T;have aW:aN P w K mg base (lG P w) 20 a.bC a.bJ ["web"] (jV a.az):=aW T;refine T.lR.ok dJ (fun vs H Q E h=>?_) (fun cdv A outer s H vs Q E hr h=>?_)
 ·obtain⟨w,p,ts,g,k,rfl,_⟩:=h;rfl
 ·obtain⟨wb,p,ts,g,k,rfl,hw,h12,q⟩:=h;refine⟨_,(ai (aG (i:=2) dJ.nd rfl (Or.inl rfl) w5)
   (ai (Fp (i:=3) K rfl rfl rfl dJ.nd rfl rfl (by rfl) T.wN (fun E pn xe hp=>(aq (d7 (aV gp (pv 0) ah (aX _)) (aq (cF (ay cA (hr.mono (by decide)) (by rfl) T.i3 T.i7 T.i4 .nil hp (aa (pv 1) ae)))) (aq (cF (ay aW (hr.mono (by decide)) (by rfl) T.cG T.cI T.cH .nil hp (aa (pv 1) ae))))))) (fun ea pn=>(aq (aG (i:=2) dJ.nd rfl (Or.inl rfl) (pv 3)))))
   (ai (aG (i:=4) dJ.nd rfl (Or.inl rfl) (g5 (aa (aB (nV K) (by rfl) T.aR PyProof.Rows.boot_isinstance (aa (pv 2) (aa (gD (by rfl) T.B0) ae))) (aa (aB (nV K) (by rfl) T.aR PyProof.Rows.boot_isinstance (aa (pv 2) (aa (gD (by rfl) T.Ab) ae))) (aa (aB (nV K) (by rfl) T.aR PyProof.Rows.boot_isinstance (aa (pv 2) (aa (gD (by rfl) T.z8) ae))) ae)))))
   (ai (cF (BH K (kh PySem.F.plainAttrs_list PySem.F.slot_list_extend PySem.F.type_list_extend nR (pv 4) (aa (g5 (aa (aB (nV K) (by rfl) T.aR PyProof.Rows.boot_isinstance (aa (pv 2) (aa (gD (by rfl) T.z9) ae))) (aa (aB (nV K) (by rfl) T.aR PyProof.Rows.boot_isinstance (aa (pv 2) (aa (gD (by rfl) T.B4) ae))) (aa (aB (nV K) (by rfl) T.aR PyProof.Rows.boot_isinstance (aa (pv 2) (aa (gD (by rfl) T.BZ) ae))) ae)))) ae))))
   (ai (cF (BH K (kh PySem.F.plainAttrs_list PySem.F.slot_list_extend PySem.F.type_list_extend nR (pv 4) (aa (g5 (aa (aB (nV K) (by rfl) T.aR PyProof.Rows.boot_isinstance (aa (pv 2) (aa (gD (by rfl) T.xV) ae))) (aa (aB (nV K) (by rfl) T.aR PyProof.Rows.boot_isinstance (aa (pv 2) (aa (gD (by rfl) T.B3) ae))) (aa (aB (nV K) (by rfl) T.aR PyProof.Rows.boot_isinstance (aa (pv 2) (aa (gD (by rfl) T.B5) ae))) ae)))) ae))))
   (ai (cF (BH K (kh PySem.F.plainAttrs_list PySem.F.slot_list_extend PySem.F.type_list_extend nR (pv 4) (aa (g5 (aa (aB (nV K) (by rfl) T.aR PyProof.Rows.boot_isinstance (aa (pv 2) (aa (gD (by rfl) T.B6) ae))) (aa (aB (nV K) (by rfl) T.aR PyProof.Rows.boot_isinstance (aa (pv 2) (aa (gD (by rfl) T.B7) ae))) ae))) ae))))
   (aq (aO (qb (aB (nV K) (by rfl) T.aR PyProof.Rows.boot_isinstance (aa (pv 2) (aa (gD (by rfl) T.Aa) ae))) (qb (aB (nV K) (by rfl) T.aR PyProof.Rows.boot_isinstance (aa (pv 2) (aa (yn (T:="ValueError") (by rfl) T.uY (by decide +kernel)) ae))) (ud (gF (AS K) qa (pv 4) (by with_unfolding_all rfl))))))))))))),?_⟩
  refine qQ ?_;intro dG gq jZ kB nh ni;refine⟨fun cls od H'=>cls = .ref a.az/\ao H H',?_,?_⟩
  ·refine(ak rfl ⟨rfl,ak rfl (ur (fun _=>?_) (fun _=>?_))⟩)
   ·exact(ak rfl ⟨wb,p,ts,g,rfl,hw,.inr ⟨h12,rfl,ao.refl _⟩⟩)
   ·exact(ak rfl ⟨wb,p,ts,g,rfl,hw,fun h=>absurd h (by lia),fun _=>⟨rfl,ao.refl _⟩⟩)
  ·rintro cls od H' ⟨rfl,s1⟩;refine⟨T.Ad,fun ea Tt=>?_⟩
   have s2:=s1.trans (ao.new (o:=rT ea (.ref a.az)) Tt);have he:upd H' ea (rT ea (.ref a.az)) ea=some (rT ea (.ref a.az)):=aj;generalize upd H' ea (rT ea (.ref a.az))=H2 at s2 he;refine(ak rfl (?_));refine(ak rfl ⟨ea,_,a.az,_,_,rfl,rfl,he,T.bR,T.q_TooMany_BadSet,_,rfl,ea,_,a.az,_,_,rfl,rfl,he,T.bR,T.q_TooMany_NotEven,_,rfl,ea,_,a.az,_,_,rfl,rfl,he,T.bR,T.q_TooMany_NotRing,dl rfl,fun O hO=>?_⟩)
   have s3:ao H2 (upd H2 O (.lst [.bl false,.bl false,.bl false])):=ao.new hO;have Gp:upd H2 O (.lst [.bl false,.bl false,.bl false]) O=some (.lst [.bl false,.bl false,.bl false]):=aj;generalize upd H2 O (.lst [.bl false,.bl false,.bl false])=H3 at s3 Gp;have JW:=s3 _ _ he;refine(ak rfl ⟨.inl ⟨rfl,_,bg.of Gp⟩,ak rfl ⟨ea,_,a.az,_,_,rfl,rfl,JW,T.bR,T.q_TooMany_NoChord,_,rfl,ea,_,a.az,_,_,rfl,rfl,JW,T.bR,T.q_TooMany_NoSuch,_,rfl,ea,_,a.az,_,_,rfl,rfl,JW,T.bR,T.q_TooMany_BadWeb,dl rfl,fun O2 Co=>⟨O,O2,_,_,rfl,rfl,ao.new Co _ _ Gp,aj,Nat.le_of_lt (jE (by show 3+3<=_;decide)),?_⟩⟩⟩)
   have s4:ao H2 (upd (upd H3 O2 (.lst [.bl false,.bl false,.bl false])) O (.lst [.bl false,.bl false,.bl false,.bl false,.bl false,.bl false])):=(s3.trans (ao.new Co)).put hO;have JX:upd (upd H3 O2 (.lst [.bl false,.bl false,.bl false])) O (.lst [.bl false,.bl false,.bl false,.bl false,.bl false,.bl false]) O=some (.lst [.bl false,.bl false,.bl false,.bl false,.bl false,.bl false]):=aj;clear Gp JW;dsimp only[List.append_nil,List.cons_append,List.nil_append];generalize upd (upd H3 O2 (.lst [.bl false,.bl false,.bl false])) O (.lst [.bl false,.bl false,.bl false,.bl false,.bl false,.bl false])=H4 at s4 JX;have JY:=s4 _ _ he;clear Co;refine(ak rfl ⟨.inl ⟨rfl,_,bg.of JX⟩,ak rfl ⟨ea,_,a.az,_,_,rfl,rfl,JY,T.bR,T.q_TooMany_BadPoint,_,rfl,ea,_,a.az,_,_,rfl,rfl,JY,T.bR,T.q_TooMany_NoBase,_,rfl,ea,_,a.az,_,_,rfl,rfl,JY,T.bR,T.q_TooMany_BadRow,dl rfl,fun O2 Co=>⟨O,O2,_,_,rfl,rfl,ao.new Co _ _ JX,aj,Nat.le_of_lt (jE (by show 6+3<=_;decide)),?_⟩⟩⟩)
   have s5:ao H2 (upd (upd H4 O2 (.lst [.bl false,.bl false,.bl false])) O (.lst [.bl false,.bl false,.bl false,.bl false,.bl false,.bl false,.bl false,.bl false,.bl false])):=(s4.trans (ao.new Co)).put hO;have JZ:upd (upd H4 O2 (.lst [.bl false,.bl false,.bl false])) O (.lst [.bl false,.bl false,.bl false,.bl false,.bl false,.bl false,.bl false,.bl false,.bl false]) O=some (.lst [.bl false,.bl false,.bl false,.bl false,.bl false,.bl false,.bl false,.bl false,.bl false]):=aj;clear JX JY;dsimp only[List.append_nil,List.cons_append,List.nil_append];generalize upd (upd H4 O2 (.lst [.bl false,.bl false,.bl false])) O (.lst [.bl false,.bl false,.bl false,.bl false,.bl false,.bl false,.bl false,.bl false,.bl false])=H5 at s5 JZ;have Mb:=s5 _ _ he;clear Co;refine(ak rfl ⟨.inl ⟨rfl,_,bg.of JZ⟩,ak rfl ⟨ea,_,a.az,_,_,rfl,rfl,Mb,T.bR,T.q_TooMany_NoDeed,_,rfl,ea,_,a.az,_,_,rfl,rfl,Mb,T.bR,T.q_TooMany_NoText,dl rfl,fun O2 Co=>⟨O,O2,_,_,rfl,rfl,ao.new Co _ _ JZ,aj,Nat.le_of_lt (jE (by show 9+2<=_;decide)),?_⟩⟩⟩)
   have s6:ao H2 (upd (upd H5 O2 (.lst [.bl false,.bl false])) O (.lst [.bl false,.bl false,.bl false,.bl false,.bl false,.bl false,.bl false,.bl false,.bl false,.bl false,.bl false])):=(s5.trans (ao.new Co)).put hO;have Q7:upd (upd H5 O2 (.lst [.bl false,.bl false])) O (.lst [.bl false,.bl false,.bl false,.bl false,.bl false,.bl false,.bl false,.bl false,.bl false,.bl false,.bl false]) O=some (.lst [.bl false,.bl false,.bl false,.bl false,.bl false,.bl false,.bl false,.bl false,.bl false,.bl false,.bl false]):=aj;clear JZ Mb;dsimp only[List.append_nil,List.cons_append,List.nil_append];generalize upd (upd H5 O2 (.lst [.bl false,.bl false])) O (.lst [.bl false,.bl false,.bl false,.bl false,.bl false,.bl false,.bl false,.bl false,.bl false,.bl false,.bl false])=H6 at s6 Q7;have Q8:=s6 _ _ he;clear Co;refine(ak rfl ⟨ea,_,a.az,_,_,rfl,rfl,Q8,T.bR,T.q_TooMany_TooMany,_,rfl,ki (ak rfl ⟨ea,_,a.az,_,_,rfl,rfl,Q8,T.bR,T.xW,_,rfl,ki (ak rfl (pW rfl (.inl (bg.of Q7)) ⟨rfl,rfl,?_⟩))⟩)⟩);exact q H6 (s2.trans s6)
end
def u7(K:bF):Sp:=fun vs H Q _=>∃(b:Addr) (ns:List Int),vs=[.ref b]/\bg K H b (ns.map V.int)/\ns.length<=63/\∀ H',Q (.bl true) H'
section
variable {P:Program}{w:World}{K:bF}{mg:iS}{base:Heap}{a:vd}
theorem II(T:Txt K mg a):aN P w K mg base dm 22 a.BQ a.BR ["script"] (u7 K):=by
 have ou:aN P w K mg base dm 2 a.jv a.ly ["script","most"] (Cm K):=ou T;have cB:aN P w K mg base dm 1 a.eI a.fU ["script","k"] (pY K):=cB T;have bV:aN P w K mg base dm 1 a.eJ a.fV ["cell","k"] pZ:=bV T;have dR:aN P w K mg base dm 1 a.eX a.gy ["found"] rH:=dR T;have jW:aN P w K mg base dm 2 a.ic a.jO ["found","due"] pe:=jW T;have jb:aN P w K mg base dm 2 a.eu a.gc ["web"] kU:=jb T;have jX:aN P w K mg base dm 1 a.ie a.jP ["web","many"] pA:=jX T;have kX:aN P w K mg base dm 2 a.gA a.iP ["script"] (nF K):=kX T;have gk:aN P w K mg base dm 21 a.ez a.gi ["way","web"] kW:=gk T;have cA:aN P w K mg base (lG P w) 7 a.dc a.ej ["web"] (iA a.az):=cA T;have eB:aN P w K mg base dm 7 a.eg a.gb ["web"] kT:=eB T;have aW:aN P w K mg base (lG P w) 20 a.bC a.bJ ["web"] (jV a.az):=aW T;refine T.Ii.ok iW (fun vs H Q E h=>?_) (fun cdv A outer s H vs Q E hr h=>?_)
 ·obtain⟨b,ns,rfl,_⟩:=h;rfl
 ·obtain⟨b,ns,rfl,hS,hn,fin⟩:=h;refine⟨_,(ai (aG (i:=1) iW.nd rfl (Or.inl rfl) (ay ou (hr.mono (by decide)) (by rfl) T.z5 T.Af T.z7 .nil aU (aa (pv 0) (aa ah ae))))
   (ai (d7 (aV gp (aE bL (ay bV (hr.mono (by decide)) (by rfl) T.iq T.iw T.ir .nil aU (aa (ay cB (hr.mono (by decide)) (by rfl) T.jQ T.jS T.jR .nil aU (aa (pv 0) (aa ah ae))) (aa ah ae))) ah) ah (aX _)) (aq (aG (i:=1) iW.nd rfl (Or.inl rfl) (ay kX (hr.mono (by decide)) (by rfl) T.wL T.wR T.wM .nil aU (aa (pv 0) ae)))) bK)
   (ai (d7 (aV yc (aB (iC K) (by rfl) T.dY PySem.boot_len (aa (aI (jx K) (pv 1) ah (fun _ _=>rfl)) ae)) ah (aX _)) (ai (aG (i:=2) iW.nd rfl (Or.inl rfl) (ay jb (hr.mono (by decide)) (by rfl) T.se T.sy T.sf .nil aU (aa (pv 1) ae)))
   (ai (aG (i:=3) iW.nd rfl (Or.inl rfl) (ay cA (hr.mono (by decide)) (by rfl) T.i3 T.i7 T.i4 .nil oF (aa (pv 1) ae)))
   (ai (d7 (jz (gV (ay jW (hr.mono (by decide)) (by rfl) T.rf T.rA T.rg .nil aU (aa (pv 3) (aa (pv 2) ae))))) (aq (aO qa)) bK)
   (ai (cF (BH K (kh PySem.F.plainAttrs_list PySem.F.slot_list_append PySem.F.type_list_append dS (pv 3) (aa ah ae))))
   (ai (d7 (jz (gV (ay jW (hr.mono (by decide)) (by rfl) T.rf T.rA T.rg .nil aU (aa (ay cA (hr.mono (by decide)) (by rfl) T.i3 T.i7 T.i4 .nil oF (aa (pv 1) ae)) (aa (pv 2) ae))))) (aq (aO qa)) bK)
   (aq (aG (i:=4) iW.nd rfl (Or.inl rfl) (aB (iC K) (by rfl) T.dY PySem.boot_len (aa (pv 2) ae))))))))) (aq (aG (i:=4) iW.nd rfl (Or.inl rfl) (ay aW (hr.mono (by decide)) (by rfl) T.cG T.cI T.cH .nil oF (aa (pv 1) ae)))))
   (ai (gY PassesOwn.never rfl (AU K (g5 (aa (ay eB (hr.mono (by decide)) (by rfl) T.iX T.i5 T.iY .nil aU (aa (pv 1) ae)) (aa (ay aW (hr.mono (by decide)) (by rfl) T.cG T.cI T.cH .nil oF (aa (pv 1) ae)) ae)))) (aJ (i:=5) iW.nd rfl (Or.inl rfl))
   (aq (d7 (PW.pt (x8 (jz (gV (ay dR (hr.mono (by decide)) (by rfl) T.kL T.kO T.kM .nil aU (aa (pv 5) ae)))) (w6 (aV vg (pv 5) (pv 4) (aX _))))) (aq (aO qa)) bK)))
   (ai (d7 (aV yc (aI (jx K) (pv 1) ah (fun _ _=>rfl)) ah (aX _)) (aq (aO qa)) bK)
   (ai (aG (i:=6) iW.nd rfl (Or.inl rfl) (ay jX (hr.mono (by decide)) (by rfl) T.rj T.rB T.rm .nil aU (aa (pv 1) (aa ah ae))))
   (ai (d7 (PW.pt (x8 (jz (gV (ay dR (hr.mono (by decide)) (by rfl) T.kL T.kO T.kM .nil aU (aa (ay eB (hr.mono (by decide)) (by rfl) T.iX T.i5 T.iY .nil aU (aa (pv 6) ae)) ae)))) (x8 (jz (gV (ay gk (hr.mono (by decide)) (by rfl) T.lS T.lU T.lT .nil aU (aa ah (aa (pv 6) ae))))) (w6 (jz (gV (ay gk (hr.mono (by decide)) (by rfl) T.lS T.lU T.lT .nil aU (aa ah (aa (pv 6) ae))))))))) (aq (aO qa)) bK)
   (ai (aG (i:=7) iW.nd rfl (Or.inl rfl) (ay jX (hr.mono (by decide)) (by rfl) T.rj T.rB T.rm .nil aU (aa (pv 1) (aa ah ae))))
   (aq (aO (gF gp (ay aW (hr.mono (by decide)) (by rfl) T.cG T.cI T.cH .nil oF (aa (pv 7) ae)) (ay eB (hr.mono (by decide)) (by rfl) T.iX T.i5 T.iY .nil aU (aa (pv 7) ae)) (aX _)))))))))))),?_⟩
  refine FN ?_;intro dG gq jZ kB nh ni v9 Ek El Dr wc wd BN BO BP Ia Ib Ic Ie FO Ig Ih;have Et:∀(wb:Addr) (p:Nat) (ts:List dZ) (g:aD p ts) (v2 v3:Option V) (H2:Hp),ts.length<=12->bI H2 wb p ts->Dr { nx:=fun _ H'=>Q V.fH H',rt:=Q} [some (.ref b),some (.ref wb),v2,v3,some (.int (RM.fo g.N)),none,none,none] H2:=by
   intro wb p ts g v2 v3 H2 hl hw;obtain⟨bt,xs,h1,h2,h3⟩:=id hw.ex;refine(ak rfl ⟨wb,p,ts,g,rfl,hw,fun H3 s3=>(ak rfl ⟨wb,p,ts,g,rfl,hw.same s3,fun _ H4 s4=>?_,fun h=>absurd h (by lia)⟩)⟩)
   refine⟨dl rfl,fun L hL=>?_⟩
   have Q9:ao H2 (upd H4 L (.lst [.int (RM.fo g.N),.int (RM.fo g.N)])):=(s3.trans s4).trans (ao.new hL);have Mc:upd H4 L (.lst [.int (RM.fo g.N),.int (RM.fo g.N)]) L=some (.lst [.int (RM.fo g.N),.int (RM.fo g.N)]):=aj;generalize upd H4 L (.lst [.int (RM.fo g.N),.int (RM.fo g.N)])=H5 at Q9 Mc;refine⟨L,rfl,⟨_,bg.of Mc⟩,tH (K:=K) (a:=L) (xs:=[.int (RM.fo g.N),.int (RM.fo g.N)]) (fun i σ H6=>∃ v5,σ=[some (.ref b),some (.ref wb),v2,v3,some (.int (RM.fo g.N)),v5,none,none]/\ao H5 H6) ⟨none,rfl,ao.refl _⟩ (fun i σ H6 _ ⟨_,_,z⟩=>bg.of (z _ _ Mc)) ?_ ?_⟩
   ·rintro i x D' σ H6 hx ⟨v5,rfl,s6⟩;have ex:x = .int (RM.fo g.N):=by
     match i,hx with
     | 0,hx=>exact(Option.some.inj hx).symm
     | 1,hx=>exact(Option.some.inj hx).symm
     | i+2,hx=>cases hx
    subst ex;exact(ak rfl (ak rfl (ak rfl (fK (ak rfl (ak rfl ⟨rfl,ak rfl (yi rfl (ak rfl (s6)))⟩))))))
   rintro σ H6 ⟨v5,rfl,s6⟩;have Me:=Q9.trans s6;refine(ak rfl (jy (cE.of (Me _ _ h1)) (au (j:=0) rfl) (bX (ak rfl (ur (fun _=>fin H6) (fun hp=>?_))))))
   have Hs:2<=p:=by
    have : ¬((p:Int)<2):=fun z=>hp (gC z)
    lia
   refine(ak rfl ⟨wb,p,ts,g,13,rfl,hw.same Me,Hs,by lia,by decide,fun W1 Mf H7 g1 l1 s7 Mg=>?_⟩)
   refine(ak rfl ⟨W1,p,Mf,g1,rfl,Mg,fun H8 s8=>(ak rfl (ak rfl (fK ?_)))⟩)
   refine(ak rfl ⟨W1,p,Mf,g1,0,rfl,Mg.same s8,by lia,fun H9 s9=>(ak rfl (fK (ak rfl ⟨W1,p,Mf,g1,1,rfl,Mg.same (s8.trans s9),by lia,fun VM Ls=>(ak rfl (fK ?_))⟩)))⟩)
   have Mh:=Me.trans (s7.trans ((s8.trans s9).trans Ls));refine(ak rfl ⟨wb,p,ts,g,12,rfl,hw.same Mh,Hs,by lia,by decide,fun W2 Ra VN g2 l2 VO Rb=>?_⟩)
   refine(ak rfl ⟨W2,p,Ra,g2,rfl,Rb,fun _ VP s12=>(ak rfl ⟨W2,p,Ra,g2,rfl,Rb.same s12,fun Tu za=>⟨rfl,?_⟩⟩),fun h=>absurd h (by lia)⟩)
   rw[gC rfl];exact fin Tu
  have Cp:∀(wb:Addr) (p:Nat) (ts:List dZ) (g:aD p ts) (H2:Hp),ts.length<=12->bI H2 wb p ts->FO { nx:=fun _ H'=>Q V.fH H',rt:=Q} [some (.ref b),some (.ref wb),none,none,none,none,none,none] H2:=by
   intro wb p ts g H2 hl hw;obtain⟨bt,xs,h1,h2,h3⟩:=id hw.ex;have u3:=h3.length;refine(ak rfl (jy (cE.of h1) (au (j:=1) rfl) (pW rfl (.inr (cE.of h2)) (bX (ak rfl (ur (fun h=>?_) (fun h=>?_)))))))
   ·have h9:ts.length<=9:=by
     have:=Am h
     lia
    have Tv:=DG (g:=g) h9;refine(ak rfl ⟨wb,p,ts,g,rfl,hw,h9,fun Du H3 VQ s3 IJ=>?_⟩)
    refine(ak rfl ⟨wb,p,ts,g,rfl,hw.same s3,.inl ⟨h9,fun Fo H4 Tw s4 IK=>?_⟩⟩)
    have Mi:=s4 _ _ IJ;refine(ak rfl (ak rfl ⟨Fo,Du,frsL p ts g,rfl,IK,Mi,by lia,fun H5 s5=>(ak rfl (fK ?_))⟩))
    have IL:=s5 _ _ IK;refine(ak rfl ⟨.inl ⟨rfl,_,bg.of IL⟩,Fo,_,_,rfl,rfl,IL,eK (by rw[bj];lia),?_⟩)
    have Mj:ao H3 (upd H5 Fo (.lst (bh (frsL p ts g)++[.int 0]))):=(s4.trans s5).put Tw;generalize upd H5 Fo (.lst (bh (frsL p ts g)++[.int 0]))=H6 at Mj;have JV:=hw.same (s3.trans Mj);have IM:=Mj _ _ IJ;refine(ak rfl ⟨wb,p,ts,g,rfl,JV,.inl ⟨h9,fun F2 H7 VR s7 Mk=>?_⟩⟩)
    refine(ak rfl ⟨F2,Du,frsL p ts g,rfl,Mk,s7 _ _ IM,by lia,fun H8 s8=>(ak rfl (fK ?_))⟩)
    refine(ak rfl (pW rfl (.inl (bg.of ((s7.trans s8) _ _ IM))) (?_)));rw[bj,DF];exact Et wb p ts g _ _ H8 hl (JV.same (s7.trans s8))
   ·exact(ak rfl ⟨wb,p,ts,g,rfl,hw,fun _ H3 s3=>Et wb p ts g _ _ H3 hl (hw.same s3),fun h=>absurd h (by lia)⟩)
  refine(ak rfl ⟨b,ns,8,rfl,hS,hn,by decide,fun wb p ts H1 s1 g p6 hlen hw=>?_⟩)
  refine(ak rfl ⟨b,ns,0,rfl,s1.seq hS,fun z1=>⟨_,_,rfl,fun z hz=>(bX ⟨(lY rfl),rfl,ak rfl (ur (fun _=>?_) (fun _=>Cp wb p ts g H1 (by lia) hw))⟩)⟩⟩)
  exact(ak rfl ⟨b,ns,rfl,s1.seq hS,hn,fun D p DI H2 g' l12 s2 jY=>Cp D p DI g' H2 l12 jY⟩)
end
theorem all_mk{l:PySem.W.OpenLaw}{w:World}{K:bF}{h:Heap}{mg:iS}{fa:Addr}(X:K.In h)(G:h.Ns mainGlobals mg)(Tz:mg "law"=some (.ref fa))
 {f0 f1 f2 f3 f4 f5 f6 f7 f8 f9 J0 J2 J3 J4 Ka Kc Kd Ke Kf Kg Kh Kl Km Kn Ko Kp Kq Kr Ks Ku Kv Kw f32 Kx Ml:Addr} {TF TH TJ TL TM TN TQ TR TU TV TX TY TZ T3 T4 T5 T6 T7 T8 T9 Mm Mn Mp Mq Mr Ms Mt Mu Mv Mw My Mz MA MB MC MD ME MF MG MH MI MJ MK ML MM MN MO MP MQ MR MS MT MU MV MW MX MY MZ M0 M1 M3 M4 M5 M6 M7 M8 M9 Na Nb IP:Option Addr} {Ua Ub sl2 Uc Ud Ue Ug Uh Ui Uj Nc Nd Nf Ng Nh Ni Nj Nk Nl Nm Nn Np Nq Nr Nt Nu Nv Nx Ny Nz NB NC ND NF NG:Array (Option Value)}
 {Uk Ul Um Uo Rc Up Uq Ur Us Ut Rf Uu Uv Uw Ux Uy Rg Uz UA UB UC UD Rh UE UG UH UI UJ Ri UK UL UM UN UO Rj UP UQ UR US UT Rk UU UW UX UY UZ Rl U0 U1 U3 U4 U5 Rm U6 U7 U8 U9 Va Rn Vb NH NI NJ NK IQ NL NO NP NQ NR IS NS NT NU NV NW IT NX NY NZ N2 N3 IU N4 N5 N6 N7 N8 IV N9 Oa Ob Oc Od IW Oe Of Og Oh Oi IX Oj Ol Om Oo Oq IY Ot Ou Ov Ow Ox IZ Oz OA OB OD OE Ja OF OG OH OI OJ Jb OL OM ON OO OP Jc OQ OR OS OT OU Jd OV OW OX OY OZ Je O0 O1 O3 O4 O5 Jf O6 O7 O8 O9 Pa Jg Pb Pc Pd Pe Pf Jh Pg Ph Pj Pk Pn Ji Po Pp Pq Pr Pu Jj Pw Px Py Pz PB Jk PC PD PF PJ PK Jl PL PM PN PR PU Jm PV PX PY PZ P0 Jo P1 P4 P5 P6 P7 Jp P8 P9 Jq Jr Js Gg Jt:Value}
 {kY rJ nG mJ oz oA rK rL aP rM rN oB rO:Addr}
 {u9:Tok}
 (a0:PySem.W.nsIn K mainGlobals "has_tie"=some (some (.ref f0)))
 (l0:K.lookup f0=some ⟨Uk,TF,.func (PySem.W.fnOf "has_tie" "has_tie" (aK gP) (aH gP) (af gP) .none Ul Um Uo TH Rc Up),Ua⟩)
 (c0:PySem.W.codeIn K Rc "has_tie"=true) (k0:PySem.W.keepIn K (.ref f0)=true)
 (a1:PySem.W.nsIn K mainGlobals "ties_in"=some (some (.ref f1)))
 (l1:K.lookup f1=some ⟨Uq,TJ,.func (PySem.W.fnOf "ties_in" "ties_in" (aK fP) (aH fP) (af fP) .none Ur Us Ut TL Rf Uu),Ub⟩)
 (c1:PySem.W.codeIn K Rf "ties_in"=true) (k1:PySem.W.keepIn K (.ref f1)=true)
 (a2:PySem.W.nsIn K mainGlobals "all_ties"=some (some (.ref f2)))
 (l2:K.lookup f2=some ⟨Uv,TM,.func (PySem.W.fnOf "all_ties" "all_ties" (aK fQ) (aH fQ) (af fQ) .none Uw Ux Uy TN Rg Uz),sl2⟩)
 (c2:PySem.W.codeIn K Rg "all_ties"=true) (k2:PySem.W.keepIn K (.ref f2)=true)
 (a3:PySem.W.nsIn K mainGlobals "is_set"=some (some (.ref f3)))
 (l3:K.lookup f3=some ⟨UA,TQ,.func (PySem.W.fnOf "is_set" "is_set" (aK jo) (aH jo) (af jo) .none UB UC UD TR Rh UE),Uc⟩)
 (c3:PySem.W.codeIn K Rh "is_set"=true) (k3:PySem.W.keepIn K (.ref f3)=true)
 (a4:PySem.W.nsIn K mainGlobals "check_set"=some (some (.ref f4)))
 (l4:K.lookup f4=some ⟨UG,TU,.func (PySem.W.fnOf "check_set" "check_set" (aK eN) (aH eN) (af eN) .none UH UI UJ TV Ri UK),Ud⟩)
 (c4:PySem.W.codeIn K Ri "check_set"=true) (k4:PySem.W.keepIn K (.ref f4)=true)
 (a5:PySem.W.nsIn K mainGlobals "triples_in"=some (some (.ref f5)))
 (l5:K.lookup f5=some ⟨UL,TX,.func (PySem.W.fnOf "triples_in" "triples_in" (aK cQ) (aH cQ) (af cQ) .none UM UN UO TY Rj UP),Ue⟩)
 (c5:PySem.W.codeIn K Rj "triples_in"=true) (k5:PySem.W.keepIn K (.ref f5)=true)
 (a6:PySem.W.nsIn K mainGlobals "drawn_together"=some (some (.ref f6)))
 (l6:K.lookup f6=some ⟨UQ,TZ,.func (PySem.W.fnOf "drawn_together" "drawn_together" (aK bE) (aH bE) (af bE) .none UR US UT T3 Rk UU),Ug⟩)
 (c6:PySem.W.codeIn K Rk "drawn_together"=true) (k6:PySem.W.keepIn K (.ref f6)=true)
 (a7:PySem.W.nsIn K mainGlobals "pieces"=some (some (.ref f7)))
 (l7:K.lookup f7=some ⟨UW,T4,.func (PySem.W.fnOf "pieces" "pieces" (aK hU) (aH hU) (af hU) .none UX UY UZ T5 Rl U0),Uh⟩)
 (c7:PySem.W.codeIn K Rl "pieces"=true) (k7:PySem.W.keepIn K (.ref f7)=true)
 (a8:PySem.W.nsIn K mainGlobals "rank"=some (some (.ref f8)))
 (l8:K.lookup f8=some ⟨U1,T6,.func (PySem.W.fnOf "rank" "rank" (aK n8) (aH n8) (af n8) .none U3 U4 U5 T7 Rm U6),Ui⟩)
 (c8:PySem.W.codeIn K Rm "rank"=true) (k8:PySem.W.keepIn K (.ref f8)=true)
 (a9:PySem.W.nsIn K mainGlobals "row_to_lead"=some (some (.ref f9)))
 (l9:K.lookup f9=some ⟨U7,T8,.func (PySem.W.fnOf "row_to_lead" "row_to_lead" (aK cU) (aH cU) (af cU) .none U8 U9 Va T9 Rn Vb),Uj⟩)
 (c9:PySem.W.codeIn K Rn "row_to_lead"=true) (k9:PySem.W.keepIn K (.ref f9)=true)
 (a10:PySem.W.nsIn K mainGlobals "row_cleared"=some (some (.ref J0)))
 (l10:K.lookup J0=some ⟨NH,Mm,.func (PySem.W.fnOf "row_cleared" "row_cleared" (aK cj) (aH cj) (af cj) .none NI NJ NK Mn IQ NL),Nc⟩)
 (c10:PySem.W.codeIn K IQ "row_cleared"=true) (k10:PySem.W.keepIn K (.ref J0)=true)
 (a11:PySem.W.nsIn K mainGlobals "determinant"=some (some (.ref J2)))
 (l11:K.lookup J2=some ⟨NO,Mp,.func (PySem.W.fnOf "determinant" "determinant" (aK cV) (aH cV) (af cV) .none NP NQ NR Mq IS NS),Nd⟩)
 (c11:PySem.W.codeIn K IS "determinant"=true) (k11:PySem.W.keepIn K (.ref J2)=true)
 (a12:PySem.W.nsIn K mainGlobals "is_forest"=some (some (.ref J3)))
 (l12:K.lookup J3=some ⟨NT,Mr,.func (PySem.W.fnOf "is_forest" "is_forest" (aK eS) (aH eS) (af eS) .none NU NV NW Ms IT NX),Nf⟩)
 (c12:PySem.W.codeIn K IT "is_forest"=true) (k12:PySem.W.keepIn K (.ref J3)=true)
 (a13:PySem.W.nsIn K mainGlobals "ties_between"=some (some (.ref J4)))
 (l13:K.lookup J4=some ⟨NY,Mt,.func (PySem.W.fnOf "ties_between" "ties_between" (aK bU) (aH bU) (af bU) .none NZ N2 N3 Mu IU N4),Ng⟩)
 (c13:PySem.W.codeIn K IU "ties_between"=true) (k13:PySem.W.keepIn K (.ref J4)=true)
 (a14:PySem.W.nsIn K mainGlobals "points_table"=some (some (.ref Ka)))
 (l14:K.lookup Ka=some ⟨N5,Mv,.func (PySem.W.fnOf "points_table" "points_table" (aK bw) (aH bw) (af bw) .none N6 N7 N8 Mw IV N9),Nh⟩)
 (c14:PySem.W.codeIn K IV "points_table"=true) (k14:PySem.W.keepIn K (.ref Ka)=true)
 (a15:PySem.W.nsIn K mainGlobals "forest_many"=some (some (.ref Kc)))
 (l15:K.lookup Kc=some ⟨Oa,My,.func (PySem.W.fnOf "forest_many" "forest_many" (aK cW) (aH cW) (af cW) .none Ob Oc Od Mz IW Oe),Ni⟩)
 (c15:PySem.W.codeIn K IW "forest_many"=true) (k15:PySem.W.keepIn K (.ref Kc)=true)
 (a16:PySem.W.nsIn K mainGlobals "check_few"=some (some (.ref Kd)))
 (l16:K.lookup Kd=some ⟨Of,MA,.func (PySem.W.fnOf "check_few" "check_few" (aK eT) (aH eT) (af eT) .none Og Oh Oi MB IX Oj),Nj⟩)
 (c16:PySem.W.codeIn K IX "check_few"=true) (k16:PySem.W.keepIn K (.ref Kd)=true)
 (a17:PySem.W.nsIn K mainGlobals "end_moved"=some (some (.ref Ke)))
 (l17:K.lookup Ke=some ⟨Ol,MC,.func (PySem.W.fnOf "end_moved" "end_moved" (aK eU) (aH eU) (af eU) .none Om Oo Oq MD IY Ot),Nk⟩)
 (c17:PySem.W.codeIn K IY "end_moved"=true) (k17:PySem.W.keepIn K (.ref Ke)=true)
 (a18:PySem.W.nsIn K mainGlobals "web_drawn_together"=some (some (.ref Kf)))
 (l18:K.lookup Kf=some ⟨Ou,ME,.func (PySem.W.fnOf "web_drawn_together" "web_drawn_together" (aK aT) (aH aT) (af aT) .none Ov Ow Ox MF IZ Oz),Nl⟩)
 (c18:PySem.W.codeIn K IZ "web_drawn_together"=true) (k18:PySem.W.keepIn K (.ref Kf)=true)
 (a19:PySem.W.nsIn K mainGlobals "taken_apart"=some (some (.ref Kg)))
 (l19:K.lookup Kg=some ⟨OA,MG,.func (PySem.W.fnOf "taken_apart" "taken_apart" (aK cX) (aH cX) (af cX) .none OB OD OE MH Ja OF),Nm⟩)
 (c19:PySem.W.codeIn K Ja "taken_apart"=true) (k19:PySem.W.keepIn K (.ref Kg)=true)
 (a20:PySem.W.nsIn K mainGlobals "forests_by_taking"=some (some (.ref Kh)))
 (l20:K.lookup Kh=some ⟨OG,MI,.func (PySem.W.fnOf "forests_by_taking" "forests_by_taking" (aK bB) (aH bB) (af bB) .none OH OI OJ MJ Jb OL),Nn⟩)
 (c20:PySem.W.codeIn K Jb "forests_by_taking"=true) (k20:PySem.W.keepIn K (.ref Kh)=true)
 (a21:PySem.W.nsIn K mainGlobals "all_forests"=some (some (.ref Kl)))
 (l21:K.lookup Kl=some ⟨OM,MK,.func (PySem.W.fnOf "all_forests" "all_forests" (aK ck) (aH ck) (af ck) .none ON OO OP ML Jc OQ),Np⟩)
 (c21:PySem.W.codeIn K Jc "all_forests"=true) (k21:PySem.W.keepIn K (.ref Kl)=true)
 (a22:PySem.W.nsIn K mainGlobals "_law_cell"=some (some (.ref Km)))
 (l22:K.lookup Km=some ⟨OR,MM,.func (PySem.W.fnOf "_law_cell" "_law_cell" (aK fR) (aH fR) (af fR) .none OS OT OU MN Jd OV),Nq⟩)
 (c22:PySem.W.codeIn K Jd "_law_cell"=true) (k22:PySem.W.keepIn K (.ref Km)=true)
 (a23:PySem.W.nsIn K mainGlobals "_law_stir"=some (some (.ref Kn)))
 (l23:K.lookup Kn=some ⟨OW,MO,.func (PySem.W.fnOf "_law_stir" "_law_stir" (aK fS) (aH fS) (af fS) .none OX OY OZ MP Je O0),Nr⟩)
 (c23:PySem.W.codeIn K Je "_law_stir"=true) (k23:PySem.W.keepIn K (.ref Kn)=true)
 (a24:PySem.W.nsIn K mainGlobals "_law_tie"=some (some (.ref Ko)))
 (l24:K.lookup Ko=some ⟨O1,MQ,.func (PySem.W.fnOf "_law_tie" "_law_tie" (aK gQ) (aH gQ) (af gQ) .none O3 O4 O5 MR Jf O6),Nt⟩)
 (c24:PySem.W.codeIn K Jf "_law_tie"=true) (k24:PySem.W.keepIn K (.ref Ko)=true)
 (a25:PySem.W.nsIn K mainGlobals "_law_web"=some (some (.ref Kp)))
 (l25:K.lookup Kp=some ⟨O7,MS,.func (PySem.W.fnOf "_law_web" "_law_web" (aK gR) (aH gR) (af gR) .none O8 O9 Pa MT Jg Pb),Nu⟩)
 (c25:PySem.W.codeIn K Jg "_law_web"=true) (k25:PySem.W.keepIn K (.ref Kp)=true)
 (a26:PySem.W.nsIn K mainGlobals "_law_ties"=some (some (.ref Kq)))
 (l26:K.lookup Kq=some ⟨Pc,MU,.func (PySem.W.fnOf "_law_ties" "_law_ties" (aK eG) (aH eG) (af eG) .none Pd Pe Pf MV Jh Pg),Nv⟩)
 (c26:PySem.W.codeIn K Jh "_law_ties"=true) (k26:PySem.W.keepIn K (.ref Kq)=true)
 (a27:PySem.W.nsIn K mainGlobals "_law_whole"=some (some (.ref Kr)))
 (l27:K.lookup Kr=some ⟨Ph,MW,.func (PySem.W.fnOf "_law_whole" "_law_whole" (aK eV) (aH eV) (af eV) .none Pj Pk Pn MX Ji Po),Nx⟩)
 (c27:PySem.W.codeIn K Ji "_law_whole"=true) (k27:PySem.W.keepIn K (.ref Kr)=true)
 (a28:PySem.W.nsIn K mainGlobals "_law_list"=some (some (.ref Ks)))
 (l28:K.lookup Ks=some ⟨Pp,MY,.func (PySem.W.fnOf "_law_list" "_law_list" (aK eH) (aH eH) (af eH) .none Pq Pr Pu MZ Jj Pw),Ny⟩)
 (c28:PySem.W.codeIn K Jj "_law_list"=true) (k28:PySem.W.keepIn K (.ref Ks)=true)
 (a29:PySem.W.nsIn K mainGlobals "_law_heads"=some (some (.ref Ku)))
 (l29:K.lookup Ku=some ⟨Px,M0,.func (PySem.W.fnOf "_law_heads" "_law_heads" (aK dI) (aH dI) (af dI) .none Py Pz PB M1 Jk PC),Nz⟩)
 (c29:PySem.W.codeIn K Jk "_law_heads"=true) (k29:PySem.W.keepIn K (.ref Ku)=true)
 (a30:PySem.W.nsIn K mainGlobals "_law_forests"=some (some (.ref Kv)))
 (l30:K.lookup Kv=some ⟨PD,M3,.func (PySem.W.fnOf "_law_forests" "_law_forests" (aK cy) (aH cy) (af cy) .none PF PJ PK M4 Jl PL),NB⟩)
 (c30:PySem.W.codeIn K Jl "_law_forests"=true) (k30:PySem.W.keepIn K (.ref Kv)=true)
 (a31:PySem.W.nsIn K mainGlobals "_law_many"=some (some (.ref Kw)))
 (l31:K.lookup Kw=some ⟨PM,M5,.func (PySem.W.fnOf "_law_many" "_law_many" (aK fT) (aH fT) (af fT) .none PN PR PU M6 Jm PV),NC⟩)
 (c31:PySem.W.codeIn K Jm "_law_many"=true) (k31:PySem.W.keepIn K (.ref Kw)=true)
 (a32:PySem.W.nsIn K mainGlobals "_law_refused"=some (some (.ref f32)))
 (l32:K.lookup f32=some ⟨PX,M7,.func (PySem.W.fnOf "_law_refused" "_law_refused" (aK cY) (aH cY) (af cY) .none PY PZ P0 M8 Jo P1),ND⟩)
 (c32:PySem.W.codeIn K Jo "_law_refused"=true) (k32:PySem.W.keepIn K (.ref f32)=true)
 (a33:PySem.W.nsIn K mainGlobals "_law_round"=some (some (.ref Kx)))
 (l33:K.lookup Kx=some ⟨P4,M9,.func (PySem.W.fnOf "_law_round" "_law_round" (aK dM) (aH dM) (af dM) .none P5 P6 P7 Na Jp P8),NF⟩)
 (c33:PySem.W.codeIn K Jp "_law_round"=true) (k33:PySem.W.keepIn K (.ref Kx)=true)
 (a34:PySem.W.nsIn K mainGlobals "law"=some (some (.ref Ml)))
 (l34:K.lookup Ml=some ⟨P9,Nb,.func (PySem.W.fnOf "law" "law" (aK nj) (aH nj) (af nj) .none Jq Jr Js IP Gg Jt),NG⟩)
 (c34:PySem.W.codeIn K Gg "law"=true) (k34:PySem.W.keepIn K (.ref Ml)=true)
 (z_ValueError:PySem.W.nsIn K mainGlobals "ValueError"=some none)
 (z_bool:PySem.W.nsIn K mainGlobals "bool"=some none)
 (z_int:PySem.W.nsIn K mainGlobals "int"=some none)
 (z_isinstance:PySem.W.nsIn K mainGlobals "isinstance"=some none)
 (z_len:PySem.W.nsIn K mainGlobals "len"=some none)
 (z_list:PySem.W.nsIn K mainGlobals "list"=some none)
 (z_max:PySem.W.nsIn K mainGlobals "max"=some none)
 (z_min:PySem.W.nsIn K mainGlobals "min"=some none)
 (z_range:PySem.W.nsIn K mainGlobals "range"=some none)
 (z_tuple:PySem.W.nsIn K mainGlobals "tuple"=some none)
 (z_zip:PySem.W.nsIn K mainGlobals "zip"=some none)
 (i_MOST_TAKEN:PySem.W.nsIn K mainGlobals "MOST_TAKEN"=some (some (.int 12 u9)))
 (d_RingError:PySem.W.nsIn K mainGlobals "RingError"=some (some (.ref kY)))
 (d_BadWeb:PySem.W.nsIn K mainGlobals "BadWeb"=some (some (.ref rJ)))
 (d_BadSet:PySem.W.nsIn K mainGlobals "BadSet"=some (some (.ref nG)))
 (d_BadPoint:PySem.W.nsIn K mainGlobals "BadPoint"=some (some (.ref mJ)))
 (d_NotRing:PySem.W.nsIn K mainGlobals "NotRing"=some (some (.ref oz)))
 (d_NoChord:PySem.W.nsIn K mainGlobals "NoChord"=some (some (.ref oA)))
 (d_NoBase:PySem.W.nsIn K mainGlobals "NoBase"=some (some (.ref rK)))
 (d_NoSuch:PySem.W.nsIn K mainGlobals "NoSuch"=some (some (.ref rL)))
 (d_TooMany:PySem.W.nsIn K mainGlobals "TooMany"=some (some (.ref aP)))
 (d_BadRow:PySem.W.nsIn K mainGlobals "BadRow"=some (some (.ref rM)))
 (d_NoDeed:PySem.W.nsIn K mainGlobals "NoDeed"=some (some (.ref rN)))
 (d_NotEven:PySem.W.nsIn K mainGlobals "NotEven"=some (some (.ref oB)))
 (d_NoText:PySem.W.nsIn K mainGlobals "NoText"=some (some (.ref rO)))
 (xc_BadSet:PySem.W.excIn K nG [.type "ValueError",.type "Exception",.type "BaseException",.type "object"] "ValueError.__new__"=true)
 (xc_TooMany:PySem.W.excIn K aP [.type "ValueError",.type "Exception",.type "BaseException",.type "object"] "ValueError.__new__"=true)
 (ea_TooMany:PySem.W.findIn K (.ref aP) "__getattribute__"=some (some (.builtin "BaseException.__getattribute__"))) (eb_TooMany:PySem.W.findIn K (.ref aP) "__getattr__"=some none)
 (ec_TooMany:PySem.W.findIn K (.ref aP) "__class__"=some (some (.builtin "object.__class__"))) (ed_TooMany:PySem.W.specialIn K (.builtin "object.__class__") "__get__"=some (some (.builtin "getset_descriptor.__get__")))
 (ee_TooMany:PySem.W.takesIn K (.builtin "object.__class__")=some true) (ef_TooMany:PySem.W.mroIn K aP (.type "object")=some true) (eg_TooMany:PySem.W.hasDictIn K aP=true) (eh_TooMany:PySem.W.mroIn K aP (.type "BaseException")=some true)
 (hx_TooMany:PySem.W.exmOne K (.ref aP) (.ref kY)=some true)
 (qv_TooMany:PySem.W.kitOne K (.ref aP) (.type "ValueError")=some true)
 (q_TooMany_BadWeb:PySem.W.kitOne K (.ref aP) (.ref rJ)=some false)
 (q_TooMany_BadSet:PySem.W.kitOne K (.ref aP) (.ref nG)=some false)
 (q_TooMany_BadPoint:PySem.W.kitOne K (.ref aP) (.ref mJ)=some false)
 (q_TooMany_NotRing:PySem.W.kitOne K (.ref aP) (.ref oz)=some false)
 (q_TooMany_NoChord:PySem.W.kitOne K (.ref aP) (.ref oA)=some false)
 (q_TooMany_NoBase:PySem.W.kitOne K (.ref aP) (.ref rK)=some false)
 (q_TooMany_NoSuch:PySem.W.kitOne K (.ref aP) (.ref rL)=some false)
 (q_TooMany_TooMany:PySem.W.kitOne K (.ref aP) (.ref aP)=some true)
 (q_TooMany_BadRow:PySem.W.kitOne K (.ref aP) (.ref rM)=some false)
 (q_TooMany_NoDeed:PySem.W.kitOne K (.ref aP) (.ref rN)=some false)
 (q_TooMany_NotEven:PySem.W.kitOne K (.ref aP) (.ref oB)=some false)
 (q_TooMany_NoText:PySem.W.kitOne K (.ref aP) (.ref rO)=some false)
 : ∃ fd:FuncData,(∀(s:Shared) (v:Value),BindsTo s fd ⟨[v],[]⟩ [("script",v)])/\∀ base:Heap,K.In base->base.Ns mainGlobals mg->aN l.prog w K mg base dm 22 fa fd ["script"] (u7 K):=by
 have e:=Tz.symm.trans (PySem.W.mg_of X G a34);cases e;have F0:=aY (st:=gP) l0 c0 k0;have b0:=F0.binds (ps:=["tie_set","tie"]) fun _ _ _ _ _ _ us hl=>by obtain⟨_,_,rfl⟩:=mU us hl;rfl
 have F1:=aY (st:=fP) l1 c1 k1;have b1:=F1.binds (ps:=["tie_set"]) fun _ _ _ _ _ _ us hl=>by obtain⟨_,rfl⟩:=lZ us hl;rfl
 have F2:=aY (st:=fQ) l2 c2 k2;have b2:=F2.binds (ps:=["web"]) fun _ _ _ _ _ _ us hl=>by obtain⟨_,rfl⟩:=lZ us hl;rfl
 have F3:=aY (st:=jo) l3 c3 k3;have b3:=F3.binds (ps:=["web","number"]) fun _ _ _ _ _ _ us hl=>by obtain⟨_,_,rfl⟩:=mU us hl;rfl
 have F4:=aY (st:=eN) l4 c4 k4;have b4:=F4.binds (ps:=["web","tie_set"]) fun _ _ _ _ _ _ us hl=>by obtain⟨_,_,rfl⟩:=mU us hl;rfl
 have F5:=aY (st:=cQ) l5 c5 k5;have b5:=F5.binds (ps:=["web","tie_set"]) fun _ _ _ _ _ _ us hl=>by obtain⟨_,_,rfl⟩:=mU us hl;rfl
 have F6:=aY (st:=bE) l6 c6 k6;have b6:=F6.binds (ps:=["leasts","one","other"]) fun _ _ _ _ _ _ us hl=>by obtain⟨_,_,_,rfl⟩:=A3 us hl;rfl
 have F7:=aY (st:=hU) l7 c7 k7;have b7:=F7.binds (ps:=["web","tie_set"]) fun _ _ _ _ _ _ us hl=>by obtain⟨_,_,rfl⟩:=mU us hl;rfl
 have F8:=aY (st:=n8) l8 c8 k8;have b8:=F8.binds (ps:=["web"]) fun _ _ _ _ _ _ us hl=>by obtain⟨_,rfl⟩:=lZ us hl;rfl
 have F9:=aY (st:=cU) l9 c9 k9;have b9:=F9.binds (ps:=["rows","step"]) fun _ _ _ _ _ _ us hl=>by obtain⟨_,_,rfl⟩:=mU us hl;rfl
 have Ro:=aY (st:=cj) l10 c10 k10;have Vc:=Ro.binds (ps:=["row","lead_row","step","divisor"]) fun _ _ _ _ _ _ us hl=>by obtain⟨_,_,_,_,rfl⟩:=Lu us hl;rfl
 have Rp:=aY (st:=cV) l11 c11 k11;have Vd:=Rp.binds (ps:=["table"]) fun _ _ _ _ _ _ us hl=>by obtain⟨_,rfl⟩:=lZ us hl;rfl
 have Rq:=aY (st:=eS) l12 c12 k12;have Ve:=Rq.binds (ps:=["web","tie_set"]) fun _ _ _ _ _ _ us hl=>by obtain⟨_,_,rfl⟩:=mU us hl;rfl
 have Rr:=aY (st:=bU) l13 c13 k13;have Vf:=Rr.binds (ps:=["web","one","other"]) fun _ _ _ _ _ _ us hl=>by obtain⟨_,_,_,rfl⟩:=A3 us hl;rfl
 have Rt:=aY (st:=bw) l14 c14 k14;have Vg:=Rt.binds (ps:=["web"]) fun _ _ _ _ _ _ us hl=>by obtain⟨_,rfl⟩:=lZ us hl;rfl
 have Ru:=aY (st:=cW) l15 c15 k15;have Vh:=Ru.binds (ps:=["web"]) fun _ _ _ _ _ _ us hl=>by obtain⟨_,rfl⟩:=lZ us hl;rfl
 have Rw:=aY (st:=eT) l16 c16 k16;have Vi:=Rw.binds (ps:=["web"]) fun _ _ _ _ _ _ us hl=>by obtain⟨_,rfl⟩:=lZ us hl;rfl
 have Rx:=aY (st:=eU) l17 c17 k17;have Vj:=Rx.binds (ps:=["end","one","other"]) fun _ _ _ _ _ _ us hl=>by obtain⟨_,_,_,rfl⟩:=A3 us hl;rfl
 have Ry:=aY (st:=aT) l18 c18 k18;have Vk:=Ry.binds (ps:=["web","one","other"]) fun _ _ _ _ _ _ us hl=>by obtain⟨_,_,_,rfl⟩:=A3 us hl;rfl
 have Rz:=aY (st:=cX) l19 c19 k19;have Vl:=Rz.binds (ps:=["web"]) fun _ _ _ _ _ _ us hl=>by obtain⟨_,rfl⟩:=lZ us hl;rfl
 have RA:=aY (st:=bB) l20 c20 k20;have Vm:=RA.binds (ps:=["web"]) fun _ _ _ _ _ _ us hl=>by obtain⟨_,rfl⟩:=lZ us hl;rfl
 have RB:=aY (st:=ck) l21 c21 k21;have Vn:=RB.binds (ps:=["web"]) fun _ _ _ _ _ _ us hl=>by obtain⟨_,rfl⟩:=lZ us hl;rfl
 have RC:=aY (st:=fR) l22 c22 k22;have Vo:=RC.binds (ps:=["script","k"]) fun _ _ _ _ _ _ us hl=>by obtain⟨_,_,rfl⟩:=mU us hl;rfl
 have RD:=aY (st:=fS) l23 c23 k23;have Vp:=RD.binds (ps:=["cell","k"]) fun _ _ _ _ _ _ us hl=>by obtain⟨_,_,rfl⟩:=mU us hl;rfl
 have RE:=aY (st:=gQ) l24 c24 k24;have Vq:=RE.binds (ps:=["c","points","times"]) fun _ _ _ _ _ _ us hl=>by obtain⟨_,_,_,rfl⟩:=A3 us hl;rfl
 have RG:=aY (st:=gR) l25 c25 k25;have Vr:=RG.binds (ps:=["script","most"]) fun _ _ _ _ _ _ us hl=>by obtain⟨_,_,rfl⟩:=mU us hl;rfl
 have RH:=aY (st:=eG) l26 c26 k26;have Vs:=RH.binds (ps:=["some"]) fun _ _ _ _ _ _ us hl=>by obtain⟨_,rfl⟩:=lZ us hl;rfl
 have RI:=aY (st:=eV) l27 c27 k27;have Vt:=RI.binds (ps:=["found"]) fun _ _ _ _ _ _ us hl=>by obtain⟨_,rfl⟩:=lZ us hl;rfl
 have RJ:=aY (st:=eH) l28 c28 k28;have Vu:=RJ.binds (ps:=["found","due"]) fun _ _ _ _ _ _ us hl=>by obtain⟨_,_,rfl⟩:=mU us hl;rfl
 have RK:=aY (st:=dI) l29 c29 k29;have Vv:=RK.binds (ps:=["web","ties"]) fun _ _ _ _ _ _ us hl=>by obtain⟨_,_,rfl⟩:=mU us hl;rfl
 have RL:=aY (st:=cy) l30 c30 k30;have Vw:=RL.binds (ps:=["web"]) fun _ _ _ _ _ _ us hl=>by obtain⟨_,rfl⟩:=lZ us hl;rfl
 have RN:=aY (st:=fT) l31 c31 k31;have Vx:=RN.binds (ps:=["web","many"]) fun _ _ _ _ _ _ us hl=>by obtain⟨_,_,rfl⟩:=mU us hl;rfl
 have RO:=aY (st:=cY) l32 c32 k32;have Vy:=RO.binds (ps:=["way","web"]) fun _ _ _ _ _ _ us hl=>by obtain⟨_,_,rfl⟩:=mU us hl;rfl
 have RP:=aY (st:=dM) l33 c33 k33;have Vz:=RP.binds (ps:=["script"]) fun _ _ _ _ _ _ us hl=>by obtain⟨_,rfl⟩:=lZ us hl;rfl
 have RQ:=aY (st:=nj) l34 c34 k34;have VA:=RQ.binds (ps:=["script"]) fun _ _ _ _ _ _ us hl=>by obtain⟨_,rfl⟩:=lZ us hl;rfl
 have T:Txt K mg ⟨f0,_,f1,_,f2,_,f3,_,f4,_,f5,_,f6,_,f7,_,f8,_,f9,_,J0,_,J2,_,J3,_,J4,_,Ka,_,Kc,_,Kd,_,Ke,_,Kf,_,Kg,_,Kh,_,Kl,_,Km,_,Kn,_,Ko,_,Kp,_,Kq,_,Kr,_,Ks,_,Ku,_,Kv,_,Kw,_,f32,_,Kx,_,fa,_,kY,rJ,nG,mJ,oz,oA,rK,rL,aP,rM,rN,oB,rO⟩:=⟨F0,PySem.W.mg_of X G a0,b0,F1,PySem.W.mg_of X G a1,b1,F2,PySem.W.mg_of X G a2,b2,F3,PySem.W.mg_of X G a3,b3,F4,PySem.W.mg_of X G a4,b4,F5,PySem.W.mg_of X G a5,b5,F6,PySem.W.mg_of X G a6,b6,F7,PySem.W.mg_of X G a7,b7,F8,PySem.W.mg_of X G a8,b8,F9,PySem.W.mg_of X G a9,b9,Ro,PySem.W.mg_of X G a10,Vc,Rp,PySem.W.mg_of X G a11,Vd,Rq,PySem.W.mg_of X G a12,Ve,Rr,PySem.W.mg_of X G a13,Vf,Rt,PySem.W.mg_of X G a14,Vg,Ru,PySem.W.mg_of X G a15,Vh,Rw,PySem.W.mg_of X G a16,Vi,Rx,PySem.W.mg_of X G a17,Vj,Ry,PySem.W.mg_of X G a18,Vk,Rz,PySem.W.mg_of X G a19,Vl,RA,PySem.W.mg_of X G a20,Vm,RB,PySem.W.mg_of X G a21,Vn,RC,PySem.W.mg_of X G a22,Vo,RD,PySem.W.mg_of X G a23,Vp,RE,PySem.W.mg_of X G a24,Vq,RG,PySem.W.mg_of X G a25,Vr,RH,PySem.W.mg_of X G a26,Vs,RI,PySem.W.mg_of X G a27,Vt,RJ,PySem.W.mg_of X G a28,Vu,RK,PySem.W.mg_of X G a29,Vv,RL,PySem.W.mg_of X G a30,Vw,RN,PySem.W.mg_of X G a31,Vx,RO,PySem.W.mg_of X G a32,Vy,RP,PySem.W.mg_of X G a33,Vz,RQ,PySem.W.mg_of X G a34,VA,PySem.W.mg_none_of X G z_ValueError,PySem.W.mg_none_of X G z_bool,PySem.W.mg_none_of X G z_int,PySem.W.mg_none_of X G z_isinstance,PySem.W.mg_none_of X G z_len,PySem.W.mg_none_of X G z_list,PySem.W.mg_none_of X G z_max,PySem.W.mg_none_of X G z_min,PySem.W.mg_none_of X G z_range,PySem.W.mg_none_of X G z_tuple,PySem.W.mg_none_of X G z_zip,⟨_,PySem.W.mg_of X G i_MOST_TAKEN⟩,PySem.W.mg_of X G d_RingError,PySem.W.mg_of X G d_BadWeb,PySem.W.mg_of X G d_BadSet,PySem.W.mg_of X G d_BadPoint,PySem.W.mg_of X G d_NotRing,PySem.W.mg_of X G d_NoChord,PySem.W.mg_of X G d_NoBase,PySem.W.mg_of X G d_NoSuch,PySem.W.mg_of X G d_TooMany,PySem.W.mg_of X G d_BadRow,PySem.W.mg_of X G d_NoDeed,PySem.W.mg_of X G d_NotEven,PySem.W.mg_of X G d_NoText,fun h1 X1 G1=>A0 X1 G1 d_BadSet xc_BadSet,fun h1 X1 G1=>A0 X1 G1 d_TooMany xc_TooMany,⟨ea_TooMany,eb_TooMany,ec_TooMany,ed_TooMany,ee_TooMany,ef_TooMany,eh_TooMany,Fq eg_TooMany⟩,hx_TooMany,qv_TooMany,q_TooMany_BadWeb,q_TooMany_BadSet,q_TooMany_BadPoint,q_TooMany_NotRing,q_TooMany_NoChord,q_TooMany_NoBase,q_TooMany_NoSuch,q_TooMany_TooMany,q_TooMany_BadRow,q_TooMany_NoDeed,q_TooMany_NotEven,q_TooMany_NoText⟩
 exact⟨PySem.W.fnOf "law" "law" (aK nj) (aH nj) (af nj) .none Jq Jr Js IP Gg Jt,fun s v=>.of_eq rfl,fun base _ _=>II T⟩
theorem walk{l:PySem.W.OpenLaw}{q:Program}{loose:List Str}{XP:(Str->Option Value)->Heap->Prop}{YP:World->Heap->Prop}{d:DefRec}{K:Params->bF}(hn:l.most=some 63)(Hi:d.params.defaults=[])
 (hY:∀(w:World) (h:Heap),YP w h->(K w.params).In h)
 (F:∀(w:World) (mg:iS) (fa:Addr) (h:Heap),(K w.params).In h->h.Ns mainGlobals mg->mg d.name=some (.ref fa)->
  ∃ fd:FuncData,(∀(s:Shared) (u:Value),BindsTo s fd ⟨[u],[]⟩ [("script",u)])/\∀ base:Heap,(K w.params).In base->base.Ns mainGlobals mg->aN l.prog w (K w.params) mg base dm 22 fa fd ["script"] (u7 (K w.params))) :
 PySem.W.WalkO q loose XP YP l.row.toRowW d [] (fun f vs=>PySem.call f vs) :=
 L2.CV (n:=63) (k:=22) (x:="script") (CX:=fun _=>dm) (sp:=fun w=>u7 (K w.params)) hn (by decide) Hi ⟨rfl,by decide,by decide⟩ hY F (fun _ _ a ns hl _ hS=>⟨a,ns,rfl,hS,hl,fun _=>rfl⟩) fun _ _ _ _ _ z=>z
end K49
namespace PySem.W.Fast
def tw5166149170545214898:=()
def tw1777248394044050829:=()
def tw6356105574895409987:=()
def tw4547747823798728755:=()
def tw183315666635060296:=()
def tw14634191940463047059:=()
def tw10551779081627902309:=()
def tw9950715798501492147:=()
def tw10728880235568520284:=()
def tw7834821848355131186:=()
def tw11240477866643445703:=()
def tw13476624209504182013:=()
def tw13204349738429586700:=()
def tw15779584239301664359:=()
def tw6130482587288392430:=()
def tw5004132073137720887:=()
def tw4713366885482549895:=()
def tw2600610838680377865:=()
def tw10551453508911229163:=()
def tw3136226669333388443:=()
def tw11370484047828226068:=()
def tw520955154527220120:=()
def tw15101707953153202293:=()
def tw10911987030190886409:=()
def tw15453522838517282013:=()
def tw1231466271852285533:=()
def tw12372028986427678943:=()
def tw11974580053493067248:=()
def tw11879274396246934391:=()
def tw3559440472918546193:=()
def tw11982864614243555349:=()
def tw12053691685229515882:=()
def tw12373605412524477296:=()
def tw11211579403399565083:=()
def tw13287852101747882201:=()
def tw12680451607169480969:=()
def tw15110673591198375970:=()
def tw3478606841475622155:=()
def tw17115756232680260968:=()
def tw16237799975416769857:=()
def tw1236178066595093115:=()
def tw6017468160455309679:=()
def tw3591306566320133772:=()
def tw54043618330786819:=()
def tw3788798942392776006:=()
def tw4878086833218488150:=()
def tw15501155449968326597:=()
def tw8991167447625915755:=()
def tw13467111457221550796:=()
def tw8292142912983632775:=()
def tw3308277596916469798:=()
def tw17620674934932913578:=()
def tw10423459904584420332:=()
def tw6020636175710168989:=()
def tw11058226451520815473:=()
def tw7671996931974381647:=()
def tw5827723937131616072:=()
def tw10633845433167333967:=()
def tw1457018324106537671:=()
def tw17467382428479728623:=()
def tw16889058399546874001:=()
def tw7376807701845443750:=()
def tw10399029369875018152:=()
def tw1646635542997191936:=()
def tw709618572216340901:=()
def tw14150417459169678591:=()
def tw12686153110208383018:=()
def tw8062778401756007789:=()
def tw5879229249060057657:=()
def tw13702948389004461517:=()
def tw2216271455169112460:=()
def tw1516326930097442086:=()
def tw6746138224267135696:=()
def tw5400567276017608187:=()
def tw6861931462277539084:=()
def tw5796724053385750374:=()
def tw13495436630873357087:=()
def tw18176967185108744376:=()
def tw9428564661276775081:=()
def tw11782472999895413517:=()
def tw8960348452589633766:=()
end PySem.W.Fast
open PySem PySem.W PyProof.Rows
set_option maxRecDepth 100000 in
set_option maxHeartbeats 0 in
theorem PySem.Challenge.cw_ringbase_k49_forests_counted_holds : PySem.Challenge.rw_ringbase_k49_forests_counted.Holds := by
 w_on;o_law;k_head;(case hw=>w_witness2)
 k_fill
 refine K49.walk (l:=PySem.Challenge.rw_ringbase_k49_forests_counted) rfl rfl (fun w h Y=>PySem.W.kIn_of Y) ?F
 case F =>
  intro w mg fa h KX G hmg;refine' K49.all_mk KX G hmg ?a0 ?l0 ?c0 ?k0 ?a1 ?l1 ?c1 ?k1 ?a2 ?l2 ?c2 ?k2 ?a3 ?l3 ?c3 ?k3 ?a4 ?l4 ?c4 ?k4 ?a5 ?l5 ?c5 ?k5 ?a6 ?l6 ?c6 ?k6 ?a7 ?l7 ?c7 ?k7 ?a8 ?l8 ?c8 ?k8 ?a9 ?l9 ?c9 ?k9 ?a10 ?l10 ?c10 ?k10 ?a11 ?l11 ?c11 ?k11 ?a12 ?l12 ?c12 ?k12 ?a13 ?l13 ?c13 ?k13 ?a14 ?l14 ?c14 ?k14 ?a15 ?l15 ?c15 ?k15 ?a16 ?l16 ?c16 ?k16 ?a17 ?l17 ?c17 ?k17 ?a18 ?l18 ?c18 ?k18 ?a19 ?l19 ?c19 ?k19 ?a20 ?l20 ?c20 ?k20 ?a21 ?l21 ?c21 ?k21 ?a22 ?l22 ?c22 ?k22 ?a23 ?l23 ?c23 ?k23 ?a24 ?l24 ?c24 ?k24 ?a25 ?l25 ?c25 ?k25 ?a26 ?l26 ?c26 ?k26 ?a27 ?l27 ?c27 ?k27 ?a28 ?l28 ?c28 ?k28 ?a29 ?l29 ?c29 ?k29 ?a30 ?l30 ?c30 ?k30 ?a31 ?l31 ?c31 ?k31 ?a32 ?l32 ?c32 ?k32 ?a33 ?l33 ?c33 ?k33 ?a34 ?l34 ?c34 ?k34 ?z_ValueError ?z_bool ?z_int ?z_isinstance ?z_len ?z_list ?z_max ?z_min ?z_range ?z_tuple ?z_zip ?i_MOST_TAKEN ?d_RingError ?d_BadWeb ?d_BadSet ?d_BadPoint ?d_NotRing ?d_NoChord ?d_NoBase ?d_NoSuch ?d_TooMany ?d_BadRow ?d_NoDeed ?d_NotEven ?d_NoText ?xc_BadSet ?xc_TooMany ?ea_TooMany ?eb_TooMany ?ec_TooMany ?ed_TooMany ?ee_TooMany ?ef_TooMany ?eg_TooMany ?eh_TooMany ?hx_TooMany ?qv_TooMany ?q_TooMany_BadWeb ?q_TooMany_BadSet ?q_TooMany_BadPoint ?q_TooMany_NotRing ?q_TooMany_NoChord ?q_TooMany_NoBase ?q_TooMany_NoSuch ?q_TooMany_TooMany ?q_TooMany_BadRow ?q_TooMany_NoDeed ?q_TooMany_NotEven ?q_TooMany_NoText
  (case d_RingError=>k_is)
  (case d_BadWeb=>k_is)
  (case d_BadSet=>k_is)
  (case d_BadPoint=>k_is)
  (case d_NotRing=>k_is)
  (case d_NoChord=>k_is)
  (case d_NoBase=>k_is)
  (case d_NoSuch=>k_is)
  (case d_TooMany=>k_is)
  (case d_BadRow=>k_is)
  (case d_NoDeed=>k_is)
  (case d_NotEven=>k_is)
  (case d_NoText=>k_is)
  (case a0=>k_is)
  (case l0=>k_is)
  (case c0=>k_is)
  (case k0=>k_is)
  (case a1=>k_is)
  (case l1=>k_is)
  (case c1=>k_is)
  (case k1=>k_is)
  (case a2=>k_is)
  (case l2=>k_is)
  (case c2=>k_is)
  (case k2=>k_is)
  (case a3=>k_is)
  (case l3=>k_is)
  (case c3=>k_is)
  (case k3=>k_is)
  (case a4=>k_is)
  (case l4=>k_is)
  (case c4=>k_is)
  (case k4=>k_is)
  (case a5=>k_is)
  (case l5=>k_is)
  (case c5=>k_is)
  (case k5=>k_is)
  (case a6=>k_is)
  (case l6=>k_is)
  (case c6=>k_is)
  (case k6=>k_is)
  (case a7=>k_is)
  (case l7=>k_is)
  (case c7=>k_is)
  (case k7=>k_is)
  (case a8=>k_is)
  (case l8=>k_is)
  (case c8=>k_is)
  (case k8=>k_is)
  (case a9=>k_is)
  (case l9=>k_is)
  (case c9=>k_is)
  (case k9=>k_is)
  (case a10=>k_is)
  (case l10=>k_is)
  (case c10=>k_is)
  (case k10=>k_is)
  (case a11=>k_is)
  (case l11=>k_is)
  (case c11=>k_is)
  (case k11=>k_is)
  (case a12=>k_is)
  (case l12=>k_is)
  (case c12=>k_is)
  (case k12=>k_is)
  (case a13=>k_is)
  (case l13=>k_is)
  (case c13=>k_is)
  (case k13=>k_is)
  (case a14=>k_is)
  (case l14=>k_is)
  (case c14=>k_is)
  (case k14=>k_is)
  (case a15=>k_is)
  (case l15=>k_is)
  (case c15=>k_is)
  (case k15=>k_is)
  (case a16=>k_is)
  (case l16=>k_is)
  (case c16=>k_is)
  (case k16=>k_is)
  (case a17=>k_is)
  (case l17=>k_is)
  (case c17=>k_is)
  (case k17=>k_is)
  (case a18=>k_is)
  (case l18=>k_is)
  (case c18=>k_is)
  (case k18=>k_is)
  (case a19=>k_is)
  (case l19=>k_is)
  (case c19=>k_is)
  (case k19=>k_is)
  (case a20=>k_is)
  (case l20=>k_is)
  (case c20=>k_is)
  (case k20=>k_is)
  (case a21=>k_is)
  (case l21=>k_is)
  (case c21=>k_is)
  (case k21=>k_is)
  (case a22=>k_is)
  (case l22=>k_is)
  (case c22=>k_is)
  (case k22=>k_is)
  (case a23=>k_is)
  (case l23=>k_is)
  (case c23=>k_is)
  (case k23=>k_is)
  (case a24=>k_is)
  (case l24=>k_is)
  (case c24=>k_is)
  (case k24=>k_is)
  (case a25=>k_is)
  (case l25=>k_is)
  (case c25=>k_is)
  (case k25=>k_is)
  (case a26=>k_is)
  (case l26=>k_is)
  (case c26=>k_is)
  (case k26=>k_is)
  (case a27=>k_is)
  (case l27=>k_is)
  (case c27=>k_is)
  (case k27=>k_is)
  (case a28=>k_is)
  (case l28=>k_is)
  (case c28=>k_is)
  (case k28=>k_is)
  (case a29=>k_is)
  (case l29=>k_is)
  (case c29=>k_is)
  (case k29=>k_is)
  (case a30=>k_is)
  (case l30=>k_is)
  (case c30=>k_is)
  (case k30=>k_is)
  (case a31=>k_is)
  (case l31=>k_is)
  (case c31=>k_is)
  (case k31=>k_is)
  (case a32=>k_is)
  (case l32=>k_is)
  (case c32=>k_is)
  (case k32=>k_is)
  (case a33=>k_is)
  (case l33=>k_is)
  (case c33=>k_is)
  (case k33=>k_is)
  (case a34=>k_is)
  (case l34=>k_is)
  (case c34=>k_is)
  (case k34=>k_is)
  (case z_ValueError=>k_is)
  (case z_bool=>k_is)
  (case z_int=>k_is)
  (case z_isinstance=>k_is)
  (case z_len=>k_is)
  (case z_list=>k_is)
  (case z_max=>k_is)
  (case z_min=>k_is)
  (case z_range=>k_is)
  (case z_tuple=>k_is)
  (case z_zip=>k_is)
  (case i_MOST_TAKEN=>k_is)
  (case xc_BadSet=>k_exc)
  (case xc_TooMany=>k_exc)
  (case ea_TooMany=>k_is)
  (case eb_TooMany=>k_is)
  (case ec_TooMany=>k_is)
  (case ed_TooMany=>k_is)
  (case ee_TooMany=>k_is)
  (case ef_TooMany=>k_is)
  (case eg_TooMany=>k_is)
  (case eh_TooMany=>k_is)
  (case hx_TooMany=>kts_exm)
  (case qv_TooMany=>kit_is)
  (case q_TooMany_BadWeb=>kit_is)
  (case q_TooMany_BadSet=>kit_is)
  (case q_TooMany_BadPoint=>kit_is)
  (case q_TooMany_NotRing=>kit_is)
  (case q_TooMany_NoChord=>kit_is)
  (case q_TooMany_NoBase=>kit_is)
  (case q_TooMany_NoSuch=>kit_is)
  (case q_TooMany_TooMany=>kit_is)
  (case q_TooMany_BadRow=>kit_is)
  (case q_TooMany_NoDeed=>kit_is)
  (case q_TooMany_NotEven=>kit_is)
  (case q_TooMany_NoText=>kit_is)
