import PyProof.Rows.All
import Wide.All
import OpenK.AllK
import Wide.FinOn
import Lean
import PyProof.EqAt
import PyProof.EqKinds
import PyProof.TupleCall
import PySem.Challenge.RW_ringbase_k21_least_odd_rings
set_option Elab.async false
set_option linter.all false
set_option maxRecDepth 100000
namespace L2
open PySem PySem.Spec PyProof.Rows
abbrev Key:=Sum Int Str
def mq:Key→Value→Bool
 | .inl k,v=>Value.isInt k v
 | .inr x,v=>Value.isStrOf x v
def yO(w:World):Key→Int
 | .inl k=>hashInt k
 | .inr x=>hashStr w x
theorem bQ:∀{k:Key} {v:Value},mq k v=true→(∃ i t,k=Sum.inl i∧v=Value.int i t)∨(∃ x t,k=Sum.inr x∧v=Value.str x t)
 | .inl i,v,h=>by
   obtain⟨t,e⟩:=Value.isInt_shape (k:=i) (v:=v) h
   exact .inl ⟨i,t,rfl,e⟩
 | .inr x,v,h=>by
   obtain⟨t,e⟩:=Value.isStrOf_shape (x:=x) (v:=v) h
   exact .inr ⟨x,t,rfl,e⟩
theorem sf(i:Int)(t:Tok):mq (.inl i) (.int i t)=true:=by simp[mq,Value.isInt]
theorem rM(x:Str)(t:Tok):mq (.inr x) (.str x t)=true:=by simp[mq,Value.isStrOf]
theorem wx(a b:Int):decide ((Sum.inl a:Key)=Sum.inl b)=(a==b):=by
 by_cases e:a=b
 ·subst e;simp
 ·have h : ¬(Sum.inl a:Key)=Sum.inl b:=fun q=>e (Sum.inl.inj q)
  rw[decide_eq_false h]
  exact(beq_eq_false_iff_ne.mpr e).symm
theorem wv(a b:Str):decide ((Sum.inr a:Key)=Sum.inr b)=decide (a=b):=by
 by_cases e:a=b
 ·subst e;simp
 ·have h : ¬(Sum.inr a:Key)=Sum.inr b:=fun q=>e (Sum.inr.inj q)
  rw[decide_eq_false h,decide_eq_false e]
theorem wt(a:Int)(b:Str):decide ((Sum.inl a:Key)=Sum.inr b)=false:=decide_eq_false (fun q=>nomatch q)
theorem xy(a:Str)(b:Int):decide ((Sum.inr a:Key)=Sum.inl b)=false:=decide_eq_false (fun q=>nomatch q)
def cf(prog:Program)(w:World):PySem.KeyKind prog w Key where
 is:=mq
 hash:=yO w
 inj:=fun v a b ha hb=>by
  rcases bQ ha with⟨i,t,rfl,rfl⟩|⟨x,t,rfl,rfl⟩
  ·rcases bQ hb with⟨j,u,rfl,e⟩|⟨y,u,rfl,e⟩
   ·injection e with e1 _;rw[e1]
   ·exact nomatch e
  ·rcases bQ hb with⟨j,u,rfl,e⟩|⟨y,u,rfl,e⟩
   ·exact nomatch e
   ·injection e with e1 _;rw[e1]
 byValue:=fun k v h=>by
  rcases bQ h with⟨i,t,rfl,rfl⟩|⟨x,t,rfl,rfl⟩<;>rfl
 pyHash:=fun hv h=>by
  rcases bQ hv with⟨i,t,rfl,rfl⟩|⟨x,t,rfl,rfl⟩
  ·exact wpAny_pyHash_int h
  ·exact wpAny_pyHash_str h
 eqBool:=fun hu hv h=>by
  rcases bQ hu with⟨i,t,rfl,rfl⟩|⟨x,t,rfl,rfl⟩
  ·rcases bQ hv with⟨j,u,rfl,rfl⟩|⟨y,u,rfl,rfl⟩
   ·rw[wx]at h;exact wpAny_eqBool_int h
   ·rw[wt]at h;exact SeqAt.EqAt.int_str i t y u _ _ _ _ h
  ·rcases bQ hv with⟨j,u,rfl,rfl⟩|⟨y,u,rfl,rfl⟩
   ·rw[xy]at h;exact SeqAt.EqAt.str_int x t j u _ _ _ _ h
   ·rw[wv]at h;exact wpAny_eqBool_str h
 «strs»:=fun k x t v h=>by
  rcases bQ h with⟨i,u,rfl,e⟩|⟨y,u,rfl,e⟩
  ·exact nomatch e
  ·injection e with e1 _
   subst e1
   cases v<;>rfl
theorem oE(prog:Program)(w:World)(i:Int)(t:Tok):(cf prog w).is (.inl i) (.int i t)=true:=sf i t
theorem n5(prog:Program)(w:World)(x:Str)(t:Tok):(cf prog w).is (.inr x) (.str x t)=true:=rM x t
end L2
namespace L2
open PySem PySem.Spec PyProof.Rows
inductive V where
 | non | bl (b:Bool) | int (i:Int) | str (x:Str) | byt (b:Array UInt8) | flt (b:UInt64) | ref (a:Addr) | ty (n:String)
 deriving DecidableEq
def aR:V→Value→Prop
 | .non,u=>u=Value.none
 | .bl b,u=>u=Value.bool b
 | .int i,u=>∃ t,u=Value.int i t
 | .str x,u=>∃ t,u=Value.str x t
 | .byt b,u=>∃ t,u=Value.bytes b t
 | .flt b,u=>∃ t,u=Value.float b t
 | .ref a,u=>u=Value.ref a
 | .ty n,u=>u=Value.type n
abbrev aW:List V→List Value→Prop:=Paired aR
theorem aW.length{xs:List V}{us:List Value}(r:aW xs us):xs.length=us.length:=Paired.length r
theorem aW.get:∀{xs:List V} {us:List Value} {i:Nat} {x:V},aW xs us→xs[i]?=some x→∃ u,us[i]?=some u∧aR x u
 | _,_,_,_,.nil,e=>by simp at e
 | _,_,0,_,.cons r _,e=>by simp at e;subst e;exact⟨_,rfl,r⟩
 | _,_,i+1,x,.cons _ t,e=>by
   obtain⟨u,h1,h2⟩:=aW.get (i:=i) (x:=x) t (by simpa using e)
   exact⟨u,by simpa using h1,h2⟩
theorem aW.set{x:V}{u:Value}(r:aR x u):∀{xs:List V} {us:List Value} (i:Nat),aW xs us→aW (xs.set i x) (us.set i u)
 | _,_,_,.nil=>.nil
 | _,_,0,.cons _ t=>.cons r t
 | _,_,i+1,.cons q t=>.cons q (aW.set r i t)
theorem aW.append:∀{xs ys:List V} {us ws:List Value},aW xs us→aW ys ws→aW (xs++ys) (us++ws)
 | _,_,_,_,.nil,s=>s
 | _,_,_,_,.cons r t,s=>.cons r (aW.append t s)
theorem aW.take:∀{xs:List V} {us:List Value} (n:Nat),aW xs us→aW (xs.take n) (us.take n)
 | _,_,0,_=>.nil
 | _,_,_+1,.nil=>.nil
 | _,_,n+1,.cons r t=>.cons r (aW.take n t)
theorem aW.drop:∀{xs:List V} {us:List Value} (n:Nat),aW xs us→aW (xs.drop n) (us.drop n)
 | _,_,0,r=>r
 | _,_,_+1,.nil=>.nil
 | _,_,n+1,.cons _ t=>aW.drop n t
def ix:Option V→Option Value→Prop
 | some v,some u=>aR v u
 | none,none=>True
 | _,_=>False
def KV{κ:Type}:List (κ×V)→List (κ×Value)→Prop:=Paired fun(p:κ×V) (q:κ×Value)=>p.1=q.1∧aR p.2 q.2
def kV:Key→V
 | .inl i=>.int i
 | .inr x=>.str x
inductive HO where
 | lst (xs:List V)
 | tup (xs:List V)
 | dK (kvs:List (Key×V)) | dT (kvs:List (List Key×V))
 | set (S:Int→Bool) (n:Nat)
 | ins (C dx:Addr) (fs:List (Str×V))
 | own (x:Addr)
 | xd (fs:List (Str×V))
 | met (f x:Addr)
 | rng (lo hi:Int)
 | frz (o:Obj) (u:HO)
 | tbl (ps:Array Value)
 | ext (φ:Heap→Prop)
abbrev Hp:=Addr→Option HO
def upd(H:Hp)(a:Addr)(o:HO):Hp:=fun b=>if b=a then some o else H b
theorem ai{H:Hp}{a:Addr}{o:HO}:upd H a o a=some o:=by unfold upd;rw[if_pos rfl]
theorem ak{H:Hp}{a b:Addr}{o:HO}(h:b≠a):upd H a o b=H b:=by unfold upd;rw[if_neg h]
theorem aQ{H:Hp}{a b:Addr}{o u:HO}(h:H a=some o)(h' : H b=some u)(d:o≠u):a≠b:=by
 intro e;subst e;rw[h]at h';exact d (Option.some.inj h')
theorem bS{H:Hp}{a b:Addr}{o:HO}(h:H a=some o)(h' : H b=none):a≠b:=by
 intro e;subst e;rw[h]at h';cases h'
def vD(qs:Array Value):Str:=match (qs[0]?:Option Value) with | some (Value.str q _)=>q | _=>""
section
variable (P:Program)(w:World)
def aV(H:Hp)(h:Heap)(a:Addr):HO→Prop
 | .lst xs=>xs.length≤sizeLine∧∃(its:List Value) (n:Nat),aW xs its∧h.get? a=some { cls:=.type "list",data:=.seq its.toArray n}
 | .tup xs=>xs.length≤sizeLine∧∃ its:List Value,aW xs its∧IsTup h a its.toArray
 | .dK kvs=>kvs.length≤sizeLine∧(a==sysModules)=false∧∃ vs,KV kvs vs∧h.DictOf (cf P w) a vs
 | .dT kvs=>kvs.length≤sizeLine∧(a==sysModules)=false∧∃ xs:List (List Key×Addr×Value),
  Paired (fun(p:List Key×V) (q:List Key×Addr×Value)=>p.1=q.1∧H q.2.1=some (.tup (p.1.map kV))∧aR p.2 q.2.2) kvs xs∧
  ∃ o es ep,h.get? a=some o∧o.ExactDict∧o.data = .dict es ep∧es.toList=xs.map (entryOfKey (tupleKind (cf P w)))∧(xs.map (·.1)).Nodup
 | .set S n=>h.SetOf (intKind P w) a S n
 | .ins C dx fs=>H dx=some (.own a)∧fs.length≤1000∧dx≠a∧h.get? a=some (PySem.W.instObj C dx)∧
  ∃ mA,h.Ns1 dx mA∧(∀ f,ix (fs.lookup f) (mA f))∧PySem.Within mA (fs.map (·.1))
 | .own _=>∃ o,h.get? a=some o
 | .xd fs=>∃ mA,h.Ns1 a mA∧∀ f,ix (fs.lookup f) (mA f)
 | .rng lo hi=>∃ t u v,h.get? a=some { cls:=.type "range",data:=.fields #[.int lo t,.int hi u,.int 1 v]}
 | .frz o u=>h.get? a=some o∧aV H h a u
 | .tbl qs=>∃ ps:Array Value,h.get? a=some { cls:=.none,data:=.fields ps}∧((qs.size=3∧(ps = #[]∨∃ c,ps = #[qs.getD 1 .none,qs.getD 2 .none,.ref c]∧H c=some (.own a)∧h.CodeRec (.ref c) (vD qs)))∨∃ q l k,qs = #[q,l,k]++ps∧ps.size=3)
 | .met f x=>h.get? a=some (PySem.W.methodObj (.ref f) (.ref x))
 | .ext φ=>φ h∧(∃ o,h.get? a=some o)∧∀ h1 h2:Heap,φ h1→(∀ o,h1.get? a=some o→h2.get? a=some o)→φ h2
def HOk(H:Hp)(h:Heap):Prop:=∀ a o,H a=some o→aV P w H h a o
end
section
variable {P:Program}{w:World}{H H' : Hp}{h h' : Heap}{a:Addr}{o:HO}
theorem aV.lt(x:aV P w H h a o):a<h.objs.size:=by
 cases o with
 | lst xs=>obtain⟨_,_,_,_,e⟩:=x;exact Heap.lt_size e
 | tup xs=>obtain⟨_,_,_,p⟩:=x;exact p.lt
 | dK kvs=>obtain⟨_,_,_,_,o,_,_,e,_⟩:=x;exact Heap.lt_size e
 | dT kvs=>obtain⟨_,_,_,_,o,_,_,e,_⟩:=x;exact Heap.lt_size e
 | set S n=>obtain⟨o,_,_,_,e,_⟩:=x;exact Heap.lt_size e
 | ins C dx fs=>obtain⟨_,_,_,e,_⟩:=x;exact Heap.lt_size e
 | own y=>obtain⟨_,e⟩:=x;exact Heap.lt_size e
 | xd fs=>obtain⟨_,⟨_,_,_,e,_⟩,_⟩:=x;exact Heap.lt_size e
 | rng lo hi=>obtain⟨_,_,_,e⟩:=x;exact Heap.lt_size e
 | frz ob u=>obtain⟨e,_⟩:=x;exact Heap.lt_size e
 | tbl ps=>obtain⟨_,e,_⟩:=x;exact Heap.lt_size e
 | met f y=>exact Heap.lt_size (show h.get? a=some _ from x)
 | ext φ=>obtain⟨_,⟨_,e⟩,_⟩:=x;exact Heap.lt_size e
theorem Paired.mapP{α β:Type}{F G:α→β→Prop}:∀{l₁:List α} {l₂:List β},Paired F l₁ l₂→(∀ a b,F a b→G a b)→Paired G l₁ l₂
 | _,_,.nil,_=>.nil
 | _,_,.cons r t,f=>.cons (f _ _ r) (Paired.mapP t f)
theorem Paired.imp'{α β:Type}{F G:α→β→Prop}(f:∀ a b,F a b→G a b){l₁:List α}{l₂:List β}(r:Paired F l₁ l₂):Paired G l₁ l₂:=Paired.mapP r f
theorem aV.stay(x:aV P w H h a o)(k:∀ b u,(b=a∨H b=some (.own a))→h.get? b=some u→h'.get? b=some u)
 (ho:∀ b,H b=some (.own a)→H' b=some (.own a)) (ht:∀ b xs,H b=some (.tup xs)→H' b=some (.tup xs)):aV P w H' h' a o:=by
 induction o with
 | lst xs=>obtain⟨z,its,n,r,e⟩:=x;exact⟨z,its,n,r,k _ _ (.inl rfl) e⟩
 | tup xs=>obtain⟨z,its,r,ob,e,c⟩:=x;exact⟨z,its,r,ob,k _ _ (.inl rfl) e,c⟩
 | dK kvs=>obtain⟨z,y,vs,r,ob,es,ep,e,c⟩:=x;exact⟨z,y,vs,r,ob,es,ep,k _ _ (.inl rfl) e,c⟩
 | dT kvs =>
   obtain⟨z,y,xs,r,ob,es,ep,e,c⟩:=x
   exact⟨z,y,xs,Paired.mapP r fun p q z=>⟨z.1,ht _ _ z.2.1,z.2.2⟩,ob,es,ep,k _ _ (.inl rfl) e,c⟩
 | set S n=>obtain⟨ob,es,ep,t,e,c⟩:=x;exact⟨ob,es,ep,t,k _ _ (.inl rfl) e,c⟩
 | ins C dx fs =>
   obtain⟨d,z,ne,e,mA,⟨od,es,ep,e2,c⟩,r⟩:=x
   exact⟨ho _ d,z,ne,k _ _ (.inl rfl) e,mA,⟨od,es,ep,k _ _ (.inr d) e2,c⟩,r⟩
 | own y=>obtain⟨ob,e⟩:=x;exact⟨ob,k _ _ (.inl rfl) e⟩
 | xd fs=>obtain⟨mA,⟨od,es,ep,e,c⟩,r⟩:=x;exact⟨mA,⟨od,es,ep,k _ _ (.inl rfl) e,c⟩,r⟩
 | rng lo hi=>obtain⟨t,u,v,e⟩:=x;exact⟨t,u,v,k _ _ (.inl rfl) e⟩
 | frz ob u ih=>obtain⟨e,q⟩:=x;exact⟨k _ _ (.inl rfl) e,ih q⟩
 | tbl qs =>
   obtain⟨ps,e,f⟩:=x
   refine⟨ps,k _ _ (.inl rfl) e,?_⟩
   rcases f with⟨hz,f|⟨c,e1,e2,c',oc,vs,tq,hc,ho',hd,hv⟩⟩|f
   ·exact .inl ⟨hz,.inl f⟩
   ·cases hc
    exact .inl ⟨hz,.inr ⟨c,e1,ho _ e2,c,oc,vs,tq,rfl,k _ _ (.inr e2) ho',hd,hv⟩⟩
   ·exact .inr f
 | met f y =>
   have e:h.get? a=some (PySem.W.methodObj (.ref f) (.ref y)):=x
   show h'.get? a=some (PySem.W.methodObj (.ref f) (.ref y))
   exact k a _ (.inl rfl) e
 | ext φ=>obtain⟨p,⟨o,e⟩,st⟩:=x;exact⟨st _ _ p fun o q=>k _ _ (.inl rfl) q,⟨o,k _ _ (.inl rfl) e⟩,st⟩
theorem HOk.lt(x:HOk P w H h)(e:H a=some o):a<h.objs.size:=(x a o e).lt
theorem HOk.fresh(x:HOk P w H h)(e:h.objs.size≤a):H a=none:=by
 cases q:H a with
 | none=>rfl
 | some u=>exact absurd (Nat.lt_of_lt_of_le (x.lt q) e) (Nat.lt_irrefl _)
theorem HOk.kept(x:HOk P w H h)(k:∀ b u,h.get? b=some u→h'.get? b=some u):HOk P w H h':=fun a o e =>
 (x a o e).stay (fun b u _ q=>k b u q) (fun _ q=>q) fun _ _ q=>q
theorem HOk.laid(x:HOk P w H h)(k:∀ b u,h.get? b=some u→h'.get? b=some u)(hp:h.objs.size≤a)(new:aV P w (upd H a o) h' a o):HOk P w (upd H a o) h':=fun b u e=>by
 have hn:=x.fresh hp
 by_cases hb:b=a
 ·subst hb;rw[ai]at e;cases e;exact new
 ·rw[ak hb]at e
  exact(x b u e).stay (fun c v _ q=>k c v q) (fun c q=>by rw[ak (bS q hn)];exact q) fun c xs q=>by rw[ak (bS q hn)];exact q
end
def Rd(H:Hp)(a:Addr)(u:HO):Prop:=H a=some u∨∃ o,H a=some (.frz o u)
theorem Rd.ok{P:Program}{w:World}{H:Hp}{h:Heap}{a:Addr}{u:HO}(r:Rd H a u)(x:HOk P w H h):aV P w H h a u:=by
 rcases r with r|⟨o,r⟩
 ·exact x a u r
 ·obtain⟨_,q⟩:=x a _ r
  exact q
def Mut:Option HO→Prop
 | some (.lst _)=>True
 | some (.dK _)=>True
 | some (.dT _)=>True
 | some (.set _ _)=>True
 | some (.ins _ _ _)=>True
 | some (.ext _)=>True
 | _=>False
section
variable {P:Program}{w:World}{H:Hp}{h h' : Heap}{x e:Addr}{o' : HO}
theorem HOk.write(ok:HOk P w H h)(mu:Mut (H x))(he:e=x∨H e=some (.own x))(k:∀ b u,b≠e→h.get? b=some u→h'.get? b=some u)(heo:∃ u,h'.get? e=some u)
 (new:aV P w (upd H x o') h' x o'):HOk P w (upd H x o') h':=fun b u q=>by
 have nown:∀ c y,H c=some (.own y)→c≠x:=fun c y r z=>by subst z;rw[r]at mu;exact mu
 have ntup:∀ c xs,H c=some (.tup xs)→c≠x:=fun c xs r z=>by subst z;rw[r]at mu;exact mu
 by_cases hb:b=x
 ·subst hb;rw[ai]at q;cases q;exact new
 ·rw[ak hb]at q
  by_cases hbe:b=e
  ·have q' : H b=some (.own x):=by
    rcases he with z|z
    ·exact absurd (hbe.trans z) hb
    ·rw[hbe];exact z
   rw[q]at q';cases q'
   obtain⟨v,hv⟩:=heo
   exact⟨v,by rw[hbe];exact hv⟩
  ·refine(ok b u q).stay (fun c v hc r=>k c v ?_ r) (fun c r=>by rw[ak (nown c b r)];exact r) fun c xs r=>by rw[ak (ntup c xs r)];exact r
   rcases hc with rfl|hc
   ·exact hbe
   ·rintro rfl
    rcases he with z|z
    ·exact nown c b hc z
    ·rw[hc]at z;cases z;exact hb rfl
end
structure Un(fs ex:List Addr)(H H' : Hp)(h h' : Heap):Prop where
 keep:∀ b o,h.get? b=some o→H b=none→b∉fs→b∉ex→h'.get? b=some o
 slot:∀ b o,h.get? b=some o→H b=none→b∈fs→b∉ex→∃ sl,h'.get? b=some { o with slots:=sl}
 free:∀ b o,h.get? b=some o→H b=none→b∉ex→H' b=none
 there:∀ b o,h.get? b=some o→b∉ex→∃ o',h'.get? b=some o'
 tups:∀ b xs,H b=some (.tup xs)→H' b=some (.tup xs)
 frzs:∀ b o u,H b=some (.frz o u)→H' b=some (.frz o u)
 tbls:∀ b ps,H b=some (.tbl ps)→∃ more,H' b=some (.tbl (ps++more))
section
variable {fs fs' ex ex' : List Addr}{H H1 H2:Hp}{h h1 h2 h' : Heap}{a x e:Addr}{o:HO}
theorem Un.any(u:Un fs ex H H1 h h1){b:Addr}{ob:Obj}(q:h.get? b=some ob)(n:H b=none)(hx:b∉ex):∃ sl,h1.get? b=some { ob with slots:=sl}:=by
 by_cases hb:b∈fs
 ·exact u.slot b ob q n hb hx
 ·exact⟨ob.slots,u.keep b ob q n hb hx⟩
theorem Un.kept(k:∀ b u,h.get? b=some u→h'.get? b=some u):Un fs ex H H h h' :=
 ⟨fun b ob q _ _ _=>k b ob q,fun b ob q _ _ _=>⟨ob.slots,k b ob q⟩,fun _ _ _ n _=>n,fun b ob q _=>⟨ob,k b ob q⟩,fun _ _ q=>q,fun _ _ _ q=>q,fun _ ps q=>⟨#[],by rw[q];simp⟩⟩
theorem Un.refl:Un fs ex H H h h:=Un.kept fun _ _ q=>q
theorem Un.laid(k:∀ b u,h.get? b=some u→h'.get? b=some u)(hp:h.objs.size≤a)(hn:H a=none):Un fs ex H (upd H a o) h h' where
 keep:=fun b u q _ _ _=>k b u q
 slot:=fun b u q _ _ _=>⟨u.slots,k b u q⟩
 free:=fun b u q n _=>by rw[ak (Nat.ne_of_lt (Nat.lt_of_lt_of_le (Heap.lt_size q) hp))];exact n
 there:=fun b u q _=>⟨u,k b u q⟩
 tups:=fun b xs q=>by rw[ak (bS q hn)];exact q
 frzs:=fun b u xs q=>by rw[ak (bS q hn)];exact q
 tbls:=fun b ps q=>⟨#[],by rw[ak (bS q hn),q];simp⟩
theorem Un.write(mu:Mut (H x))(he:e=x∨H e=some (.own x))(k:∀ b u,b≠e→h.get? b=some u→h'.get? b=some u)(heo:∃ u,h'.get? e=some u):Un fs ex H (upd H x o) h h':=by
 have hx:∀ b,H b=none→b≠x:=fun b n z=>by subst z;rw[n]at mu;exact mu
 have hb:∀ b,H b=none→b≠e:=fun b n z=>by
  subst z
  rcases he with r|r
  ·exact hx b n r
  ·rw[n]at r;cases r
 have hm:∀ b u,H b=some u→¬ Mut (some u)→b≠x:=fun b u q nm z=>by subst z;rw[q]at mu;exact nm mu
 refine⟨fun b u q n _ _=>k b u (hb b n) q,fun b u q n _ _=>⟨u.slots,k b u (hb b n) q⟩,fun b u q n _=>by rw[ak (hx b n)];exact n,fun b u q _=>?_,
  fun b xs q=>by rw[ak (hm b _ q fun z=>z)];exact q,fun b u xs q=>by rw[ak (hm b _ q fun z=>z)];exact q,fun b ps q=>⟨#[],by rw[ak (hm b _ q fun z=>z),q];simp⟩⟩
 by_cases hbe:b=e
 ·subst hbe;exact heo
 ·exact⟨u,k b u hbe q⟩
end
def trk(h:Heap)(H:Hp):List Addr:=(List.range h.objs.size).filter fun a=>(H a).isSome
def nS(h:Heap)(H:Hp):Heap:=PySem.W.hideAll h (trk h H)
theorem r6(h:Heap)(H:Hp):(nS h H).objs.size=h.objs.size:=PySem.W.hideAll_size _ _
theorem j7{h:Heap}{H:Hp}{b:Addr}{o:Obj}(e:h.get? b=some o)(n:H b=none):(nS h H).get? b=some o :=
 PySem.W.hideAll_get _ e fun hm=>by
  have q:(H b).isSome=true:=(List.mem_filter.mp hm).2
  rw[n]at q;simp at q
theorem vN{h:Heap}{H:Hp}{b:Addr}{o:Obj}(e:(nS h H).get? b=some o):h.get? b=some o∧H b=none:=by
 have e' : h.get? b=some o:=PySem.W.of_hideAll (trk h H) e
 refine⟨e',?_⟩
 cases q:H b with
 | none=>rfl
 | some x =>
   have hm:b∈trk h H:=List.mem_filter.mpr ⟨List.mem_range.mpr (Heap.lt_size e'),by simp[q]⟩
   have z:(nS h H).get? b=none:=PySem.W.hideAll_none (trk h H) hm
   rw[z]at e;cases e
end L2
namespace L2
open PySem PySem.Spec PyProof.Rows
structure Mod(K:PySem.W.Frag)(mg:Str→Option Value)(base:Heap):Prop where
 kin:K.In base
 glob:base.Ns mainGlobals mg
 blt:∃ mb,base.Ns builtinsNs mb∧∀ x:Str,x≠"__name__"→mb x=bootBuiltins x
 nolimit:base.NoLimit
 bmain:∃ bm ob,mg "__builtins__"=some (.ref bm)∧bm≠builtinsNs∧base.get? bm=some ob∧ob.cls = .type "module"∧ob.dict=some builtinsNs∧ob.data = .plain
structure Cx where
 prog:Program
 w:World
 K:PySem.W.Frag
 mg:Str→Option Value
 base:Heap
 A:Around
 N:List Str
 s₀:Shared
 H₀:Hp
 env:Env
 outer:List Env
 stack:List Env
 ex:List Addr
 fn:Str→Bool
 calm:Bool
 pn:List (Addr×Obj)
 xe:Value→Shared→Prop
def frs(l:List Env):List Addr:=l.filterMap (·.frame)
abbrev Cx.fs(X:Cx):List Addr:=frs X.outer
def Vis(sc:Scope)(x:Str):Prop:=sc.names.lookup x=some .local∨sc.names.lookup x=some .cell∨sc.names.lookup x=some .free
def Loc(sc:Scope)(x:Str):Prop:=sc.names.lookup x=some .local∨sc.names.lookup x=some .cell
def yI(env:Env)(h:Heap)(m:Str→Option Value)(x:Str)(u:Value):Prop :=
 (env.kindOf x=some .local∧m x=some u)∨((env.kindOf x=some .cell∨env.kindOf x=some .free)∧∃ c,env.cells.lookup x=some c∧h.IsCell c (some u))
structure Cx.Ok(X:Cx):Prop where
 mod:Mod X.K X.mg X.base
 kind:X.env.scope.kind = .function
 glob:X.env.globals=mainGlobals
 blt:X.env.builtins=builtinsNs
 above:X.s₀.heap.objs.size≤X.env.locals
 inj:∀ x y c,X.env.cells.lookup x=some c→X.env.cells.lookup y=some c→x=y
 has:∀ x,(X.env.kindOf x=some .cell∨X.env.kindOf x=some .free)→∃ c,X.env.cells.lookup x=some c
 cab:∀ x c,X.fn x=true→X.env.cells.lookup x=some c→X.s₀.heap.objs.size≤c
 hd:X.calm=true→X.A.handled=none
 frames:X.A.frames=some X.stack
 stk:X.stack=X.outer∨(X.stack=X.env::X.outer∧X.env.frame=some X.env.locals)
 exf:∀ b∈X.ex,b≠X.env.locals∧∀ x c,X.env.cells.lookup x=some c→c≠b
 bs:∀ b o,X.base.get? b=some o→X.s₀.heap.get? b=some o∧X.H₀ b=none
 bsz:X.base.objs.size≤X.s₀.heap.objs.size
 noex:∀ b o,X.base.get? b=some o→b∉X.ex
 exfs:∀ b∈X.ex,b∉X.fs
 funs:X.s₀.heap.FunFrames X.base X.outer
 frf:∀ b∈X.fs,X.H₀ b=none
structure Inv(X:Cx)(pins:List (Addr×Obj))(σ:List (Option V))(H:Hp)(s:Shared):Prop where
 ok:X.Ok
 os:s.os=X.s₀.os
 bare:AllBare s.gens
 base:Un X.fs X.ex X.H₀ H X.s₀.heap s.heap
 loc:∃ m,s.heap.Ns X.env.locals m∧∀(i:Nat) (x:Str) (v:V),X.N[i]?=some x→σ[i]?=some (some v)→Vis X.env.scope x→∃ u,aR v u∧yI X.env s.heap m x u
 cell:∀ x c,X.env.cells.lookup x=some c→∃ v,s.heap.IsCell c v
 free:H X.env.locals=none
 freeC:∀ x c,X.env.cells.lookup x=some c→H c=none
 pin:∀ p∈X.pn++pins,s.heap.get? p.1=some p.2∧H p.1=none∧p.1≠X.env.locals∧p.1∉X.fs∧∀ v,p.2.data≠.cell v
 hok:HOk X.prog X.w H s.heap
 len:σ.length=X.N.length
section
variable {X:Cx}{pins:List (Addr×Obj)}{σ:List (Option V)}{H H' : Hp}{s:Shared}{h' : Heap}
theorem Cx.Ok.nofr(ok:X.Ok){b:Addr}{o:Obj}(e:X.base.get? b=some o):b∉X.fs:=fun hb=>by
 have:=(ok.funs.mem hb).1
 rw[e]at this;cases this
theorem Inv.bs(I:Inv X pins σ H s):∀ b o,X.base.get? b=some o→s.heap.get? b=some o∧H b=none:=fun b o e =>
 ⟨I.base.keep b o (I.ok.bs b o e).1 (I.ok.bs b o e).2 (I.ok.nofr e) (I.ok.noex b o e),I.base.free b o (I.ok.bs b o e).1 (I.ok.bs b o e).2 (I.ok.noex b o e)⟩
theorem Inv.bk(I:Inv X pins σ H s):∀ b o,X.base.get? b=some o→s.heap.get? b=some o:=fun b o e=>(I.bs b o e).1
theorem Inv.mod(I:Inv X pins σ H s):Mod X.K X.mg X.base:=I.ok.mod
theorem Inv.kIn(I:Inv X pins σ H s):X.K.In s.heap:=I.ok.mod.kin.keeps I.bk
theorem Inv.nolimit(I:Inv X pins σ H s):s.heap.NoLimit:=I.ok.mod.nolimit.keeps I.bk
theorem Inv.lt(I:Inv X pins σ H s):X.env.locals<s.heap.objs.size:=let⟨_,hn,_⟩:=I.loc;hn.lt
theorem Inv.sz(I:Inv X pins σ H s):X.s₀.heap.objs.size≤s.heap.objs.size:=Nat.le_trans I.ok.above (Nat.le_of_lt I.lt)
theorem Inv.nofs(I:Inv X pins σ H s){a:Addr}(h:s.heap.objs.size≤a):a∉X.fs:=fun hb=>by
 obtain⟨_,o,ho,_⟩:=I.ok.funs.mem hb
 exact absurd (Nat.lt_of_lt_of_le (Heap.lt_size ho) (Nat.le_trans I.sz h)) (Nat.lt_irrefl _)
theorem Inv.cne(I:Inv X pins σ H s):∀ x c,X.env.cells.lookup x=some c→c≠X.env.locals:=fun x c e z=>by
 obtain⟨v,o,ho,hd⟩:=I.cell x c e
 obtain⟨m,⟨o',es,ep,ho',hd',_⟩,_⟩:=I.loc
 rw[z,ho']at ho;cases ho;rw[hd']at hd;cases hd
theorem Inv.funs(I:Inv X pins σ H s):s.heap.FunFrames X.base X.outer:=by
 have all:∀(l:List Env),(∀ b∈frs l,b∈X.fs)→X.s₀.heap.FunFrames X.base l→s.heap.FunFrames X.base l:=by
  intro l
  induction l with
  | nil=>intro _ _;trivial
  | cons env r ih =>
    intro hs hl
    obtain⟨hk,⟨L,o,hf,hn,ho,hd⟩,hr⟩:=hl
    have hL:L∈X.fs:=hs L (by unfold frs;rw[List.filterMap_cons,hf];exact List.mem_cons_self)
    obtain⟨sl,e⟩:=I.base.slot L o ho (I.ok.frf L hL) hL fun z=>I.ok.exfs L z hL
    exact⟨hk,⟨L,_,hf,hn,e,hd⟩,ih (fun b hb=>hs b (by unfold frs;rw[List.filterMap_cons,hf];exact List.mem_cons_of_mem _ hb)) hr⟩
 exact all X.outer (fun _ hb=>hb) I.ok.funs
theorem Inv.stack(I:Inv X pins σ H s):s.heap.FunFrames X.base X.stack:=by
 rcases I.ok.stk with e|⟨e,hf⟩
 ·rw[e];exact I.funs
 ·rw[e]
  obtain⟨m,hn,_⟩:=I.loc
  refine .cons (by rw[I.ok.kind];decide) hf hn ?_ I.funs
  exact Heap.get?_none_of_le (Nat.le_trans I.ok.bsz I.ok.above)
theorem Inv.stkSub(I:Inv X pins σ H s):∀ b∈frs X.stack,b∈X.env.locals::X.fs:=fun b hb=>by
 rcases I.ok.stk with e|⟨e,hf⟩
 ·rw[e]at hb;exact List.mem_cons_of_mem _ hb
 ·rw[e]at hb
  unfold frs at hb
  rw[List.filterMap_cons,hf]at hb
  exact hb
theorem Inv.stkFree(I:Inv X pins σ H s):∀ b∈frs X.stack,H b=none:=fun b hb=>by
 rcases List.mem_cons.mp (I.stkSub b hb) with e|hb
 ·rw[e];exact I.free
 ·obtain⟨_,o,ho,_⟩:=I.ok.funs.mem hb
  exact I.base.free b o ho (I.ok.frf b hb) fun z=>I.ok.exfs b z hb
theorem Inv.step{g' : Array GenState}{t' : Nat}{d' : Drawn}{ch:List Addr}(I:Inv X pins σ H s)
 (hch:∀ b∈ch,(b∈X.ex∨X.s₀.heap.objs.size≤b)∧b≠X.env.locals∧(∀ x c,X.env.cells.lookup x=some c→c≠b)∧∀ p∈X.pn++pins,p.1≠b)
 (keep:∀ b o,b≠X.env.locals→b∉X.fs→b∉ch→s.heap.get? b=some o→H b=none→h'.get? b=some o)
 (slot:∀ b o,b≠X.env.locals→b∈X.fs→b∉ch→s.heap.get? b=some o→H b=none→∃ sl,h'.get? b=some { o with slots:=sl}) (free:∀ b o,b∉ch→s.heap.get? b=some o→H b=none→H' b=none)
 (there:∀ b o,b∉ch→s.heap.get? b=some o→∃ o',h'.get? b=some o')
 (tups:∀ b xs,H b=some (.tup xs)→H' b=some (.tup xs)) (frzs:∀ b o u,H b=some (.frz o u)→H' b=some (.frz o u)) (tbls:∀ b ps,H b=some (.tbl ps)→∃ more,H' b=some (.tbl (ps++more)))
 (ns:∀ m,s.heap.Ns X.env.locals m→h'.Ns X.env.locals m) (hok:HOk X.prog X.w H' h') (hg:AllBare g') :
 Inv X pins σ H' { s with heap:=h',gens:=g',drawn:=d',toks:=t'}:=by
 have neL:∀ b o,X.s₀.heap.get? b=some o→b≠X.env.locals:=fun b o e=>Nat.ne_of_lt (Nat.lt_of_lt_of_le (Heap.lt_size e) I.ok.above)
 have neC:∀ b o,X.s₀.heap.get? b=some o→b∉X.ex→b∉ch:=fun b o e hx hb=>by
  rcases(hch b hb).1 with z|z
  ·exact hx z
  ·exact absurd (Nat.lt_of_lt_of_le (Heap.lt_size e) z) (Nat.lt_irrefl _)
 have cellK:∀ x c,X.env.cells.lookup x=some c→∀ v,s.heap.IsCell c v→h'.IsCell c v:=fun x c e v ⟨o,ho,hd⟩=>by
  have nch:c∉ch:=fun z=>(hch c z).2.2.1 x c e rfl
  by_cases hc:c∈X.fs
  ·obtain⟨sl,q⟩:=slot c o (I.cne x c e) hc nch ho (I.freeC x c e)
   exact⟨_,q,hd⟩
  ·exact⟨o,keep c o (I.cne x c e) hc nch ho (I.freeC x c e),hd⟩
 refine⟨I.ok,I.os,hg,⟨fun b o e n hb hx=>?_,fun b o e n hb hx=>?_,fun b o e n hx=>?_,fun b o e hx=>?_,fun b xs e=>tups b xs (I.base.tups b xs e),fun b o xs e=>frzs b o xs (I.base.frzs b o xs e),fun b ps e=>?_⟩,?_,fun x c e=>?_,?_,fun x c e=>?_,fun p hp=>?_,hok,I.len⟩
 ·exact keep b o (neL b o e) hb (neC b o e hx) (I.base.keep b o e n hb hx) (I.base.free b o e n hx)
 ·obtain⟨sl,e1⟩:=I.base.slot b o e n hb hx
  obtain⟨sl',e2⟩:=slot b _ (neL b o e) hb (neC b o e hx) e1 (I.base.free b o e n hx)
  exact⟨sl',e2⟩
 ·obtain⟨o',e1⟩:=I.base.there b o e hx
  exact free b o' (neC b o e hx) e1 (I.base.free b o e n hx)
 ·obtain⟨o',e1⟩:=I.base.there b o e hx
  exact there b o' (neC b o e hx) e1
 ·obtain⟨m1,e1⟩:=I.base.tbls b ps e
  obtain⟨m2,e2⟩:=tbls b _ e1
  exact⟨m1++m2,by rw[e2,Array.append_assoc]⟩
 ·obtain⟨m,hn,hl⟩:=I.loc
  refine⟨m,ns m hn,fun i x v e1 e2 e3=>?_⟩
  obtain⟨u,r,l⟩:=hl i x v e1 e2 e3
  refine⟨u,r,?_⟩
  rcases l with l|⟨k,c,e,z⟩
  ·exact .inl l
  ·exact .inr ⟨k,c,e,cellK x c e _ z⟩
 ·obtain⟨v,z⟩:=I.cell x c e
  exact⟨v,cellK x c e v z⟩
 ·obtain⟨m,⟨o,_,_,ho,_⟩,_⟩:=I.loc
  exact free _ o (fun z=>(hch _ z).2.1 rfl) ho I.free
 ·obtain⟨v,o,ho,hd⟩:=I.cell x c e
  exact free c o (fun z=>(hch c z).2.2.1 x c e rfl) ho (I.freeC x c e)
 ·obtain⟨e,n,ne,nf,d⟩:=I.pin p hp
  have nch:p.1∉ch:=fun z=>(hch p.1 z).2.2.2 p hp rfl
  exact⟨keep p.1 p.2 ne nf nch e n,free p.1 p.2 nch e n,ne,nf,d⟩
theorem Inv.un{t' : Nat}(I:Inv X pins σ H s)(u:Un X.fs [] H H' s.heap h')(hok:HOk X.prog X.w H' h'):Inv X pins σ H' { s with heap:=h',toks:=t'}:=by
 obtain⟨m,⟨o,es,ep,ho,r⟩,_⟩:=id I.loc
 obtain⟨sl,hL⟩:=u.any ho I.free (by simp)
 exact I.step (g':=s.gens) (d':=s.drawn) (ch:=[]) (fun _ z=>nomatch z) (fun b o _ hb _ e n=>u.keep b o e n hb (by simp)) (fun b o _ hb _ e n=>u.slot b o e n hb (by simp)) (fun b o _ e n=>u.free b o e n (by simp)) (fun b o _ e=>u.there b o e (by simp)) u.tups u.frzs u.tbls (fun m' hm=>by
  obtain⟨o',es',ep',ho',r'⟩:=hm
  rw[ho]at ho';cases ho'
  exact⟨_,es',ep',hL,r'⟩) hok I.bare
theorem Inv.call{g' : Array GenState}{t' : Nat}{d' : Drawn}{ch:List Addr}(I:Inv X pins σ H s)(u:Un (frs X.stack) ch H H' s.heap h')(hok:HOk X.prog X.w H' h')(hg:AllBare g')
 (hch:∀ b∈ch,(b∈X.ex∨X.s₀.heap.objs.size≤b)∧b≠X.env.locals∧(∀ x c,X.env.cells.lookup x=some c→c≠b)∧∀ p∈X.pn++pins,p.1≠b) :
 Inv X pins σ H' { s with heap:=h',gens:=g',drawn:=d',toks:=t'}:=by
 obtain⟨m,⟨o,es,ep,ho,r⟩,_⟩:=id I.loc
 obtain⟨sl,hL⟩:=u.any ho I.free fun z=>(hch _ z).2.1 rfl
 exact I.step (ch:=ch) hch (fun b o hL hb hc e n=>u.keep b o e n (fun z=>(List.mem_cons.mp (I.stkSub b z)).elim hL hb) hc) (fun b o _ _ hc e n=>u.any e n hc) (fun b o hc e n=>u.free b o e n hc) (fun b o hc e=>u.there b o e hc) u.tups u.frzs u.tbls (fun m' hm=>by
  obtain⟨o',es',ep',ho',r'⟩:=hm
  rw[ho]at ho';cases ho'
  exact⟨_,es',ep',hL,r'⟩) hok hg
theorem Inv.turned{t' : Nat}{it:Addr}(I:Inv X pins σ H s)(k:∀ b o,b≠it→s.heap.get? b=some o→h'.get? b=some o)(hn:H it=none)(hL:it≠X.env.locals)
 (h1:it∈X.ex∨X.s₀.heap.objs.size≤it) (h2:∀ x c,X.env.cells.lookup x=some c→c≠it) (h3:∀ p∈X.pn++pins,p.1≠it):Inv X pins σ H { s with heap:=h',toks:=t'}:=by
 have nit:∀ b u,H b=some u→b≠it:=fun b u e z=>by rw[z,hn]at e;cases e
 refine I.step (g':=s.gens) (d':=s.drawn) (ch:=[it]) (fun b hb=>?_) (fun b o _ _ hc e _=>k b o (fun z=>hc (by simp[z])) e) (fun b o _ _ hc e _=>⟨o.slots,k b o (fun z=>hc (by simp[z])) e⟩) (fun _ _ _ _ n=>n)
  (fun b o hc e=>⟨o,k b o (fun z=>hc (by simp[z])) e⟩) (fun _ _ e=>e) (fun _ _ _ e=>e) (fun b ps e=>⟨#[],by rw[e];simp⟩) (fun m hm=>?_) (fun b u e=>?_) I.bare
 ·have e:b=it:=by simpa using hb
  subst e
  exact⟨h1,hL,h2,h3⟩
 ·obtain⟨o,es,ep,ho,r⟩:=hm
  exact⟨o,es,ep,k _ o (Ne.symm hL) ho,r⟩
 ·refine(I.hok b u e).stay (fun c v hc q=>k c v ?_ q) (fun _ q=>q) fun _ _ q=>q
  rcases hc with z|z
  ·rw[z];exact nit b u e
  ·exact nit c _ z
theorem Inv.tok(I:Inv X pins σ H s)(t:Nat):Inv X pins σ H { s with toks:=t}:=I.un (h':=s.heap) (t':=t) Un.refl I.hok
theorem Inv.kept{t' : Nat}(I:Inv X pins σ H s)(k:∀ b u,s.heap.get? b=some u→h'.get? b=some u):Inv X pins σ H { s with heap:=h',toks:=t'}:=I.un (Un.kept k) (I.hok.kept k)
theorem Inv.laid{a:Addr}{o:HO}{t' : Nat}(I:Inv X pins σ H s)(k:∀ b u,s.heap.get? b=some u→h'.get? b=some u)(hp:s.heap.objs.size≤a)(new:aV X.prog X.w (upd H a o) h' a o):
 Inv X pins σ (upd H a o) { s with heap:=h',toks:=t'}:=I.un (Un.laid k hp (I.hok.fresh hp)) (I.hok.laid k hp new)
theorem Inv.write{x e:Addr}{o:HO}{t' : Nat}(I:Inv X pins σ H s)(mu:Mut (H x))(he:e=x∨H e=some (.own x))(k:∀ b u,b≠e→s.heap.get? b=some u→h'.get? b=some u)(heo:∃ u,h'.get? e=some u)
 (new:aV X.prog X.w (upd H x o) h' x o):Inv X pins σ (upd H x o) { s with heap:=h',toks:=t'}:=I.un (Un.write mu he k heo) (I.hok.write mu he k heo new)
theorem Inv.weak{σ' : List (Option V)}(I:Inv X pins σ H s)(hl:σ'.length=σ.length)(w:∀(i:Nat) v,σ'[i]?=some (some v)→σ[i]?=some (some v)):Inv X pins σ' H s :=
 ⟨I.ok,I.os,I.bare,I.base,let⟨m,hn,hl'⟩:=I.loc;⟨m,hn,fun i x v e1 e2 e3=>hl' i x v e1 (w i v e2) e3⟩,I.cell,I.free,I.freeC,I.pin,I.hok,hl.trans I.len⟩
theorem Inv.pins_of{pins' : List (Addr×Obj)}(I:Inv X pins σ H s)(h:∀ p∈pins',s.heap.get? p.1=some p.2∧H p.1=none∧p.1≠X.env.locals∧p.1∉X.fs∧∀ v,p.2.data≠.cell v):Inv X pins' σ H s :=
 ⟨I.ok,I.os,I.bare,I.base,I.loc,I.cell,I.free,I.freeC,fun p hp=>(List.mem_append.mp hp).elim (fun z=>I.pin p (List.mem_append_left _ z)) (h p),I.hok,I.len⟩
theorem oR{N:List Str}(hN:N.Nodup){i j:Nat}{x:Str}(a:N[i]?=some x)(b:N[j]?=some x):i=j:=by
 obtain⟨h1,e1⟩:=List.getElem?_eq_some_iff.mp a
 obtain⟨h2,e2⟩:=List.getElem?_eq_some_iff.mp b
 exact(List.getElem_inj hN).mp (e1.trans e2.symm)
theorem rB{M:Model}{A:Around}{E:Value→Shared→Prop}{i:Nat}{x:Str}{v:V}{u:Value}{Q:Unit→Shared→Prop}(I:Inv X pins σ H s)(hN:X.N.Nodup)(hi:X.N[i]?=some x)(hx:Loc X.env.scope x)(r:aR v u)
 (h:∀ s',Inv X pins (σ.set i (some v)) H s'→(∃ a,Heap.SameBut a s.heap s'.heap∧(a=X.env.locals∨X.env.cells.lookup x=some a))→Q () s') (hf:X.fn x=true∨X.env.scope.names.lookup x=some .local:=by first | exact .inl rfl | exact .inr rfl | assumption):wpAny M A (storeName X.env x u) Q E s:=by
 obtain⟨m,hn,hl⟩:=id I.loc
 have hcls:(X.env.scope.kind == .class || (X.env.scope.kind == .module&&X.env.locals != X.env.globals))=false:=by rw[I.ok.kind];rfl
 have hiσ:i<σ.length:=by rw[I.len];exact(List.getElem?_eq_some_iff.mp hi).1
 have cne:=I.cne
 have tracked:∀{a:Addr} {h' : Heap},(∃ o,s.heap.get? a=some o∧H a=none)→Heap.SameBut a s.heap h'→HOk X.prog X.w H h':=fun {a h'} ha hs b ob e=>by
  obtain⟨_,_,hfree⟩:=ha
  refine(I.hok b ob e).stay (fun c w' hc q=>(hs.2 c ?_).trans q) (fun _ q=>q) fun _ _ q=>q
  rintro rfl
  rcases hc with rfl|hc
  ·rw[hfree]at e;cases e
  ·rw[hfree]at hc;cases hc
 rcases hx with hk|hk
 ·refine wpAny_storeName_local hk hn (fun h' hn' hs=>?_) hcls
  obtain⟨oL,_,_,hoL,_⟩:=id hn
  refine h _ ⟨I.ok,I.os,I.bare,⟨fun b o e n hb hx=>?_,fun b o e n hb hx=>?_,I.base.free,fun b o e hx=>?_,I.base.tups,I.base.frzs,I.base.tbls⟩,⟨_,hn',fun j y v' e1 e2 e3=>?_⟩,fun y c e=>?_,I.free,I.freeC,fun p hp=>?_,tracked ⟨oL,hoL,I.free⟩ hs,by simpa using I.len⟩ ⟨_,hs,.inl rfl⟩
  ·exact(hs.2 b (Nat.ne_of_lt (Nat.lt_of_lt_of_le (Heap.lt_size e) I.ok.above))).trans (I.base.keep b o e n hb hx)
  ·obtain⟨sl,e1⟩:=I.base.slot b o e n hb hx
   exact⟨sl,(hs.2 b (Nat.ne_of_lt (Nat.lt_of_lt_of_le (Heap.lt_size e) I.ok.above))).trans e1⟩
  ·obtain⟨o',e1⟩:=I.base.there b o e hx
   exact⟨o',(hs.2 b (Nat.ne_of_lt (Nat.lt_of_lt_of_le (Heap.lt_size e) I.ok.above))).trans e1⟩
  ·by_cases hj:j=i
   ·subst hj
    rw[hi]at e1;cases e1
    rw[List.getElem?_set_self hiσ]at e2
    cases e2
    exact⟨u,r,.inl ⟨hk,by simp⟩⟩
   ·rw[List.getElem?_set_ne (Ne.symm hj)]at e2
    obtain⟨u',r',q⟩:=hl j y v' e1 e2 e3
    refine⟨u',r',?_⟩
    rcases q with⟨k,e⟩|⟨k,c,e,z⟩
    ·refine .inl ⟨k,?_⟩
     have:y≠x:=fun e=>hj (oR hN e1 (e▸hi))
     simp[this,e]
    ·exact .inr ⟨k,c,e,z.sameBut hs (cne y c e)⟩
  ·obtain⟨w',z⟩:=I.cell y c e
   exact⟨w',z.sameBut hs (cne y c e)⟩
  ·obtain⟨e,n,ne,nf,d⟩:=I.pin p hp
   exact⟨(hs.2 p.1 ne).trans e,n,ne,nf,d⟩
 ·have hfn:X.fn x=true:=by
   rcases hf with z|z
   ·exact z
   ·rw[z]at hk;cases hk
  obtain⟨c,hc⟩:=I.ok.has x (.inl hk)
  obtain⟨w',z⟩:=I.cell x c hc
  refine wpAny_storeName_cell I.ok.kind hk hc z (fun h' hc' hs=>?_)
  obtain⟨oc,hoc,hocd⟩:=id z
  refine h { s with heap:=h'} ⟨I.ok,I.os,I.bare,⟨fun b o e n hb hx=>?_,fun b o e n hb hx=>?_,I.base.free,fun b o e hx=>?_,I.base.tups,I.base.frzs,I.base.tbls⟩,⟨m,hn.sameBut hs (Ne.symm (cne x c hc)),fun j y v' e1 e2 e3=>?_⟩,fun y c' e=>?_,I.free,I.freeC,fun p hp=>?_,tracked ⟨oc,hoc,I.freeC x c hc⟩ hs,by simpa using I.len⟩ ⟨c,hs,.inr hc⟩
  ·exact(hs.2 b (Nat.ne_of_lt (Nat.lt_of_lt_of_le (Heap.lt_size e) (I.ok.cab x c hfn hc)))).trans (I.base.keep b o e n hb hx)
  ·obtain⟨sl,e1⟩:=I.base.slot b o e n hb hx
   exact⟨sl,(hs.2 b (Nat.ne_of_lt (Nat.lt_of_lt_of_le (Heap.lt_size e) (I.ok.cab x c hfn hc)))).trans e1⟩
  ·obtain⟨o',e1⟩:=I.base.there b o e hx
   exact⟨o',(hs.2 b (Nat.ne_of_lt (Nat.lt_of_lt_of_le (Heap.lt_size e) (I.ok.cab x c hfn hc)))).trans e1⟩
  ·by_cases hj:j=i
   ·subst hj
    rw[hi]at e1;cases e1
    rw[List.getElem?_set_self hiσ]at e2
    cases e2
    exact⟨u,r,.inr ⟨.inl hk,c,hc,hc'⟩⟩
   ·rw[List.getElem?_set_ne (Ne.symm hj)]at e2
    obtain⟨u',r',q⟩:=hl j y v' e1 e2 e3
    refine⟨u',r',?_⟩
    rcases q with q|⟨k,c',e,z'⟩
    ·exact .inl q
    ·refine .inr ⟨k,c',e,z'.sameBut hs ?_⟩
     rintro rfl
     exact hj (oR hN e1 (I.ok.inj _ _ _ e hc▸hi))
  ·by_cases hcc:c' = c
   ·subst hcc;exact⟨_,hc'⟩
   ·obtain⟨w2,z2⟩:=I.cell y c' e
    exact⟨w2,z2.sameBut hs hcc⟩
  ·obtain⟨e,n,ne,nf,d⟩:=I.pin p hp
   refine⟨(hs.2 p.1 ?_).trans e,n,ne,nf,d⟩
   intro q
   rw[q,hoc]at e
   have q' : oc=p.2:=Option.some.inj e
   exact d w' (by rw[← q'];exact hocd)
theorem iG{M:Model}{A:Around}{E:Value→Shared→Prop}{i:Nat}{x:Str}{v:V}{u:Value}{Q:Unit→Shared→Prop}(I:Inv X pins σ H s)(hN:X.N.Nodup)(hi:X.N[i]?=some x)(hx:Loc X.env.scope x)(r:aR v u)
 (h:∀ s',Inv X pins (σ.set i (some v)) H s'→Q () s') (hf:X.fn x=true∨X.env.scope.names.lookup x=some .local:=by first | exact .inl rfl | exact .inr rfl | assumption):wpAny M A (storeName X.env x u) Q E s :=
 rB I hN hi hx r (fun s' I' _=>h s' I') hf
theorem Inv.call'{s' : Shared}{ch:List Addr}(I:Inv X pins σ H s)(ho:s'.os=s.os)(u:Un (frs X.stack) ch H H' s.heap s'.heap)(hok:HOk X.prog X.w H' s'.heap)(hg:AllBare s'.gens)
 (hch:∀ b∈ch,(b∈X.ex∨X.s₀.heap.objs.size≤b)∧b≠X.env.locals∧(∀ x c,X.env.cells.lookup x=some c→c≠b)∧∀ p∈X.pn++pins,p.1≠b):Inv X pins σ H' s':=by
 obtain⟨h',g',d',t',o'⟩:=s'
 have e:o' = s.os:=ho
 subst e
 exact I.call (g':=g') (t':=t') (d':=d') u hok hg hch
end
abbrev XK:=Value→Option Addr→Hp→Prop
abbrev St:=List (Option V)
abbrev VK:=V→Hp→Prop
abbrev TE:=St→Hp→VK→Prop
abbrev TT:=St→Hp→(Bool→Hp→Prop)→Prop
abbrev TA:=St→Hp→(List V→Hp→Prop)→Prop
structure Ends where
 nx:St→Hp→Prop
 rt:VK
 bk:St→Hp→Prop:=fun _ _=>False
 ct:St→Hp→Prop:=fun _ _=>False
abbrev TS:=Ends→St→Hp→Prop
def EP(X:Cx)(pins:List (Addr×Obj))(σ:St)(Q:VK)(u:Value)(s' : Shared):Prop:=∃ v H',Inv X pins σ H' s'∧aR v u∧Q v H'
def TP(X:Cx)(pins:List (Addr×Obj))(σ:St)(Q:Bool→Hp→Prop)(b:Bool)(s' : Shared):Prop:=∃ H',Inv X pins σ H' s'∧Q b H'
def AP(X:Cx)(pins:List (Addr×Obj))(σ:St)(Q:List V→Hp→Prop)(us:List Value)(s' : Shared):Prop:=∃ vs H',Inv X pins σ H' s'∧aW vs us∧Q vs H'
def SP(X:Cx)(pins:List (Addr×Obj))(D:Ends)(f:Flow)(s' : Shared):Prop :=
 match f with
 | .next=>∃ σ' H',Inv X pins σ' H' s'∧D.nx σ' H'
 | .brk=>∃ σ' H',Inv X pins σ' H' s'∧D.bk σ' H'
 | .cont=>∃ σ' H',Inv X pins σ' H' s'∧D.ct σ' H'
 | .ret u=>∃ v σ' H',Inv X pins σ' H' s'∧aR v u∧D.rt v H'
def PE(X:Cx)(e:Expr)(t:TE):Prop :=
 ∀(pins:List (Addr×Obj)) (s:Shared) (σ:St) (H:Hp) (Q:VK),Inv X pins σ H s→t σ H Q→wpAny (model X.prog X.w) X.A (eval e X.env) (EP X pins σ Q) X.xe s
def PT(X:Cx)(e:Expr)(t:TT):Prop :=
 ∀(pins:List (Addr×Obj)) (s:Shared) (σ:St) (H:Hp) (Q:Bool→Hp→Prop),Inv X pins σ H s→t σ H Q→wpAny (model X.prog X.w) X.A (isTrue e X.env (eval e X.env)) (TP X pins σ Q) X.xe s
def PW(X:Cx)(e:Expr)(t:TT):Prop :=
 ∀(whole:Sem Value) (pins:List (Addr×Obj)) (s:Shared) (σ:St) (H:Hp) (Q:Bool→Hp→Prop),Inv X pins σ H s→t σ H Q→wpAny (model X.prog X.w) X.A (isTrue e X.env whole) (TP X pins σ Q) X.xe s
theorem PW.pt{X:Cx}{e:Expr}{t:TT}(h:PW X e t):PT X e t:=h _
def PA(X:Cx)(es:List Expr)(t:TA):Prop :=
 ∀(pos:Pos) (pins:List (Addr×Obj)) (s:Shared) (σ:St) (H:Hp) (Q:List V→Hp→Prop),Inv X pins σ H s→t σ H Q→wpAny (model X.prog X.w) X.A (spliced (backTo pos (starEach es X.env))) (AP X pins σ Q) X.xe s
def PS(X:Cx)(st:Stmt)(t:TS):Prop :=
 ∀(pins:List (Addr×Obj)) (s:Shared) (σ:St) (H:Hp) (D:Ends),Inv X pins σ H s→t D σ H→wpAny (model X.prog X.w) X.A (exec st X.env) (SP X pins D) X.xe s
def PSs(X:Cx)(st:List Stmt)(t:TS):Prop :=
 ∀(pins:List (Addr×Obj)) (s:Shared) (σ:St) (H:Hp) (D:Ends),Inv X pins σ H s→t D σ H→wpAny (model X.prog X.w) X.A (execs st X.env) (SP X pins D) X.xe s
theorem thn{α:Type}{t:Sem α}{Q Q' : α→Shared→Prop}{M:Model}{A:Around}{E:Value→Shared→Prop}{s:Shared}(h:wpAny M A t Q E s)(hQ:∀ a s,Q a s→Q' a s):wpAny M A t Q' E s:=wpAny_mono h hQ fun _ _ x=>x
end L2
namespace L2
open PySem PySem.Spec PyProof.Rows
section
variable {X:Cx}
def xS(i:Nat):TE:=fun σ H Q=>∃ v,σ[i]?=some (some v)∧Q v H
def tC(v:V):TE:=fun _ H Q=>Q v H
theorem xr{i:Nat}{x:Str}{pos:Pos}(hN:X.N[i]?=some x)(hv:Vis X.env.scope x)(hd:(x==("__debug__":Str))=false:=by decide)(hcd:(x==("__classdict__":Str))=false:=by decide):PE X (.Name x pos) (xS i):=by
 intro pins s σ H Q I h
 obtain⟨v,e,h⟩:=h
 obtain⟨m,hn,hl⟩:=I.loc
 obtain⟨u,r,l⟩:=hl i x v hN e hv
 have fin:EP X pins σ Q u s:=⟨v,H,I,r,h⟩
 rcases l with⟨hk,hm⟩|⟨hk,c,hc,hcell⟩
 ·exact wpAny_Name (wpAny_loadName_local I.ok.kind hk hn hm fin) hd
 ·rcases hk with hk|hk
  ·exact wpAny_Name (wpAny_loadName_cell I.ok.kind hk hc hcell fin) hd
  ·exact wpAny_Name (wpAny_loadName_free I.ok.kind hk hc hcell fin hcd) hd
theorem ae{i j pos}:PE X (.Constant (.int i) j pos) (tC (.int i)):=fun _ _ _ H _ I h=>wpAny_Constant_int ⟨.int i,H,I.tok _,⟨_,rfl⟩,h⟩
theorem im{b j pos}:PE X (.Constant (.bool b) j pos) (tC (.bl b)):=fun _ _ _ H _ I h=>Constant_bool ⟨.bl b,H,I,rfl,h⟩
theorem bU{j pos}:PE X (.Constant .none j pos) (tC .non):=fun _ _ _ H _ I h=>Constant_none ⟨.non,H,I,rfl,h⟩
theorem gE{x j pos}:PE X (.Constant (.str x) j pos) (tC (.str x)):=fun _ _ _ H _ I h=>Calls.Constant_str ⟨.str x,H,I.tok _,⟨_,rfl⟩,h⟩
def Gl(X:Cx)(x:Str):Prop:=X.env.kindOf x=some .globalImplicit
theorem qK{E:Value→Shared→Prop}{pins:List (Addr×Obj)}{s:Shared}{σ:St}{H:Hp}{x:Str}{u:Value}{pos:Pos}{Q:Value→Shared→Prop}(I:Inv X pins σ H s)(hg:Gl X x)(hm:X.mg x=some u)(h:Q u s)
 (hd:(x==("__debug__":Str))=false:=by decide):wpAny (model X.prog X.w) X.A (eval (.Name x pos) X.env) Q E s :=
 Calls.Name_function_global I.ok.kind hg (Calls.loadGlobal_global (by rw[I.ok.glob];exact I.mod.glob.keeps I.bk) hm h) hd
theorem gr{E:Value→Shared→Prop}{pins:List (Addr×Obj)}{s:Shared}{σ:St}{H:Hp}{x:Str}{u:Value}{pos:Pos}{Q:Value→Shared→Prop}(I:Inv X pins σ H s)(hg:Gl X x)(hm:X.mg x=none)(hv:bootBuiltins x=some u)(h:Q u s)
 (hn:x≠"__name__":=by decide) (hd:(x==("__debug__":Str))=false:=by decide):wpAny (model X.prog X.w) X.A (eval (.Name x pos) X.env) Q E s:=by
 obtain⟨mb,h1,h2⟩:=I.mod.blt
 exact Calls.Name_function_global I.ok.kind hg (Calls.loadGlobal_builtin (by rw[I.ok.glob];exact I.mod.glob.keeps I.bk) hm (by rw[I.ok.blt];exact h1.keeps I.bk) ((h2 x hn).trans hv) h) hd
theorem vp{x:Str}{v:V}{u:Value}{pos:Pos}(hg:Gl X x)(hm:X.mg x=none)(hv:bootBuiltins x=some u)(r:aR v u)(hn:x≠"__name__":=by decide)(hd:(x==("__debug__":Str))=false:=by decide):PE X (.Name x pos) (tC v) :=
 fun _ _ _ H _ I h=>gr I hg hm hv ⟨v,H,I,r,h⟩ hn hd
variable {a b:Expr}{ta tb:TE}{pos:Pos}
def tB(t:TE):TT:=fun σ H Q=>t σ H fun x H1=>∃ c,x = .bl c∧Q c H1
theorem eO{e:Expr}{t:TE}(h:PE X e t)(he:∀ whole,isTrue e X.env whole=(do let v←whole;standAt e.pos;holding [v] (truthy v)):=by intro _;rfl):PT X e (tB t):=by
 intro pins s σ H Q I hw
 refine isTrue_plain (thn (h pins s σ H _ I hw) fun v s1 ⟨x,H1,I1,r1,q1⟩=>?_) (he _)
 obtain⟨d,rfl,q⟩:=q1
 cases r1
 exact wpAny_truthy_bool ⟨H1,I1,q⟩
variable {tA tB' : TT}{rest:List Expr}
def yL(t u:TT):TT:=fun σ H Q=>t σ H fun c H1=>if c=true then u σ H1 Q else Q false H1
def tOr(t u:TT):TT:=fun σ H Q=>t σ H fun c H1=>if c=true then Q true H1 else u σ H1 Q
def yR(t:TT):TT:=fun σ H Q=>t σ H fun c H1=>Q (!c) H1
theorem nH(ha:PT X a tA):PW X (.BoolOp .And [a] pos) tA:=by
 intro wh pins s σ H Q I h
 refine isTrue_and (thn (ha pins s σ H Q I h) fun c s1 e=>?_)
 cases c with
 | true=>exact isTrue_and_nil e
 | false=>exact e
theorem hU(ha:PT X a tA):PW X (.BoolOp .Or [a] pos) tA:=by
 intro wh pins s σ H Q I h
 refine isTrue_or (thn (ha pins s σ H Q I h) fun c s1 e=>?_)
 cases c with
 | false=>exact isTrue_or_nil e
 | true=>exact e
theorem pE(ha:PT X a tA)(hb:PW X (.BoolOp .And (b::rest) pos) tB'):PW X (.BoolOp .And (a::b::rest) pos) (yL tA tB'):=by
 intro wh pins s σ H Q I h
 refine isTrue_and (thn (ha pins s σ H _ I h) fun c s1 ⟨H1,I1,q1⟩=>?_)
 cases c with
 | true=>exact hb wh pins s1 σ H1 Q I1 q1
 | false=>exact⟨H1,I1,q1⟩
theorem iM(ha:PT X a tA)(hb:PW X (.BoolOp .Or (b::rest) pos) tB'):PW X (.BoolOp .Or (a::b::rest) pos) (tOr tA tB'):=by
 intro wh pins s σ H Q I h
 refine isTrue_or (thn (ha pins s σ H _ I h) fun c s1 ⟨H1,I1,q1⟩=>?_)
 cases c with
 | true=>exact⟨H1,I1,q1⟩
 | false=>exact hb wh pins s1 σ H1 Q I1 q1
theorem ie(ha:PT X a tA):PT X (.UnaryOp .Not a pos) (yR tA):=by
 intro pins s σ H Q I h
 exact isTrue_not (ha pins s σ H (fun c H1=>Q (!c) H1) I h)
def xR(ta tb:TE):TE:=fun σ H Q=>ta σ H fun x H1=>∃ c,x = .bl c∧if c=true then tb σ H1 Q else Q (.bl false) H1
def xz(ta:TE):TE:=fun σ H Q=>ta σ H fun x H1=>∃ c,x = .bl c∧Q (.bl (!c)) H1
theorem ng{op}{t:TE}(h:PE X a t):PE X (.BoolOp op [a] pos) t:=fun pins s σ H Q I hw=>BoolOp_one (h pins s σ H Q I hw)
theorem lg(ha:PE X a ta)(hb:PE X (.BoolOp .And (b::rest) pos) tb):PE X (.BoolOp .And (a::b::rest) pos) (xR ta tb):=by
 intro pins s σ H Q I h
 refine BoolOp_and (thn (ha pins s σ H _ I h) fun v s1 ⟨x,H1,I1,r1,q1⟩=>?_)
 obtain⟨c,rfl,q1⟩:=q1
 cases r1
 refine wpAny_truthy_bool ?_
 cases c with
 | true=>exact hb pins s1 σ H1 Q I1 q1
 | false=>exact⟨.bl false,H1,I1,rfl,q1⟩
theorem wM(ha:PE X a ta):PE X (.UnaryOp .Not a pos) (xz ta):=by
 intro pins s σ H Q I h
 refine UnaryOp_ (thn (ha pins s σ H _ I h) fun v s1 ⟨x,H1,I1,r1,q1⟩=>?_)
 obtain⟨c,rfl,q1⟩:=q1
 cases r1
 exact not_of (wpAny_truthy_bool ⟨.bl (!c),H1,I1,rfl,q1⟩)
def tIf(t:TT)(ta tb:TE):TE:=fun σ H Q=>t σ H fun c H1=>if c=true then ta σ H1 Q else tb σ H1 Q
theorem iK{c:Expr}(hc:PT X c tA)(ha:PE X a ta)(hb:PE X b tb):PE X (.IfExp c a b pos) (tIf tA ta tb):=by
 intro pins s σ H Q I h
 refine wpAny_IfExp (thn (hc pins s σ H _ I h) fun d s1 ⟨H1,I1,q1⟩=>?_)
 cases d with
 | true=>exact ha pins s1 σ H1 Q I1 q1
 | false=>exact hb pins s1 σ H1 Q I1 q1
end
end L2
namespace L2
open PySem PySem.Spec PyProof.Rows
def SqL(K:PySem.W.Frag)(H:Hp)(a:Addr)(xs:List V):Prop :=
 Rd H a (.lst xs)∨
  ∃(o:Obj) (its:Array Value) (n:Nat),K.lookup a=some o∧o.cls = .type "list"∧o.dict=none∧o.data = .seq its n∧its.size≤sizeLine∧aW xs its.toList
def SqT(K:PySem.W.Frag)(H:Hp)(a:Addr)(xs:List V):Prop :=
 Rd H a (.tup xs)∨
  ∃(o:Obj) (its:Array Value) (n:Nat),K.lookup a=some o∧o.cls = .type "tuple"∧o.data = .seq its n∧its.size≤sizeLine∧aW xs its.toList
def yG:Value→Option V
 | .none=>some .non
 | .bool b=>some (.bl b)
 | .int i _=>some (.int i)
 | .str x _=>some (.str x)
 | .bytes b _=>some (.byt b)
 | .float b _=>some (.flt b)
 | .ref a=>some (.ref a)
 | .type n=>some (.ty n)
 | _=>none
theorem aR.abs{x:V}{u:Value}(r:aR x u):yG u=some x:=by
 cases x with
 | non=>cases r;rfl
 | bl _=>cases r;rfl
 | int _=>obtain⟨t,rfl⟩:=r;rfl
 | str _=>obtain⟨t,rfl⟩:=r;rfl
 | byt _=>obtain⟨t,rfl⟩:=r;rfl
 | flt _=>obtain⟨t,rfl⟩:=r;rfl
 | ref _=>cases r;rfl
 | ty _=>cases r;rfl
theorem aR.inj{x y:V}{u:Value}(r:aR x u)(q:aR y u):x=y:=Option.some.inj (r.abs.symm.trans q.abs)
theorem aW.inj:∀{xs ys:List V} {us:List Value},aW xs us→aW ys us→xs=ys
 | _,_,_,.nil,.nil=>rfl
 | _,_,_,.cons r t,.cons r' t'=>by rw[r.inj r',aW.inj t t']
section
variable {X:Cx}{pins:List (Addr×Obj)}{σ:St}{H:Hp}{s:Shared}{a:Addr}{xs ys:List V}
theorem SqL.of{K:PySem.W.Frag}(h:H a=some (.lst xs)):SqL K H a xs:=.inl (.inl h)
theorem SqT.of{K:PySem.W.Frag}(h:H a=some (.tup xs)):SqT K H a xs:=.inl (.inl h)
theorem Inv.list(I:Inv X pins σ H s)(h:SqL X.K H a xs):∃ its:List Value,aW xs its∧PlainL s.heap a its.toArray∧xs.length≤sizeLine:=by
 rcases h with h|⟨o,its,n,hk,hc,hd,hs,hz,r⟩
 ·obtain⟨z,its,n,r,e⟩:=h.ok I.hok
  exact⟨its,r,⟨_,n,e,rfl,rfl,rfl⟩,z⟩
 ·refine⟨its.toList,r,⟨o,n,I.kIn a o hk,hc,hd,by simpa using hs⟩,?_⟩
  have e:=r.length
  simp only[Array.length_toList]at e
  (first|lia|omega)
theorem Inv.tuple(I:Inv X pins σ H s)(h:SqT X.K H a xs):∃ its:List Value,aW xs its∧IsTup s.heap a its.toArray∧xs.length≤sizeLine:=by
 rcases h with h|⟨o,its,n,hk,hc,hs,hz,r⟩
 ·obtain⟨z,its,r,p⟩:=h.ok I.hok
  exact⟨its,r,p,z⟩
 ·refine⟨its.toList,r,⟨o,I.kIn a o hk,hc,n,by simpa using hs⟩,?_⟩
  have e:=r.length
  simp only[Array.length_toList]at e
  (first|lia|omega)
theorem Inv.list_inj(I:Inv X pins σ H s)(h:SqL X.K H a xs)(h' : SqL X.K H a ys):xs=ys:=by
 obtain⟨its,r,⟨o,n,e,_,_,d⟩,_⟩:=I.list h
 obtain⟨its',r',⟨o',n',e',_,_,d'⟩,_⟩:=I.list h'
 rw[e]at e';cases e'
 rw[d]at d'
 injection d' with d1 _
 have:its=its':=by simpa using congrArg Array.toList d1
 subst this
 exact r.inj r'
theorem Inv.tuple_inj(I:Inv X pins σ H s)(h:SqT X.K H a xs)(h' : SqT X.K H a ys):xs=ys:=by
 obtain⟨its,r,⟨o,e,_,n,d⟩,_⟩:=I.tuple h
 obtain⟨its',r',⟨o',e',_,n',d'⟩,_⟩:=I.tuple h'
 rw[e]at e';cases e'
 rw[d]at d'
 injection d' with d1 _
 have:its=its':=by simpa using congrArg Array.toList d1
 subst this
 exact r.inj r'
end
abbrev Cx.wish(X:Cx)(E:Value→Shared→Prop):Cx:={ X with xe:=E}
abbrev Cx.nox(X:Cx):Cx:=X.wish fun _ _=>False
theorem Cx.Ok.wish{X:Cx}(ok:X.Ok)(E:Value→Shared→Prop):(X.wish E).Ok :=
 ⟨ok.mod,ok.kind,ok.glob,ok.blt,ok.above,ok.inj,ok.has,ok.cab,ok.hd,ok.frames,ok.stk,ok.exf,ok.bs,ok.bsz,ok.noex,ok.exfs,ok.funs,ok.frf⟩
theorem Cx.Ok.unwish{X:Cx}{E:Value→Shared→Prop}(ok:(X.wish E).Ok):X.Ok :=
 ⟨ok.mod,ok.kind,ok.glob,ok.blt,ok.above,ok.inj,ok.has,ok.cab,ok.hd,ok.frames,ok.stk,ok.exf,ok.bs,ok.bsz,ok.noex,ok.exfs,ok.funs,ok.frf⟩
section
variable {X:Cx}{pins:List (Addr×Obj)}{σ:St}{H:Hp}{s:Shared}{E:Value→Shared→Prop}
theorem Inv.wish(I:Inv X pins σ H s)(E:Value→Shared→Prop):Inv (X.wish E) pins σ H s:=⟨I.ok.wish E,I.os,I.bare,I.base,I.loc,I.cell,I.free,I.freeC,I.pin,I.hok,I.len⟩
theorem Inv.unwish(I:Inv (X.wish E) pins σ H s):Inv X pins σ H s:=⟨I.ok.unwish,I.os,I.bare,I.base,I.loc,I.cell,I.free,I.freeC,I.pin,I.hok,I.len⟩
theorem SP.unwish{D:Ends}{f:Flow}{s' : Shared}(h:SP (X.wish E) pins D f s'):SP X pins D f s':=by
 cases f with
 | next=>obtain⟨σ',H',I,q⟩:=h;exact⟨σ',H',I.unwish,q⟩
 | brk=>obtain⟨σ',H',I,q⟩:=h;exact⟨σ',H',I.unwish,q⟩
 | cont=>obtain⟨σ',H',I,q⟩:=h;exact⟨σ',H',I.unwish,q⟩
 | ret u=>obtain⟨v,σ',H',I,r,q⟩:=h;exact⟨v,σ',H',I.unwish,r,q⟩
theorem PSs.nox{st:List Stmt}{t:TS}(h:PSs X.nox st t):PSs X st t:=fun pins s σ H D I hw =>
 wpAny_mono (h pins s σ H D (I.wish _) hw) (fun _ _ q=>q.unwish) fun _ _ z=>False.elim z
end
section
variable {X:Cx}{st:Stmt}{rest:List Stmt}{t u:TS}{e:Expr}{te:TE}{pos:Pos}
def aF:TS:=fun D σ H=>D.nx σ H
def Ends.on(D:Ends)(u:TS):Ends:={ D with nx:=u D}
def aq(t u:TS):TS:=fun D σ H=>t (D.on u) σ H
theorem aO:PSs X [] aF:=fun _ _ σ H _ I h=>wpAny_execs_nil ⟨σ,H,I,h⟩
theorem aj(h1:PS X st t)(h2:PSs X rest u):PSs X (st::rest) (aq t u):=by
 intro pins s σ H D I h
 refine wpAny_execs_cons (thn (h1 pins s σ H { D with nx:=u D} I h) fun f s1 q=>?_)
 cases f with
 | next =>
   obtain⟨σ',H',I',q⟩:=q
   exact h2 pins s1 σ' H' D I' q
 | ret v=>exact q
 | brk=>exact q
 | cont=>exact q
theorem ap(h1:PS X st t):PSs X [st] t:=by
 intro pins s σ H D I h
 refine wpAny_execs_cons (thn (h1 pins s σ H D I h) fun f s1 q=>?_)
 cases f with
 | next=>exact wpAny_execs_nil q
 | ret v=>exact q
 | brk=>exact q
 | cont=>exact q
theorem Inv.quiet{pins:List (Addr×Obj)}{σ:St}{H:Hp}{s:Shared}(I:Inv X pins σ H s):interactive X.env=false:=by simp[interactive,I.ok.kind]
def yc(te:TE):TS:=fun D σ H=>te σ H fun _ H1=>D.nx σ H1
theorem dM(he:PE X e te)(hs:swapsWith e none pos.line X.env=pure false:=by rfl):PS X (.Expr e pos) (yc te):=by
 intro pins s σ H D I h
 exact wpAny_Expr_any (thn (he pins s σ H _ I h) fun v s1 ⟨x,H1,I1,r1,q1⟩=>⟨σ,H1,I1,q1⟩) I.quiet hs
def yK(te:TE):TS:=fun D σ H=>te σ H D.rt
theorem aC(he:PE X e te):PS X (.Return (some e) pos) (yK te):=by
 intro pins s σ H D I h
 exact wpAny_Return_some (thn (he pins s σ H _ I h) fun v s1 ⟨x,H1,I1,r1,q1⟩=>⟨x,σ,H1,I1,r1,q1⟩)
def be(c:TT)(t u:TS):TS:=fun D σ H=>c σ H fun b H1=>if b=true then t D σ H1 else u D σ H1
theorem bI{c:Expr}{a b:List Stmt}{tc:TT}(hc:PT X c tc)(ha:PSs X a t)(hb:PSs X b u):PS X (.If c a b pos) (be tc t u):=by
 intro pins s σ H D I h
 refine wpAny_If (thn (hc pins s σ H _ I h) fun d s1 ⟨H1,I1,q1⟩=>?_)
 cases d with
 | true=>exact ha pins s1 σ H1 D I1 q1
 | false=>exact hb pins s1 σ H1 D I1 q1
def w6:TS:=fun _ _ _=>False
theorem lY{sts:List Stmt}:PSs X sts w6:=fun _ _ _ _ _ _ h=>h.elim
end
abbrev TG:=V→St→Hp→(St→Hp→Prop)→Prop
abbrev TGs:=List V→St→Hp→(St→Hp→Prop)→Prop
def PG(X:Cx)(target:Expr)(t:TG):Prop :=
 ∀(pins:List (Addr×Obj)) (s:Shared) (σ:St) (H:Hp) (v:V) (u:Value) (Q:St→Hp→Prop),Inv X pins σ H s→aR v u→t v σ H Q→
  wpAny (model X.prog X.w) X.A (assign target X.env u) (fun _ s'=>∃ σ' H',Inv X pins σ' H' s'∧Q σ' H') X.xe s
def PGs(X:Cx)(ts:List Expr)(t:TGs):Prop :=
 ∀(pins:List (Addr×Obj)) (s:Shared) (σ:St) (H:Hp) (vs:List V) (us:List Value) (Q:St→Hp→Prop),Inv X pins σ H s→aW vs us→t vs σ H Q→
  wpAny (model X.prog X.w) X.A (assignInOrder ((assignEach ts X.env).map (·.2)) us) (fun _ s'=>∃ σ' H',Inv X pins σ' H' s'∧Q σ' H') X.xe s
abbrev wT:=V→V→V→Hp→(Hp→Prop)→Prop
def xB(X:Cx)(t:wT):Prop :=
 ∀(pins:List (Addr×Obj)) (s:Shared) (σ:St) (H:Hp) (o i v:V) (ov iv u:Value) (Q:Hp→Prop),Inv X pins σ H s→aR o ov→aR i iv→aR v u→t o i v H Q→
  wpAny (model X.prog X.w) X.A (setItem ov iv u) (fun _ s'=>∃ H',Inv X pins σ H' s'∧Q H') X.xe s
abbrev TIp:=V→V→Hp→VK→Prop
def PIp(X:Cx)(op:Operator)(t:TIp):Prop :=
 ∀(pins:List (Addr×Obj)) (s:Shared) (σ:St) (H:Hp) (x y:V) (v u:Value) (Q:VK),Inv X pins σ H s→aR x v→aR y u→t x y H Q→
  wpAny (model X.prog X.w) X.A (inplaceOp op v u) (EP X pins σ Q) X.xe s
section
variable {X:Cx}{pos:Pos}
def vZ(i:Nat):TG:=fun v σ H Q=>Q (σ.set i (some v)) H
theorem au{i:Nat}{x:Str}(hN:X.N.Nodup)(hi:X.N[i]?=some x)(hx:Loc X.env.scope x)(hf:X.fn x=true∨X.env.scope.names.lookup x=some .local:=by first | exact .inl rfl | exact .inr rfl | assumption):PG X (.Name x pos) (vZ i):=by
 intro pins s σ H v u Q I r h
 exact wpAny_assign_Name (iG I hN hi hx r (fun s' I'=>⟨_,H,I',h⟩) hf)
def yu:TGs:=fun vs σ H Q=>vs=[]∧Q σ H
def x5(t:TG)(u:TGs):TGs:=fun vs σ H Q=>∃ v r,vs=v::r∧t v σ H fun σ' H'=>u r σ' H' Q
theorem dh:PGs X [] yu:=by
 intro pins s σ H vs us Q I r h
 obtain⟨e,h⟩:=h
 subst e
 cases r
 exact assignInOrder_nil ⟨σ,H,I,h⟩
theorem aN{e:Expr}{es:List Expr}{t:TG}{u:TGs}(h1:PG X e t)(h2:PGs X es u)
 (hs:(assignEach (e::es) X.env).map (·.2)=assign e X.env::(assignEach es X.env).map (·.2):=by rfl):PGs X (e::es) (x5 t u):=by
 intro pins s σ H vs us Q I r h
 obtain⟨v,vr,e1,h⟩:=h
 subst e1
 cases r with
 | cons r rr =>
   rw[hs]
   refine assignInOrder_cons (thn (h1 pins s σ H _ _ _ I r h) fun _ s1 ⟨σ1,H1,I1,q1⟩=>?_)
   exact h2 pins s1 σ1 H1 _ _ Q I1 rr q1
def yk(K:PySem.W.Frag)(n:Nat)(t:TGs):TG:=fun v σ H Q=>∃ a xs,v = .ref a∧SqT K H a xs∧xs.length=n∧t xs σ H Q
theorem xm{es:List Expr}{k:Nat}{t:TGs}{n:Nat}(hc:X.calm=true)(h:PGs X es t)
 (hn:(assignEach es X.env).length=n:=by rfl) (hst:(assignEach es X.env).findIdx? (·.1)=none:=by rfl):PG X (.Tuple es k pos) (yk X.K n t):=by
 intro pins s σ H v u Q I r hw
 obtain⟨a,xs,e1,hq,hl,hw⟩:=hw
 subst e1
 cases r
 obtain⟨its,rv,ht,hz⟩:=I.tuple hq
 refine assign_Tuple_tuple (I.ok.hd hc) ht (by simp[hn,← hl,rv.length]) hst fun h' hx=>?_
 have I1:Inv X pins σ H { s with heap:=h'}:=I.kept (t':=s.toks) fun b o e=>hx b o (Nat.ne_of_lt (Heap.lt_size e)) e
 exact h pins _ σ H xs _ Q I1 (by simpa using rv) hw
def yx(to ti:TE)(t:wT):TG:=fun v σ H Q=>to σ H fun o H1=>ti σ H1 fun i H2=>t o i v H2 fun H3=>Q σ H3
theorem i7{o i:Expr}{to ti:TE}{t:wT}(ho:PE X o to)(hi:PE X i ti)(hs:xB X t)
 (ha:∀ v,assign (.Subscript o i pos) X.env v=(do
  let ov←holding [v] (eval o X.env)
  let iv←holding [v,ov] (eval i X.env)
  standAt pos
  holding [v,ov,iv] (setItem ov iv v)
  release [v,ov,iv] []):=by intro _;rfl):PG X (.Subscript o i pos) (yx to ti t):=by
 intro pins s σ H v u Q I r h
 rw[ha]
 refine wpAny_bind (wpAny_holding (thn (ho pins s σ H _ I h) fun ov s1 ⟨x,H1,I1,r1,q1⟩=>?_))
 refine wpAny_bind (wpAny_holding (thn (hi pins s1 σ H1 _ I1 q1) fun iv s2 ⟨y,H2,I2,r2,q2⟩=>?_))
 refine wpAny_bind (wpAny_standAt (wpAny_bind (wpAny_holding (thn (hs pins s2 σ H2 x y v ov iv u _ I2 r1 r2 r q2) fun _ s3 ⟨H3,I3,q3⟩=>?_))))
 exact wpAny_release ⟨σ,H3,I3,q3⟩
def x4(te:TE)(g:TG):TS:=fun D σ H=>te σ H fun x H1=>g x σ H1 D.nx
theorem fi{tg e:Expr}{te:TE}{g:TG}(he:PE X e te)(hg:PG X tg g)(hs:swapsWithSole [tg] e pos.line X.env=pure false:=by rfl)(hw:swappedStores [tg] e X.env=pure none:=by rfl)
 (h1:(assignEach [tg] X.env).map (·.2)=[assign tg X.env]:=by rfl):PS X (.Assign [tg] e pos) (x4 te g):=by
 intro pins s σ H D I h
 refine wpAny_Assign_stores (thn (he pins s σ H _ I h) fun v s1 ⟨x,H1,I1,r1,q1⟩=>?_) hs hw
 rw[h1]
 exact thn (hg pins s1 σ H1 x v _ I1 r1 q1) fun _ s2 q=>q
theorem aB{i:Nat}{x:Str}{e:Expr}{te:TE}{pos' : Pos}(hN:X.N.Nodup)(hi:X.N[i]?=some x)(hx:Loc X.env.scope x)(he:PE X e te)(hs:swapsWith e (some (.Name x pos')) pos.line X.env=pure false:=by rfl)(hf:X.fn x=true∨X.env.scope.names.lookup x=some .local:=by first | exact .inl rfl | exact .inr rfl | assumption):
 PS X (.Assign [.Name x pos'] e pos) (x4 te (vZ i)):=by
 intro pins s σ H D I h
 refine wpAny_Assign_Name (thn (he pins s σ H _ I h) fun v s1 ⟨y,H1,I1,r1,q1⟩=>?_) hs
 exact iG I1 hN hi hx r1 (fun s2 I2=>⟨_,H1,I2,q1⟩) hf
def yF(i:Nat)(te:TE)(ti:TIp):TS:=fun D σ H=>∃ x,σ[i]?=some (some x)∧te σ H fun y H1=>ti x y H1 fun z H2=>D.nx (σ.set i (some z)) H2
theorem ui{i:Nat}{x:Str}{e:Expr}{te:TE}{op:Operator}{ti:TIp}{pos' : Pos}(hN:X.N.Nodup)(hi:X.N[i]?=some x)(hx:Loc X.env.scope x)(he:PE X e te)(ho:PIp X op ti)(hf:X.fn x=true∨X.env.scope.names.lookup x=some .local:=by first | exact .inl rfl | exact .inr rfl | assumption):
 PS X (.AugAssign (.Name x pos') op e pos) (yF i te ti):=by
 intro pins s σ H D I h
 obtain⟨v,e1,h⟩:=h
 obtain⟨m,hn,hl⟩:=I.loc
 have vis:Vis X.env.scope x:=by rcases hx with k | k;exact .inl k;exact .inr (.inl k)
 obtain⟨u,r,l⟩:=hl i x v hi e1 vis
 refine wpAny_AugAssign_Name ?_
 have go:wpAny (model X.prog X.w) X.A (eval e X.env) (fun w s₂=>wpAny (model X.prog X.w) X.A (inplaceOp op u w) (fun r s₃=>wpAny (model X.prog X.w) X.A (storeName X.env x r) (fun _=>SP X pins D .next) X.xe s₃) X.xe s₂) X.xe s:=by
  refine thn (he pins s σ H _ I h) fun w s1 ⟨y,H1,I1,r1,q1⟩=>?_
  refine thn (ho pins s1 σ H1 v y u w _ I1 r r1 q1) fun z s2 ⟨zv,H2,I2,r2,q2⟩=>?_
  exact iG I2 hN hi hx r2 (fun s3 I3=>⟨_,H2,I3,q2⟩) hf
 rcases l with⟨hk,hm⟩|⟨hk,c,hc,hcell⟩
 ·exact wpAny_loadName_local I.ok.kind hk hn hm go
 ·rcases hk with hk|hk
  ·exact wpAny_loadName_cell I.ok.kind hk hc hcell go
  ·rcases hx with k|k
   ·have:X.env.scope.names.lookup x=some .free:=hk
    rw[k]at this;cases this
   ·have:X.env.scope.names.lookup x=some .free:=hk
    rw[k]at this;cases this
end
section
variable {X:Cx}{pos:Pos}
def il(c:TT)(tb:TS):TS:=fun D σ H=>∃ W:Nat→St→Hp→Prop,(∃ m,W m σ H)∧∀ m σ H,W m σ H→
 c σ H fun b H1=>if b=true then ∃ N:St→Hp→Prop,(∀ σ' H',N σ' H'→∃ m',m'<m∧W m' σ' H')∧tb { D with nx:=N,ct:=N,bk:=D.nx} σ H1 else D.nx σ H1
theorem kM{c:Expr}{body:List Stmt}{tc:TT}{tb:TS}(hp:PassesOwn (model X.prog X.w) X.A X.env X.xe)(hc:PT X c tc)(hb:PSs X body tb):PS X (.While c body [] pos) (il tc tb):=by
 intro pins s σ H D I h
 obtain⟨W,⟨m0,w0⟩,turn⟩:=h
 refine wpAny_While (codeAny_whileLoop (fun n s'=>∃ σ' H',Inv X pins σ' H' s'∧W n σ' H') ?_ m0 ⟨σ,H,I,w0⟩)
 rintro n s1 ⟨σ1,H1,I1,w1⟩
 refine wpAny_passesOwn hp (thn (hc pins s1 σ1 H1 _ I1 (turn n σ1 H1 w1)) fun b s2 ⟨H2,I2,q2⟩=>?_)
 cases b with
 | true =>
   obtain⟨N,hN,q2⟩:=q2
   rw[if_pos rfl]
   refine wpAny_passesOwn hp (thn (hb pins s2 σ1 H2 _ I2 q2) fun f s3 q3=>?_)
   cases f with
   | next =>
     obtain⟨σ3,H3,I3,n3⟩:=q3
     obtain⟨m',hm,w3⟩:=hN σ3 H3 n3
     exact⟨m',hm,σ3,H3,I3,w3⟩
   | cont =>
     obtain⟨σ3,H3,I3,n3⟩:=q3
     obtain⟨m',hm,w3⟩:=hN σ3 H3 n3
     exact⟨m',hm,σ3,H3,I3,w3⟩
   | brk=>exact q3
   | ret v=>exact q3
 | false =>
   rw[if_neg Bool.false_ne_true]
   exact wpAny_execs_nil ⟨σ1,H2,I2,q2⟩
end
structure It where
 go:Nat→Hp→Prop
 yld:Nat→Hp→V→Hp→Prop
 stop:Nat→Hp→Prop
def iy(X:Cx)(pins:List (Addr×Obj))(H:Hp)(b:Addr):Prop :=
 H b=none∧b≠X.env.locals∧b∉X.fs∧(b∈X.ex∨X.s₀.heap.objs.size≤b)∧(∀ x c,X.env.cells.lookup x=some c→c≠b)∧∀ p∈X.pn++pins,p.1≠b
theorem Inv.fpOk{X:Cx}{pins:List (Addr×Obj)}{σ:St}{H H' : Hp}{s:Shared}{b:Addr}(I:Inv X pins σ H s)(hb:s.heap.objs.size≤b)(hn:H' b=none):iy X pins H' b:=by
 refine⟨hn,Nat.ne_of_gt (Nat.lt_of_lt_of_le I.lt hb),I.nofs hb,.inr (Nat.le_trans I.sz hb),fun x c e z=>?_,fun p hp z=>?_⟩
 ·obtain⟨v,q⟩:=I.cell x c e
  exact absurd (Nat.lt_of_lt_of_le q.lt (by rw[z];exact hb)) (Nat.lt_irrefl _)
 ·exact absurd (Nat.lt_of_lt_of_le (Heap.lt_size (I.pin p hp).1) (by rw[z];exact hb)) (Nat.lt_irrefl _)
structure Turn(P:Program)(w:World)(K:PySem.W.Frag)(tg:Expr)(J:It)(fp:List Addr)(it:Addr)(tn:Nat→Heap→Prop):Prop where
 mem:it∈fp
 obj:∀ i h,tn i h→∀ b∈fp,∃ o,h.get? b=some o∧∀ v,o.data≠.cell v
 keep:∀ i h h',tn i h→(∀ b∈fp,∀ o,h.get? b=some o→h'.get? b=some o)→tn i h'
 item:∀(X:Cx),X.prog=P→X.w=w→X.K=K→X.calm=true→∀(i:Nat) (pins:List (Addr×Obj)) (s:Shared) (σ:St) (H:Hp) (E:Value→Shared→Prop),Inv X pins σ H s→(∀ b∈fp,iy X pins H b)→tn i s.heap→J.go i H→
  wpAny (model P w) X.A (pyNext (.ref it)) (fun r s1=>∃ u,r=some u∧
   wpAny (model P w) X.A (letOwnedTupleGo tg (.ref it) u) (fun _ s2=>∃ x H',Inv X pins σ H' s2∧aR x u∧J.yld i H x H'∧tn (i+1) s2.heap∧∀ b∈fp,H' b=none) E s1) E s
 done:∀(X:Cx),X.prog=P→X.w=w→X.K=K→X.calm=true→∀(i:Nat) (pins:List (Addr×Obj)) (s:Shared) (σ:St) (H:Hp) (E:Value→Shared→Prop),Inv X pins σ H s→(∀ b∈fp,iy X pins H b)→tn i s.heap→J.stop i H→
  wpAny (model P w) X.A (pyNext (.ref it)) (fun r s1=>r=none∧Inv X pins σ H s1) E s
 self:∀(A:Around) (i:Nat) (s:Shared) (Q:Value→Shared→Prop) (E:Value→Shared→Prop),tn i s.heap→Q (.ref it) s→wpAny (model P w) A (pyIter (.ref it)) Q E s
abbrev TI:=St→Hp→(It→Hp→Prop)→Prop
def PIE(X:Cx)(pins:List (Addr×Obj))(σ:St)(tg:Expr)(R:It→Hp→Prop)(itv:Value)(s2:Shared):Prop :=
 ∃(it:Addr) (fp:List Addr) (tn:Nat→Heap→Prop) (J:It) (H' : Hp),itv = .ref it∧Inv X pins σ H' s2∧Turn X.prog X.w X.K tg J fp it tn∧tn 0 s2.heap∧(∀ b∈fp,iy X pins H' b)∧R J H'
def PI(X:Cx)(tg iter:Expr)(wi:TI):Prop :=
 ∀(pins:List (Addr×Obj)) (s:Shared) (σ:St) (H:Hp) (R:It→Hp→Prop),Inv X pins σ H s→wi σ H R→
  wpAny (model X.prog X.w) X.A (eval iter X.env) (fun v s1=>wpAny (model X.prog X.w) X.A (pyIter v) (PIE X pins σ tg R) X.xe s1) X.xe s
theorem wm{M:Model}{A:Around}{E:Value→Shared→Prop}{s:Shared}{tg:Expr}{it:Addr}{u:Value}{o:Obj}{n:String}{vs:Array Value}{Q:Unit→Shared→Prop}(ho:s.heap.get? it=some o)(hc:o.cls = .type n)(hd:o.data = .fields vs)
 (hn:["enumerate","zip","dict_itemiterator","dict_reverseitemiterator","odict_iterator","itertools.zip_longest","itertools.pairwise"].contains n=false) (hQ:Q () s):wpAny M A (letOwnedTupleGo tg (.ref it) u) Q E s:=by
 unfold letOwnedTupleGo
 cases tg<;>first
  | exact wpAny_pure hQ
  | (cases u<;>first
   | exact wpAny_pure hQ
   | (refine wpAny_bind (wpAny_load ho ?_)
      rw[hc,hd]
      show wpAny M A (if(["enumerate","zip","dict_itemiterator","dict_reverseitemiterator","odict_iterator","itertools.zip_longest","itertools.pairwise"].contains n&&vs[0]? == some (rawInt _))=true then _ else _) Q E s
      rw[if_neg (by intro h;rw[hn,Bool.false_and]at h;cases h)]
      exact wpAny_pure hQ))
def Itl(K:PySem.W.Frag)(a:Addr):It :=
 ⟨fun i H=>∃ xs x,SqL K H a xs∧xs[i]?=some x,fun i H x H'=>H' = H∧∀ xs,SqL K H a xs→xs[i]?=some x,fun i H=>∃ xs,SqL K H a xs∧xs.length≤i⟩
def Itr(lo:Int)(n:Nat):It:=⟨fun i _=>i<n,fun i H x H'=>H' = H∧x = .int (lo+i),fun i _=>n≤i⟩
theorem sE{P:Program}{w:World}{K:PySem.W.Frag}{tg:Expr}(a it:Addr):Turn P w K tg (Itl K a) [it] it (fun i h=>h.IsListIter it a i) where
 mem:=by simp
 obj:=fun i h st b hb=>by
  have e:b=it:=by simpa using hb
  subst e
  obtain⟨o,e,c,d⟩:=st
  exact⟨o,e,fun v z=>by rw[d]at z;cases z⟩
 keep:=fun i h h' st k=>st.at fun o e=>k it (by simp) o e
 item:=by
  intro X hP hw hK hc i pins s σ H E I hf st hg
  subst hP hw hK
  obtain⟨xs,x,hq,hx⟩:=hg
  obtain⟨its,rv,p,hz⟩:=I.list hq
  obtain⟨u,hu,ru⟩:=rv.get hx
  obtain⟨f0,f1,f2,f3,f4,f5⟩:=hf it (by simp)
  refine wpAny_pyNext_list_item st p.isList (x:=u) (by simpa using hu) fun h' st' sb=>?_
  have I1:Inv X pins σ H { s with heap:=h'}:=I.turned (t':=s.toks) (fun b o hb e=>(sb.2 b hb).trans e) f0 f1 f3 f4 f5
  obtain⟨o,e,c,d⟩:=id st'
  exact⟨u,rfl,wm (s:={ s with heap:=h'}) e c d (by decide) ⟨x,H,I1,ru,⟨rfl,fun ys hy=>by rw[I.list_inj hy hq];exact hx⟩,st',fun b hb=>(hf b hb).1⟩⟩
 done:=by
  intro X hP hw hK hc i pins s σ H E I hf st hg
  subst hP hw hK
  obtain⟨xs,hq,hx⟩:=hg
  obtain⟨its,rv,p,hz⟩:=I.list hq
  obtain⟨f0,f1,f2,f3,f4,f5⟩:=hf it (by simp)
  have hl:=rv.length
  exact wpAny_pyNext_list_end (I.ok.hd hc) st p.isList (by simp;(first|lia|omega)) fun h' eb=>⟨rfl,I.turned (t':=s.toks) (fun b o hb e=>eb b o hb e) f0 f1 f3 f4 f5⟩
 self:=fun _ _ _ _ _ st h=>wpAny_pyIter_listiter st h
theorem pz{P:Program}{w:World}{K:PySem.W.Frag}{tg:Expr}(it:Addr)(lo:Int)(n:Nat):Turn P w K tg (Itr lo n) [it] it (fun i h=>IsRangeIter h it (lo+(i:Nat)*1) ((n:Int)-(i:Nat)) 1) where
 mem:=by simp
 obj:=fun i h st b hb=>by
  have e:b=it:=by simpa using hb
  subst e
  exact⟨_,st,fun v z=>by
   have z' : Data.fields _=Data.cell v:=z
   cases z'⟩
 keep:=fun i h h' st k=>k it (by simp) _ st
 item:=by
  intro X hP hw hK hc i pins s σ H E I hf st hg
  subst hP hw hK
  obtain⟨f0,f1,f2,f3,f4,f5⟩:=hf it (by simp)
  have W:=Walks.range (prog:=X.prog) (w:=X.w) (I.ok.hd hc) it lo 1 n
  refine W.item i s _ _ hg st fun v h' tk hv st' kk=>?_
  obtain⟨t,rfl⟩:=hv
  have I1:Inv X pins σ H { s with heap:=h',toks:=tk}:=I.turned (fun b o hb e=>kk b o (by simpa using hb) e) f0 f1 f3 f4 f5
  refine⟨_,rfl,wm (s:={ s with heap:=h',toks:=tk}) (n:="range_iterator") st' rfl rfl (by decide) ⟨.int (lo+i),H,I1,⟨t,?_⟩,⟨rfl,rfl⟩,st',fun b hb=>(hf b hb).1⟩⟩
  rw[Int.mul_one]
 done:=by
  intro X hP hw hK hc i pins s σ H E I hf st hg
  subst hP hw hK
  obtain⟨f0,f1,f2,f3,f4,f5⟩:=hf it (by simp)
  exact wpAny_pyNext_range_end (I.ok.hd hc) st (by have:n≤i:=hg;(first|lia|omega)) fun h' eb=>⟨rfl,I.turned (t':=s.toks) (fun b o hb e=>eb b o hb e) f0 f1 f3 f4 f5⟩
 self:=fun _ _ _ _ _ st h=>wpAny_pyIter_rangeiter st h
end L2
namespace L2
open PySem PySem.Spec PyProof.Rows
section
variable {X:Cx}{tg:Expr}
def vU(K:PySem.W.Frag)(tl:TE):TI:=fun σ H R=>tl σ H fun x H1=>∃ a,x = .ref a∧(∃ xs,SqL K H1 a xs)∧R (Itl K a) H1
theorem vt{l:Expr}{tl:TE}(hl:PE X l tl):PI X tg l (vU X.K tl):=by
 intro pins s σ H R I h
 refine thn (hl pins s σ H _ I h) fun v s1 ⟨x,H1,I1,r1,q1⟩=>?_
 obtain⟨a,e,⟨xs,hq⟩,q⟩:=q1
 subst e
 cases r1
 obtain⟨its,rv,p,hz⟩:=I1.list hq
 refine wpAny_pyIter_list p.isList ?_
 refine⟨s1.heap.objs.size,[s1.heap.objs.size],_,_,H1,rfl,I1.kept (t':=s1.toks) fun b o e=>Heap.get?_push_of_some _ e,sE a _,⟨_,Heap.get?_push_size _ rfl,rfl,rfl⟩,fun b hb=>?_,q⟩
 have e:b=s1.heap.objs.size:=by simpa using hb
 subst e
 exact I1.fpOk (Nat.le_refl _) (I1.hok.fresh (Nat.le_refl _))
theorem oN{pins:List (Addr×Obj)}{σ:St}{H:Hp}{s:Shared}{R:It→Hp→Prop}{E:Value→Shared→Prop}{lo hi:Int}{t u v:Tok}{tk:Nat}(I:Inv X pins σ H s)(h1 : -(2^62)≤lo)(h2:lo<2^62)(h3 : -(2^62)≤hi)(h4:hi<2^62)
 (q:R (Itr lo (hi-lo).toNat) H):wpAny (model X.prog X.w) X.A (pyIter (.ref s.heap.objs.size)) (PIE X pins σ tg R) E { s with heap:=s.heap.push { cls:=.type "range",data:=.fields #[.int lo t,.int hi u,.int 1 v]},toks:=tk}:=by
 refine wpAny_pyIter_range (IsRange.new ..) (small_one h1 h2 h3 h4) ?_
 have I1:Inv X pins σ H { s with heap:=s.heap.push { cls:=.type "range",data:=.fields #[.int lo t,.int hi u,.int 1 v]},toks:=tk}:=I.kept fun b o e=>Heap.get?_push_of_some _ e
 refine⟨(s.heap.push { cls:=.type "range",data:=.fields #[.int lo t,.int hi u,.int 1 v]}).objs.size,[(s.heap.push { cls:=.type "range",data:=.fields #[.int lo t,.int hi u,.int 1 v]}).objs.size],_,_,H,rfl,
  I1.kept (t':=tk) fun b o e=>Heap.get?_push_of_some _ e,pz _ lo (hi-lo).toNat,?_,fun b hb=>?_,q⟩
 ·have e1:lo+((0:Nat):Int)*1=lo:=by simp
  have e2:(((hi-lo).toNat:Nat):Int)-((0:Nat):Int)=Builtin.Range.rangeSize lo hi 1:=by rw[rangeSize_one];split<;>(first|lia|omega)
  show IsRangeIter _ _ (lo+((0:Nat):Int)*1) ((((hi-lo).toNat:Nat):Int)-((0:Nat):Int)) 1
  rw[e1,e2]
  exact Heap.get?_push_size _ rfl
 ·have e:b=(s.heap.push { cls:=.type "range",data:=.fields #[.int lo t,.int hi u,.int 1 v]}).objs.size:=by simpa using hb
  subst e
  exact I1.fpOk (Nat.le_refl _) (I1.hok.fresh (Nat.le_refl _))
def yf(ta:TA):TI:=fun σ H R=>ta σ H fun vs H1=>∃ j:Int,vs=[.int j]∧-(2^62)≤j∧j<2^62∧R (Itr 0 j.toNat) H1
def xN(ta:TA):TI:=fun σ H R=>ta σ H fun vs H1=>∃ i j:Int,vs=[.int i,.int j]∧(-(2^62)≤i∧i<2^62∧-(2^62)≤j∧j<2^62)∧R (Itr i (j-i).toNat) H1
theorem aH{a:Expr}{ta:TA}{p pos:Pos}(hg:Gl X "range")(hm:X.mg "range"=none)(ha:PA X [a] ta)(hs:starEach [a] X.env=[(false,eval a X.env)]:=by rfl):PI X tg (.Call (.Name "range" p) [a] [] pos) (yf ta):=by
 intro pins s σ H R I h
 refine Call_ (gr I hg hm boot_range (PyProof.Rows.callWith_type1 (thn (ha pos pins s σ H _ I h) fun us s1 ⟨vs,H1,I1,r1,q1⟩=>?_) hs rfl))
 obtain⟨j,e,q1,q2,q⟩:=q1
 subst e
 cases r1 with
 | cons r rr =>
   cases rr
   obtain⟨t,rfl⟩:=r
   exact call_range_1 (oN I1 (by(first|lia|omega)) (by(first|lia|omega)) q1 q2 (by simpa using q))
theorem mJ{a b:Expr}{ta:TA}{p pos:Pos}(hg:Gl X "range")(hm:X.mg "range"=none)(ha:PA X [a,b] ta)(hs:starEach [a,b] X.env=[(false,eval a X.env),(false,eval b X.env)]:=by rfl)(hs2:starEach [b] X.env=[(false,eval b X.env)]:=by rfl):
 PI X tg (.Call (.Name "range" p) [a,b] [] pos) (xN ta):=by
 intro pins s σ H R I h
 refine Call_ (gr I hg hm boot_range (PyProof.Rows.callWith_type1 (thn (ha pos pins s σ H _ I h) fun us s1 ⟨vs,H1,I1,r1,q1⟩=>?_) (by rw[hs,hs2]) (by rw[hs2];rfl)))
 obtain⟨i,j,e,⟨q1,q2,q3,q4⟩,q⟩:=q1
 subst e
 cases r1 with
 | cons r rr =>
   cases rr with
   | cons r' rr =>
     cases rr
     obtain⟨t,rfl⟩:=r
     obtain⟨t',rfl⟩:=r'
     exact call_range_2 (oN I1 q1 q2 q3 q4 q)
def ci(wi:TI)(g:TG)(tb:TS):TS:=fun D σ H=>wi σ H fun J H1=>∃ W:Nat→Nat→St→Hp→Prop,(∃ m,W 0 m σ H1)∧∀ i m σ H,W i m σ H→
 (J.stop i H∧D.nx σ H)∨(J.go i H∧∃ N:St→Hp→Prop,(∀ σ' H',N σ' H'→∃ m',m'<m∧W (i+1) m' σ' H')∧∀ x H',J.yld i H x H'→g x σ H' fun σ2 H2=>tb { D with nx:=N,ct:=N,bk:=D.nx} σ2 H2)
def ld(fp:List Addr)(h:Heap):List (Addr×Obj):=fp.filterMap fun b=>(h.get? b).map fun o=>(b,o)
theorem gf{fp:List Addr}{h:Heap}{b:Addr}{o:Obj}(hb:b∈fp)(e:h.get? b=some o):(b,o)∈ld fp h:=List.mem_filterMap.mpr ⟨b,hb,by rw[e];rfl⟩
theorem rG{fp:List Addr}{h:Heap}{p:Addr×Obj}(hp:p∈ld fp h):p.1∈fp∧h.get? p.1=some p.2:=by
 obtain⟨b,hb,e⟩:=List.mem_filterMap.mp hp
 cases q:h.get? b with
 | none=>rw[q]at e;cases e
 | some o =>
   rw[q]at e
   have e' : (b,o)=p:=Option.some.inj e
   subst e'
   exact⟨hb,q⟩
theorem Inv.pinned{pins:List (Addr×Obj)}{σ:St}{H:Hp}{s:Shared}{fp:List Addr}(I:Inv X pins σ H s)(hf:∀ b∈fp,iy X pins H b)(ho:∀ b∈fp,∃ o,s.heap.get? b=some o∧∀ v,o.data≠.cell v):Inv X (pins++ld fp s.heap) σ H s :=
 I.pins_of fun p hp=>(List.mem_append.mp hp).elim (fun z=>I.pin p (List.mem_append_right _ z)) fun z=>by
  obtain⟨hb,e⟩:=rG z
  obtain⟨f0,f1,f2,_⟩:=hf p.1 hb
  obtain⟨o,e',d⟩:=ho p.1 hb
  rw[e]at e';cases e'
  exact⟨e,f0,f1,f2,d⟩
theorem Inv.unpinned{pins pl:List (Addr×Obj)}{σ:St}{H:Hp}{s:Shared}(I:Inv X (pins++pl) σ H s):Inv X pins σ H s:=I.pins_of fun p hp=>I.pin p (List.mem_append_right _ (List.mem_append_left _ hp))
theorem ck{iter:Expr}{body:List Stmt}{wi:TI}{g:TG}{tb:TS}{pos:Pos}(hp:PassesOwn (model X.prog X.w) X.A X.env X.xe)(hc:X.calm=true)(hi:PI X tg iter wi)(hg:PG X tg g)(hb:PSs X body tb)
 (hs:∀ x,foldedSetIterable iter X.env x=pure x:=by intro _;rfl):PS X (.For tg iter body [] pos) (ci wi g tb):=by
 intro pins s σ H D I h
 refine wpAny_For (thn (hi pins s σ H _ I h) fun v s1 h1=>thn h1 fun itv s2 h2=>?_) hs
 obtain⟨it,fp,tn,J,H2,e,I2,T,st2,f2,W,⟨m0,w0⟩,turn⟩:=h2
 subst e
 have stat:∀{H' : Hp},(∀ b∈fp,H' b=none)→∀ b∈fp,iy X pins H' b:=fun hn b hb=>⟨hn b hb,(f2 b hb).2⟩
 refine codeAny_forLoop_any (fun n s'=>∃ i σ' H',Inv X pins σ' H' s'∧tn i s'.heap∧(∀ b∈fp,H' b=none)∧W i n σ' H') ?_ m0 ⟨0,σ,H2,I2,st2,fun b hb=>(f2 b hb).1,w0⟩
 rintro n s3 ⟨i,σ3,H3,I3,st3,fr3,w3⟩
 rcases turn i n σ3 H3 w3 with⟨stop,qn⟩|⟨go,N,hN,step⟩
 ·refine wpAny_passesOwn hp (thn (T.done X rfl rfl rfl hc i pins s3 σ3 H3 X.xe I3 (stat fr3) st3 stop) fun r s4 ⟨hr,I4⟩=>?_)
  subst hr
  exact wpAny_execs_nil ⟨σ3,H3,I4,qn⟩
 ·refine wpAny_passesOwn hp (thn (T.item X rfl rfl rfl hc i pins s3 σ3 H3 X.xe I3 (stat fr3) st3 go) fun r s4 ⟨u,hr,h4⟩=>?_)
  subst hr
  refine wpAny_passesOwn hp (thn h4 fun _ s5 ⟨x,H5,I5,r5,y5,st5,fr5⟩=>?_)
  have I5':=I5.pinned (stat fr5) (T.obj _ _ st5)
  refine wpAny_passesOwn hp (thn (hg _ s5 σ3 H5 x u _ I5' r5 (step x H5 y5)) fun _ s6 ⟨σ6,H6,I6,q6⟩=>?_)
  refine wpAny_passesOwn hp (thn (hb _ s6 σ6 H6 _ I6 q6) fun f s7 q7=>?_)
  have again:∀{σ7:St} {H7:Hp},Inv X (pins++ld fp s5.heap) σ7 H7 s7→N σ7 H7→∃ m,m<n∧∃ i σ' H',Inv X pins σ' H' s7∧tn i s7.heap∧(∀ b∈fp,H' b=none)∧W i m σ' H':=fun {σ7 H7} I7 n7=>by
   obtain⟨m',hm,w7⟩:=hN σ7 H7 n7
   refine⟨m',hm,i+1,σ7,H7,I7.unpinned,T.keep _ _ _ st5 fun b hb o e=>(I7.pin (b,o) (List.mem_append_right _ (List.mem_append_right _ (gf hb e)))).1,fun b hb=>?_,w7⟩
   obtain⟨o,e,d⟩:=T.obj _ _ st5 b hb
   exact(I7.pin (b,o) (List.mem_append_right _ (List.mem_append_right _ (gf hb e)))).2.1
  cases f with
  | next=>obtain⟨σ7,H7,I7,n7⟩:=q7;exact again I7 n7
  | cont=>obtain⟨σ7,H7,I7,n7⟩:=q7;exact again I7 n7
  | brk=>obtain⟨σ7,H7,I7,q7⟩:=q7;exact⟨σ7,H7,I7.unpinned,q7⟩
  | ret v=>obtain⟨x7,σ7,H7,I7,r7,q7⟩:=q7;exact⟨x7,σ7,H7,I7.unpinned,r7,q7⟩
end
theorem lh{K:PySem.W.Frag}{a:Addr}{xs:List V}{g:TG}{tb:TS}{D:Ends}{σ:St}{H:Hp}(Pv:Nat→St→Hp→Prop)(h0:Pv 0 σ H)(hl:∀ i σ H,i≤xs.length→Pv i σ H→SqL K H a xs)
 (hs:∀ i x σ H,xs[i]?=some x→Pv i σ H→g x σ H fun σ2 H2=>tb { D with nx:=Pv (i+1),ct:=Pv (i+1),bk:=D.nx} σ2 H2) (hd:∀ σ H,Pv xs.length σ H→D.nx σ H) :
 ∃ W:Nat→Nat→St→Hp→Prop,(∃ m,W 0 m σ H)∧∀ i m σ H,W i m σ H→
   ((Itl K a).stop i H∧D.nx σ H)∨((Itl K a).go i H∧∃ N:St→Hp→Prop,(∀ σ' H',N σ' H'→∃ m',m'<m∧W (i+1) m' σ' H')∧∀ x H',(Itl K a).yld i H x H'→g x σ H' fun σ2 H2=>tb { D with nx:=N,ct:=N,bk:=D.nx} σ2 H2):=by
 refine⟨fun i m σ H=>m=xs.length-i∧i≤xs.length∧Pv i σ H,⟨xs.length,by simp,Nat.zero_le _,h0⟩,?_⟩
 rintro i m σ H ⟨rfl,hi,p⟩
 have q:=hl i σ H hi p
 by_cases hlt:i<xs.length
 ·refine .inr ⟨⟨xs,xs[i],q,by simp[hlt]⟩,Pv (i+1),fun σ' H' p'=>⟨xs.length-(i+1),by(first|lia|omega),rfl,hlt,p'⟩,fun x H' y=>?_⟩
  obtain⟨e,y⟩:=y
  subst e
  exact hs i x σ _ (y xs q) p
 ·have e:i=xs.length:=by(first|lia|omega)
  subst e
  exact .inl ⟨⟨xs,q,Nat.le_refl _⟩,hd σ H p⟩
theorem sF{lo:Int}{n:Nat}{g:TG}{tb:TS}{D:Ends}{σ:St}{H:Hp}(Pv:Nat→St→Hp→Prop)(h0:Pv 0 σ H)
 (hs:∀ i σ H,i<n→Pv i σ H→g (.int (lo+i)) σ H fun σ2 H2=>tb { D with nx:=Pv (i+1),ct:=Pv (i+1),bk:=D.nx} σ2 H2) (hd:∀ σ H,Pv n σ H→D.nx σ H) :
 ∃ W:Nat→Nat→St→Hp→Prop,(∃ m,W 0 m σ H)∧∀ i m σ H,W i m σ H→
   ((Itr lo n).stop i H∧D.nx σ H)∨((Itr lo n).go i H∧∃ N:St→Hp→Prop,(∀ σ' H',N σ' H'→∃ m',m'<m∧W (i+1) m' σ' H')∧∀ x H',(Itr lo n).yld i H x H'→g x σ H' fun σ2 H2=>tb { D with nx:=N,ct:=N,bk:=D.nx} σ2 H2):=by
 refine⟨fun i m σ H=>m=n-i∧i≤n∧Pv i σ H,⟨n,by simp,Nat.zero_le _,h0⟩,?_⟩
 rintro i m σ H ⟨rfl,hi,p⟩
 by_cases hlt:i<n
 ·refine .inr ⟨hlt,Pv (i+1),fun σ' H' p'=>⟨n-(i+1),by(first|lia|omega),rfl,hlt,p'⟩,fun x H' y=>?_⟩
  obtain⟨e,y⟩:=y
  subst e y
  exact hs i σ _ hlt p
 ·have e:i=n:=by(first|lia|omega)
  subst e
  exact .inl ⟨Nat.le_refl _,hd σ H p⟩
end L2
namespace L2
open PySem PySem.Spec PyProof.Rows
abbrev R2:=V→V→Hp→VK→Prop
def OpR(X:Cx)(f:Value→Value→Sem Value)(r:R2):Prop :=
 ∀(pins:List (Addr×Obj)) (s:Shared) (σ:St) (H:Hp) (x y:V) (v u:Value) (Q:VK),Inv X pins σ H s→aR x v→aR y u→r x y H Q→
  wpAny (model X.prog X.w) X.A (f v u) (EP X pins σ Q) X.xe s
def UnR(X:Cx)(f:Value→Sem Value)(r:V→Hp→VK→Prop):Prop :=
 ∀(pins:List (Addr×Obj)) (s:Shared) (σ:St) (H:Hp) (x:V) (v:Value) (Q:VK),Inv X pins σ H s→aR x v→r x H Q→
  wpAny (model X.prog X.w) X.A (f v) (EP X pins σ Q) X.xe s
def dS(X:Cx)(f:Value)(r:List V→Hp→VK→Prop):Prop :=
 ∀(pins:List (Addr×Obj)) (s:Shared) (σ:St) (H:Hp) (xs:List V) (us:List Value) (Q:VK),Inv X pins σ H s→aW xs us→r xs H Q→
  wpAny (model X.prog X.w) X.A (call f us) (EP X pins σ Q) X.xe s
def tOp(r:R2)(ta tb:TE):TE:=fun σ H Q=>ta σ H fun x H1=>tb σ H1 fun y H2=>r x y H2 Q
def tUn(r:V→Hp→VK→Prop)(ta:TE):TE:=fun σ H Q=>ta σ H fun x H1=>r x H1 Q
def rI(C:Int→Int→Prop)(g:Int→Int→V):R2:=fun x y H Q=>∃ i j,x = .int i∧y = .int j∧C i j∧Q (g i j) H
def rI0(g:Int→Int→V):R2:=fun x y H Q=>∃ i j,x = .int i∧y = .int j∧Q (g i j) H
def rU(g:Int→V):V→Hp→VK→Prop:=fun x H Q=>∃ i,x = .int i∧Q (g i) H
section
variable {X:Cx}{a b c:Expr}{ta tb tc:TE}{pos:Pos}
theorem wP(ha:PE X a ta)(hb:PE X b tb){pins:List (Addr×Obj)}{s:Shared}{σ:St}{H:Hp}{R:V→V→Hp→Prop}(I:Inv X pins σ H s)
 (h:ta σ H fun x H1=>tb σ H1 fun y H2=>R x y H2) {Q:Value→Shared→Prop} {f:Value→Value→Sem Value}
 (hf:∀ v u s2 x y H2,Inv X pins σ H2 s2→aR x v→aR y u→R x y H2→wpAny (model X.prog X.w) X.A (f v u) Q X.xe s2) :
 wpAny (model X.prog X.w) X.A (eval a X.env) (fun v s₁=>wpAny (model X.prog X.w) X.A (eval b X.env) (fun u s₂=>wpAny (model X.prog X.w) X.A (f v u) Q X.xe s₂) X.xe s₁) X.xe s:=by
 refine thn (ha pins s σ H _ I h) fun v s1 ⟨x,H1,I1,r1,q1⟩=>?_
 refine thn (hb pins s1 σ H1 _ I1 q1) fun u s2 ⟨y,H2,I2,r2,q2⟩=>?_
 exact hf v u s2 x y H2 I2 r1 r2 q2
theorem av{op:Operator}{r:R2}(ho:OpR X (binaryOp op) r)(ha:PE X a ta)(hb:PE X b tb):PE X (.BinOp a op b pos) (tOp r ta tb):=by
 intro pins s σ H Q I h
 exact wpAny_BinOp (wP ha hb I h fun v u s2 x y H2 I2 rx ry q=>ho pins s2 σ H2 x y v u Q I2 rx ry q)
theorem rk{op:UnaryOp}{r:V→Hp→VK→Prop}(ho:UnR X (unaryOp op) r)(ha:PE X a ta):PE X (.UnaryOp op a pos) (tUn r ta):=by
 intro pins s σ H Q I h
 exact UnaryOp_ (thn (ha pins s σ H _ I h) fun v s1 ⟨x,H1,I1,r1,q1⟩=>ho pins s1 σ H1 x v Q I1 r1 q1)
theorem opI{f:Value→Value→Sem Value}{C:Int→Int→Prop}{g:Int→Int→Int}
 (rule:∀(i j:Int) (t u:Tok) (s:Shared) (Q:Value→Shared→Prop) (E:Value→Shared→Prop),C i j→Q (.int (g i j) s.toks) { s with toks:=s.toks+1}→wpAny (model X.prog X.w) X.A (f (.int i t) (.int j u)) Q E s) :
 OpR X f (rI C fun i j=>.int (g i j)):=by
 intro pins s σ H x y v u Q I rx ry h
 obtain⟨i,j,rfl,rfl,hc,q⟩:=h
 obtain⟨t,rfl⟩:=rx
 obtain⟨t',rfl⟩:=ry
 exact rule i j t t' s _ _ hc ⟨.int (g i j),H,I.tok _,⟨_,rfl⟩,q⟩
theorem t8{f:Value→Value→Sem Value}{g:Int→Int→Int}
 (rule:∀(i j:Int) (t u:Tok) (s:Shared) (Q:Value→Shared→Prop) (E:Value→Shared→Prop),Q (.int (g i j) s.toks) { s with toks:=s.toks+1}→wpAny (model X.prog X.w) X.A (f (.int i t) (.int j u)) Q E s) :
 OpR X f (rI0 fun i j=>.int (g i j)):=by
 intro pins s σ H x y v u Q I rx ry h
 obtain⟨i,j,rfl,rfl,q⟩:=h
 obtain⟨t,rfl⟩:=rx
 obtain⟨t',rfl⟩:=ry
 exact rule i j t t' s _ _ ⟨.int (g i j),H,I.tok _,⟨_,rfl⟩,q⟩
theorem vy{f:Value→Value→Sem Value}{g:Int→Int→Bool}
 (rule:∀(i j:Int) (t u:Tok) (s:Shared) (Q:Value→Shared→Prop) (E:Value→Shared→Prop),Q (.bool (g i j)) s→wpAny (model X.prog X.w) X.A (f (.int i t) (.int j u)) Q E s) :
 OpR X f (rI0 fun i j=>.bl (g i j)):=by
 intro pins s σ H x y v u Q I rx ry h
 obtain⟨i,j,rfl,rfl,q⟩:=h
 obtain⟨t,rfl⟩:=rx
 obtain⟨t',rfl⟩:=ry
 exact rule i j t t' s _ _ ⟨.bl (g i j),H,I,rfl,q⟩
def vG(i j:Int):Prop:=0<j∧j<1073741824
def xK(i j:Int):Prop:=0≤j∧j≤1000000∧i.natAbs<2^64
def wZ(i j:Int):Prop:=(-(2^64)<i∧i<2^64)∨(-(2^64)<j∧j<2^64)
theorem wZ.ok{i j:Int}(h:wZ i j):IntMulOk i j:=by
 rcases h with⟨h1,h2⟩|⟨h1,h2⟩
 ·exact .of_left (intBits_le_64 h1 h2)
 ·exact .of_right (intBits_le_64 h1 h2)
theorem pA(k:Nat):(0:Int)≤2^k:=by
 rw[two_pow_cast]
 exact Int.natCast_nonneg _
theorem cz:OpR X (binaryOp .Add) (rI0 fun i j=>.int (i+j)):=t8 fun _ _ _ _ _ _ _ q=>add_int q
theorem nk:OpR X (binaryOp .Sub) (rI0 fun i j=>.int (i-j)):=t8 fun _ _ _ _ _ _ _ q=>sub_int q
theorem ii:OpR X (binaryOp .Mult) (rI wZ fun i j=>.int (i*j)):=opI fun _ _ _ _ _ _ _ hc q=>mul_int q hc.ok
theorem fO:OpR X (binaryOp .FloorDiv) (rI vG fun i j=>.int (i/j)):=opI fun i j _ _ _ _ _ hc q=>by
 have h1:(0:Int)<j:=hc.1
 have h2:j<1073741824:=hc.2
 exact floordiv_int (by(first|lia|omega)) (by rw[Int.fdiv_eq_ediv_of_nonneg i (by(first|lia|omega))];exact q) (.inl (PyProof.noPylong_small (by(first|lia|omega))))
theorem ce:OpR X (binaryOp .Mod) (rI (fun _ j=>0<j) fun i j=>.int (i%j)):=opI fun i j _ _ _ _ _ hc q=>by
 have h1:(0:Int)<j:=hc
 exact mod_int' (by(first|lia|omega)) (by rw[Int.fmod_eq_emod_of_nonneg i (by(first|lia|omega))];exact q)
theorem sJ:OpR X (binaryOp .Pow) (rI xK fun i j=>.int (i^j.toNat)):=opI fun _ _ _ _ _ _ _ hc q=>pow_int_small hc.1 hc.2.1 hc.2.2 q
theorem ff:OpR X (binaryOp .LShift) (rI xK fun i j=>.int (i*2^j.toNat)):=opI fun _ _ _ _ _ _ _ hc q=>lshift_int_small hc.1 hc.2.1 hc.2.2 q
theorem i8:OpR X (binaryOp .RShift) (rI (fun _ j=>0≤j) fun i j=>.int (i/2^j.toNat)):=opI fun i j _ _ _ _ _ hc q =>
 rshift_int hc (by rw[Int.fdiv_eq_ediv_of_nonneg i (pA _)];exact q)
theorem gs:OpR X (binaryOp .BitAnd) (rI0 fun i j=>.int (Builtin.bitAnd i j)):=t8 fun _ _ _ _ _ _ _ q=>and_int q
theorem dW:OpR X (binaryOp .BitXor) (rI0 fun i j=>.int (Builtin.bitXor i j)):=t8 fun _ _ _ _ _ _ _ q=>xor_int q
theorem tF:OpR X (inplaceOp .BitOr) (rI0 fun i j=>.int (Builtin.bitOr i j)):=t8 fun _ _ _ _ _ _ _ q=>ior_int q
theorem unI{f:Value→Sem Value}{g:Int→Int}
 (rule:∀(i:Int) (t:Tok) (s:Shared) (Q:Value→Shared→Prop) (E:Value→Shared→Prop),Q (.int (g i) s.toks) { s with toks:=s.toks+1}→wpAny (model X.prog X.w) X.A (f (.int i t)) Q E s) :
 UnR X f (rU fun i=>.int (g i)):=by
 intro pins s σ H x v Q I rx h
 obtain⟨i,rfl,q⟩:=h
 obtain⟨t,rfl⟩:=rx
 exact rule i t s _ _ ⟨.int (g i),H,I.tok _,⟨_,rfl⟩,q⟩
theorem m7:UnR X (unaryOp .USub) (rU fun i=>.int (-i)):=unI fun _ _ _ _ _ q=>neg_int q
end
def yg:V→V→Bool
 | .non,.non=>true | .non,.int _=>true | .int _,.non=>true | .non,.bl _=>true | .bl _,.non=>true | .non,.str _=>true | .str _,.non=>true
 | .int _,.int _=>true | .bl _,.bl _=>true | .str _,.str _=>true | .byt _,.byt _=>true
 | .int _,.str _=>true | .str _,.int _=>true | .bl _,.str _=>true | .str _,.bl _=>true
 | _,_=>false
def rEq:R2:=fun x y H Q=>yg x y=true∧Q (.bl (decide (x=y))) H
def rNe:R2:=fun x y H Q=>yg x y=true∧Q (.bl (!decide (x=y))) H
theorem qq{i j:Int}:decide (V.int i=V.int j)=(i==j):=by
 rw[Bool.eq_iff_iff]
 simp
theorem ue{i j:Bool}:decide (V.bl i=V.bl j)=(i==j):=by
 rw[Bool.eq_iff_iff]
 simp
theorem rl{i j:Str}:decide (V.str i=V.str j)=(i==j):=by
 rw[Bool.eq_iff_iff]
 simp
theorem qN{i j:Array UInt8}:decide (V.byt i=V.byt j)=(i.toList==j.toList):=by
 rw[Bool.eq_iff_iff]
 cases i
 cases j
 simp
section
variable {X:Cx}{a b c:Expr}{ta tb tc:TE}{pos:Pos}
theorem aZ{pins:List (Addr×Obj)}{σ:St}{H:Hp}{s:Shared}{Q:VK}{k k' : Bool}(I:Inv X pins σ H s)(q:Q (.bl k) H)(e:k=k'):EP X pins σ Q (.bool k') s:=by
 subst e
 exact⟨.bl k,H,I,rfl,q⟩
theorem dZ:OpR X (compareOp .Eq) rEq:=by
 intro pins s σ H x y v u Q I rx ry h
 obtain⟨hs,q⟩:=h
 cases x with
 | non =>
   cases rx
   cases y with
   | non=>cases ry;exact PySem.EqNone.eq_none_none (aZ I q (by simp))
   | bl j=>cases ry;exact PySem.EqNone.eq_none_bool (aZ I q (by simp))
   | int j=>obtain⟨t',rfl⟩:=ry;exact PySem.EqNone.eq_none_int (aZ I q (by simp))
   | str j=>obtain⟨t',rfl⟩:=ry;exact PySem.EqNone.eq_none_str (aZ I q (by simp))
   | _=>exact absurd (show false=true from hs) Bool.false_ne_true
 | bl i =>
   cases rx
   cases y with
   | non=>cases ry;exact PySem.EqNone.eq_bool_none (aZ I q (by simp))
   | bl j=>cases ry;exact eq_bool (aZ I q ue)
   | str j=>obtain⟨t',rfl⟩:=ry;exact PySem.EqMixed.eq_bool_str (aZ I q (by simp))
   | _=>exact absurd (show false=true from hs) Bool.false_ne_true
 | int i =>
   obtain⟨t,rfl⟩:=rx
   cases y with
   | non=>cases ry;exact PySem.EqNone.eq_int_none (aZ I q (by simp))
   | int j=>obtain⟨t',rfl⟩:=ry;exact eq_int (aZ I q qq)
   | str j=>obtain⟨t',rfl⟩:=ry;exact PySem.EqMixed.eq_int_str (aZ I q (by simp))
   | _=>exact absurd (show false=true from hs) Bool.false_ne_true
 | str i =>
   obtain⟨t,rfl⟩:=rx
   cases y with
   | non=>cases ry;exact PySem.EqNone.eq_str_none (aZ I q (by simp))
   | bl j=>cases ry;exact PySem.EqMixed.eq_str_bool (aZ I q (by simp))
   | int j=>obtain⟨t',rfl⟩:=ry;exact PySem.EqMixed.eq_str_int (aZ I q (by simp))
   | str j=>obtain⟨t',rfl⟩:=ry;exact eq_str (aZ I q rl)
   | _=>exact absurd (show false=true from hs) Bool.false_ne_true
 | byt i =>
   obtain⟨t,rfl⟩:=rx
   cases y with
   | byt j=>obtain⟨t',rfl⟩:=ry;exact PySem.W.eq_bytes (aZ I q qN)
   | _=>exact absurd (show false=true from hs) Bool.false_ne_true
 | _=>cases y<;>exact absurd (show false=true from hs) Bool.false_ne_true
theorem jy:OpR X (compareOp .NotEq) rNe:=by
 intro pins s σ H x y v u Q I rx ry h
 obtain⟨hs,q⟩:=h
 cases x with
 | non =>
   cases rx
   cases y with
   | non=>cases ry;exact PySem.EqNone.ne_none_none (aZ I q (by simp))
   | bl j=>cases ry;exact PySem.EqNone.ne_none_bool (aZ I q (by simp))
   | int j=>obtain⟨t',rfl⟩:=ry;exact PySem.EqNone.ne_none_int (aZ I q (by simp))
   | str j=>obtain⟨t',rfl⟩:=ry;exact PySem.EqNone.ne_none_str (aZ I q (by simp))
   | _=>exact absurd (show false=true from hs) Bool.false_ne_true
 | bl i =>
   cases rx
   cases y with
   | non=>cases ry;exact PySem.EqNone.ne_bool_none (aZ I q (by simp))
   | bl j=>cases ry;exact ne_bool (aZ I q (congrArg not ue))
   | str j=>obtain⟨t',rfl⟩:=ry;exact PySem.EqMixed.ne_bool_str (aZ I q (by simp))
   | _=>exact absurd (show false=true from hs) Bool.false_ne_true
 | int i =>
   obtain⟨t,rfl⟩:=rx
   cases y with
   | non=>cases ry;exact PySem.EqNone.ne_int_none (aZ I q (by simp))
   | int j=>obtain⟨t',rfl⟩:=ry;exact ne_int (aZ I q (congrArg not qq))
   | str j=>obtain⟨t',rfl⟩:=ry;exact PySem.EqMixed.ne_int_str (aZ I q (by simp))
   | _=>exact absurd (show false=true from hs) Bool.false_ne_true
 | str i =>
   obtain⟨t,rfl⟩:=rx
   cases y with
   | non=>cases ry;exact PySem.EqNone.ne_str_none (aZ I q (by simp))
   | bl j=>cases ry;exact PySem.EqMixed.ne_str_bool (aZ I q (by simp))
   | int j=>obtain⟨t',rfl⟩:=ry;exact PySem.EqMixed.ne_str_int (aZ I q (by simp))
   | str j=>obtain⟨t',rfl⟩:=ry;exact ne_str (aZ I q (congrArg not rl))
   | _=>exact absurd (show false=true from hs) Bool.false_ne_true
 | byt i =>
   obtain⟨t,rfl⟩:=rx
   cases y with
   | byt j=>obtain⟨t',rfl⟩:=ry;exact PySem.W.ne_bytes (aZ I q (congrArg not qN))
   | _=>exact absurd (show false=true from hs) Bool.false_ne_true
 | _=>cases y<;>exact absurd (show false=true from hs) Bool.false_ne_true
theorem qH:OpR X (compareOp .Lt) (rI0 fun i j=>.bl (decide (i<j))):=vy fun _ _ _ _ _ _ _ q=>lt_int q
theorem we:OpR X (compareOp .LtE) (rI0 fun i j=>.bl (decide (i≤j))):=vy fun _ _ _ _ _ _ _ q=>le_int q
theorem qY:OpR X (compareOp .Gt) (rI0 fun i j=>.bl (decide (j<i))):=vy fun _ _ _ _ _ _ _ q=>gt_int q
theorem qy:OpR X (compareOp .GtE) (rI0 fun i j=>.bl (decide (j≤i))):=vy fun _ _ _ _ _ _ _ q=>ge_int q
theorem ik:OpR X (compareOp .Is) (fun x y H Q=>y = .non∧Q (.bl (decide (x = .non))) H):=by
 intro pins s σ H x y v u Q I rx ry h
 obtain⟨rfl,q⟩:=h
 cases ry
 refine is_none_gen (aZ I q ?_)
 cases x<;>first
  | (cases rx;rfl)
  | (obtain⟨t,rfl⟩:=rx;rfl)
theorem jU:OpR X (compareOp .IsNot) (fun x y H Q=>y = .non∧Q (.bl (!decide (x = .non))) H):=by
 intro pins s σ H x y v u Q I rx ry h
 obtain⟨rfl,q⟩:=h
 cases ry
 refine isnot_none_gen (aZ I q ?_)
 cases x<;>first
  | (cases rx;rfl)
  | (obtain⟨t,rfl⟩:=rx;rfl)
theorem aA(b:Expr){op:CmpOp}(h:op≠.In:=by decide)(h2:op≠.NotIn:=by decide):behindInMarks op b=false:=by
 have e1:(op==CmpOp.In)=false:=by cases op<;>first | rfl | exact absurd rfl h
 have e2:(op==CmpOp.NotIn)=false:=by cases op<;>first | rfl | exact absurd rfl h2
 cases b<;>simp[behindInMarks,e1,e2]
theorem cw{op:CmpOp}{r:R2}(ho:OpR X (compareOp op) r)(ha:PE X a ta)(hb:PE X b tb)(hm:behindInMarks op b=false):PE X (.Compare a [op] [b] pos) (tOp r ta tb):=by
 intro pins s σ H Q I h
 exact wpAny_Compare1 (wP ha hb I h fun v u s2 x y H2 I2 rx ry q=>ho pins s2 σ H2 x y v u Q I2 rx ry q) hm
def yo(t:TE):TT:=fun σ H Q=>t σ H fun x H'=>∃ k,x = .bl k∧Q k H'
theorem az{op:CmpOp}{r:R2}(ho:OpR X (compareOp op) r)(ha:PE X a ta)(hb:PE X b tb)(hm:behindInMarks op b=false):PT X (.Compare a [op] [b] pos) (yo (tOp r ta tb)):=by
 intro pins s σ H Q I h
 refine wpAny_isTrue_Compare1 (thn (ha pins s σ H _ I h) fun v s1 ⟨x,H1,I1,r1,q1⟩=>thn (hb pins s1 σ H1 _ I1 q1) fun u s2 ⟨y,H2,I2,r2,q2⟩ =>
  thn (ho pins s2 σ H2 x y v u _ I2 r1 r2 q2) fun c s3 ⟨z,H3,I3,r3,k,e,q3⟩=>?_) hm
 subst e
 cases r3
 exact wpAny_truthy_bool ⟨H3,I3,q3⟩
theorem mY:(sizeLine:Nat)<2^63:=by rw[sizeLine_eq];decide
theorem iI{x:V}{us:List Value}(r:aW [x] us):∃ u,us=[u]∧aR x u:=by
 cases r with
 | cons r1 r2=>cases r2;exact⟨_,rfl,r1⟩
theorem wc{x y:V}{us:List Value}(r:aW [x,y] us):∃ u w',us=[u,w']∧aR x u∧aR y w':=by
 cases r with
 | cons r1 r2 =>
   cases r2 with
   | cons r3 r4=>cases r4;exact⟨_,_,rfl,r1,r3⟩
theorem mE(hc:X.calm=true):dS X (.builtin "max") (fun xs H Q=>∃ i j,xs=[.int i,.int j]∧Q (.int (if j > i then j else i)) H):=by
 intro pins s σ H xs us Q I r h
 obtain⟨i,j,rfl,q⟩:=h
 obtain⟨u,w',rfl,⟨t,rfl⟩,⟨t',rfl⟩⟩:=wc r
 refine max_two_ints (I.ok.hd hc) fun h' tk k=>⟨_,H,I.kept k,?_,q⟩
 by_cases hj:j > i
 ·rw[if_pos hj,if_pos hj];exact⟨_,rfl⟩
 ·rw[if_neg hj,if_neg hj];exact⟨_,rfl⟩
theorem rL(hc:X.calm=true):dS X (.builtin "min") (fun xs H Q=>∃ i j,xs=[.int i,.int j]∧Q (.int (if j<i then j else i)) H):=by
 intro pins s σ H xs us Q I r h
 obtain⟨i,j,rfl,q⟩:=h
 obtain⟨u,w',rfl,⟨t,rfl⟩,⟨t',rfl⟩⟩:=wc r
 refine min_two_ints (I.ok.hd hc) fun h' tk k=>⟨_,H,I.kept k,?_,q⟩
 by_cases hj:j<i
 ·rw[if_pos hj,if_pos hj];exact⟨_,rfl⟩
 ·rw[if_neg hj,if_neg hj];exact⟨_,rfl⟩
end
end L2
namespace L2
open PySem PySem.Spec PyProof.Rows
structure ObjM(h:Heap)(x dx C:Addr)(mA:Str→Option Value):Prop where
 obj:h.get? x=some (PySem.W.instObj C dx)
 ns:h.Ns1 dx mA
 ne:dx≠x
theorem rW{h:Heap}{dx:Addr}{mA:Str→Option Value}(n:h.Ns1 dx mA):∃ od,h.get? dx=some od∧∀ name,PySem.W.lookIn name od=some (mA name):=by
 obtain⟨o,es,ep,ho,hd,hk,_,hm⟩:=n
 refine⟨o,ho,fun name=>?_⟩
 have e:=hm name
 unfold nsFind findBy at e
 rw[← Array.find?_toList]at e
 unfold PySem.W.lookIn
 rw[hd]
 dsimp only
 split
 ·rename_i y q
  rw[q]at e
  exact congrArg some e
 ·rename_i q
  rw[q]at e
  have a:es.toList.any (·.refKey)=false:=by
   rw[List.any_eq_false]
   intro y hy
   obtain⟨z,t,hkey⟩:=hk y (Array.mem_toList_iff.mp hy)
   simp[DictEntry.refKey,hkey]
  have a' : ¬ es.toList.any (·.refKey)=true:=by rw[a];exact Bool.false_ne_true
  rw[if_neg a']
  exact congrArg some e
theorem ObjM.look{h:Heap}{x dx C:Addr}{mA:Str→Option Value}(I:ObjM h x dx C mA):∃ od,PySem.W.InstAt h x (PySem.W.instObj C dx) C (some od)∧∀ name,PySem.W.lookIn name od=some (mA name) :=
 let⟨od,ho,hl⟩:=rW I.ns
 ⟨od,⟨I.obj,rfl,rfl,ho⟩,hl⟩
section
variable {prog:Program}{w:World}{A:Around}{E:Value→Shared→Prop}{s:Shared}{K:PySem.W.Frag}{x dx C f:Addr}{mA:Str→Option Value}{name:Str}{v:Value}
end
theorem ix.some_of{v:V}{o:Option Value}(r:ix (some v) o):∃ u,o=some u∧aR v u:=by
 cases o with
 | none=>exact(show False from r).elim
 | some u=>exact⟨u,rfl,r⟩
section
variable {P:Program}{w:World}{H H' : Hp}{h h' : Heap}{a C dx:Addr}{fs fs' : List (Str×V)}
theorem u4(hok:HOk P w H h)(e:H a=some (.ins C dx fs)):∃ mA,ObjM h a dx C mA∧(∀ f,ix (fs.lookup f) (mA f))∧PySem.Within mA (fs.map (·.1))∧fs.length≤1000∧H dx=some (.own a):=by
 obtain⟨d,z,ne,ob,mA,n,r,q⟩:=(show aV P w H h a (.ins C dx fs) from hok a _ e)
 exact⟨mA,⟨ob,n,ne⟩,r,q,z,d⟩
end
structure Cls(K:PySem.W.Frag)(C:Addr):Prop where
 pg:PySem.W.plainGet K C Str.empty=true
 hd:PySem.W.hasDictIn K C=true
 po:PySem.W.plainOver K C=true
 sa:PySem.W.findIn K (.ref C) "__setattr__"=some (some (.builtin "object.__setattr__"))
theorem Cls.get{K:PySem.W.Frag}{C:Addr}(c:Cls K C)(f:Str):PySem.W.plainGet K C f=true:=c.pg
section
variable {X:Cx}{pins:List (Addr×Obj)}{σ:St}{H:Hp}{s:Shared}{a C dx:Addr}{fs:List (Str×V)}{f:Str}{v:V}{A:Around}{E:Value→Shared→Prop}
end
section
variable {X:Cx}{o e value:Expr}{f:Str}{pos pos' tpos:Pos}{ta tv:TE}
end
section
variable {X:Cx}{pins:List (Addr×Obj)}{σ:St}{H:Hp}{s:Shared}{A:Around}{E:Value→Shared→Prop}{Q:Value→Shared→Prop}{c:Value}{b:Bool}
inductive TyOf(K:PySem.W.Frag)(H:Hp):V→Value→Prop where
 | non:TyOf K H .non (.type "NoneType")
 | bl (x:Bool):TyOf K H (.bl x) (.type "bool")
 | int (i:Int):TyOf K H (.int i) (.type "int")
 | str (x:Str):TyOf K H (.str x) (.type "str")
 | flt (x:UInt64):TyOf K H (.flt x) (.type "float")
 | lst {a:Addr} {xs:List V} (e:H a=some (.lst xs)):TyOf K H (.ref a) (.type "list")
 | frz {a:Addr} {o:Obj} {xs:List V} (e:H a=some (.frz o (.lst xs))):TyOf K H (.ref a) (.type "list")
 | tup {a:Addr} {xs:List V} (e:H a=some (.tup xs)):TyOf K H (.ref a) (.type "tuple")
 | dK {a:Addr} {kvs:List (Key×V)} (e:H a=some (.dK kvs)):TyOf K H (.ref a) (.type "dict")
 | dT {a:Addr} {kvs:List (List Key×V)} (e:H a=some (.dT kvs)):TyOf K H (.ref a) (.type "dict")
 | ins {a C dx:Addr} {fs:List (Str×V)} (e:H a=some (.ins C dx fs)) (cl:Cls K C) (ha:PySem.W.findIn K (.ref C) "__class__"=some (some (.builtin "object.__class__")))
  (hn:PySem.W.specialIn K (.builtin "object.__class__") "__get__"=some (some (.builtin "getset_descriptor.__get__"))) (htk:PySem.W.takesIn K (.builtin "object.__class__")=some true)
  (hm:PySem.W.mroIn K C (.type "object")=some true):TyOf K H (.ref a) (.ref C)
theorem si{x:V}{u t:Value}(I:Inv X pins σ H s)(rx:aR x u)(ty:TyOf X.K H x t)(e:PySem.W.kitOne X.K t c=some b)(h:∀ tk,Q (.bool b) { s with toks:=tk}):
 wpAny (model X.prog X.w) A (call (.builtin "isinstance") [u,c]) Q E s:=by
 cases ty with
 | non=>cases(show u=Value.none from rx);exact PySem.W.kia_one PySem.W.kitx_none I.kIn True.intro e (fun z=>nomatch z) h
 | bl y=>cases(show u=Value.bool y from rx);exact PySem.W.kia_one PySem.W.kitx_bool I.kIn True.intro e (fun z=>nomatch z) h
 | int i=>obtain⟨t,q⟩:=(show ∃ t,u=Value.int i t from rx);cases q;exact PySem.W.kia_one PySem.W.kitx_int I.kIn True.intro e (fun z=>nomatch z) h
 | str y=>obtain⟨t,q⟩:=(show ∃ t,u=Value.str y t from rx);cases q;exact PySem.W.kia_one PySem.W.kitx_str I.kIn True.intro e (fun z=>nomatch z) h
 | flt y=>obtain⟨t,q⟩:=(show ∃ t,u=Value.float y t from rx);cases q;exact PySem.W.kia_one PySem.W.kitx_float I.kIn True.intro e (fun z=>nomatch z) h
 | @lst a xs ea =>
   cases(show u=Value.ref a from rx)
   obtain⟨_,_,n,_,h1⟩:=(show aV X.prog X.w H s.heap a (.lst xs) from I.hok a _ ea)
   exact PySem.W.kia_one PySem.W.kitx_list I.kIn ⟨_,h1,rfl⟩ e (fun z=>nomatch z) h
 | @frz a ob xs ea =>
   cases(show u=Value.ref a from rx)
   obtain⟨_,_,_,n,_,h1⟩:=(show aV X.prog X.w H s.heap a (.frz ob (.lst xs)) from I.hok a _ ea)
   exact PySem.W.kia_one PySem.W.kitx_list I.kIn ⟨_,h1,rfl⟩ e (fun z=>nomatch z) h
 | @tup a xs ea =>
   cases(show u=Value.ref a from rx)
   obtain⟨_,_,_,p⟩:=(show aV X.prog X.w H s.heap a (.tup xs) from I.hok a _ ea)
   obtain⟨o,h1,h2,_⟩:=p
   exact PySem.W.kia_one PySem.W.kitx_tuple I.kIn ⟨o,h1,h2⟩ e (fun z=>nomatch z) h
 | @dK a kvs ea =>
   cases(show u=Value.ref a from rx)
   obtain⟨_,_,vs,_,p⟩:=(show aV X.prog X.w H s.heap a (.dK kvs) from I.hok a _ ea)
   obtain⟨o,es,ep,h1,h2,_⟩:=p
   exact PySem.W.kia_one PySem.W.kitx_dict I.kIn ⟨o,h1,h2.1⟩ e (fun z=>nomatch z) h
 | @dT a kvs ea =>
   cases(show u=Value.ref a from rx)
   obtain⟨_,_,xs,_,o,es,ep,h1,h2,_⟩:=(show aV X.prog X.w H s.heap a (.dT kvs) from I.hok a _ ea)
   exact PySem.W.kia_one PySem.W.kitx_dict I.kIn ⟨o,h1,h2.1⟩ e (fun z=>nomatch z) h
 | @ins a C dx fs ea cl ha hn htk hm =>
   cases(show u=Value.ref a from rx)
   obtain⟨mA,O,_⟩:=u4 I.hok ea
   obtain⟨od,J,_⟩:=O.look
   exact PySem.W.kia_one (PySem.W.kitx_own (cl.get _) cl.hd ha hn htk hm) I.kIn J e (fun z=>nomatch z) h
end
end L2
namespace L2
open PySem PySem.Spec PyProof.Rows
structure Room(k:Nat)(A:Around):Prop where
 hd:A.handled=none
 dp:A.depth+3*k+5<recursionLimit
 un:A.units+16*k+200<cLine
theorem Room.mono{j k:Nat}{A:Around}(r:Room k A)(h:j≤k):Room j A:=⟨r.hd,by have:=r.dp;(first|lia|omega),by have:=r.un;(first|lia|omega)⟩
theorem Room.deeper{k:Nat}{A:Around}(r:Room (k+1) A)(env:Env):Room k (A.deeper env) :=
 ⟨r.hd,by have:=r.dp;show A.depth+1+3*k+5<_;(first|lia|omega),by have:=r.un;show A.units+3+16*k+200<_;(first|lia|omega)⟩
theorem Room.in1{k:Nat}{A:Around}(r:Room (k+1) A):Room k A.in1 :=
 ⟨r.hd,by have:=r.dp;show A.depth+3*k+5<_;(first|lia|omega),by have:=r.un;show A.units+1+16*k+200<_;(first|lia|omega)⟩
theorem Room.depth{k:Nat}{A:Around}(r:Room k A):A.depth<recursionLimit:=by have:=r.dp;(first|lia|omega)
theorem Room.units{k:Nat}{A:Around}(r:Room k A):A.units+64<cLine:=by have:=r.un;(first|lia|omega)
theorem Room.units0{k:Nat}{A:Around}(r:Room k A):A.units<cLine:=by have:=r.un;(first|lia|omega)
def yA:TA:=fun _ H Q=>Q [] H
def xD(ta:TE)(tr:TA):TA:=fun σ H Q=>ta σ H fun x H1=>tr σ H1 fun xs H2=>Q (x::xs) H2
section
variable {X:Cx}{e:Expr}{es:List Expr}{te:TE}{t:TA}{pos:Pos}
theorem ah:PA X [] yA:=fun _ _ _ _ H Q I h=>Calls.spliced_nil ⟨[],H,I,.nil,h⟩
theorem aa(ha:PE X e te)(hr:PA X es t)(hs:starEach (e::es) X.env=(false,eval e X.env)::starEach es X.env:=by rfl):PA X (e::es) (xD te t):=by
 intro pos pins s σ H Q I h
 rw[hs]
 show wpAny _ _ (spliced ((false,eval e X.env)::backTo pos (starEach es X.env))) _ _ s
 refine Calls.spliced_cons (thn (ha pins s σ H _ I h) fun u s1 ⟨x,H1,I1,r1,q1⟩=>?_)
 exact thn (hr pos pins s1 σ H1 _ I1 q1) fun us s2 ⟨xs,H2,I2,r2,q2⟩=>⟨x::xs,H2,I2,.cons r1 r2,q2⟩
def yE(t:TA):TE:=fun σ H Q=>t σ H fun xs H1=>xs.length≤sizeLine∧∀ p,H1 p=none→Q (.ref p) (upd H1 p (.tup xs))
def yP(t:TA):TE:=fun σ H Q=>t σ H fun xs H1=>xs.length≤sizeLine∧∀ p,H1 p=none→Q (.ref p) (upd H1 p (.lst xs))
theorem bB{x1}(h:PA X es t):PE X (.Tuple es x1 pos) (yE t):=by
 intro pins s σ H Q I hq
 refine wpAny_Tuple_spliced (thn (h pos pins s σ H _ I hq) fun us s1 ⟨xs,H1,I1,r,z,q⟩=>⟨by rw[← r.length];exact z,?_⟩)
 have hf:H1 s1.heap.objs.size=none:=I1.hok.fresh (Nat.le_refl _)
 refine⟨.ref s1.heap.objs.size,upd H1 s1.heap.objs.size (.tup xs),I1.laid (t':=s1.toks) (fun b u e=>Heap.get?_push_of_some _ e) (Nat.le_refl _) ?_,rfl,q _ hf⟩
 exact⟨z,us,r,⟨_,Heap.get?_push_size _ rfl,rfl,_,rfl⟩⟩
theorem da(h:PA X es t):PE X (.List es pos) (yP t):=by
 intro pins s σ H Q I hq
 refine wpAny_List_spliced (thn (h pos pins s σ H _ I hq) fun us s1 ⟨xs,H1,I1,r,z,q⟩=>⟨by rw[← r.length];exact z,?_⟩)
 have hf:H1 s1.heap.objs.size=none:=I1.hok.fresh (Nat.le_refl _)
 refine⟨.ref s1.heap.objs.size,upd H1 s1.heap.objs.size (.lst xs),I1.laid (t':=s1.toks) (fun b u e=>Heap.get?_push_of_some _ e) (Nat.le_refl _) ?_,rfl,q _ hf⟩
 exact⟨z,us,0,r,Heap.get?_push_size _ rfl⟩
end
abbrev Sp:=List V→Hp→VK→XK→Prop
abbrev CXT:=List Env→Hp→Shared→XK→Value→Shared→Prop
structure Env0(P:Program)(w:World)(K:PySem.W.Frag)(mg:Str→Option Value)(base:Heap)(A:Around)(outer:List Env)(s:Shared)(H:Hp):Prop where
 frames:A.frames=some outer
 mod:Mod K mg base
 bs:∀ b o,base.get? b=some o→s.heap.get? b=some o∧H b=none
 bsz:base.objs.size≤s.heap.objs.size
 funs:s.heap.FunFrames base outer
 frf:∀ b∈frs outer,H b=none
 hok:HOk P w H s.heap
 bare:AllBare s.gens
def CE(outer:List Env)(P:Program)(w:World)(H:Hp)(s:Shared)(Q:VK)(u:Value)(s' : Shared):Prop :=
 ∃ v H',s'.os=s.os∧AllBare s'.gens∧Un (frs outer) [] H H' s.heap s'.heap∧HOk P w H' s'.heap∧aR v u∧Q v H'
def CR(CX:CXT)(outer:List Env)(P:Program)(w:World)(H:Hp)(s:Shared)(Q:VK)(E:XK)(r:Result)(s' : Shared):Prop :=
 match r with
 | .ok (.ret u)=>CE outer P w H s Q u s'
 | .ok _=>False
 | .error e=>CX outer H s E e s'
structure FnOk(P:Program)(w:World)(K:PySem.W.Frag)(mg:Str→Option Value)(base:Heap)(CX:CXT)(k:Nat)(f:Addr)(fd:FuncData)(ps:List Str)(sp:Sp):Prop where
 len:∀ vs H Q E,sp vs H Q E→vs.length=ps.length
 run:∀(A:Around) (outer:List Env) (s:Shared) (H:Hp) (args:Args) (us:List Value) (vs:List V) (Q:VK) (E:XK),Room k A→Env0 P w K mg base A outer s H→BindsTo s fd args (ps.zip us)→aW vs us→sp vs H Q E→
  codeAny (model P w) A (.call (.ref f) args) (CR CX outer P w H s Q E) s
section
variable {X:Cx}{pins:List (Addr×Obj)}{σ:St}{H:Hp}{s s' : Shared}
theorem Inv.env0(I:Inv X pins σ H s):Env0 X.prog X.w X.K X.mg X.base X.A X.stack s H :=
 ⟨I.ok.frames,I.ok.mod,I.bs,Nat.le_trans I.ok.bsz I.sz,I.stack,I.stkFree,I.hok,I.bare⟩
theorem Inv.after{Q:VK}{u:Value}(I:Inv X pins σ H s)(h:CE X.stack X.prog X.w H s Q u s'):EP X pins σ Q u s':=by
 obtain⟨v,H',os,bare,un,hok,r,q⟩:=h
 obtain⟨hh,g,d,t,os'⟩:=s'
 obtain rfl:os' = s.os:=os
 exact⟨v,H',I.call (h':=hh) (g':=g) (d':=d) (t':=t) (ch:=[]) un hok bare (fun b z=>absurd z (by simp)),r,q⟩
end
def xY(sp:Sp)(dvs:List V)(E:XK)(t:TA):TE:=fun σ H Q=>t σ H fun vs H1=>sp (vs++dvs) H1 Q E
def aU(K:PySem.W.Frag)(fd:FuncData)(ps:List Str)(ds:List Value):Prop :=
 ∀(s:Shared) (us:List Value),K.In s.heap→(us++ds).length=ps.length→BindsTo s fd ⟨us,[]⟩ (ps.zip (us++ds))
theorem aU.all{K:PySem.W.Frag}{fd:FuncData}{ps:List Str}(h:∀ us:List Value,us.length=ps.length→bindArgs fd ⟨us,[]⟩=pure (ps.zip us)):aU K fd ps []:=fun s us _ hl=>by
 rw[List.append_nil]at hl ⊢
 exact .of_eq (h us hl)
def kW(CX:CXT)(X:Cx)(E:XK):Prop:=∀(pins:List (Addr×Obj)) (σ:St) (H:Hp) (s:Shared) (e:Value) (s' : Shared),Inv X pins σ H s→CX X.stack H s E e s'→X.xe e s'
section
variable {X:Cx}{CX:CXT}{k:Nat}{f C:Addr}{fd:FuncData}{ps:List Str}{sp:Sp}{dvs:List V}{ds:List Value}{E:XK}{x m:Str}{p pos apos:Pos}{e o:Expr}{es:List Expr}{ta:TE}{t:TA}
theorem xn{pins:List (Addr×Obj)}{σ:St}{H:Hp}{s:Shared}{Q:VK}{us:List Value}{vs:List V}(F:FnOk X.prog X.w X.K X.mg X.base CX k f fd ps sp)(hr:Room k X.A)(hb:aU X.K fd ps ds)(hd:aW dvs ds)(hx:kW CX X E)
 (I:Inv X pins σ H s) (r:aW vs us) (h:sp (vs++dvs) H Q E):wpAny (model X.prog X.w) X.A (call (.ref f) us) (EP X pins σ Q) X.xe s:=by
 have r2:aW (vs++dvs) (us++ds):=r.append hd
 have hl:(us++ds).length=ps.length:=by rw[← r2.length];exact F.len _ _ _ _ h
 refine wpAny_call (codeAny_mono (F.run X.A X.stack s H ⟨us,[]⟩ (us++ds) (vs++dvs) Q E hr I.env0 (hb s us I.kIn hl) r2 h) fun r s' hq=>?_)
 cases r with
 | error e=>exact hx pins σ H s e s' I hq
 | ok fl =>
   cases fl with
   | ret u=>exact I.after hq
   | next=>exact False.elim hq
   | brk=>exact False.elim hq
   | cont=>exact False.elim hq
theorem aw(F:FnOk X.prog X.w X.K X.mg X.base CX k f fd ps sp)(hr:Room k X.A)(hg:Gl X x)(hm:X.mg x=some (.ref f))(hk:PySem.W.keepIn X.K (.ref f)=true)(hb:aU X.K fd ps ds)(hd:aW dvs ds)(hx:kW CX X E)
 (ha:PA X (e::es) t) (hdb:(x==("__debug__":Str))=false:=by decide) (he:starEach (e::es) X.env=(false,eval e X.env)::starEach es X.env:=by rfl) (hpl:(backTo pos (starEach es X.env)).any (·.1)=false:=by rfl) :
 PE X (.Call (.Name x p) (e::es) [] pos) (xY sp dvs E t):=by
 intro pins s σ H Q I h
 refine wpAny_Call_Name_kw (qK I hg hm ?_ hdb)
 refine PySem.W.callWith_K (h₀:=X.base) I.ok.mod.kin hk (thn (ha pos pins s σ H _ I h) fun us s1 ⟨vs,H1,I1,r,q⟩=>⟨I1.kIn,?_⟩) he hpl
 exact xn F hr hb hd hx I1 r q
end
section
variable {X:Cx}{CX:CXT}{k:Nat}{f C:Addr}{fd:FuncData}{ps ks:List Str}{sp:Sp}{E:XK}{x m:Str}{p pos apos kpos:Pos}{e o:Expr}{es:List Expr}{kws:List Keyword}{te ta:TE}{t tk:TA}{nm:Option Str}
variable {g:List Value→List Value→List Value}{gV:List V→List V→List V}
end
structure FnScope(N P:List Str)(sc:Scope):Prop where
 kind:sc.kind = .function
 co:sc.isCoroutine=false
 gen:sc.isGenerator=false
 nd:N.Nodup
 pre:N.take P.length=P
 par:∀ x∈P,sc.names.lookup x=some .local∨sc.names.lookup x=some .cell
 nofree:∀ y∈sc.names,y.2≠.free
theorem lT{kindOf:Str→Option NameKind}{x:Str}:∀{binds:List (Str×Value)} {m:Str→Option Value},(∀ v,(x,v)∉binds)→bindL kindOf binds m x=m x
 | [],_,_=>rfl
 | (n,v)::r,m,h=>by
   unfold bindL
   rw[lT fun w hw=>h w (List.mem_cons_of_mem _ hw)]
   split
   ·have:x≠n:=by rintro rfl;exact h v List.mem_cons_self
    simp[this]
   ·rfl
theorem ml{kindOf:Str→Option NameKind}{x:Str}:∀{binds:List (Str×Value)} {m:Str→Option Value},(∀ v,(x,v)∉binds)→bindC kindOf binds m x=m x
 | [],_,_=>rfl
 | (n,v)::r,m,h=>by
   unfold bindC
   rw[ml fun w hw=>h w (List.mem_cons_of_mem _ hw)]
   split
   ·rfl
   ·have:x≠n:=by rintro rfl;exact h v List.mem_cons_self
    simp[this]
theorem lQ{kindOf:Str→Option NameKind}{x:Str}{v:Value}:∀{P:List Str} {vs:List Value} {i:Nat} {m:Str→Option Value},P.Nodup→P[i]?=some x→vs[i]?=some v→kindOf x=some .local→
 bindL kindOf (P.zip vs) m x=some v
 | [],_,_,_,_,h,_,_=>by simp at h
 | _::_,[],_,_,_,_,h,_=>by simp at h
 | p::P,w::vs,0,m,nd,h1,h2,hk=>by
   simp at h1 h2;subst h1;subst h2
   show bindL kindOf ((p,w)::P.zip vs) m p=_
   unfold bindL
   rw[lT fun v hv=>(List.nodup_cons.mp nd).1 (List.of_mem_zip hv).1,if_pos hk]
   simp
 | p::P,w::vs,i+1,m,nd,h1,h2,hk=>by
   show bindL kindOf ((p,w)::P.zip vs) m x=_
   unfold bindL
   exact lQ (i:=i) (List.nodup_cons.mp nd).2 (by simpa using h1) (by simpa using h2) hk
theorem lH{kindOf:Str→Option NameKind}{x:Str}{v:Value}:∀{P:List Str} {vs:List Value} {i:Nat} {m:Str→Option Value},P.Nodup→P[i]?=some x→vs[i]?=some v→kindOf x≠some .local→
 bindC kindOf (P.zip vs) m x=some v
 | [],_,_,_,_,h,_,_=>by simp at h
 | _::_,[],_,_,_,_,h,_=>by simp at h
 | p::P,w::vs,0,m,nd,h1,h2,hk=>by
   simp at h1 h2;subst h1;subst h2
   show bindC kindOf ((p,w)::P.zip vs) m p=_
   unfold bindC
   rw[ml fun v hv=>(List.nodup_cons.mp nd).1 (List.of_mem_zip hv).1,if_neg hk]
   simp
 | p::P,w::vs,i+1,m,nd,h1,h2,hk=>by
   show bindC kindOf ((p,w)::P.zip vs) m x=_
   unfold bindC
   exact lH (i:=i) (List.nodup_cons.mp nd).2 (by simpa using h1) (by simpa using h2) hk
def start(N:List Str)(vs:List V):St:=vs.map some++List.replicate (N.length-vs.length) none
def mS(CX:CXT)(P:Program)(w:World)(K:PySem.W.Frag)(mg:Str→Option Value)(base:Heap)(N:List Str)(qual:Str)(scope:Scope)(f:Addr)(cd:Value)(A:Around)(outer:List Env)(s:Shared)(H:Hp)(E:XK):Cx where
 prog:=P
 w:=w
 K:=K
 mg:=mg
 base:=base
 A:=A.deeper (envOfC qual scope s.heap.objs.size f cd)
 N:=N
 s₀:=s
 H₀:=H
 env:=envOfC qual scope s.heap.objs.size f cd
 outer:=outer
 stack:=envOfC qual scope s.heap.objs.size f cd::outer
 ex:=[]
 calm:=true
 fn:=fun _=>true
 pn:=[]
 xe:=fun e s'=>wpAny (model P w) (A.deeper (envOfC qual scope s.heap.objs.size f cd)) (leaving (envOfC qual scope s.heap.objs.size f cd) e) (fun _ s''=>CX outer H s E e s'') (fun e' s''=>CX outer H s E e' s'') s'
theorem oU{sc:Scope}{n:Nat}{x:Str}(h:sc.names.lookup x=some .cell):∃ c,(cellsFrom n sc.names []).lookup x=some c:=by
 have q:=PySem.W.cellsFrom_some sc.names n [] (.inl h)
 exact Option.isSome_iff_exists.mp q
theorem rm{CX:CXT}{P:Program}{w:World}{K:PySem.W.Frag}{mg:Str→Option Value}{base:Heap}{N ps:List Str}{qual:Str}{scope:Scope}{f:Addr}{cd:Value}{A:Around}{outer:List Env}{s s1:Shared}{H:Hp}{E:XK}{us:List Value}{vs:List V}
 (S:FnScope N ps scope) (hd:A.handled=none) (e0:Env0 P w K mg base A outer s H) (hl:vs.length=ps.length) (r:aW vs us)
 (x:InCallC s s.heap.objs.size (bindL (envOfC qual scope s.heap.objs.size f cd).kindOf (ps.zip us) fun _=>none) (cellsFrom (s.heap.objs.size+1) scope.names []) (bindC (envOfC qual scope s.heap.objs.size f cd).kindOf (ps.zip us) fun _=>none) s1) :
 Inv (mS CX P w K mg base N qual scope f cd A outer s H E) [] (start N vs) H s1:=by
 have hpl:ps.length≤N.length:=by have:=congrArg List.length S.pre;rw[List.length_take]at this;(first|lia|omega)
 obtain⟨h1,tk,rfl,hk⟩:=x.done
 have noA:∀ b:Addr,b∉(mS CX P w K mg base N qual scope f cd A outer s H E).ex:=fun b z=>absurd (show b∈([]:List Addr) from z) (by simp)
 refine⟨⟨e0.mod,S.kind,rfl,rfl,Nat.le_refl _,fun y z c h1 h2=>?_,fun y hy=>?_,fun y c _ h=>?_,fun _=>hd,Around.frames_deeper e0.frames,.inr ⟨rfl,rfl⟩,fun b z=>absurd z (noA b),e0.bs,e0.bsz,fun b _ _=>noA b,fun b z=>absurd z (noA b),e0.funs,e0.frf⟩,
  rfl,e0.bare,Un.kept hk,⟨_,x.toInCall.ns,fun i y v h1 h2 h3=>?_⟩,fun y c h=>⟨_,x.cell y c h⟩,e0.hok.fresh (Nat.le_refl _),fun y c h=>?_,fun p hp=>absurd (show p∈([]:List (Addr×Obj)) from hp) (by simp),e0.hok.kept hk,?_⟩
 ·exact name_of_addr x.apart (PySem.mem_of_lookup h1) (PySem.mem_of_lookup h2)
 ·have hy:scope.names.lookup y=some .cell∨scope.names.lookup y=some .free:=hy
  rcases hy with hy|hy
  ·exact oU hy
  ·exact absurd rfl (S.nofree _ (PySem.mem_of_lookup hy))
 ·exact Nat.le_of_lt (x.above y c (PySem.mem_of_lookup h))
 ·have hi:i<vs.length:=by
   unfold start at h2
   by_cases hi:i<vs.length
   ·exact hi
   ·rw[List.getElem?_append_right (by simpa using hi)]at h2
    rw[List.getElem?_replicate]at h2
    split at h2<;>cases h2
  have ha:vs[i]?=some v:=by
   unfold start at h2
   rw[List.getElem?_append_left (by simpa using hi),List.getElem?_map]at h2
   cases e:vs[i]? with
   | none=>rw[e]at h2;cases h2
   | some a=>rw[e]at h2;cases h2;rfl
  obtain⟨u,hu,rv⟩:=r.get ha
  have hp:ps[i]?=some y:=by
   rw[← S.pre,List.getElem?_take_of_lt (by(first|lia|omega))];exact h1
  have ndP:ps.Nodup:=by rw[← S.pre];exact S.nd.sublist (List.take_sublist _ _)
  refine⟨u,rv,?_⟩
  rcases S.par y (List.mem_of_getElem? hp) with k|k
  ·exact .inl ⟨k,lQ ndP hp hu k⟩
  ·obtain⟨c,e⟩:=oU (n:=s.heap.objs.size+1) k
   refine .inr ⟨.inl k,c,e,?_⟩
   have q:=x.cell y c e
   rw[lH ndP hp hu (by show scope.names.lookup y≠_;rw[k];decide)]at q
   exact q
 ·exact e0.hok.fresh (Nat.le_of_lt (x.above y c (PySem.mem_of_lookup h)))
 ·unfold start
  show _=N.length
  rw[List.length_append,List.length_map,List.length_replicate]
  (first|lia|omega)
theorem tR{CX:CXT}{P:Program}{w:World}{K:PySem.W.Frag}{mg:Str→Option Value}{base:Heap}{k:Nat}{f:Addr}{name qual:Str}{params:Arguments}{body:List Stmt}{scope:Scope}{dV kV doc pm cdv ct oc:Value}{an od:Option Addr}
 {osl:Array (Option Value)} {N ps:List Str} {sp:Sp} (lk:K.lookup f=some ⟨oc,od,.func (PySem.W.fnOf name qual params body scope dV kV doc pm an cdv ct),osl⟩) (hcd:PySem.W.codeIn K cdv qual=true) (S:FnScope N ps scope)
 (len:∀ vs H Q E,sp vs H Q E→vs.length=ps.length)
 (hbody:∀(A:Around) (outer:List Env) (s:Shared) (H:Hp) (vs:List V) (Q:VK) (E:XK),Room k (A.deeper (envOfC qual scope s.heap.objs.size f cdv))→sp vs H Q E→
  ∃ t,PSs (mS CX P w K mg base N qual scope f cdv A outer s H E) body t∧t { nx:=fun _ H'=>Q .non H',rt:=Q} (start N vs) H) :
 FnOk P w K mg base CX (k+1) f (PySem.W.fnOf name qual params body scope dV kV doc pm an cdv ct) ps sp:=by
 refine⟨len,fun A outer s H args us vs Q E hr e0 hb r hsp=>?_⟩
 have hl:=len _ _ _ _ hsp
 have KX:K.In s.heap:=e0.mod.kin.keeps fun b o e=>(e0.bs b o e).1
 have lim:s.heap.NoLimit:=e0.mod.nolimit.keeps fun b o e=>(e0.bs b o e).1
 have hkind:∀ y∈ps.zip us,scope.names.lookup y.1=some .local∨(scope.names.lookup y.1=some .cell∧((cellsFrom (s.heap.objs.size+1) scope.names []).lookup y.1).isSome=true):=fun⟨n,v⟩ hy=>by
  rcases S.par n (List.of_mem_zip hy).1 with q|q
  ·exact .inl q
  ·exact .inr ⟨q,PySem.W.cellsFrom_some _ _ _ (.inl q)⟩
 refine codeAny_call_function hr.depth (KX _ _ lk) rfl S.co S.gen rfl (PySem.W.codeRec_of KX hcd) (hb _ _ _ _ ?_)
 refine wpAny_newFunctionEnv_cells S.kind hkind fun env he s1 x=>?_
 subst he
 refine⟨lim.keeps x.toInCall.keep,codeAny_func ?_⟩
 obtain⟨t,ht,hq⟩:=hbody A outer s H vs Q E (hr.deeper _) hsp
 have I:Inv (mS CX P w K mg base N qual scope f cdv A outer s H E) [] (start N vs) H s1:=rm S hr.hd e0 hl r x
 refine wpAny_mono (ht [] s1 (start N vs) H _ I hq) (fun fl s' hs=>?_) fun e s' hs=>hs
 have fin:∀{σ' : St} {H' : Hp} {v:V} {u:Value},Inv (mS CX P w K mg base N qual scope f cdv A outer s H E) [] σ' H' s'→aR v u→Q v H'→CE outer P w H s Q u s' :=
  fun {σ' H' v u} J rv q=>⟨v,H',J.os,J.bare,J.base,J.hok,rv,q⟩
 cases fl with
 | ret u =>
   obtain⟨v,σ',H',J,rv,q⟩:=hs
   exact fin J rv q
 | next =>
   obtain⟨σ',H',J,q⟩:=hs
   exact fin (v:=V.non) (u:=Value.none) J rfl q
 | brk =>
   obtain⟨_,_,_,q⟩:=hs
   exact False.elim q
 | cont =>
   obtain⟨_,_,_,q⟩:=hs
   exact False.elim q
end L2
namespace L2
open PySem PySem.Spec PyProof.Rows
section
variable {X:Cx}{x:Str}{p pos:Pos}{e:Expr}{es:List Expr}{t:TA}{id T:String}{r:List V→Hp→VK→Prop}
def tCB(r:List V→Hp→VK→Prop)(t:TA):TE:=fun σ H Q=>t σ H fun vs H1=>r vs H1 Q
theorem aD(hc:dS X (.builtin id) r)(hg:Gl X x)(hm:X.mg x=none)(hv:bootBuiltins x=some (.builtin id))(ha:PA X (e::es) t)(hn:x≠"__name__":=by decide)(hdb:(x==("__debug__":Str))=false:=by decide)
 (he:starEach (e::es) X.env=(false,eval e X.env)::starEach es X.env:=by rfl) (hpl:(backTo pos (starEach es X.env)).any (·.1)=false:=by rfl):PE X (.Call (.Name x p) (e::es) [] pos) (tCB r t):=by
 intro pins s σ H Q I h
 refine wpAny_Call_Name_kw (gr I hg hm hv ?_ hn hdb)
 exact PyProof.Rows.callWith_builtin1 (thn (ha pos pins s σ H _ I h) fun us s1 ⟨vs,H1,I1,r1,q1⟩=>hc pins s1 σ H1 vs us Q I1 r1 q1) he hpl
theorem cH(hc:dS X (.type T) r)(hg:Gl X x)(hm:X.mg x=none)(hv:bootBuiltins x=some (.type T))(ha:PA X (e::es) t)(hn:x≠"__name__":=by decide)(hdb:(x==("__debug__":Str))=false:=by decide)
 (he:starEach (e::es) X.env=(false,eval e X.env)::starEach es X.env:=by rfl) (hpl:(backTo pos (starEach es X.env)).any (·.1)=false:=by rfl):PE X (.Call (.Name x p) (e::es) [] pos) (tCB r t):=by
 intro pins s σ H Q I h
 refine wpAny_Call_Name_kw (gr I hg hm hv ?_ hn hdb)
 exact PyProof.Rows.callWith_type1 (thn (ha pos pins s σ H _ I h) fun us s1 ⟨vs,H1,I1,r1,q1⟩=>hc pins s1 σ H1 vs us Q I1 r1 q1) he hpl
end
end L2
namespace HT
open PySem PyProof.Rows
def bG:List Int→List Int→Bool
 | [],[]=>false
 | [],_::_=>true
 | _::_,[]=>false
 | x::xs,y::ys=>if x=y then bG xs ys else decide (x<y)
theorem du(x y:Int)(xs ys:List Int):bG (x::xs) (y::ys)=if x=y then bG xs ys else decide (x<y):=rfl
theorem hG:bG [] []=false:=rfl
theorem ln(y:Int)(ys:List Int):bG [] (y::ys)=true:=rfl
theorem dm(x:Int)(xs:List Int):bG (x::xs) []=false:=rfl
theorem nM(A:Around)(s:Shared)(a:Int)(t:Tok)(c:Int)(u:Tok):∃ e,SeqAt.EqAt A s (.int a t) (.int c u) e∧(e=true↔a=c) :=
 ⟨(a==c),SeqAt.EqAt.int_int a t c u,by simp⟩
theorem sS(A:Around)(s:Shared)(a:Int)(t:Tok)(c:Int)(u:Tok)(prog:Program)(w:World)(E:Value→Shared→Prop)(Q:Value→Shared→Prop)(h:Q (.bool (decide (a<c))) s):
 wpAny (model prog w) A (richCompare .Lt (.int a t) (.int c u)) Q E s :=
 (PyProof.Rows.lt_int h:wpAny (model prog w) A (compareOp .Lt (.int a t) (.int c u)) Q E s)
section
open PySem.SeqAt
open PySem.AutoSeq1 (wpAny_loadPart')
open PySem.MeetsSeq PySem.MeetsSeq2 PySem.MeetsSeq3
theorem lD(l b:Addr)(items items2:Array Value)(n n2:Nat)(dd dd2:Option Addr)(sl sl2:Array (Option Value))(ns ms:List Int)(hi:IntsAre items.toList ns)(hj:IntsAre items2.toList ms):
 Meets (Builtin.«tuple.__lt__» ⟨[.ref l,.ref b],[]⟩)
  (fun _ R s=>s.heap.get? l=some { cls:=.type "tuple",dict:=dd,data:=.seq items n,slots:=sl}∧s.heap.get? b=some { cls:=.type "tuple",dict:=dd2,data:=.seq items2 n2,slots:=sl2}∧
   R (.ok (.ret (.bool (bG ns ms)))) s) :=
 .of_wp fun prog w A R s h=>by
  obtain⟨hp,g,d,tk,os⟩:=s;obtain⟨hl,hb,h⟩:=h
  have f2:=AutoSeq1.sub_tuple_tuple
  have z1:items.size=ns.length:=by rw[← hi.length];simp
  have z2:items2.size=ms.length:=by rw[← hj.length];simp
  wp_walk using wpAny_loadPart' hl,wpAny_loadPart' hb,wpAny_forIn_list _ (fun rest b s'=>b.1=none∧s' = ⟨hp,g,d,tk,os⟩∧∃(vs ws:List Value) (ns' ms' : List Int),rest=vs.zip ws∧
   IntsAre vs ns'∧IntsAre ws ms'∧ns'.length+items2.size=ms'.length+items.size∧R (.ok (.ret (.bool (bG ns' ms')))) ⟨hp,g,d,tk,os⟩) _
  case turn =>
   rintro⟨y,x⟩ rest b s' ⟨hb',rfl,vs,ws,ns',ms',hz,hvi,hwi,hlen,hR⟩
   cases hvi with
   | nil=>rw[List.zip_nil_left]at hz;cases hz
   | cons a t hvi' =>
     cases hwi with
     | nil=>rw[List.zip_nil_right]at hz;cases hz
     | cons c u hwi' =>
       rw[List.zip_cons_cons]at hz
       injection hz with hyx hrest
       injection hyx with hy hx
       subst hy hx
       rw[du]at hR
       simp only[List.length_cons]at hlen
       obtain⟨e,he,hiff⟩:=nM A.in1 ⟨hp,g,d,tk,os⟩ a t c u
       refine wpAny_bind (he prog w _ _ ?_)
       cases e with
       | true =>
         rw[if_pos (hiff.mp rfl)]at hR
         wp_walk
         exact⟨rfl,rfl,_,_,_,_,hrest,hvi',hwi',by(first|lia|omega),hR⟩
       | false =>
         rw[if_neg (fun q=>absurd (hiff.mpr q) Bool.false_ne_true)]at hR
         have hri:=sS A.in1 ⟨hp,g,d,tk,os⟩ a t c u prog w
         wp_walk using hri
         exact⟨_,rfl,by simpa using hR⟩
  case fin =>
   rintro⟨b1,b2⟩ s' ⟨hb',rfl,vs,ws,ns',ms',hz,hvi,hwi,hlen,hR⟩
   simp only at hb'
   subst hb'
   have hv:bG ns' ms' = decide (items.size<items2.size):=by
    cases hvi with
    | nil =>
      cases hwi with
      | nil =>
        simp only[List.length_nil]at hlen
        rw[hG]
        exact(decide_eq_false (by(first|lia|omega))).symm
      | cons c u hw =>
        simp only[List.length_nil,List.length_cons]at hlen
        rw[ln]
        exact(decide_eq_true (by(first|lia|omega))).symm
    | cons a t hv =>
      cases hwi with
      | nil =>
        simp only[List.length_nil,List.length_cons]at hlen
        rw[dm]
        exact(decide_eq_false (by(first|lia|omega))).symm
      | cons c u hw =>
        rw[List.zip_cons_cons]at hz
        cases hz
   rw[hv]at hR
   wp_walk
   exact⟨_,rfl,by simpa[Builtin.Tuple.tupleCompareSizes]using hR⟩
  case h =>
   exact⟨rfl,rfl,items.toList,items2.toList,ns,ms,rfl,hi,hj,by(first|lia|omega),h⟩
end
section
variable {prog:Program}{w:World}{A:Around}{E:Value→Shared→Prop}{s:Shared}
theorem p8{l b:Addr}{items items2:Array Value}{ns ms:List Int}{Q:Value→Shared→Prop}(hl:IsTup s.heap l items)(hb:IsTup s.heap b items2)(hi:IntsAre items.toList ns)(hj:IntsAre items2.toList ms)
 (hu:A.units<cLine) (h:Q (.bool (bG ns ms)) s):wpAny (model prog w) A (compareOp .Lt (.ref l) (.ref b)) Q E s:=by
 obtain⟨⟨cls,dd,data,sl⟩,ho,hc,n,hd⟩:=id hl
 obtain⟨⟨cls2,dd2,data2,sl2⟩,ho2,hc2,n2,hd2⟩:=id hb
 simp only at hc hd hc2 hd2
 subst hc hd hc2 hd2
 exact richCompare_meets_room (op:=.Lt) ⟨_,ho,rfl⟩ ⟨_,ho2,rfl⟩ PySem.F.slot_tuple_lt PySem.F.entry_tuple_lt (PySem.F.args_tuple_lt_2 _ _) (lD l b items items2 n n2 dd dd2 sl sl2 ns ms hi hj)
  ⟨ho,ho2,show Value.bool (bG ns ms)≠Value.notImplemented∧Q (.bool (bG ns ms)) s from⟨(fun x=>nomatch x),h⟩⟩ hu
def sIx(n d:Nat):Option Int→Nat
 | none=>d
 | some v=>if v<0 then(v+(n:Int)).toNat else min v.toNat n
theorem qv(n d k:Nat):sIx n d (some (k:Int))=min k n:=by
 show(if(k:Int)<0 then((k:Int)+(n:Int)).toNat else min (k:Int).toNat n)=min k n
 rw[if_neg (by(first|lia|omega)),Int.toNat_natCast]
theorem xt(n d:Nat)(hd:d≤n)(o:Option Int):sIx n d o≤n:=by
 cases o with
 | none=>exact hd
 | some v =>
   show(if v<0 then(v+(n:Int)).toNat else min v.toNat n)≤n
   by_cases hv:v<0
   ·rw[if_pos hv];(first|lia|omega)
   ·rw[if_neg hv];exact Nat.min_le_right _ _
theorem qr(v:Int)(n d:Nat):(if v<0 then max (v+(n:Int)) 0 else min v (n:Int))=((sIx n d (some v):Nat):Int):=by
 show(if v<0 then max (v+(n:Int)) 0 else min v (n:Int))=(((if v<0 then(v+(n:Int)).toNat else min v.toNat n):Nat):Int)
 by_cases hv:v<0
 ·simp only[if_pos hv];(first|lia|omega)
 ·simp only[if_neg hv];(first|lia|omega)
theorem pQ(lo hi:Option Int)(n:Nat):Builtin.Slice.sliceAdjust lo hi 1 (n:Int)=(((sIx n 0 lo:Nat):Int),((sIx n n hi:Nat):Int)):=by
 have h1 : ¬((1:Int)<0):=by(first|lia|omega)
 unfold Builtin.Slice.sliceAdjust
 simp only[h1,if_false]
 refine Prod.ext ?_ ?_
 ·cases lo with
  | none=>rfl
  | some v=>exact qr v n 0
 ·cases hi with
  | none=>rfl
  | some v=>exact qr v n n
theorem pC(i j:Nat):Builtin.Slice.slicePlaces (i:Int) (j:Int) 1=j-i:=by
 unfold Builtin.Slice.slicePlaces
 have h1:(1:Int) > 0:=by(first|lia|omega)
 simp only[h1,if_true,Int.ediv_one]
 split<;>(first|lia|omega)
theorem kK{v:Value}{o:Option Int}{Q:Option Int→Shared→Prop}(p:IsPart v o)(h:Q o s):wpAny (model prog w) A (Builtin.Slice.slicePartIndex v) Q E s:=by
 cases p with
 | none=>exact slicePart_none h
 | int i t=>exact slicePart_int h
theorem fL{sl:Addr}{vl vu:Value}{lo hi:Option Int}{n:Nat}{Q:Int×Int×Nat→Shared→Prop}(hs:s.heap.IsSliceOf sl vl vu .none)(pl:IsPart vl lo)(pu:IsPart vu hi)
 (h:Q (((sIx n 0 lo:Nat):Int),1,sIx n n hi-sIx n 0 lo) s):wpAny (model prog w) A (Builtin.Slice.sliceApplied (.ref sl) (pure (n:Int))) Q E s:=by
 obtain⟨os,hos,hcs,hds⟩:=id hs
 unfold Builtin.Slice.sliceApplied Builtin.Slice.sliceFields
 refine wpAny_bind (wpAny_bind (wpAny_field hos hds (x:=vl) rfl (wpAny_bind (wpAny_field hos hds (x:=vu) rfl (wpAny_bind (wpAny_field hos hds (x:=.none) rfl (wpAny_pure ?_)))))))
 refine wpAny_bind (slicePart_none ?_)
 show wpAny _ _ (if((1:Int)==0)=true then _ else _) _ _ s
 rw[if_neg (by decide)]
 refine wpAny_bind (kK pl (wpAny_bind (kK pu (wpAny_bind (wpAny_pure ?_)))))
 show wpAny _ _ (match Builtin.Slice.sliceAdjust lo hi 1 (n:Int) with | (lo,hi)=>pure (lo,(1:Int),Builtin.Slice.slicePlaces lo hi 1)) _ _ s
 rw[pQ lo hi n]
 show wpAny _ _ (pure (((sIx n 0 lo:Nat):Int),(1:Int),Builtin.Slice.slicePlaces ((sIx n 0 lo:Nat):Int) ((sIx n n hi:Nat):Int) 1)) _ _ s
 rw[pC]
 exact wpAny_pure h
theorem uI(xs:Array Value)(i k:Nat):((List.range k).filterMap fun(m:Nat)=>xs[((i:Int)+(m:Int)*1).toNat]?).toArray=((xs.toList.drop i).take k).toArray:=by
 have e:(fun(m:Nat)=>xs[((i:Int)+(m:Int)*1).toNat]?)=fun m=>xs[i+m]?:=by
  funext m
  have:((i:Int)+(m:Int)*1).toNat=i+m:=by(first|lia|omega)
  rw[this]
 rw[e]
 have:=pick_run xs i k
 rw[List.filterMap_map]at this
 have e2:((fun x=>xs[x]?)∘fun x=>i+x)=fun m=>xs[i+m]?:=rfl
 rw[e2]at this
 rw[this]
theorem iC{t sl:Addr}{items:Array Value}{vl vu:Value}{lo hi:Option Int}{Q:Value→Shared→Prop}(ht:IsTup s.heap t items)(hs:s.heap.IsSliceOf sl vl vu .none)(pl:IsPart vl lo)(pu:IsPart vu hi)
 (hw : ¬(sIx items.size 0 lo=0∧sIx items.size items.size hi=items.size))
 (h:Q (.ref s.heap.objs.size) { s with heap:=s.heap.push { cls:=.type "tuple",data:=.seq ((items.toList.drop (sIx items.size 0 lo)).take (sIx items.size items.size hi-sIx items.size 0 lo)).toArray}})
 (hsz:items.size≤sizeLine):wpAny (model prog w) A (getItem (.ref t) (.ref sl)) Q E s:=by
 have htake:sizeOk (.seq ((items.toList.drop (sIx items.size 0 lo)).take (sIx items.size items.size hi-sIx items.size 0 lo)).toArray):=by
  show((items.toList.drop (sIx items.size 0 lo)).take (sIx items.size items.size hi-sIx items.size 0 lo)).toArray.size≤sizeLine
  rw[List.size_toArray,List.length_take,List.length_drop,Array.length_toList]
  (first|lia|omega)
 have hj:sIx items.size items.size hi≤items.size:=xt _ _ (Nat.le_refl _) hi
 obtain⟨os,hos,hcs,hds⟩:=id hs
 have hTs:s.TypeIs (.ref sl) "slice":=⟨os,hos,hcs⟩
 unfold getItem
 try with_reducible refine wpAny_holding ?_
 first | refine wpAny_bind (wpAny_pure ?_) | skip
 refine wpAny_bind (wpAny_sequenceKey ht.typeIs (by decide) ?_)
 refine wpAny_bind (wpAny_callSpecial?_slot (name:=Str.ofString "__getitem__") ht.typeIs PyProof.Rows.slot_tuple_getitem
  (wpAny_call_entry PyProof.Rows.slot_tuple_getitem ht.typeIs entry_tuple_getitem ?_ (args_tuple_getitem _ _)))
 show wpAny _ _ (Builtin.Tuple.tupleItemsOf (.ref t) >>= _) _ _ s
 refine wpAny_bind (tupleItemsOf_ ht ?_)
 refine wpAny_bind (wpAny_typeOf hTs ?_)
 rw[if_pos (by decide)]
 refine wpAny_bind (fL hs pl pu ?_)
 have hno : ¬((((sIx items.size 0 lo:Nat):Int)==0&&(1:Int)==1&&(sIx items.size items.size hi-sIx items.size 0 lo)==items.size)=true):=by
  intro q
  rw[Bool.and_eq_true,Bool.and_eq_true]at q
  have q1:((sIx items.size 0 lo:Nat):Int)=0:=eq_of_beq q.1.1
  have q2:sIx items.size items.size hi-sIx items.size 0 lo=items.size:=eq_of_beq q.2
  exact hw ⟨by(first|lia|omega),by(first|lia|omega)⟩
 show wpAny _ _ (if(((sIx items.size 0 lo:Nat):Int)==0&&(1:Int)==1&&(sIx items.size items.size hi-sIx items.size 0 lo)==items.size)=true then _ else _) _ _ s
 rw[if_neg hno,uI]
 first
  | exact wpAny_bind (m:=Builtin.Tuple.tupleExact _) (wpAny_newObj_type (wpAny_pure ⟨_,rfl,wpAny_pure h⟩) htake)
  | exact wpAny_bind (m:=Builtin.Tuple.tupleExact _) (wpAny_newObj_type (wpAny_bind (wpAny_pure (wpAny_pure ⟨_,rfl,wpAny_pure h⟩))) htake)
  | exact wpAny_bind (wpAny_bind (m:=Builtin.Tuple.tupleExact _) (wpAny_newObj_type (wpAny_pure (wpAny_pure ⟨_,rfl,wpAny_pure h⟩)) htake))
  | exact wpAny_bind (wpAny_bind (m:=Builtin.Tuple.tupleExact _) (wpAny_newObj_type (wpAny_pure ⟨_,rfl,wpAny_pure h⟩) htake))
end
end HT
namespace L2
open PySem PySem.Spec PyProof.Rows
abbrev TO:=St→Hp→(Option Int→Hp→Prop)→Prop
def PO(X:Cx)(e:Option Expr)(t:TO):Prop :=
 ∀(pins:List (Addr×Obj)) (s:Shared) (σ:St) (H:Hp) (Q:Option Int→Hp→Prop),Inv X pins σ H s→t σ H Q→
  wpAny (model X.prog X.w) X.A (evalPart e X.env) (fun u s'=>∃ o H',Inv X pins σ H' s'∧IsPart u o∧Q o H') X.xe s
def vM:TO:=fun _ H Q=>Q none H
def yi(t:TE):TO:=fun σ H Q=>t σ H fun x H1=>∃ i,x = .int i∧Q (some i) H1
theorem gc{ns:List Int}:∀{us:List Value},aW (ns.map V.int) us→IntsAre us ns:=by
 induction ns with
 | nil=>intro us r;rw[List.map_nil]at r;cases r;exact .nil
 | cons n ns ih =>
   intro us r
   rw[List.map_cons]at r
   cases r with
   | cons r1 r2 =>
     obtain⟨t,e⟩:=r1
     subst e
     exact .cons n t (ih r2)
section
variable {X:Cx}{e:Expr}{te:TE}{lo hi:Option Expr}{tl th:TO}{pos p2:Pos}
theorem qz:PO X none vM:=by
 intro pins s σ H Q I h
 rw[evalPart_none]
 exact wpAny_pure ⟨none,H,I,.none,h⟩
theorem jW(h:PE X e te):PO X (some e) (yi te):=by
 intro pins s σ H Q I hw
 rw[evalPart_some]
 refine thn (h pins s σ H _ I hw) fun u s1 ⟨x,H1,I1,r1,q1⟩=>?_
 obtain⟨i,rfl,q⟩:=q1
 obtain⟨t,rfl⟩:=r1
 exact⟨some i,H1,I1,.int i t,q⟩
def SlR(X:Cx)(r:V→Option Int→Option Int→Hp→VK→Prop):Prop :=
 ∀(pins:List (Addr×Obj)) (s:Shared) (σ:St) (H:Hp) (x:V) (v vl vu:Value) (lo hi:Option Int) (sl:Addr) (Q:VK),Inv X pins σ H s→aR x v→s.heap.IsSliceOf sl vl vu .none→IsPart vl lo→IsPart vu hi→r x lo hi H Q→
  ∃ T id,typeLookup (.type T) "__getitem__"=pure (some (.builtin id))∧s.TypeIs v T∧wpAny (model X.prog X.w) X.A (getItem v (.ref sl)) (EP X pins σ Q) X.xe s
def tSl(r:V→Option Int→Option Int→Hp→VK→Prop)(te:TE)(tl th:TO):TE:=fun σ H Q=>te σ H fun x H1=>tl σ H1 fun l H2=>th σ H2 fun u H3=>r x l u H3 Q
theorem kI{r:V→Option Int→Option Int→Hp→VK→Prop}(hr:SlR X r)(he:PE X e te)(hl:PO X lo tl)(hu:PO X hi th):PE X (.Subscript e (.Slice lo hi none p2) pos) (tSl r te tl th):=by
 intro pins s σ H Q I h
 refine Subscript_ (thn (he pins s σ H _ I h) fun v s1 ⟨x,H1,I1,r1,q1⟩=>?_)
 refine wpAny_Slice (thn (hl pins s1 σ H1 _ I1 q1) fun vl s2 ⟨l,H2,I2,pl,q2⟩=>thn (hu pins s2 σ H2 _ I2 q2) fun vu s3 ⟨u,H3,I3,pu,q3⟩=>?_)
 rw[evalPart_none]
 refine wpAny_pure ?_
 have I4:Inv X pins σ H3 { s3 with heap:=s3.heap.push { cls:=.type "slice",data:=.fields #[vl,vu,.none]}}:=I3.kept (t':=s3.toks) fun b ob q=>Heap.get?_push_of_some _ q
 obtain⟨T,id,hT,ht,hg⟩:=hr pins { s3 with heap:=s3.heap.push { cls:=.type "slice",data:=.fields #[vl,vu,.none]}} σ H3 x v vl vu l u s3.heap.objs.size Q I4 r1 (Heap.IsSliceOf.new ..) pl pu q3
 show wpAny (model X.prog X.w) X.A (subscriptTail e (.Slice lo hi none p2) v (.ref s3.heap.objs.size)) (EP X pins σ Q) X.xe { s3 with heap:=s3.heap.push { cls:=.type "slice",data:=.fields #[vl,vu,.none]}}
 exact tail_any (ops:=[.ref s3.heap.objs.size,v]) ht hT hg (by with_unfolding_all rfl)
def lC(xs:List V)(lo hi:Option Int):List V:=(xs.drop (HT.sIx xs.length 0 lo)).take (HT.sIx xs.length xs.length hi-HT.sIx xs.length 0 lo)
theorem jC(xs:List V)(lo hi:Option Int):(lC xs lo hi).length≤xs.length:=by
 unfold lC
 rw[List.length_take,List.length_drop]
 (first|lia|omega)
end
end L2
namespace L2
open PySem PySem.Spec PyProof.Rows
def ixN(n:Nat)(i:Int):Option Nat:=if 0≤i then(if i<n then some i.toNat else none) else if -(n:Int)≤i then some (i+n).toNat else none
def atI{α:Type}(xs:List α)(i:Int):Option α:=(ixN xs.length i).bind fun j=>xs[j]?
theorem qI{n:Nat}{i:Int}{j:Nat}(h:ixN n i=some j):seqIndex? i n=some j∧j<n∧-(n:Int)≤i∧i<n:=by
 unfold ixN at h
 by_cases h0:0≤i
 ·rw[if_pos h0]at h
  by_cases h1:i<n
  ·rw[if_pos h1]at h
   have e:i.toNat=j:=Option.some.inj h
   exact⟨by rw[seqIndex_of h0 h1,e],by(first|lia|omega),by(first|lia|omega),h1⟩
  ·rw[if_neg h1]at h;cases h
 ·rw[if_neg h0]at h
  by_cases h1 : -(n:Int)≤i
  ·rw[if_pos h1]at h
   have e:(i+n).toNat=j:=Option.some.inj h
   exact⟨by rw[seqIndex_neg (by(first|lia|omega)) h1,e],by(first|lia|omega),h1,by(first|lia|omega)⟩
  ·rw[if_neg h1]at h;cases h
theorem qB{α:Type}{xs:List α}{i:Int}{v:α}(h:atI xs i=some v):∃ j,seqIndex? i xs.length=some j∧xs[j]?=some v∧j<xs.length∧-(xs.length:Int)≤i∧i<xs.length:=by
 unfold atI at h
 cases e:ixN xs.length i with
 | none=>rw[e]at h;cases h
 | some j =>
   rw[e]at h
   obtain⟨h1,h2,h3,h4⟩:=qI e
   exact⟨j,h1,h,h2,h3,h4⟩
theorem af{α:Type}{xs:List α}{j:Nat}{v:α}(h:xs[j]?=some v):atI xs (j:Int)=some v:=by
 have hj:j<xs.length:=(List.getElem?_eq_some_iff.mp h).1
 have e:ixN xs.length (j:Int)=some j:=by
  unfold ixN
  rw[if_pos (by(first|lia|omega)),if_pos (by(first|lia|omega))];simp
 unfold atI;rw[e];exact h
def vJ(b:Expr):Prop:=∀ o i,subscripted b false o i=operate [o,i] (getItem o i)
def IxR(X:Cx)(r:R2):Prop :=
 ∀(value slice:Expr) (pins:List (Addr×Obj)) (s:Shared) (σ:St) (H:Hp) (x y:V) (v u:Value) (Q:VK),Inv X pins σ H s→aR x v→aR y u→r x y H Q→
  subscripted slice false v u=operate [v,u] (getItem v u)→wpAny (model X.prog X.w) X.A (subscriptTail value slice v u) (EP X pins σ Q) X.xe s
def MtR(X:Cx)(id:String)(r:V→List V→Hp→VK→Prop):Prop :=
 ∀(pins:List (Addr×Obj)) (s:Shared) (σ:St) (H:Hp) (x:V) (xs:List V) (v:Value) (us:List Value) (Q:VK),Inv X pins σ H s→aR x v→aW xs us→r x xs H Q→
  wpAny (model X.prog X.w) X.A (call (.builtin id) (v::us)) (EP X pins σ Q) X.xe s
section
variable {X:Cx}{a b:Expr}{ta tb:TE}{pos:Pos}
theorem ao{r:R2}(hr:IxR X r)(ha:PE X a ta)(hb:PE X b tb)(hs:vJ b):PE X (.Subscript a b pos) (tOp r ta tb):=by
 intro pins s σ H Q I h
 exact Subscript_ (wP ha hb I h fun v u s2 x y H2 I2 rx ry q=>hr a b pins s2 σ H2 x y v u Q I2 rx ry q (hs _ _))
def xW(K:PySem.W.Frag):R2:=fun x y H Q=>∃ p xs i v,x = .ref p∧y = .int i∧SqL K H p xs∧atI xs i=some v∧Q v H
def x9(K:PySem.W.Frag):R2:=fun x y H Q=>∃ p xs i v,x = .ref p∧y = .int i∧SqT K H p xs∧atI xs i=some v∧Q v H
theorem vx:IxR X (xW X.K):=by
 intro value slice pins s σ H x y v u Q I rx ry h hs
 obtain⟨p,xs,i,z,rfl,rfl,hq,he,q⟩:=h
 cases rx
 obtain⟨t,rfl⟩:=ry
 obtain⟨its,r,pl,hz⟩:=I.list hq
 obtain⟨j,h1,h2,h3,h4,h5⟩:=qB he
 obtain⟨w,ew,rw'⟩:=r.get h2
 have hl:=r.length
 have hn:=mY
 have fin:EP X pins σ Q w s:=⟨z,H,I,rw',q⟩
 by_cases h0:0≤i
 ·have hj:i.toNat=j:=by
   rw[seqIndex_of h0 h5]at h1
   exact Option.some.inj h1
  exact item_listR pl.isList h0 (by(first|lia|omega)) (by rw[hj];simpa using ew) fin hs
 ·have hj:(i+(its.toArray.size:Int)).toNat=j:=by
   rw[seqIndex_neg (by(first|lia|omega)) h4]at h1
   rw[List.size_toArray,← hl]
   exact Option.some.inj h1
  exact subscriptTail_builtinR (x:=w) pl.isList.typeIs slot_list_getitem.lookup
   (wpAny_getItem_list_neg (Q:=fun r s'=>r=w∧EP X pins σ Q r s') pl.isList (by(first|lia|omega)) (by rw[List.size_toArray]<;>(first|lia|omega)) (by(first|lia|omega)) (by rw[hj];simpa using ew) ⟨rfl,fin⟩) hs
theorem xg:IxR X (x9 X.K):=by
 intro value slice pins s σ H x y v u Q I rx ry h hs
 obtain⟨p,xs,i,z,rfl,rfl,hq,he,q⟩:=h
 cases rx
 obtain⟨t,rfl⟩:=ry
 obtain⟨its,r,pl,hz⟩:=I.tuple hq
 obtain⟨j,h1,h2,h3,h4,h5⟩:=qB he
 obtain⟨w,ew,rw'⟩:=r.get h2
 have hl:=r.length
 have hn:=mY
 have fin:EP X pins σ Q w s:=⟨z,H,I,rw',q⟩
 exact subscriptTail_builtinR (x:=w) pl.typeIs slot_tuple_getitem.lookup
  (getItem_tuple (j:=j) (Q:=fun r s'=>r=w∧EP X pins σ Q r s') pl (by(first|lia|omega)) (by(first|lia|omega)) (by rw[List.size_toArray,← hl];exact h1) (by simpa using ew) ⟨rfl,fin⟩) hs
theorem pY(its:List Value)(n j:Nat)(u:Value):Obj.mapSeq (·.setIfInBounds j u) { cls:=.type "list",data:=.seq its.toArray n}={ cls:=.type "list",data:=.seq (its.set j u).toArray n}:=by
 simp[Obj.mapSeq]
theorem Inv.lst{pins:List (Addr×Obj)}{σ:St}{H:Hp}{s:Shared}{p:Addr}{xs:List V}(I:Inv X pins σ H s)(h:H p=some (.lst xs)):
 ∃(its:List Value) (n:Nat),aW xs its∧s.heap.get? p=some { cls:=.type "list",data:=.seq its.toArray n}∧xs.length≤sizeLine:=by
 obtain⟨z,its,n,r,e⟩:=I.hok p _ h
 exact⟨its,n,r,e,z⟩
theorem Inv.lstUpd{pins:List (Addr×Obj)}{σ:St}{H:Hp}{s:Shared}{p:Addr}{xs ys:List V}{its its' : List Value}{n n' : Nat}{f:Obj→Obj}(I:Inv X pins σ H s)(h:H p=some (.lst xs))
 (ho:s.heap.get? p=some { cls:=.type "list",data:=.seq its.toArray n}) (hf:f { cls:=.type "list",data:=.seq its.toArray n}={ cls:=.type "list",data:=.seq its'.toArray n'}) (r:aW ys its') (hz:ys.length≤sizeLine) (t:Nat) :
 Inv X pins σ (upd H p (.lst ys)) { s with heap:=s.heap.update p f,toks:=t}:=by
 have e:(s.heap.update p f).get? p=some { cls:=.type "list",data:=.seq its'.toArray n'}:=by
  rw[Heap.get?_update_self f ho (by rw[hf]<;>rfl),hf]
 refine I.write (x:=p) (e:=p) (by rw[h];trivial) (.inl rfl) (fun b u hb q=>(Heap.get?_update_other _ _ (Ne.symm hb)).trans q) ⟨_,e⟩ ?_
 exact⟨hz,its',n',r,e⟩
def xI:V→V→V→Hp→(Hp→Prop)→Prop:=fun o i v H Q=>∃ p xs k j,o = .ref p∧i = .int k∧H p=some (.lst xs)∧ixN xs.length k=some j∧Q (upd H p (.lst (xs.set j v)))
theorem fD:xB X xI:=by
 intro pins s σ H o i v ov iv u Q I ro ri rv h
 obtain⟨p,xs,k,j,rfl,rfl,hp,hj,q⟩:=h
 cases ro
 obtain⟨t,rfl⟩:=ri
 obtain⟨its,n,r,ho,hz⟩:=I.lst hp
 obtain⟨h1,h2,h3,h4⟩:=qI hj
 have hl:=r.length
 have hn:=mY
 have I' : Inv X pins σ (upd H p (.lst (xs.set j v))) { s with heap:=s.heap.update p (Obj.mapSeq (·.setIfInBounds j u))} :=
  I.lstUpd hp ho (pY its n j u) (r.set rv j) (by rw[List.length_set];exact hz) s.toks
 by_cases h0:0≤k
 ·have hk:k.toNat=j:=by
   rw[seqIndex_of h0 h4]at h1
   exact Option.some.inj h1
  exact PySem.W.ki_setAt ho h0 (by(first|lia|omega)) (by rw[List.size_toArray,← hl];exact h4) (by rw[hk];exact⟨_,I',q⟩)
 ·have hk:(k+(its.toArray.size:Int)).toNat=j:=by
   rw[seqIndex_neg (by(first|lia|omega)) h3]at h1
   rw[List.size_toArray,← hl]
   exact Option.some.inj h1
  exact PySem.W.ki_setBack ho (by(first|lia|omega)) (by rw[List.size_toArray,← hl];exact h3) (by(first|lia|omega)) (by rw[hk];exact⟨_,I',q⟩)
theorem m5(lo hi:Option Int)(n:Nat):(sliceBounds lo hi none n).1=((HT.sIx n 0 lo:Nat):Int)∧(sliceBounds lo hi none n).2.1=((HT.sIx n n hi:Nat):Int)∧(sliceBounds lo hi none n).2.2=1:=by
 refine⟨?_,?_,rfl⟩
 ·cases lo with
  | none=>simp[sliceBounds,HT.sIx]
  | some i =>
    simp only[sliceBounds,HT.sIx,Option.getD_none,show(1:Int) > 0 by decide,if_true]
    by_cases h:i<0
    ·simp only[h,if_true]<;>(first|lia|omega)
    ·simp only[h,if_false]<;>(first|lia|omega)
 ·cases hi with
  | none=>simp[sliceBounds,HT.sIx]
  | some i =>
    simp only[sliceBounds,HT.sIx,Option.getD_none,show(1:Int) > 0 by decide,if_true]
    by_cases h:i<0
    ·simp only[h,if_true]<;>(first|lia|omega)
    ·simp only[h,if_false]<;>(first|lia|omega)
theorem lq(its:List Value)(lo hi:Option Int):slicePick its.toArray lo hi none=((its.drop (HT.sIx its.length 0 lo)).take (HT.sIx its.length its.length hi-HT.sIx its.length 0 lo)).toArray:=by
 obtain⟨h1,h2,h3⟩:=m5 lo hi its.toArray.size
 unfold slicePick
 rw[h1,h2,h3]
 simp only[sliceRange_one,pick_run,List.size_toArray]<;>rfl
def yj(K:PySem.W.Frag):V→Option Int→Option Int→Hp→VK→Prop:=fun x lo hi H Q=>∃ a xs,x = .ref a∧SqL K H a xs∧∀ p,H p=none→Q (.ref p) (upd H p (.lst (lC xs lo hi)))
theorem vq:SlR X (yj X.K):=by
 intro pins s σ H x v vl vu lo hi sl Q I rx hs pl pu h
 obtain⟨a,xs,rfl,hx,q⟩:=h
 cases rx
 obtain⟨its,r,ht,hz⟩:=I.list hx
 have hlen:=r.length
 refine⟨"list",_,slot_list_getitem.lookup,ht.isList.typeIs,?_⟩
 refine wpAny_getItem_list_slice ht.isList hs pl pu .none (by simp) ?_ (by rw[List.size_toArray]<;>(first|lia|omega))
 rw[lq,← hlen]
 refine⟨.ref s.heap.objs.size,_,I.laid (t':=s.toks) (o:=.lst (lC xs lo hi)) (fun b ob q=>Heap.get?_push_of_some _ q) (Nat.le_refl _) ?_,rfl,q _ (I.hok.fresh (Nat.le_refl _))⟩
 exact⟨Nat.le_trans (jC xs lo hi) hz,_,0,(r.drop (HT.sIx xs.length 0 lo)).take (HT.sIx xs.length xs.length hi-HT.sIx xs.length 0 lo),Heap.get?_push_size _ rfl⟩
def iX:V→Bool
 | .non=>true
 | .bl _=>true
 | .int _=>true
 | .str _=>true
 | _=>false
def eqV:V→V→Bool
 | .non,.non=>true
 | .bl a,.bl b=>a==b
 | .bl a,.int b=>(if a then 1 else 0)==b
 | .int a,.bl b=>a==(if b then 1 else 0)
 | .int a,.int b=>a==b
 | .str a,.str b=>a==b
 | _,_=>false
theorem wF{A:Around}{s:Shared}{y x:V}{u v:Value}(ry:aR y u)(rx:aR x v)(fy:iX y=true)(fx:iX x=true):SeqAt.EqAt A s u v (eqV y x):=by
 cases y with
 | non =>
   cases ry
   cases x with
   | non=>cases rx;exact SeqAt.EqAt.same _
   | bl b=>cases rx;exact SeqAt.EqAt.none_bool b
   | int b=>obtain⟨t,rfl⟩:=rx;exact SeqAt.EqAt.none_int b t
   | str b=>obtain⟨t,rfl⟩:=rx;exact SeqAt.EqAt.none_str b t
   | _=>exact absurd (show false=true from fx) Bool.false_ne_true
 | bl a =>
   cases ry
   cases x with
   | non=>cases rx;exact SeqAt.EqAt.bool_none a
   | bl b=>cases rx;exact SeqAt.EqAt.bool_bool a b
   | int b=>obtain⟨t,rfl⟩:=rx;exact SeqAt.EqAt.bool_int a b t
   | str b=>obtain⟨t,rfl⟩:=rx;exact SeqAt.EqAt.bool_str a b t
   | _=>exact absurd (show false=true from fx) Bool.false_ne_true
 | int a =>
   obtain⟨t',rfl⟩:=ry
   cases x with
   | non=>cases rx;exact SeqAt.EqAt.int_none a t'
   | bl b=>cases rx;exact SeqAt.EqAt.int_bool a t' b
   | int b=>obtain⟨t,rfl⟩:=rx;exact SeqAt.EqAt.int_int a t' b t
   | str b=>obtain⟨t,rfl⟩:=rx;exact SeqAt.EqAt.int_str a t' b t
   | _=>exact absurd (show false=true from fx) Bool.false_ne_true
 | str a =>
   obtain⟨t',rfl⟩:=ry
   cases x with
   | non=>cases rx;exact SeqAt.EqAt.str_none a t'
   | bl b=>cases rx;exact SeqAt.EqAt.str_bool a t' b
   | int b=>obtain⟨t,rfl⟩:=rx;exact SeqAt.EqAt.str_int a t' b t
   | str b=>obtain⟨t,rfl⟩:=rx;exact SeqAt.EqAt.str_str a t' b t
   | _=>exact absurd (show false=true from fx) Bool.false_ne_true
 | _=>exact absurd (show false=true from fy) Bool.false_ne_true
def eqU(x:V)(u:Value):Bool:=match u with
 | .none=>eqV .non x
 | .bool b=>eqV (.bl b) x
 | .int i _=>eqV (.int i) x
 | .str z _=>eqV (.str z) x
 | _=>false
theorem tz{x y:V}{u:Value}(r:aR y u)(f:iX y=true):eqU x u=eqV y x:=by
 cases y with
 | non=>cases r;rfl
 | bl b=>cases r;rfl
 | int i=>obtain⟨t,rfl⟩:=r;rfl
 | str z=>obtain⟨t,rfl⟩:=r;rfl
 | _=>exact absurd (show false=true from f) Bool.false_ne_true
theorem io{x:V}:∀{xs:List V} {us:List Value},aW xs us→xs.all iX=true→us.any (eqU x)=xs.any fun y=>eqV y x
 | _,_,.nil,_=>rfl
 | y::xs,u::us,.cons r t,f=>by
   rw[List.all_cons,Bool.and_eq_true]at f
   rw[List.any_cons,List.any_cons,tz r f.1,io t f.2]
theorem gz{A:Around}{s:Shared}{x:V}{v:Value}(rx:aR x v)(fx:iX x=true):∀{xs:List V} {us:List Value},aW xs us→xs.all iX=true→∀ u∈us,SeqAt.EqAt A s u v (eqU x u)
 | _,_,.nil,_=>fun u hu=>by cases hu
 | y::xs,u::us,.cons r t,f=>fun u' hu=>by
   rw[List.all_cons,Bool.and_eq_true]at f
   rcases List.mem_cons.mp hu with rfl|hu
   ·rw[tz r f.1];exact wF r rx f.1 fx
   ·exact gz rx fx t f.2 u' hu
def inV(x:V)(xs:List V):Bool:=xs.any fun y=>eqV y x
def rIn(K:PySem.W.Frag)(neg:Bool):R2:=fun x y H Q=>∃ p xs,y = .ref p∧(SqL K H p xs∨SqT K H p xs)∧iX x=true∧xs.all iX=true∧Q (.bl (if neg then !inV x xs else inV x xs)) H
theorem rp:OpR X (compareOp .In) (rIn X.K false):=by
 intro pins s σ H x y v u Q I rx ry h
 obtain⟨p,xs,rfl,hq,fx,fs,q⟩:=h
 cases ry
 rcases hq with hq|hq
 ·obtain⟨its,r,pl,hz⟩:=I.list hq
  refine SeqAt.in_listAt (eqU x) pl.isList (fun w hw=>gz rx fx r fs w (by simpa using hw)) ⟨.bl _,H,I,rfl,?_⟩
  rw[show its.toArray.any (eqU x)=its.any (eqU x) by simp,io r fs]
  exact q
 ·obtain⟨its,r,pl,hz⟩:=I.tuple hq
  refine SeqAt.in_tupleAt (eqU x) pl (fun w hw=>gz rx fx r fs w (by simpa using hw)) ⟨.bl _,H,I,rfl,?_⟩
  rw[show its.toArray.any (eqU x)=its.any (eqU x) by simp,io r fs]
  exact q
theorem nG:OpR X (compareOp .NotIn) (rIn X.K true):=by
 intro pins s σ H x y v u Q I rx ry h
 obtain⟨p,xs,rfl,hq,fx,fs,q⟩:=h
 cases ry
 rcases hq with hq|hq
 ·obtain⟨its,r,pl,hz⟩:=I.list hq
  refine SeqAt.notIn_listAt (eqU x) pl.isList (fun w hw=>gz rx fx r fs w (by simpa using hw)) ⟨.bl _,H,I,rfl,?_⟩
  rw[show its.toArray.any (eqU x)=its.any (eqU x) by simp,io r fs]
  exact q
 ·obtain⟨its,r,pl,hz⟩:=I.tuple hq
  refine SeqAt.notIn_tupleAt (eqU x) pl (fun w hw=>gz rx fx r fs w (by simpa using hw)) ⟨.bl _,H,I,rfl,?_⟩
  rw[show its.toArray.any (eqU x)=its.any (eqU x) by simp,io r fs]
  exact q
theorem nB:dS X (.builtin "len") (fun xs H Q=>∃ p ys,xs=[.ref p]∧(SqL X.K H p ys∨SqT X.K H p ys)∧Q (.int ys.length) H):=by
 intro pins s σ H xs us Q I r h
 obtain⟨p,ys,rfl,hq,q⟩:=h
 obtain⟨u,rfl,rx⟩:=iI r
 cases rx
 have hn:=mY
 rcases hq with hq|hq
 ·obtain⟨its,r',pl,hz⟩:=I.list hq
  have hlen:=r'.length
  exact Calls.call_len_list pl.isList (by simp only[List.size_toArray]<;>(first|lia|omega)) ⟨.int ys.length,H,I.tok _,⟨s.toks+1,by rw[List.size_toArray,hlen]⟩,q⟩
 ·obtain⟨its,r',pl,hz⟩:=I.tuple hq
  have hlen:=r'.length
  exact len_tuple pl (by simp only[List.size_toArray]<;>(first|lia|omega)) ⟨.int ys.length,H,I.tok _,⟨s.toks+1,by rw[List.size_toArray,hlen]⟩,q⟩
theorem mQ:dS X (.type "list") (fun xs H Q=>∃ p ys,xs=[.ref p]∧(SqL X.K H p ys∨SqT X.K H p ys)∧∀ l,H l=none→Q (.ref l) (upd H l (.lst ys))):=by
 intro pins s σ H xs us Q I r h
 obtain⟨p,ys,rfl,hq,q⟩:=h
 obtain⟨u,rfl,rx⟩:=iI r
 cases rx
 have fin:∀(its:List Value),aW ys its→ys.length≤sizeLine→∀(h' : Heap) (c' : Nat),(∀ b o',s.heap.get? b=some o'→h'.get? b=some o')→
  h'.get? s.heap.objs.size=some { cls:=.type "list",dict:=none,data:=.seq its.toArray c',slots:=#[]}→EP X pins σ Q (.ref s.heap.objs.size) { s with heap:=h'}:=fun its r' hz h' c' kp e =>
  ⟨.ref s.heap.objs.size,_,I.laid (t':=s.toks) kp (Nat.le_refl _) (show aV X.prog X.w _ h' _ (.lst ys) from⟨hz,its,c',r',e⟩),rfl,q _ (I.hok.fresh (Nat.le_refl _))⟩
 rcases hq with hq|hq
 ·obtain⟨its,r',pl,hz⟩:=I.list hq
  have hlen:=r'.length
  obtain⟨o,ho,hc,n,hd⟩:=pl.isList
  exact call_list_seq p (.inl rfl) ho hc hd (fun h' c' kp e=>fin its r' hz h' c' kp e) (by simp only[List.size_toArray]<;>(first|lia|omega))
 ·obtain⟨its,r',pl,hz⟩:=I.tuple hq
  have hlen:=r'.length
  obtain⟨o,ho,hc,n,hd⟩:=pl
  exact call_list_seq p (.inr rfl) ho hc hd (fun h' c' kp e=>fin its r' hz h' c' kp e) (by simp only[List.size_toArray]<;>(first|lia|omega))
theorem lE:dS X (.type "tuple") (fun xs H Q=>∃ p ys,xs=[.ref p]∧((SqL X.K H p ys∧∀ l,H l=none→Q (.ref l) (upd H l (.tup ys)))∨(SqT X.K H p ys∧Q (.ref p) H))):=by
 intro pins s σ H xs us Q I r h
 obtain⟨p,ys,rfl,h⟩:=h
 obtain⟨u,rfl,rx⟩:=iI r
 cases rx
 rcases h with⟨hq,q⟩|⟨hq,q⟩
 ·obtain⟨its,r',pl,hz⟩:=I.list hq
  have hlen:=r'.length
  refine call_tuple_list pl.isList (fun h' kp=>?_) (by simp only[List.size_toArray]<;>(first|lia|omega))
  have I1:Inv X pins σ H { s with heap:=h'}:=I.kept (t':=s.toks) kp
  have I2:Inv X pins σ (upd H h'.objs.size (.tup ys)) { s with heap:=h'.push { cls:=.type "tuple",data:=.seq its.toArray}} :=
   I1.laid (t':=s.toks) (fun b o e=>Heap.get?_push_of_some _ e) (Nat.le_refl _) (show aV X.prog X.w _ _ _ (.tup ys) from⟨hz,its,r',IsTup.new _ _⟩)
  exact⟨.ref h'.objs.size,_,I2,rfl,q _ (I1.hok.fresh (Nat.le_refl _))⟩
 ·obtain⟨its,r',pl,hz⟩:=I.tuple hq
  exact call_tuple_same pl ⟨.ref p,H,I,rfl,q⟩
def tyV(K:PySem.W.Frag)(T:String)(x:V)(H:Hp):Prop:=match x with
 | .str _=>T="str"
 | .int _=>T="int"
 | .ref p=>(T="list"∧∃ xs,SqL K H p xs)∨(T="tuple"∧∃ o,K.lookup p=some o∧o.cls = .type "tuple"∧o.dict=none)∨
  (T="dict"∧((∃ kvs,H p=some (.dK kvs))∨∃ kvs,H p=some (.dT kvs)))∨(T="set"∧∃ S n,H p=some (.set S n))
 | _=>False
theorem sN{pins:List (Addr×Obj)}{σ:St}{H:Hp}{s:Shared}{T:String}{x:V}{v:Value}(I:Inv X pins σ H s)(r:aR x v)(ty:tyV X.K T x H):
 s.TypeIs v T∧∀ a,v = .ref a→∃ ob,s.heap.get? a=some ob∧ob.dict=none:=by
 cases x with
 | str z =>
   obtain⟨t,rfl⟩:=r
   cases(show T="str" from ty)
   exact⟨typeIs_str s z t,fun _ e=>nomatch e⟩
 | int i =>
   obtain⟨t,rfl⟩:=r
   cases(show T="int" from ty)
   exact⟨typeIs_int s i t,fun _ e=>nomatch e⟩
 | ref p =>
   cases r
   rcases ty with⟨rfl,xs,hq⟩|⟨rfl,o,hk,hc,hd⟩|⟨rfl,hk⟩|⟨rfl,S,n,hk⟩
   ·obtain⟨its,_,pl,_⟩:=I.list hq
    refine⟨pl.isList.typeIs,fun a e=>?_⟩
    cases e
    obtain⟨o,n,e,c,hd,_⟩:=pl
    exact⟨o,e,hd⟩
   ·refine⟨⟨o,I.kIn p o hk,hc⟩,fun a e=>?_⟩
    cases e
    exact⟨o,I.kIn _ o hk,hd⟩
   ·have z:∃ o,s.heap.get? p=some o∧o.ExactDict:=by
     rcases hk with⟨kvs,hk⟩|⟨kvs,hk⟩
     ·obtain⟨_,_,_,_,o,_,_,e,ex,_⟩:=I.hok p _ hk
      exact⟨o,e,ex⟩
     ·obtain⟨_,_,_,_,o,_,_,e,ex,_⟩:=I.hok p _ hk
      exact⟨o,e,ex⟩
    obtain⟨o,e,ex⟩:=z
    refine⟨⟨o,e,ex.1⟩,fun a e2=>?_⟩
    cases e2
    exact⟨o,e,ex.2.1⟩
   ·obtain⟨o,_,_,_,e,ex,_⟩:=I.hok p _ hk
    refine⟨⟨o,e,ex.1⟩,fun a e2=>?_⟩
    cases e2
    exact⟨o,e,ex.2.1⟩
 | _=>exact False.elim ty
def yH(K:PySem.W.Frag)(T:String)(r:V→List V→Hp→VK→Prop)(to:TE):TE:=fun σ H Q=>to σ H fun x H1=>tyV K T x H1∧r x [] H1 Q
def tBM(K:PySem.W.Frag)(T:String)(r:V→List V→Hp→VK→Prop)(to:TE)(t:TA):TE:=fun σ H Q=>to σ H fun x H1=>tyV K T x H1∧t σ H1 fun xs H2=>r x xs H2 Q
variable {o e:Expr}{es:List Expr}{to:TE}{t:TA}{name:Str}{apos cpos:Pos}{T id:String}{r:V→List V→Hp→VK→Prop}
theorem wJ(pa:PlainAttrs T)(slot:Slot T name id)(hty:typeOf (.builtin id)=pure (.type "method_descriptor"))(hm:MtR X id r)(ho:PE X o to)
 (hbase:attributeBase o name X.env (eval o X.env)=eval o X.env:=by rfl) (hline:(apos.endLine==cpos.line)=true:=by rfl):PE X (.Call (.Attribute o name apos) [] [] cpos) (yH X.K T r to):=by
 intro pins s σ H Q I h
 refine wpAny_Call_method0_late hbase hline (thn (ho pins s σ H _ I h) fun v s1 ⟨x,H1,I1,r1,ty,q1⟩=>?_)
 obtain⟨h1,h2⟩:=sN I1 r1 ty
 exact⟨T,id,pa,slot,hty,h1,h2,Calls.callWith_builtin rfl (PySem.evalArgs_none (hm pins s1 σ H1 x [] v [] Q I1 r1 .nil q1))⟩
theorem jF(pa:PlainAttrs T)(slot:Slot T name id)(hty:typeOf (.builtin id)=pure (.type "method_descriptor"))(hm:MtR X id r)(ho:PE X o to)(ha:PA X (e::es) t)
 (hbase:attributeBase o name X.env (eval o X.env)=eval o X.env:=by rfl)
 (hfew:((backTo cpos (starEach (e::es) X.env)).all (fun x=>!x.1)&&(backToKw cpos (keywordEach [] X.env)).all (fun x=>x.1.isSome)
  && decide ((e::es).length+([]:List Keyword).length+(if([]:List Keyword).isEmpty then 0 else 1)<30))=true:=by rfl)
 (hline:(apos.endLine==cpos.line)=true:=by rfl) (hs:starEach (e::es) X.env=(false,eval e X.env)::starEach es X.env:=by rfl) (hplain:(backTo cpos (starEach es X.env)).any (·.1)=false:=by rfl) :
 PE X (.Call (.Attribute o name apos) (e::es) [] cpos) (tBM X.K T r to t):=by
 intro pins s σ H Q I h
 refine wpAny_Call_method_late hbase hfew hline rfl (thn (ho pins s σ H _ I h) fun v s1 ⟨x,H1,I1,r1,ty,q1⟩=>?_)
 obtain⟨h1,h2⟩:=sN I1 r1 ty
 refine⟨T,id,pa,slot,hty,h1,h2,?_⟩
 have hA:=ha cpos pins s1 σ H1 _ I1 q1
 rw[hs]at hA ⊢
 refine Calls.callWith_builtin (by show(false || (backTo cpos (starEach es X.env)).any (·.1))=false;rw[hplain]<;>rfl) (Calls.evalArgs_plain ?_)
 exact thn hA fun us s2 ⟨vs,H2,I2,r2,q2⟩=>hm pins s2 σ H2 x vs v us Q I2 r1 r2 q2
end
end L2
namespace L2
open PySem PySem.Spec PyProof.Rows
def MtM(X:Cx)(id:String)(r:V→List V→Hp→VK→Prop):Prop :=
 ∀(pins:List (Addr×Obj)) (s:Shared) (σ:St) (H:Hp) (x:V) (xs:List V) (v:Value) (us:List Value) (Q:VK),Inv X pins σ H s→aR x v→aW xs us→r x xs H Q→
  wpAny (model X.prog X.w) X.A (call (.builtin id) (v::us)) (EP X pins σ Q) X.xe s
theorem aW.one:∀{x:V} {us:List Value},aW [x] us→∃ u,us=[u]∧aR x u
 | _,_,.cons r .nil=>⟨_,rfl,r⟩
theorem aW.rep{xs:List V}{us:List Value}(h:aW xs us):∀ k:Nat,aW (List.replicate k xs).flatten (List.replicate k us).flatten
 | 0=>.nil
 | k+1=>by
   rw[List.replicate_succ,List.replicate_succ,List.flatten_cons,List.flatten_cons]
   exact aW.append h (aW.rep h k)
theorem ma(its:List Value):∀(k:Nat) (acc:List Value),
 List.foldl (fun x1 x2=>x1++x2) acc.toArray (List.replicate k its.toArray)=(acc++(List.replicate k its).flatten).toArray
 | 0,acc=>by simp
 | k+1,acc=>by
   have e:acc.toArray++its.toArray=(acc++its).toArray:=by simp
   have e2:(acc++its)++(List.replicate k its).flatten=acc++(List.replicate (k+1) its).flatten:=by
    rw[List.replicate_succ,List.flatten_cons,List.append_assoc]
   rw[← e2,← ma its k (acc++its),← e,List.replicate_succ,List.foldl_cons]
section
variable {X:Cx}{pins:List (Addr×Obj)}{σ:St}{H:Hp}{s:Shared}{l b:Addr}{xs ys zs:List V}
theorem Inv.lset{its its' : List Value}{n:Nat}{f:Array Value→Array Value}{t' : Nat}(I:Inv X pins σ H s)(hH:H l=some (.lst xs))
 (e:s.heap.get? l=some { cls:=.type "list",data:=.seq its.toArray n}) (hf:f its.toArray=its'.toArray) (hv:aW ys its') (hz:ys.length≤sizeLine) :
 Inv X pins σ (upd H l (.lst ys)) { s with heap:=s.heap.update l (Obj.mapSeq f),toks:=t'}:=by
 have q:=PySem.IsL.update e f
 rw[hf]at q
 refine I.write (x:=l) (e:=l) (by rw[hH];exact trivial) (.inl rfl) (fun b' u hb hu=>(Heap.get?_update_other s.heap (Obj.mapSeq f) (Ne.symm hb)).trans hu) ⟨_,q⟩ ?_
 exact⟨hz,its',_,hv,q⟩
theorem Inv.lnew{its:List Value}{t' : Nat}(I:Inv X pins σ H s)(hv:aW ys its)(hz:ys.length≤sizeLine):
 Inv X pins σ (upd H s.heap.objs.size (.lst ys)) { s with heap:=s.heap.push { cls:=.type "list",data:=.seq its.toArray},toks:=t'} :=
 I.laid (fun _ _ q=>Heap.get?_push_of_some _ q) (Nat.le_refl _) ⟨hz,its,0,hv,Heap.get?_push_size _ rfl⟩
theorem Inv.fresh(I:Inv X pins σ H s):H s.heap.objs.size=none:=I.hok.fresh (Nat.le_refl _)
theorem Inv.lstM(I:Inv X pins σ H s)(hH:H l=some (.lst xs)):xs.length≤sizeLine∧∃(its:List Value) (n:Nat),aW xs its∧xs.length=its.length∧s.heap.get? l=some { cls:=.type "list",data:=.seq its.toArray n}:=by
 obtain⟨z,its,n,r,e⟩:=I.hok l _ hH
 exact⟨z,its,n,r,r.length,e⟩
theorem tm{n:Nat}(h:n≤sizeLine):Builtin.List.listTooLong n=false:=by
 unfold Builtin.List.listTooLong
 exact decide_eq_false (by(first|lia|omega))
end
section
variable {X:Cx}
def vC:V→List V→Hp→VK→Prop:=fun x vs H Q=>∃ l xs y,x = .ref l∧vs=[y]∧H l=some (.lst xs)∧xs.length<sizeLine∧Q .non (upd H l (.lst (xs++[y])))
theorem cC:MtM X "list.append" vC:=by
 intro pins s σ H x vs v us Q I rx rv h
 obtain⟨l,xs,y,rfl,rfl,hH,hz,q⟩:=h
 cases rx
 obtain⟨u,rfl,ru⟩:=rv.one
 obtain⟨z,its,n,r,hl,e⟩:=I.lstM hH
 refine call_meets F.slot_list_append ⟨_,e,rfl⟩ F.entry_list_append (F.args_list_append_2 _ _) (PySem.list_append l its.toArray n u (by rw[List.size_toArray];(first|lia|omega))) ⟨e,?_⟩
 refine⟨.non,_,I.lset (its':=its++[u]) hH e (by simp) (r.append (.cons ru .nil)) ?_,rfl,q⟩
 rw[List.length_append,List.length_singleton]
 (first|lia|omega)
def yC:R2:=fun x y H Q=>∃ l k xs,x = .ref l∧y = .int k∧H l=some (.lst xs)∧-(2^63)≤k∧k<2^63∧xs.length*k.toNat≤sizeLine∧
 ∀ p,H p=none→Q (.ref p) (upd H p (.lst (List.replicate k.toNat xs).flatten))
theorem ve{α:Type}(xs:List α)(k:Nat):(List.replicate k xs).flatten.length=k*xs.length:=by
 induction k with
 | zero=>simp
 | succ k ih=>rw[List.replicate_succ,List.flatten_cons,List.length_append,ih,Nat.succ_mul,Nat.add_comm]
theorem uS:OpR X (binaryOp .Mult) yC:=by
 intro pins s σ H x y v u Q I rx ry h
 obtain⟨l,k,xs,rfl,rfl,hH,h1,h2,hz,q⟩:=h
 cases rx
 obtain⟨t,rfl⟩:=ry
 obtain⟨z,its,n,r,hl,e⟩:=I.lstM hH
 have hlen:its.toArray.size*k.toNat≤sizeLine:=by rw[List.size_toArray,← hl];exact hz
 have hcap : ¬ its.toArray.size*k.toNat > (2^63-1)/8:=by
  have:(sizeLine:Nat)≤(2^63-1)/8:=by decide
  (first|lia|omega)
 have hfit : ¬(!Builtin.List.listFitsIndex k)=true:=by
  rw[fitsIndex_both h1 h2]
  exact Bool.false_ne_true
 have hlong : ¬ Builtin.List.listTooLong (its.toArray.size*k.toNat)=true:=by
  rw[tm hlen]
  exact Bool.false_ne_true
 have hnew:List.foldl (fun x1 x2=>x1++x2) #[] (List.replicate (if its.toArray.isEmpty=true then 0 else k.toNat) its.toArray)=(List.replicate k.toNat its).flatten.toArray:=by
  have f0:∀ m:Nat,List.foldl (fun x1 x2=>x1++x2) #[] (List.replicate m its.toArray)=(List.replicate m its).flatten.toArray:=fun m=>by
   have:=ma its m []
   rw[List.nil_append]at this
   exact this
  rw[f0]
  cases its with
  | nil=>simp
  | cons a r'=>rw[if_neg (by simp)]
 refine wpAny_binaryOp_repeat_ref (T:="list") (U:="int") (by decide) ⟨_,e,rfl⟩ (fun s'=>typeIs_int s' k t) noFill_list_mul F.fills_int_mul F.slot_int_rmul repeat_list F.slot_int_index.lookup
  (call_meets F.slot_int_rmul (typeIs_int s k t) F.entry_int_rmul (F.args_int_rmul_2 _ _) (int___rmul___int_list k t l its.toArray n)
   ⟨e,rfl,⟨_,e,rfl⟩,call_meets F.slot_list_mul ⟨_,e,rfl⟩ F.entry_list_mul (F.args_list_mul_2 _ _) (AutoListH.list___mul___list_int_3 l its.toArray n k t hfit hcap hlong) ⟨e,?_⟩⟩)
 rw[hnew]
 exact⟨.ref _,_,I.lnew (t':=s.toks) (r.rep k.toNat) (by rw[ve,Nat.mul_comm];exact hz),rfl,q _ I.fresh⟩
end
section
variable {prog:Program}{w:World}{A:Around}{E:Value→Shared→Prop}{s:Shared}
end
section
variable {X:Cx}
end
end L2
namespace Att
open PySem PySem.W PySem.Calls PyProof.Rows
theorem jK{P:Params}{h:Heap}:∀(ns:List Int) (vs:List Value),WellAll P h vs (ns.map WData.int)→IntsAre vs ns:=by
 intro ns
 induction ns with
 | nil =>
   intro vs w
   rw[List.map_nil]at w
   cases w
   exact .nil
 | cons n ns ih =>
   intro vs w
   rw[List.map_cons]at w
   cases w with
   | cons a b =>
     cases a
     exact .cons _ _ (ih _ b)
theorem rP{l:OpenLaw}{n:Nat}(hn:l.most=some n){P:Params}{h:Heap}{args:List WData}{vals:List Value}
 (hpre:l.row.toRowW.claim.pre args=true) (hwl:WellAll P h vals args) :
 ∃ a vs ns,vals=[Value.ref a]∧args=[WData.list (ns.map WData.int)]∧h.get? a=some { cls:=.type "list",data:=.seq vs.toArray}∧IntsAre vs ns∧ns.length≤n:=by
 have hsh:WShape.hasAll [] args [.list .int]=true:=(pre_splitW hpre).1
 have hc:l.pre.holds [] { args:=args}=true:=(pre_splitW hpre).2
 obtain⟨d,r,rfl,h1,h2⟩:=hasAllW_cons hsh
 obtain rfl:=hasAllW_nil h2
 obtain⟨xs,rfl,h3⟩:=hasW_list h1
 obtain⟨ns,rfl⟩:=items_int h3
 have hlen:ns.length≤n:=by
  unfold OpenLaw.pre at hc
  have h4:(WTm.not (.lt (.lit (.int (n:Int))) (.len (.arg 0)))).holds [] { args:=[.list (ns.map .int)]}=true:=by
   have h4:=(holds_andW hc).1
   rw[hn]at h4
   exact h4
  have h5:=condW_of h4 (w_not (w_lt w_lit (w_len_list (w_arg rfl))))
  rw[List.length_map]at h5
  refine Nat.le_of_not_lt fun q=>?_
  have q' : (n:Int)<((ns.length:Nat):Int):=by(first|lia|omega)
  first
   | (rw[decide_eq_true q']at h5;exact absurd h5 (by decide))
   | (simp at h5;(first|lia|omega))
 cases hwl with
 | cons w1 w2 =>
   cases w2
   cases w1 with
   | list ho hall=>exact⟨_,_,ns,rfl,rfl,ho,jK ns _ hall,hlen⟩
theorem rZ(l:OpenLaw)(args:List WData):l.row.toRowW.claim.post args (.bool true) args=true :=
 postW_of (r:=l.row.toRowW) (X:=(true==true))
  (show WShape.has [] (.bool true) .bool=true by first | rfl | decide | simp[WShape.has,WShape.arms,WShape.armsAll])
  (show(WTm.eq .res (.lit (.bool true))).value [] { args:=args,res:=some (.bool true),after:=args}=some (.bool (true==true)) from w_eq_bool (w_res rfl) w_lit) rfl
theorem nW{l:OpenLaw}{n:Nat}{q:Program}{loose:List Str}{XP:(Str→Option Value)→Heap→Prop}{YP:World→Heap→Prop}{d:DefRec}
 (hn:l.most=some n) (hdf:d.params.defaults=[])
 (call:∀(w:World) (s₀ s₁:Shared) (mg mb:Str→Option Value) (fa:Addr) (o:Obj) (pm cd doc:Value) (a:Addr) (vs:List Value) (ns:List Int),
  Ground q loose [] XP w s₀ mg mb s₁.heap→YP w s₁.heap→
  s₁.heap.get? fa=some o→o.data = .func (docDef d.name d.params d.body d.scope pm cd doc)→s₁.heap.CodeRec cd d.name→mg d.name=some (.ref fa)→
  s₁.heap.get? a=some { cls:=.type "list",data:=.seq vs.toArray}→IntsAre vs ns→ns.length≤n→s₁.gens = #[]→
  codeAny (model l.prog w) callerA (.call (.ref fa) ⟨[.ref a],[]⟩) (fun r s'=>r = .ok (.ret (.bool true))∧OldK s₁.heap s'.heap∧s'.os=s₁.os∧AllBare s'.gens) s₁) :
 WalkO q loose XP YP l.row.toRowW d [] (fun f vs=>PySem.call f vs):=by
 intro w s₀ s₁ mg mb G Y fa o pm cd doc dV kV ho hd hcd hD hmg hg args vals as hpre hlay hrd hwl hlo
 obtain rfl:dV = .none:=Dflts.none hD hdf
 obtain rfl:kV = .none:=Dflts.noKw hD
 obtain⟨a,vs,ns,rfl,rfl,hobj,hints,hlen⟩:=rP hn hpre hwl
 refine enter_call (codeAny_mono (call w s₀ s₁ mg mb fa o pm cd doc a vs ns G Y ho (fd_plain hd) hcd hmg hobj hints hlen hg) fun r s' hq=>?_)
 obtain⟨rfl,h2,h3,h4⟩:=hq
 exact⟨.inl ⟨.bool true,.bool true,[],rfl,fun _=>rfl,.bool true,rZ l _,fun _=>⟨List.Pairwise.nil,fun _ hm=>(nomatch hm)⟩⟩,h2,h3,h4⟩
section
variable {prog:Program}{w:World}{A:Around}{E:Value→Shared→Prop}{s:Shared}{K:Frag}
end
end Att
namespace L2
open PySem PySem.Spec PyProof.Rows
theorem lK:∀{vs:List Value} {ns:List Int},IntsAre vs ns→aW (ns.map V.int) vs
 | _,_,.nil=>.nil
 | _,_,.cons n t h=>.cons ⟨t,rfl⟩ (lK h)
end L2
namespace L2
open PySem PySem.Spec PyProof.Rows
end L2
namespace L2
open PySem PySem.Spec PyProof.Rows
def ay(s:Stmt):Arguments:=match s with
 | .FunctionDef _ a _ _ _ _ _ _ _ _=>a
 | _=>{ posonlyargs:=[],args:=[],vararg:=none,kwonlyargs:=[],kw_defaults:=[],kwarg:=none,defaults:=[]}
def ax(s:Stmt):List Stmt:=match s with
 | .FunctionDef _ _ b _ _ _ _ _ _ _=>b
 | _=>[]
def ag(s:Stmt):Scope:=match s with
 | .FunctionDef _ _ _ _ _ _ sc _ _ _=>sc
 | _=>{ kind:=.function,names:=[],isGenerator:=false,isCoroutine:=false}
abbrev CX0:CXT:=fun _ _ _ _ _ _=>False
abbrev E0:XK:=fun _ _ _=>False
theorem aM{X:Cx}:kW CX0 X E0:=fun _ _ _ _ _ _ _ h=>h.elim
structure Fun(K:PySem.W.Frag)(x qual:Str)(st:Stmt)(f:Addr)(fd:FuncData):Prop where
 ex:∃(oc:Value) (od:Option Addr) (kV doc pm:Value) (an:Option Addr) (cdv ct:Value) (osl:Array (Option Value)),
  fd=PySem.W.fnOf x qual (ay st) (ax st) (ag st) .none kV doc pm an cdv ct∧K.lookup f=some ⟨oc,od,.func fd,osl⟩∧PySem.W.codeIn K cdv qual=true
 kp:PySem.W.keepIn K (.ref f)=true
section
variable {P:Program}{w:World}{K:PySem.W.Frag}{mg:Str→Option Value}{base:Heap}
theorem Fun.ok{x qual:Str}{st:Stmt}{f:Addr}{fd:FuncData}{N ps:List Str}{k:Nat}{sp:Sp}(F:Fun K x qual st f fd)(S:FnScope N ps (ag st))(len:∀ vs H Q E,sp vs H Q E→vs.length=ps.length)
 (hbody:∀(cdv:Value) (A:Around) (outer:List Env) (s:Shared) (H:Hp) (vs:List V) (Q:VK) (E:XK),Room k (A.deeper (envOfC qual (ag st) s.heap.objs.size f cdv))→sp vs H Q E→
  ∃ t,PSs (mS CX0 P w K mg base N qual (ag st) f cdv A outer s H E).nox (ax st) t∧t { nx:=fun _ H'=>Q .non H',rt:=Q} (start N vs) H):FnOk P w K mg base CX0 (k+1) f fd ps sp:=by
 obtain⟨oc,od,kV,doc,pm,an,cdv,ct,osl,rfl,lk,hcd⟩:=F.ex
 refine tR lk hcd S len fun A outer s H vs Q E hr hsp=>?_
 obtain⟨t,h,q⟩:=hbody cdv A outer s H vs Q E hr hsp
 exact⟨t,h.nox,q⟩
theorem Fun.binds{x qual:Str}{st:Stmt}{f:Addr}{fd:FuncData}{ps:List Str}(F:Fun K x qual st f fd)
 (h:∀(kV doc pm:Value) (an:Option Addr) (cdv ct:Value) (us:List Value),us.length=ps.length→bindArgs (PySem.W.fnOf x qual (ay st) (ax st) (ag st) .none kV doc pm an cdv ct) ⟨us,[]⟩=pure (ps.zip us)):aU K fd ps []:=by
 obtain⟨oc,od,kV,doc,pm,an,cdv,ct,osl,rfl,lk,hcd⟩:=F.ex
 exact .all (h kV doc pm an cdv ct)
theorem aK{x qual:Str}{st:Stmt}{f:Addr}{oc:Value}{od an:Option Addr}{osl:Array (Option Value)}{kV doc pm cdv ct:Value}(l:K.lookup f=some ⟨oc,od,.func (PySem.W.fnOf x qual (ay st) (ax st) (ag st) .none kV doc pm an cdv ct),osl⟩)
 (c:PySem.W.codeIn K cdv qual=true) (k:PySem.W.keepIn K (.ref f)=true):Fun K x qual st f (PySem.W.fnOf x qual (ay st) (ax st) (ag st) .none kV doc pm an cdv ct):=⟨⟨oc,od,kV,doc,pm,an,cdv,ct,osl,rfl,l,c⟩,k⟩
end
theorem o8{A:Around}{k:Nat}(hr:Room k A):A.units+1<cLine:=Nat.lt_of_le_of_lt (Nat.add_le_add_left (by decide:1≤64) _) hr.units
theorem fG{n:Nat}(h:n≤1000):n<sizeLine:=Nat.lt_of_le_of_lt h (by decide)
section
variable {X:Cx}
theorem pv(i:Nat){x:Str}{pos:Pos}(hN:X.N[i]?=some x:=by rfl)(hv:Vis X.env.scope x:=by first | exact Or.inl rfl | exact Or.inr (Or.inl rfl) | exact Or.inr (Or.inr rfl))(hd:(x==("__debug__":Str))=false:=by decide)
 (hcd:(x==("__classdict__":Str))=false:=by decide):PE X (.Name x pos) (xS i):=xr hN hv hd hcd
end
theorem dr{A B:Prop}(h:B):if false=true then A else B:=by
 rw[if_neg Bool.false_ne_true]
 exact h
theorem d6{A B:Prop}(h:A):if true=true then A else B:=by
 rw[if_pos rfl]
 exact h
theorem jL{c A B:Prop}[Decidable c](h1:c→A)(h2 : ¬ c→B):if c then A else B:=by
 by_cases h:c
 ·rw[if_pos h]
  exact h1 h
 ·rw[if_neg h]
  exact h2 h
theorem qD{c A B:Prop}[Decidable c](hc:c)(h:B):if(!decide c)=true then A else B:=by
 rw[decide_eq_true hc]
 exact dr h
def am(H H' : Hp):Prop:=∀ b o,H b=some o→H' b=some o
theorem am.refl(H:Hp):am H H:=fun _ _ h=>h
theorem am.trans{H H1 H2:Hp}(a:am H H1)(b:am H1 H2):am H H2:=fun c o h=>b c o (a c o h)
theorem am.free{H H' : Hp}(e:am H H'){l:Addr}(h:H' l=Option.none):H l=Option.none:=by
 cases q:H l with
 | none=>rfl
 | some o =>
   rw[e l o q]at h
   cases h
theorem am.seq{K:PySem.W.Frag}{H H' : Hp}{a:Addr}{xs:List V}(e:am H H')(h:SqL K H a xs):SqL K H' a xs:=by
 rcases h with(h|⟨o,h⟩) | h
 ·exact .inl (.inl (e _ _ h))
 ·exact .inl (.inr ⟨o,e _ _ h⟩)
 ·exact .inr h
end L2
namespace L2
open PySem PySem.Spec PyProof.Rows
def bY(cells:List (Str×Addr)):List (Str×NameKind)→List (Str×Addr)→List (Str×Addr)
 | [],cs=>cs
 | (n,k)::r,cs=>bY cells r (if(k==NameKind.free)=true then(n,(cells.lookup n).getD 0)::cs else cs)
theorem ko{env:Env}{f:Str×NameKind→List (Str×Addr)→Sem (ForInStep (List (Str×Addr)))}
 (hf1:∀ n k cs c,(k==NameKind.free)=true→env.cells.lookup n=some c→f (n,k) cs=pure (.yield ((n,c)::cs)))
 (hf2:∀ n k cs,(k==NameKind.free)=false→f (n,k) cs=pure (.yield cs)) :
 ∀(names:List (Str×NameKind)) (cs:List (Str×Addr)),(∀ n k,(n,k)∈names→(k==NameKind.free)=true→∃ c,env.cells.lookup n=some c)→
  forIn names cs f=(pure (bY env.cells names cs):Sem (List (Str×Addr)))
 | [],cs,_=>by rw[List.forIn_nil];rfl
 | (n,k)::r,cs,h=>by
   have ih:=fun cs=>ko hf1 hf2 r cs fun m j hm=>h m j (List.mem_cons_of_mem _ hm)
   rw[List.forIn_cons]
   cases e:(k==NameKind.free) with
   | true =>
     obtain⟨c,hc⟩:=h n k List.mem_cons_self e
     rw[hf1 n k cs c e hc,pure_bind]
     show forIn r ((n,c)::cs) f=_
     rw[ih]
     conv=>rhs;unfold bY
     rw[if_pos e,hc]
     rfl
   | false =>
     rw[hf2 n k cs e,pure_bind]
     show forIn r cs f=_
     rw[ih]
     conv=>rhs;unfold bY
     rw[if_neg (by rw[e];exact Bool.false_ne_true)]
theorem hV{scope:Scope}{env:Env}(h:∀ n k,(n,k)∈scope.names→(k==NameKind.free)=true→∃ c,env.cells.lookup n=some c):closureFor scope env=pure (bY env.cells scope.names []):=by
 simp only[closureFor]
 rw[ko (env:=env) ?_ ?_ scope.names [] h]
 ·rfl
 ·intro n k cs c e hc
  show(if(k==NameKind.free)=true then _ else _)=_
  rw[if_pos e]
  unfold cellOf
  rw[hc]
  rfl
 ·intro n k cs e
  show(if(k==NameKind.free)=true then _ else _)=_
  rw[if_neg (by rw[e];exact Bool.false_ne_true)]
theorem eZ{cells:List (Str×Addr)}{x:Str}{c:Addr}:∀{names:List (Str×NameKind)} {cs:List (Str×Addr)},(bY cells names cs).lookup x=some c→cs.lookup x=some c∨((x,NameKind.free)∈names∧(cells.lookup x).getD 0=c)
 | [],cs,h=>.inl h
 | (n,k)::r,cs,h=>by
   unfold bY at h
   rcases eZ h with q|⟨q1,q2⟩
   ·by_cases e:(k==NameKind.free)=true
    ·rw[if_pos e]at q
     by_cases hx:x=n
     ·subst hx
      rw[List.lookup_cons_self]at q
      have hk:k=NameKind.free:=eq_of_beq e
      exact .inr ⟨by rw[hk];exact List.mem_cons_self,Option.some.inj q⟩
     ·have hb:(x==n)=false:=beq_eq_false_iff_ne.mpr hx
      simp only[List.lookup_cons,hb]at q
      exact .inl q
    ·rw[if_neg e]at q
     exact .inl q
   ·exact .inr ⟨List.mem_cons_of_mem _ q1,q2⟩
theorem eP{cells:List (Str×Addr)}{x:Str}:∀{names:List (Str×NameKind)} {cs:List (Str×Addr)},((x,NameKind.free)∈names∨∃ c,cs.lookup x=some c)→∃ c,(bY cells names cs).lookup x=some c
 | [],cs,h=>by
   rcases h with h|h
   ·cases h
   ·exact h
 | (n,k)::r,cs,h=>by
   unfold bY
   apply eP
   rcases h with h|⟨c,h⟩
   ·rcases List.mem_cons.mp h with h|h
    ·cases h
     right
     rw[if_pos (by rfl)]
     exact⟨_,List.lookup_cons_self⟩
    ·exact .inl h
   ·right
    by_cases e:(k==NameKind.free)=true
    ·rw[if_pos e]
     by_cases hx:x=n
     ·subst hx
      exact⟨_,List.lookup_cons_self⟩
     ·have hb:(x==n)=false:=beq_eq_false_iff_ne.mpr hx
      exact⟨c,by simp only[List.lookup_cons,hb];exact h⟩
    ·rw[if_neg e]
     exact⟨c,h⟩
theorem fU{env:Env}{x:Str}{k:NameKind}:∀{names:List (Str×NameKind)},
 (names.map fun(n,k)=>if(k==NameKind.free&&env.scope.kind == .function&&env.kindOf n==some .cell) then(n,NameKind.cell) else(n,k)).lookup x=some k→
  ∃ k0,names.lookup x=some k0∧(k=k0∨(k0 = .free∧k = .cell))
 | [],h=>by cases h
 | (n,j)::r,h=>by
   have ih:=@fU env x k r
   replace h:List.lookup x ((if(j==NameKind.free&&env.scope.kind == .function&&env.kindOf n==some .cell)=true then(n,NameKind.cell) else(n,j))::_)=some k:=h
   cases hx:x==n with
   | true =>
     by_cases hc:(j==NameKind.free&&env.scope.kind == .function&&env.kindOf n==some .cell)=true
     ·rw[if_pos hc]at h
      simp only[List.lookup_cons,hx]at h ⊢
      have hj:j=NameKind.free:=by
       rw[Bool.and_eq_true,Bool.and_eq_true]at hc
       exact eq_of_beq hc.1.1
      exact⟨j,rfl,.inr ⟨hj,(Option.some.inj h).symm⟩⟩
     ·rw[if_neg hc]at h
      simp only[List.lookup_cons,hx]at h ⊢
      exact⟨j,rfl,.inl (Option.some.inj h).symm⟩
   | false =>
     by_cases hc:(j==NameKind.free&&env.scope.kind == .function&&env.kindOf n==some .cell)=true
     ·rw[if_pos hc]at h
      simp only[List.lookup_cons,hx]at h ⊢
      exact ih h
     ·rw[if_neg hc]at h
      simp only[List.lookup_cons,hx]at h ⊢
      exact ih h
theorem iJ{env:Env}{x:Str}:∀{names:List (Str×NameKind)},names.lookup x=some .free→
 (names.map fun(n,k)=>if(k==NameKind.free&&env.scope.kind == .function&&env.kindOf n==some .cell) then(n,NameKind.cell) else(n,k)).lookup x=some .cell∨
 (names.map fun(n,k)=>if(k==NameKind.free&&env.scope.kind == .function&&env.kindOf n==some .cell) then(n,NameKind.cell) else(n,k)).lookup x=some .free
 | [],h=>by cases h
 | (n,j)::r,h=>by
   have ih:=@iJ env x r
   show List.lookup x ((if(j==NameKind.free&&env.scope.kind == .function&&env.kindOf n==some .cell)=true then(n,NameKind.cell) else(n,j))::_)=_∨
    List.lookup x ((if(j==NameKind.free&&env.scope.kind == .function&&env.kindOf n==some .cell)=true then(n,NameKind.cell) else(n,j))::_)=_
   cases hx:x==n with
   | true =>
     simp only[List.lookup_cons,hx]at h
     cases h
     by_cases hc:(NameKind.free==NameKind.free&&env.scope.kind == .function&&env.kindOf n==some .cell)=true
     ·rw[if_pos hc]
      simp only[List.lookup_cons,hx]
      exact .inl trivial
     ·rw[if_neg hc]
      simp only[List.lookup_cons,hx]
      exact .inr trivial
   | false =>
     simp only[List.lookup_cons,hx]at h
     by_cases hc:(j==NameKind.free&&env.scope.kind == .function&&env.kindOf n==some .cell)=true
     ·rw[if_pos hc]
      simp only[List.lookup_cons,hx]
      exact ih h
     ·rw[if_neg hc]
      simp only[List.lookup_cons,hx]
      exact ih h
def bZ(X:Cx)(N:List Str)(scope:Scope)(xe:Value→Shared→Prop)(C:Addr)(s:Shared)(H:Hp)(fp:List Addr):Cx where
 prog:=X.prog
 w:=X.w
 K:=X.K
 mg:=X.mg
 base:=X.base
 A:=X.A
 N:=N
 s₀:=s
 H₀:=H
 env:=compEnvC scope (bY X.env.cells scope.names []) C X.env
 outer:=X.stack
 stack:=X.stack
 ex:=fp
 fn:=fun _=>false
 calm:=X.calm
 pn:=[]
 xe:=xe
def cN(σ:St)(js:List Nat):St:=js.map fun j=>(σ[j]?).getD none
structure CompText(X:Cx)(scope:Scope)(own frees:List Str)(js:List Nat):Prop where
 kind:scope.kind = .function
 nocell:∀ y∈scope.names,y.2≠.cell
 names:∀ y∈scope.names,y.2 = .local→scope.names.lookup y.1=some .local
 free:∀ y∈scope.names,y.2 = .free→X.env.scope.names.lookup y.1=some .cell∨X.env.scope.names.lookup y.1=some .free
 at_:js.map (fun j=>X.N[j]?)=frees.map some
 fr:∀ x∈frees,scope.names.lookup x=some .free
theorem kB{σ:St}{js:List Nat}{i:Nat}{v:V}(h:(cN σ js)[i]?=some (some v)):∃ j,js[i]?=some j∧σ[j]?=some (some v):=by
 unfold cN at h
 rw[List.getElem?_map]at h
 cases e:js[i]? with
 | none=>rw[e]at h;cases h
 | some j =>
   rw[e]at h
   have h' : (σ[j]?).getD none=some v:=Option.some.inj h
   refine⟨j,rfl,?_⟩
   cases q:σ[j]? with
   | none=>rw[q]at h';cases h'
   | some o=>rw[q]at h';rw[show o=some v from h']
section
variable {X:Cx}
theorem dw{pins:List (Addr×Obj)}{σ:St}{H:Hp}{s:Shared}{scope:Scope}{own frees:List Str}{js:List Nat}(I:Inv X pins σ H s)(T:CompText X scope own frees js):
 ∀ n k,(n,k)∈scope.names→(k==NameKind.free)=true→∃ c,X.env.cells.lookup n=some c:=fun n k hm e=>by
 have hk:k=NameKind.free:=eq_of_beq e
 exact I.ok.has n (T.free (n,k) hm hk)
theorem tK{pins:List (Addr×Obj)}{σ:St}{H:Hp}{s:Shared}{scope:Scope}{own frees:List Str}{js:List Nat}{fp:List Addr}{D C:Addr}{h1:Heap}{t1:Nat}{m:Str→Option Value}{xe:Value→Shared→Prop}
 (I:Inv X pins σ H s) (T:CompText X scope own frees js) (hf:∀ b∈fp,iy X pins H b) (hfo:∀ b∈fp,∃ o,s.heap.get? b=some o) (hD:s.heap.objs.size≤D) (hC:s.heap.objs.size≤C) (hDC:D≠C)
 (old:∀ b o,s.heap.get? b=some o→h1.get? b=some o) (hl:h1.get? D=some { cls:=.type "list",data:=.seq ([]:List Value).toArray 0}) (hn:h1.Ns C m) :
 Inv (bZ X (own++frees) scope xe C s H fp) [] (List.replicate own.length none++cN σ js) (upd H D (.lst [])) { s with heap:=h1,toks:=t1}:=by
 have cells:∀ x c,(bY X.env.cells scope.names []).lookup x=some c→X.env.cells.lookup x=some c:=fun x c h=>by
  rcases eZ h with q|⟨q1,q2⟩
  ·cases q
  ·obtain⟨c',hc'⟩:=dw I T x .free q1 rfl
   rw[hc']at q2
   rw[hc']
   exact congrArg some q2
 have lt_of:∀ b o,s.heap.get? b=some o→b<s.heap.objs.size:=fun b o e=>Heap.lt_size e
 have hcl:∀ x c,X.env.cells.lookup x=some c→c<s.heap.objs.size:=fun x c e=>by
  obtain⟨v,q⟩:=I.cell x c e
  exact q.lt
 have frlt:∀ b∈frs X.stack,b<s.heap.objs.size:=fun b hb=>by
  obtain⟨_,o,ho,_⟩:=I.stack.mem hb
  exact Heap.lt_size ho
 have hHD:H D=none:=I.hok.fresh hD
 have hHC:H C=none:=I.hok.fresh hC
 refine⟨⟨I.ok.mod,T.kind,I.ok.glob,I.ok.blt,hC,fun x y c a b=>I.ok.inj x y c (cells x c a) (cells y c b),fun x hx=>?_,fun x c z _=>(nomatch z),I.ok.hd,I.ok.frames,.inl rfl,fun b hb=>⟨?_,fun x c e z=>?_⟩,
  fun b o e=>I.bs b o e,Nat.le_trans I.ok.bsz I.sz,fun b o e hb=>?_,fun b hb z=>?_,I.stack,I.stkFree⟩,
  rfl,I.bare,Un.laid old hD hHD,⟨m,hn,fun i x v e1 e2 e3=>?_⟩,fun x c e=>?_,?_,fun x c e=>?_,fun p hp=>absurd (show p∈([]:List (Addr×Obj)) from hp) (by simp),?_,?_⟩
 ·
  have hx:(relabel scope X.env).names.lookup x=some .cell∨(relabel scope X.env).names.lookup x=some .free:=hx
  have hf0:(x,NameKind.free)∈scope.names:=by
   rcases hx with hx|hx
   ·obtain⟨k0,q,r⟩:=fU hx
    have hm:=PySem.mem_of_lookup q
    rcases r with r|⟨r,_⟩
    ·exact absurd r.symm (T.nocell _ hm)
    ·rw[r]at hm;exact hm
   ·obtain⟨k0,q,r⟩:=fU hx
    have hm:=PySem.mem_of_lookup q
    rcases r with r|⟨_,r⟩
    ·rw[← r]at hm;exact hm
    ·cases r
  exact eP (.inl hf0)
 ·
  obtain⟨o,ho⟩:=hfo b hb
  exact Nat.ne_of_lt (Nat.lt_of_lt_of_le (lt_of b o ho) hC)
 ·exact(hf b hb).2.2.2.2.1 x c (cells x c e) z
 ·
  obtain⟨_,_,_,f3,_,_⟩:=hf b hb
  rcases f3 with z|z
  ·exact I.ok.noex b o e z
  ·exact absurd (Nat.lt_of_lt_of_le (Heap.lt_size (I.ok.bs b o e).1) z) (Nat.lt_irrefl _)
 ·
  obtain⟨_,f1,f2,_⟩:=hf b hb
  rcases List.mem_cons.mp (I.stkSub b z) with q|q
  ·exact f1 q
  ·exact f2 q
 ·
  by_cases hi:i<own.length
  ·rw[List.getElem?_append_left (by simpa using hi),List.getElem?_replicate,if_pos hi]at e2
   cases e2
  ·rw[List.getElem?_append_right (by simpa using hi),List.length_replicate]at e2
   replace e1:(own++frees)[i]?=some x:=e1
   rw[List.getElem?_append_right (by(first|lia|omega))]at e1
   obtain⟨j,hj,hσ⟩:=kB e2
   have hN:X.N[j]?=some x:=by
    have q:=congrArg (fun l=>l[i-own.length]?) T.at_
    simp only[List.getElem?_map,hj,e1,Option.map_some]at q
    exact Option.some.inj q
   have hfx:=T.fr x (List.mem_of_getElem? e1)
   have hm:=PySem.mem_of_lookup hfx
   have hk:=T.free (x,.free) hm rfl
   obtain⟨m0,hn0,hl0⟩:=I.loc
   obtain⟨u,r,l⟩:=hl0 j x v hN hσ (by rcases hk with k|k;exact .inr (.inl k);exact .inr (.inr k))
   refine⟨u,r,.inr ⟨iJ hfx,?_⟩⟩
   rcases l with⟨hkl,_⟩|⟨_,c,hc,hcell⟩
   ·have hkl:X.env.scope.names.lookup x=some .local:=hkl
    rcases hk with k|k<;>(rw[hkl]at k;cases k)
   ·obtain⟨c',hc'⟩:=eP (cells:=X.env.cells) (names:=scope.names) (cs:=[]) (x:=x) (.inl hm)
    have q:=cells x c' hc'
    rw[hc]at q
    cases q
    exact⟨c,hc',hcell.keeps old⟩
 ·
  obtain⟨v,q⟩:=I.cell x c (cells x c e)
  exact⟨v,q.keeps old⟩
 ·
  show upd H D (.lst []) C=none
  rw[ak (Ne.symm hDC)]
  exact hHC
 ·show upd H D (.lst []) c=none
  have e:=cells x c e
  rw[ak (Nat.ne_of_lt (Nat.lt_of_lt_of_le (hcl x c e) hD))]
  exact I.freeC x c e
 ·exact I.hok.laid old hD ⟨Nat.zero_le _,[],0,.nil,hl⟩
 ·show _=(own++frees).length
  have q:=congrArg List.length T.at_
  rw[List.length_map,List.length_map]at q
  rw[List.length_append,List.length_append,List.length_replicate]
  unfold cN
  rw[List.length_map,q]
theorem hJ{pins:List (Addr×Obj)}{σ σ' : St}{H H' : Hp}{s s' : Shared}{scope:Scope}{N:List Str}{fp:List Addr}{C:Addr}{h' : Heap}{xe:Value→Shared→Prop}
 (I:Inv X pins σ H s) (hf:∀ b∈fp,iy X pins H b) (hC:s.heap.objs.size≤C) (J:Inv (bZ X N scope xe C s H fp) [] σ' H' s') (sb:Heap.SameBut C s'.heap h'):Inv X pins σ H' { s' with heap:=h'}:=by
 have hHC:H' C=none:=J.free
 refine I.call' (ch:=fp) J.os ?_ ?_ J.bare (fun b hb=>?_)
 ·have u:Un (frs X.stack) fp H H' s.heap s'.heap:=J.base
  have ne:∀ b o,s.heap.get? b=some o→b≠C:=fun b o e=>Nat.ne_of_lt (Nat.lt_of_lt_of_le (Heap.lt_size e) hC)
  refine⟨fun b o e n hb hx=>(sb.2 b (ne b o e)).trans (u.keep b o e n hb hx),fun b o e n hb hx=>?_,u.free,fun b o e hx=>?_,u.tups,u.frzs,u.tbls⟩
  ·obtain⟨sl,q⟩:=u.slot b o e n hb hx
   exact⟨sl,(sb.2 b (ne b o e)).trans q⟩
  ·obtain⟨o',q⟩:=u.there b o e hx
   exact⟨o',(sb.2 b (ne b o e)).trans q⟩
 ·intro b ob e
  refine(J.hok b ob e).stay (fun c w' hc q=>(sb.2 c ?_).trans q) (fun _ q=>q) fun _ _ q=>q
  rintro rfl
  rcases hc with rfl|hc
  ·rw[hHC]at e;cases e
  ·rw[hHC]at hc;cases hc
 ·obtain⟨_,f1,_,f3,f4,f5⟩:=hf b hb
  exact⟨f3,f1,f4,f5⟩
end
section
variable {prog:Program}{w:World}{A:Around}{R:Result→Shared→Prop}{s:Shared}
abbrev qp(ifs:List Expr)(env:Env):Sem Bool:=forIn ifs true fun c r=>if r=true then do let ok←isTrue c env (eval c env);pure (ForInStep.yield ok) else pure (ForInStep.yield r)
theorem mX{elt target iter:Expr}{ifs:List Expr}{scope:Scope}{pos:Pos}{it acc:Value}{env:Env}(I:Nat→Shared→Prop)
 (turn:∀ n s,I n s→wpAny (model prog w) A (pyNext it) (fun r s₁=>match r with
  | none=>R (.ok .next) s₁
  | some v=>wpAny (model prog w) A (letOwnedTupleGo target it v) (fun _ s₀=>wpAny (model prog w) A (assign target env v) (fun _ s₂ =>
   wpAny (model prog w) A (qp ifs env) (fun ok s₃ =>
    if ok=true then wpAny (model prog w) A (eval elt env) (fun x s₄ =>
     wpAny (model prog w) A (call (.builtin "list.append") [acc,x]) (fun _ s₅=>∃ m,m<n∧I m s₅) (notedBy (model prog w) A env fun e s'=>R (.error e) s') s₄) (notedBy (model prog w) A env fun e s'=>R (.error e) s') s₃
    else ∃ m,m<n∧I m s₃) (notedBy (model prog w) A env fun e s'=>R (.error e) s') s₂) (notedBy (model prog w) A env fun e s'=>R (.error e) s') s₀) (notedBy (model prog w) A env fun e s'=>R (.error e) s') s₁) (notedBy (model prog w) A env fun e s'=>R (.error e) s') s)
 (n:Nat) (h:I n s) :
 codeAny (model prog w) A (.compLoop (.ListComp elt [⟨target,iter,ifs,0⟩] scope pos) 0 it acc env) R s:=by
 refine codeAny_loop rfl I (fun n s hI=>?_) n h
 show wpAny _ A ((compTurn (.ListComp elt [⟨target,iter,ifs,0⟩] scope pos) 0 it acc env).onRaise (fun x=>do noteFrame x env;theTreesLotGoes x)) _ _ s
 refine wpAny_noted ?_
 rw[compTurn_list]
 refine wpAny_bind (wpAny_standAt (wpAny_bind (wpAny_mono (turn n s hI) (fun r s₁ h₁=>?_) fun _ _ h'=>h')))
 cases r with
 | none=>exact wpAny_pure h₁
 | some v =>
   refine wpAny_bind (wpAny_mono h₁ (fun _ s₀ h₀=>?_) fun _ _ h'=>h')
   refine wpAny_bind (wpAny_mono h₀ (fun _ s₂ h₂=>wpAny_bind (wpAny_mono h₂ (fun ok s₃ h₃=>?_) fun _ _ h'=>h')) fun _ _ h'=>h')
   cases ok with
   | false=>exact wpAny_pure ⟨rfl,h₃⟩
   | true =>
     exact wpAny_bind (wpAny_bind (wpAny_mono h₃ (fun x s₄ h₄=>wpAny_bind (wpAny_mono h₄ (fun _ s₅ h₅=>wpAny_pure (wpAny_pure ⟨rfl,h₅⟩)) fun _ _ h'=>h')) fun _ _ h'=>h'))
end
def PTs(X:Cx)(ifs:List Expr)(t:TT):Prop :=
 ∀(pins:List (Addr×Obj)) (s:Shared) (σ:St) (H:Hp) (Q:Bool→Hp→Prop),Inv X pins σ H s→t σ H Q→wpAny (model X.prog X.w) X.A (qp ifs X.env) (TP X pins σ Q) X.xe s
def xJ:TT:=fun _ H Q=>Q true H
theorem db{X:Cx}:PTs X [] xJ:=fun _ _ _ H _ I h=>wpAny_tests_nil ⟨H,I,h⟩
theorem dL{X:Cx}{c:Expr}{t:TT}(h:PT X c t):PTs X [c] t:=fun pins s σ H Q I q=>wpAny_tests_one (h pins s σ H Q I q)
def fF(J:It)(g:TG)(tt:TT)(te:TE)(n:Nat)(fr:St)(D:Addr)(Q:Hp→Prop)(H1:Hp):Prop :=
 ∃ W:Nat→Nat→List V→Hp→Prop,(∃ m,W 0 m [] H1)∧∀ i m acc H,W i m acc H→H D=some (.lst acc)∧
   ((J.stop i H∧Q H)∨(J.go i H∧acc.length<sizeLine∧∃ N:List V→Hp→Prop,(∀ acc' H',N acc' H'→∃ m',m'<m∧W (i+1) m' acc' H')∧
     ∀ x H',J.yld i H x H'→g x (List.replicate n none++fr) H' fun σ2 H2=>σ2.drop n=fr∧tt σ2 H2 fun b H3 =>
     if b=true then te σ2 H3 fun v H4=>H4 D=some (.lst acc)∧N (acc++[v]) (upd H4 D (.lst (acc++[v])))
     else N acc H3))
def wq(wi:TI)(g:TG)(tt:TT)(te:TE)(n:Nat)(js:List Nat):TE:=fun σ H Q=>wi σ H fun J H1=>∀ D,H1 D=none→fF J g tt te n (cN σ js) D (fun H2=>Q (.ref D) H2) (upd H1 D (.lst []))
structure TurnX(A:Around)(cm:Bool)(P:Program)(w:World)(K:PySem.W.Frag)(tg:Expr)(J:It)(fp:List Addr)(it:Addr)(tn:Nat→Heap→Prop):Prop where
 mem:it∈fp
 obj:∀ i h,tn i h→∀ b∈fp,∃ o,h.get? b=some o∧∀ v,o.data≠.cell v
 keep:∀ i h h',tn i h→(∀ b∈fp,∀ o,h.get? b=some o→h'.get? b=some o)→tn i h'
 item:∀(X:Cx),X.prog=P→X.w=w→X.K=K→X.A=A→X.calm=cm→∀(i:Nat) (pins:List (Addr×Obj)) (s:Shared) (σ:St) (H:Hp) (E:Value→Shared→Prop),Inv X pins σ H s→(∀ b∈fp,iy X pins H b)→tn i s.heap→J.go i H→
  wpAny (model P w) X.A (pyNext (.ref it)) (fun r s1=>∃ u,r=some u∧
   wpAny (model P w) X.A (letOwnedTupleGo tg (.ref it) u) (fun _ s2=>∃ x H',Inv X pins σ H' s2∧aR x u∧J.yld i H x H'∧tn (i+1) s2.heap∧∀ b∈fp,H' b=none) E s1) E s
 done:∀(X:Cx),X.prog=P→X.w=w→X.K=K→X.A=A→X.calm=cm→∀(i:Nat) (pins:List (Addr×Obj)) (s:Shared) (σ:St) (H:Hp) (E:Value→Shared→Prop),Inv X pins σ H s→(∀ b∈fp,iy X pins H b)→tn i s.heap→J.stop i H→
  wpAny (model P w) X.A (pyNext (.ref it)) (fun r s1=>r=none∧Inv X pins σ H s1) E s
 self:∀(A:Around) (i:Nat) (s:Shared) (Q:Value→Shared→Prop) (E:Value→Shared→Prop),tn i s.heap→Q (.ref it) s→wpAny (model P w) A (pyIter (.ref it)) Q E s
theorem Turn.x{A:Around}{cm:Bool}{P:Program}{w:World}{K:PySem.W.Frag}{tg:Expr}{J:It}{fp:List Addr}{it:Addr}{tn:Nat→Heap→Prop}(T:Turn P w K tg J fp it tn)(hc:cm=true):TurnX A cm P w K tg J fp it tn :=
 ⟨T.mem,T.obj,T.keep,fun X a b c _ d=>T.item X a b c (d.trans hc),fun X a b c _ d=>T.done X a b c (d.trans hc),T.self⟩
section
variable {X:Cx}{elt iter tg:Expr}{ifs:List Expr}{scope:Scope}{pos:Pos}{own frees:List Str}{js:List Nat}{wi:TI}{g:TG}{tt:TT}{te:TE}
theorem kU{pins:List (Addr×Obj)}{σ:St}{H2:Hp}{s2:Shared}{it:Addr}{fp:List Addr}{tn:Nat→Heap→Prop}{J:It}{E:Value→Shared→Prop}{RR:Value→Addr→Result→Shared→Prop}{QQ:Addr→Hp→Prop}
 (T:CompText X scope own frees js)
 (hg:∀ C s H fp,PG (bZ X (own++frees) scope (fun _ _=>False) C s H fp) tg g)
 (ht:∀ C s H fp,PTs (bZ X (own++frees) scope (fun _ _=>False) C s H fp) ifs tt)
 (he:∀ C s H fp,PE (bZ X (own++frees) scope (fun _ _=>False) C s H fp) elt te)
 (I2:Inv X pins σ H2 s2) (TT' : TurnX X.A X.calm X.prog X.w X.K tg J fp it tn) (st2:tn 0 s2.heap) (f2:∀ b∈fp,iy X pins H2 b)
 (hl:∀ D,H2 D=none→fF J g tt te own.length (cN σ js) D (QQ D) (upd H2 D (.lst [])))
 (hRR:∀ D C σ' H' s',s2.heap.objs.size≤C→Inv (bZ X (own++frees) scope (fun _ _=>False) C s2 H2 fp) [] σ' H' s'→QQ D H'→RR (.ref D) C (.ok .next) s') :
 wpAny (model X.prog X.w) X.A (newList []) (fun acc s₃=>wpAny (model X.prog X.w) X.A (newFunctionEnv scope X.env.globals (bY X.env.cells scope.names []) [] X.env.qual none .none (some X.env)) (fun cenv s₄ =>
  codeAny (model X.prog X.w) X.A (.compStart (.ListComp elt [⟨tg,iter,ifs,0⟩] scope pos) 0 (.ref it) acc { cenv with scope:=relabel scope X.env}) (RR acc cenv.locals) s₄) E s₃) E s2:=by
 refine wpAny_newObj_type (wpAny_newFunctionEnv T.nocell (by intro y hy;simp at hy) (fun h₁ hns₁ hsb₁=>?_) T.kind)
 dsimp only at hns₁ hsb₁ ⊢
 generalize hH2:s2.heap.push { cls:=.type "list",dict:=none,data:=.seq ([]:List Value).toArray}=G2 at hns₁ hsb₁ ⊢
 have hC:G2.objs.size=s2.heap.objs.size+1:=by rw[← hH2,Heap.size_push]
 have hDC:s2.heap.objs.size≠G2.objs.size:=by rw[hC];exact Nat.ne_of_lt (Nat.lt_succ_self _)
 have hCle:s2.heap.objs.size≤G2.objs.size:=by rw[hC];exact Nat.le_succ _
 have below:∀ b,b<s2.heap.objs.size→b≠G2.objs.size:=fun b hb=>by rw[hC];exact Nat.ne_of_lt (Nat.lt_succ_of_lt hb)
 have old:∀ b o,s2.heap.get? b=some o→h₁.get? b=some o:=fun b o e=>hsb₁.extBut b o (below b (Heap.lt_size e)) (Heap.get?_push_of_some _ (hH2▸Heap.get?_push_of_some _ e))
 have hacc:h₁.get? s2.heap.objs.size=some { cls:=.type "list",data:=.seq ([]:List Value).toArray 0}:=hsb₁.extBut _ _ hDC (Heap.get?_push_of_some _ (hH2▸Heap.get?_push_size _ rfl))
 have fpo:∀ b∈fp,∃ o,s2.heap.get? b=some o:=fun b hb=>let⟨o,e,_⟩:=TT'.obj _ _ st2 b hb;⟨o,e⟩
 have st1:tn 0 h₁:=TT'.keep _ _ _ st2 fun b _ o e=>old b o e
 obtain⟨W,⟨m0,w0⟩,turn⟩:=hl s2.heap.objs.size (I2.hok.fresh (Nat.le_refl _))
 have hfx:∀{H' : Hp},(∀ b∈fp,H' b=none)→∀ b∈fp,iy (bZ X (own++frees) scope (fun _ _=>False) G2.objs.size s2 H2 fp) [] H' b:=fun {H'} hn b hb=>by
  obtain⟨_,f1,f2',_,f4,_⟩:=f2 b hb
  obtain⟨o,ho⟩:=fpo b hb
  refine⟨hn b hb,below b (Heap.lt_size ho),fun z=>?_,.inl hb,fun x c e=>?_,fun p hp=>absurd (show p∈([]:List (Addr×Obj)) from hp) (by simp)⟩
  ·rcases List.mem_cons.mp (I2.stkSub b z) with q|q
   ·exact f1 q
   ·exact f2' q
  ·rcases eZ (show(bY X.env.cells scope.names []).lookup x=some c from e) with q|⟨q1,q2⟩
   ·cases q
   ·obtain⟨c',hc'⟩:=dw I2 T x .free q1 rfl
    rw[hc']at q2
    have q2:c' = c:=q2
    rw[← q2]
    exact f4 x c' hc'
 have fp0:∀ b∈fp,upd H2 s2.heap.objs.size (.lst []) b=none:=fun b hb=>by
  obtain⟨o,ho⟩:=fpo b hb
  rw[ak (Nat.ne_of_lt (Heap.lt_size ho))]
  exact(f2 b hb).1
 have back:∀{σ6:St} {p6:List (Addr×Obj)} {H6:Hp} {s6:Shared},Inv (bZ X (own++frees) scope (fun _ _=>False) G2.objs.size s2 H2 fp) p6 σ6 H6 s6→σ6.drop own.length=cN σ js→
  Inv (bZ X (own++frees) scope (fun _ _=>False) G2.objs.size s2 H2 fp) [] (List.replicate own.length none++cN σ js) H6 s6:=fun {σ6 p6 H6 s6} I6 hd=>by
  have hl6:σ6.length=(own++frees).length:=I6.len
  have J6:=I6.pins_of (pins':=[]) fun p hp=>absurd hp (by simp)
  refine J6.weak ?_ fun i v e=>?_
  ·have q:=congrArg List.length hd
   rw[List.length_drop]at q
   rw[List.length_append]at hl6
   rw[List.length_append,List.length_replicate]
   (first|lia|omega)
  ·by_cases hi:i<own.length
   ·rw[List.getElem?_append_left (by simpa using hi),List.getElem?_replicate,if_pos hi]at e
    cases e
   ·rw[List.getElem?_append_right (by simpa using hi),List.length_replicate,← hd,List.getElem?_drop]at e
    rw[show own.length+(i-own.length)=i by(first|lia|omega)]at e
    exact e
 have loop:∀ s₃:Shared,s₃={ s2 with heap:=h₁,toks:=s2.toks+([]:List (Str×Value)).length}→
  codeAny (model X.prog X.w) X.A (.compLoop (.ListComp elt [⟨tg,iter,ifs,0⟩] scope pos) 0 (.ref it) (.ref s2.heap.objs.size) (compEnvC scope (bY X.env.cells scope.names []) G2.objs.size X.env))
   (RR (.ref s2.heap.objs.size) G2.objs.size) s₃:=by
  rintro s₃ rfl
  refine mX (fun n s'=>∃ i acc H',Inv (bZ X (own++frees) scope (fun _ _=>False) G2.objs.size s2 H2 fp) [] (List.replicate own.length none++cN σ js) H' s'∧tn i s'.heap∧(∀ b∈fp,H' b=none)∧W i n acc H') ?_ m0
   ⟨0,[],upd H2 s2.heap.objs.size (.lst []),tK I2 T f2 fpo (Nat.le_refl _) hCle hDC old hacc hns₁,st1,fp0,w0⟩
  rintro n s3 ⟨i,acc,H3,I3,st3,fr3,w3⟩
  obtain⟨hD3,hcase⟩:=turn i n acc H3 w3
  rcases hcase with⟨stop,qn⟩|⟨go,hz,NN,hNN,step⟩
  ·refine wpAny_mono (TT'.done (bZ X (own++frees) scope (fun _ _=>False) G2.objs.size s2 H2 fp) rfl rfl rfl rfl rfl i [] s3 _ H3 (fun _ _=>False) I3 (hfx fr3) st3 stop) (fun r s4 ⟨hr,I4⟩=>?_) fun _ _ z=>z.elim
   subst hr
   exact hRR _ _ _ H3 s4 hCle I4 qn
  ·refine wpAny_mono (TT'.item (bZ X (own++frees) scope (fun _ _=>False) G2.objs.size s2 H2 fp) rfl rfl rfl rfl rfl i [] s3 _ H3 (fun _ _=>False) I3 (hfx fr3) st3 go) (fun r s4 ⟨u,hr,h4⟩=>?_) fun _ _ z=>z.elim
   subst hr
   refine wpAny_mono h4 (fun _ s5 ⟨x,H5,I5,r5,y5,st5,fr5⟩=>?_) fun _ _ z=>z.elim
   have I5':=I5.pinned (hfx fr5) (TT'.obj _ _ st5)
   refine wpAny_mono (hg _ _ _ _ _ s5 _ H5 x u _ I5' r5 (step x H5 y5)) (fun _ s6 ⟨σ6,H6,I6,hd6,q6⟩=>?_) fun _ _ z=>z.elim
   refine wpAny_mono (ht _ _ _ _ _ s6 σ6 H6 _ I6 q6) (fun ok s7 ⟨H7,I7,q7⟩=>?_) fun _ _ z=>z.elim
   have again:∀{H8:Hp} {s8:Shared},Inv (bZ X (own++frees) scope (fun _ _=>False) G2.objs.size s2 H2 fp) ([]++ld fp s5.heap) σ6 H8 s8→tn (i+1) s8.heap∧∀ b∈fp,H8 b=none:=fun {H8 s8} I8=>by
    refine⟨TT'.keep _ _ _ st5 fun b hb o e=>(I8.pin (b,o) (List.mem_append_right _ (List.mem_append_right _ (gf hb e)))).1,fun b hb=>?_⟩
    obtain⟨o,e,d⟩:=TT'.obj _ _ st5 b hb
    exact(I8.pin (b,o) (List.mem_append_right _ (List.mem_append_right _ (gf hb e)))).2.1
   cases ok with
   | false =>
     rw[if_neg Bool.false_ne_true]
     obtain⟨m',hm,w7⟩:=hNN _ _ q7
     obtain⟨t7,n7⟩:=again I7
     exact⟨m',hm,i+1,acc,H7,back I7 hd6,t7,n7,w7⟩
   | true =>
     rw[if_pos rfl]
     refine wpAny_mono (he _ _ _ _ _ s7 σ6 H7 _ I7 q7) (fun xv s8 ⟨v,H8,I8,r8,hD8,q8⟩=>?_) fun _ _ z=>z.elim
     obtain⟨m',hm,w8⟩:=hNN _ _ q8
     refine wpAny_mono (cC (X:=bZ X (own++frees) scope (fun _ _=>False) G2.objs.size s2 H2 fp) _ s8 σ6 H8 (.ref s2.heap.objs.size) [v] (.ref s2.heap.objs.size) [xv] (fun y H9=>y = .non∧H9=upd H8 s2.heap.objs.size (.lst (acc++[v]))) I8 rfl (.cons r8 .nil) ⟨_,acc,v,rfl,rfl,hD8,hz,rfl,rfl⟩)
      (fun _ s9 ⟨y,H9,I9,_,_,e9⟩=>?_) fun _ _ z=>z.elim
     subst e9
     obtain⟨t9,n9⟩:=again I9
     exact⟨m',hm,i+1,acc++[v],_,back I9 hd6,t9,n9,w8⟩
 exact codeAny_compStart_list (loop _ rfl) (TT'.self _ 0 _ _ _ st1 (loop _ rfl))
theorem cK(T:CompText X scope own frees js)(hc:X.calm=true)(hi:PI X tg iter wi)
 (hg:∀ C s H fp,PG (bZ X (own++frees) scope (fun _ _=>False) C s H fp) tg g)
 (ht:∀ C s H fp,PTs (bZ X (own++frees) scope (fun _ _=>False) C s H fp) ifs tt)
 (he:∀ C s H fp,PE (bZ X (own++frees) scope (fun _ _=>False) C s H fp) elt te)
 (hs:∀ x,foldedSetIterable iter X.env x=pure x:=by intro _;rfl) :
 PE X (.ListComp elt [⟨tg,iter,ifs,0⟩] scope pos) (wq wi g tt te own.length js):=by
 intro pins s σ H Q I h
 rw[eval_ListComp]
 refine wpAny_comprehension_free (use:=none) rfl hs (hV (dw I T)) T.kind T.names ?_
 refine wpAny_mono (hi pins s σ H _ I h) (fun v s1 h1=>wpAny_mono h1 (fun itv s2 h2=>?_) fun _ _ z=>z) fun _ _ z=>z
 obtain⟨it,fp,tn,J,H2,e,I2,TT',st2,f2,hl⟩:=h2
 subst e
 refine kU (QQ:=fun D H'=>Q (.ref D) H') T hg ht he I2 (TT'.x hc) st2 f2 hl fun D C σ' H' s' hC J' q=>?_
 obtain⟨m,hn,_⟩:=J'.loc
 exact⟨m,hn,fun h' sb=>⟨.ref D,H',hJ I2 f2 hC J' sb,rfl,q⟩⟩
def uz(i:Nat)(wi:TI)(g:TG)(tt:TT)(te:TE)(n:Nat)(js:List Nat):TS:=fun D σ H=>wq wi g tt te n js σ H fun v H1=>D.nx (σ.set i (some v)) H1
theorem d7{i:Nat}{x:Str}{pos' spos:Pos}(hN:X.N.Nodup)(hix:X.N[i]?=some x)(hx:X.env.scope.names.lookup x=some .local)(T:CompText X scope own frees js)(hc:X.calm=true)(hi:PI X tg iter wi)
 (hg:∀ C s H fp,PG (bZ X (own++frees) scope (fun _ _=>False) C s H fp) tg g)
 (ht:∀ C s H fp,PTs (bZ X (own++frees) scope (fun _ _=>False) C s H fp) ifs tt)
 (he:∀ C s H fp,PE (bZ X (own++frees) scope (fun _ _=>False) C s H fp) elt te)
 (hsw:swapsWith (.ListComp elt [⟨tg,iter,ifs,0⟩] scope pos) (some (.Name x pos')) spos.line X.env=pure true:=by rfl)
 (hs:∀ x,foldedSetIterable iter X.env x=pure x:=by intro _;rfl) :
 PS X (.Assign [.Name x pos'] (.ListComp elt [⟨tg,iter,ifs,0⟩] scope pos) spos) (uz i wi g tt te own.length js):=by
 intro pins s σ H D I h
 rw[exec_Assign_Name_used _ _ _ _ hsw]
 refine wpAny_bind (wpAny_standAt (wpAny_bind ?_))
 show wpAny _ X.A (do let _←comprehension (.ListComp elt [⟨tg,iter,ifs,0⟩] scope pos) scope X.env _ (newList []) false (eval iter X.env) (some (assign (.Name x pos') X.env))) _ _ s
 refine wpAny_bind (wpAny_mono (wpAny_comprehension_free (use:=some (assign (.Name x pos') X.env)) (Q:=fun _ s'=>SP X pins D .next s') rfl hs (hV (dw I T)) T.kind T.names ?_) (fun _ s' hq=>wpAny_pure (wpAny_pure hq)) fun _ _ e=>e)
 refine wpAny_mono (hi pins s σ H _ I h) (fun v s1 h1=>wpAny_mono h1 (fun itv s2 h2=>?_) fun _ _ z=>z) fun _ _ z=>z
 obtain⟨it,fp,tn,J,H2,e,I2,TT',st2,f2,hl⟩:=h2
 subst e
 refine kU (QQ:=fun D' H'=>D.nx (σ.set i (some (.ref D'))) H') T hg ht he I2 (TT'.x hc) st2 f2 hl fun D' C σ' H' s' hC J' q=>?_
 have I3:Inv X pins σ H' s':=by
  obtain⟨hh,gg,dd,tt',oo⟩:=s'
  exact hJ I2 f2 hC J' (Heap.SameBut.refl ..)
 obtain⟨m,hn,_⟩:=J'.loc
 obtain⟨oC,es,ep,hoC,hdC,rest⟩:=id hn
 have hHC:H' C=none:=J'.free
 have hlC:C≠X.env.locals:=Nat.ne_of_gt (Nat.lt_of_lt_of_le I2.lt hC)
 have hfC:C∉X.fs:=fun z=>by
  obtain⟨_,o,ho,_⟩:=I2.funs.mem z
  exact absurd (Nat.lt_of_lt_of_le (Heap.lt_size ho) hC) (Nat.lt_irrefl _)
 have I4:Inv X (pins++[(C,oC)]) σ H' s':=I3.pins_of fun p hp=>(List.mem_append.mp hp).elim (fun z=>I3.pin p (List.mem_append_right _ z)) fun z=>by
  have e:p=(C,oC):=by simpa using z
  subst e
  exact⟨hoC,hHC,hlC,hfC,fun v z=>by have z' : oC.data = .cell v:=z;rw[hdC]at z';cases z'⟩
 show wpAny _ X.A (assign (.Name x pos') X.env (.ref D')) _ _ _
 refine wpAny_assign_Name (iG (v:=.ref D') I4 hN hix (.inl hx) rfl (fun s5 I5=>?_) (.inr hx))
 have e5:s5.heap.get? C=some oC:=(I5.pin (C,oC) (List.mem_append_right _ (List.mem_append_right _ (by simp)))).1
 refine⟨m,⟨oC,es,ep,e5,hdC,rest⟩,fun h' sb=>⟨_,H',?_,q⟩⟩
 have I6:Inv X pins (σ.set i (some (.ref D'))) H' s5:=I5.unpinned
 refine I6.turned (t':=s5.toks) (fun b o hb e=>(sb.2 b hb).trans e) hHC hlC (.inr (Nat.le_trans I2.sz hC)) (fun y c e=>?_) (fun p hp z=>?_)
 ·obtain⟨v,qc⟩:=I2.cell y c e
  exact Nat.ne_of_lt (Nat.lt_of_lt_of_le qc.lt hC)
 ·have hp2:=(I2.pin p hp).1
  exact absurd (Nat.lt_of_lt_of_le (Heap.lt_size hp2) (by rw[z];exact hC)) (Nat.lt_irrefl _)
end
section
variable {K:PySem.W.Frag}{a:Addr}{xs:List V}{g:TG}{tt:TT}{te:TE}{n:Nat}{fr:St}{D:Addr}{Q:Hp→Prop}{H1:Hp}
theorem ez(Pv:Nat→List V→Hp→Prop)(h0:Pv 0 [] H1)(hl:∀ i acc H,i≤xs.length→Pv i acc H→SqL K H a xs∧H D=some (.lst acc)∧acc.length≤i)(hz:xs.length≤sizeLine)
 (hs:∀ i x acc H,xs[i]?=some x→Pv i acc H→g x (List.replicate n none++fr) H fun σ2 H2=>σ2.drop n=fr∧tt σ2 H2 fun b H3 =>
  if b=true then te σ2 H3 fun v H4=>H4 D=some (.lst acc)∧Pv (i+1) (acc++[v]) (upd H4 D (.lst (acc++[v]))) else Pv (i+1) acc H3)
 (hd:∀ acc H,Pv xs.length acc H→Q H):fF (Itl K a) g tt te n fr D Q H1:=by
 refine⟨fun i m acc H=>m=xs.length-i∧i≤xs.length∧Pv i acc H,⟨xs.length,by simp,Nat.zero_le _,h0⟩,?_⟩
 rintro i m acc H ⟨rfl,hi,p⟩
 obtain⟨q,hD,ha⟩:=hl i acc H hi p
 refine⟨hD,?_⟩
 by_cases hlt:i<xs.length
 ·refine .inr ⟨⟨xs,xs[i],q,by simp[hlt]⟩,by(first|lia|omega),Pv (i+1),fun acc' H' p'=>⟨xs.length-(i+1),by(first|lia|omega),rfl,hlt,p'⟩,fun x H' y=>?_⟩
  obtain⟨e,y⟩:=y
  subst e
  exact hs i x acc _ (y xs q) p
 ·have e:i=xs.length:=by(first|lia|omega)
  subst e
  exact .inl ⟨⟨xs,q,Nat.le_refl _⟩,hd acc H p⟩
theorem bo{lo:Int}{m:Nat}(Pv:Nat→List V→Hp→Prop)(h0:Pv 0 [] H1)(hl:∀ i acc H,i≤m→Pv i acc H→H D=some (.lst acc)∧acc.length≤i)(hz:m≤sizeLine)
 (hs:∀ i acc H,i<m→Pv i acc H→g (.int (lo+i)) (List.replicate n none++fr) H fun σ2 H2=>σ2.drop n=fr∧tt σ2 H2 fun b H3 =>
  if b=true then te σ2 H3 fun v H4=>H4 D=some (.lst acc)∧Pv (i+1) (acc++[v]) (upd H4 D (.lst (acc++[v]))) else Pv (i+1) acc H3)
 (hd:∀ acc H,Pv m acc H→Q H):fF (Itr lo m) g tt te n fr D Q H1:=by
 refine⟨fun i k acc H=>k=m-i∧i≤m∧Pv i acc H,⟨m,by simp,Nat.zero_le _,h0⟩,?_⟩
 rintro i k acc H ⟨rfl,hi,p⟩
 obtain⟨hD,ha⟩:=hl i acc H hi p
 refine⟨hD,?_⟩
 by_cases hlt:i<m
 ·refine .inr ⟨hlt,by(first|lia|omega),Pv (i+1),fun acc' H' p'=>⟨m-(i+1),by(first|lia|omega),rfl,hlt,p'⟩,fun x H' y=>?_⟩
  obtain⟨e,y⟩:=y
  subst e y
  exact hs i acc _ hlt p
 ·have e:i=m:=by(first|lia|omega)
  subst e
  exact .inl ⟨Nat.le_refl _,hd acc H p⟩
end
end L2
namespace L2
open PySem PySem.Spec PyProof.Rows
def pc(scope osc:Scope)(N frees:List Str)(js:List Nat):Bool :=
 decide (scope.kind = .function)&&scope.names.all (fun y=>decide (y.2≠.cell))&&scope.names.all (fun y=>decide (y.2 = .local→scope.names.lookup y.1=some .local)) &&
 scope.names.all (fun y=>decide (y.2 = .free→osc.names.lookup y.1=some .cell∨osc.names.lookup y.1=some .free))&&decide (js.map (fun j=>N[j]?)=frees.map some)&&frees.all (fun x=>decide (scope.names.lookup x=some .free))
theorem aE{X:Cx}{scope:Scope}{own frees:List Str}{js:List Nat}(osc:Scope)(N:List Str)(h1:X.env.scope=osc:=by rfl)(h2:X.N=N:=by rfl)(h:pc scope osc N frees js=true:=by decide +kernel):CompText X scope own frees js:=by
 unfold pc at h
 simp only[Bool.and_eq_true,decide_eq_true_eq,List.all_eq_true]at h
 obtain⟨⟨⟨⟨⟨a,b⟩,c⟩,d⟩,e⟩,f⟩:=h
 exact⟨a,b,c,by rw[h1];exact d,by rw[h2];exact e,f⟩
mutual
inductive DatV(K:PySem.W.Frag)(H:Hp):V→PyData→Prop
 | non:DatV K H .non .none
 | bl (b:Bool):DatV K H (.bl b) (.bool b)
 | int (i:Int):DatV K H (.int i) (.int i)
 | str (x:Str):DatV K H (.str x) (.str x)
 | lst {a:Addr} {xs:List V} {ds:List PyData} (h:SqL K H a xs) (r:DatVs K H xs ds):DatV K H (.ref a) (.list ds)
 | tup {a:Addr} {xs:List V} {ds:List PyData} (h:SqT K H a xs) (r:DatVs K H xs ds):DatV K H (.ref a) (.tuple ds)
inductive DatVs(K:PySem.W.Frag)(H:Hp):List V→List PyData→Prop
 | nil:DatVs K H [] []
 | cons {x:V} {d:PyData} {xs:List V} {ds:List PyData} (h:DatV K H x d) (r:DatVs K H xs ds):DatVs K H (x::xs) (d::ds)
end
section
variable {X:Cx}{pins:List (Addr×Obj)}{σ:St}{H:Hp}{s:Shared}
mutual
theorem DatV.reads(I:Inv X pins σ H s):∀{v:V} {d:PyData} {u:Value},DatV X.K H v d→aR v u→∃ as,Reads s.heap u d as
 | _,_,u,.non,r=>by cases(show u=Value.none from r);exact⟨_,.none⟩
 | _,_,u,.bl b,r=>by cases(show u=Value.bool b from r);exact⟨_,.bool b⟩
 | _,_,u,.int i,r=>by obtain⟨t,rfl⟩:=(show ∃ t,u=Value.int i t from r);exact⟨_,.int i t⟩
 | _,_,u,.str x,r=>by obtain⟨t,rfl⟩:=(show ∃ t,u=Value.str x t from r);exact⟨_,.str x t⟩
 | _,_,u,.lst (a:=a) h rs,r=>by
   cases(show u=Value.ref a from r)
   obtain⟨its,rv,⟨o,n,e,c,_,d⟩,_⟩:=I.list h
   obtain⟨as,q⟩:=DatVs.reads I rs rv
   exact⟨_,.list e c d (by simpa using q)⟩
 | _,_,u,.tup (a:=a) h rs,r=>by
   cases(show u=Value.ref a from r)
   obtain⟨its,rv,⟨o,e,c,n,d⟩,_⟩:=I.tuple h
   obtain⟨as,q⟩:=DatVs.reads I rs rv
   exact⟨_,.tuple e c d (by simpa using q)⟩
theorem DatVs.reads(I:Inv X pins σ H s):∀{vs:List V} {ds:List PyData} {us:List Value},DatVs X.K H vs ds→aW vs us→∃ as,ReadsAll s.heap us ds as
 | _,_,_,.nil,.nil=>⟨_,.nil⟩
 | _,_,_,.cons h r,.cons rv rr=>by
   obtain⟨as,q⟩:=DatV.reads I h rv
   obtain⟨bs,q2⟩:=DatVs.reads I r rr
   exact⟨_,.cons q q2⟩
end
end
section
variable {X:Cx}
def xV(K:PySem.W.Frag):R2:=fun x y H Q=>∃ d e,DatV K H x d∧DatV K H y e∧SeqAt.shaped d=true∧SeqAt.shaped e=true∧Q (.bl (PyData.eqv d e)) H
def xA(K:PySem.W.Frag):R2:=fun x y H Q=>∃ d e,DatV K H x d∧DatV K H y e∧SeqAt.shaped d=true∧SeqAt.shaped e=true∧Q (.bl (!PyData.eqv d e)) H
theorem wL(hu:X.A.units+64<cLine):OpR X (compareOp .Eq) (xV X.K):=by
 intro pins s σ H x y v u Q I rx ry h
 obtain⟨d,e,h1,h2,s1,s2,q⟩:=h
 obtain⟨as,ra⟩:=h1.reads I rx
 obtain⟨bs,rb⟩:=h2.reads I ry
 exact eq_dataH ra rb s1 s2 hu ⟨.bl _,H,I,rfl,q⟩
theorem wO(hu:X.A.units+64<cLine):OpR X (compareOp .NotEq) (xA X.K):=by
 intro pins s σ H x y v u Q I rx ry h
 obtain⟨d,e,h1,h2,s1,s2,q⟩:=h
 obtain⟨as,ra⟩:=h1.reads I rx
 obtain⟨bs,rb⟩:=h2.reads I ry
 exact ne_dataH ra rb s1 s2 hu ⟨.bl _,H,I,rfl,q⟩
def x0:V→Option Value
 | .ty n=>some (.type n)
 | .ref a=>some (.ref a)
 | _=>none
theorem vk{c:V}{u w:Value}(h:x0 c=some u)(r:aR c w):w=u:=by
 cases c with
 | ty n=>exact(show w=Value.type n from r).trans (Option.some.inj h)
 | ref a=>exact(show w=Value.ref a from r).trans (Option.some.inj h)
 | _=>cases h
def xC(K:PySem.W.Frag):List V→Hp→VK→Prop:=fun xs H Q=>∃ x c t u b,xs=[x,c]∧x0 c=some u∧TyOf K H x t∧PySem.W.kitOne K t u=some b∧Q (.bl b) H
theorem sW:dS X (.builtin "isinstance") (xC X.K):=by
 intro pins s σ H xs us Q I r h
 obtain⟨x,c,t,u,b,rfl,rc,ty,e,q⟩:=h
 cases r with
 | cons r1 r2 =>
   cases r2 with
   | cons r2 r3 =>
     cases r3
     cases vk rc r2
     exact si I r1 ty e fun tk=>⟨.bl b,H,I.tok tk,rfl,q⟩
theorem wN(K:PySem.W.Frag):PySem.W.kitOne K (.type "int") (.type "int")=some true:=by with_unfolding_all rfl
theorem w5(K:PySem.W.Frag):PySem.W.kitOne K (.type "int") (.type "bool")=some false:=by with_unfolding_all rfl
theorem px(K:PySem.W.Frag):PySem.W.kitOne K (.type "tuple") (.type "tuple")=some true:=by with_unfolding_all rfl
theorem wU(K:PySem.W.Frag):PySem.W.kitOne K (.type "list") (.type "list")=some true:=by with_unfolding_all rfl
theorem vw:MtR X "int.bit_length" (fun x xs H Q=>∃ i,x = .int i∧xs=[]∧Q (.int (Builtin.Int.intBits i)) H):=by
 intro pins s σ H x xs v us Q I rx rs h
 obtain⟨i,rfl,rfl,q⟩:=h
 obtain⟨t,rfl⟩:=rx
 cases rs
 exact call_int_bit_length ⟨.int _,H,I.tok _,⟨_,rfl⟩,q⟩
end
end L2
namespace L2
open PySem PySem.Spec PyProof.Rows
section
variable {X:Cx}
end
theorem dl{n:Nat}(h:Nat.ble n 1000=true):n≤sizeLine:=Nat.le_of_lt (fG (Nat.le_of_ble_eq_true h))
theorem kj{j:Int}(h:decide (0<j)=true):0<j:=of_decide_eq_true h
theorem jN{c A B:Prop}[Decidable c](h : ¬ c)(hb:B):if decide c=true then A else B:=by
 rw[decide_eq_false h]
 exact dr hb
theorem qb{c A B:Prop}[Decidable c](h:c)(ha:A):if decide c=true then A else B:=by
 rw[decide_eq_true h]
 exact d6 ha
theorem am.new{H:Hp}{p:Addr}{o:HO}(h:H p=none):am H (upd H p o):=fun b u e=>by
 rw[ak (bS e h)]
 exact e
theorem am.put{H H2:Hp}{D:Addr}{o:HO}(s:am H H2)(h:H D=none):am H (upd H2 D o):=fun b u e=>by
 rw[ak (bS e h)]
 exact s b u e
theorem am.sqT{K:PySem.W.Frag}{H H' : Hp}{a:Addr}{xs:List V}(e:am H H')(h:SqT K H a xs):SqT K H' a xs:=by
 rcases h with(h|⟨o,h⟩) | h
 ·exact .inl (.inl (e _ _ h))
 ·exact .inl (.inr ⟨o,e _ _ h⟩)
 ·exact .inr h
def cy(H H' : Hp):Prop:=∀ b xs,H b=some (.tup xs)→H' b=some (.tup xs)
theorem am.tups{H H' : Hp}(s:am H H'):cy H H':=fun b xs e=>s b _ e
theorem cy.trans{H H1 H2:Hp}(a:cy H H1)(b:cy H1 H2):cy H H2:=fun c xs e=>b c xs (a c xs e)
theorem cy.put{H:Hp}{D:Addr}{o:HO}{ys:List V}(h:H D=some (.lst ys)):cy H (upd H D o):=fun b xs e=>by
 rw[ak (aQ e h (by intro z;cases z))]
 exact e
theorem Paired.getP{α β:Type}{F:α→β→Prop}:∀{l:List α} {r:List β} {i:Nat} {x:α},Paired F l r→l[i]?=some x→∃ y,r[i]?=some y∧F x y
 | _,_,_,_,.nil,e=>by simp at e
 | _,_,0,_,.cons h _,e=>by
   simp at e
   subst e
   exact⟨_,rfl,h⟩
 | _,_,i+1,x,.cons _ t,e=>by
   obtain⟨y,h1,h2⟩:=Paired.getP (i:=i) (x:=x) t (by simpa using e)
   exact⟨y,by simpa using h1,h2⟩
theorem ug(ns:List Int)(lo hi:Option Int):lC (ns.map V.int) lo hi=((ns.drop (HT.sIx ns.length 0 lo)).take (HT.sIx ns.length ns.length hi-HT.sIx ns.length 0 lo)).map V.int:=by
 unfold lC
 rw[List.length_map,← List.map_drop,← List.map_take]
end L2
namespace L2
open PySem PySem.Spec PyProof.Rows
section
variable {X:Cx}{l:Expr}{tl:TE}{tg a b o e:Expr}{ta tb to:TE}{es:List Expr}
theorem ll(K:PySem.W.Frag)(hu:X.A.units+64<cLine)(h:X.K=K:=by rfl):OpR X (compareOp .Eq) (xV K):=by subst h;exact wL hu
theorem wy(K:PySem.W.Frag)(hu:X.A.units+64<cLine)(h:X.K=K:=by rfl):OpR X (compareOp .NotEq) (xA K):=by subst h;exact wO hu
theorem tV(K:PySem.W.Frag)(h:X.K=K:=by rfl):dS X (.builtin "isinstance") (xC K):=by subst h;exact sW
def yz(K:PySem.W.Frag):List V→Hp→VK→Prop:=fun xs H Q=>∃ p ys,xs=[.ref p]∧(SqL K H p ys∨SqT K H p ys)∧Q (.int ys.length) H
theorem eV(K:PySem.W.Frag)(h:X.K=K:=by rfl):dS X (.builtin "len") (yz K):=by subst h;exact nB
def xQ(K:PySem.W.Frag):List V→Hp→VK→Prop:=fun xs H Q=>∃ p ys,xs=[.ref p]∧(SqL K H p ys∨SqT K H p ys)∧∀ l,H l=none→Q (.ref l) (upd H l (.lst ys))
theorem xX(K:PySem.W.Frag)(h:X.K=K:=by rfl):dS X (.type "list") (xQ K):=by subst h;exact mQ
def yq(K:PySem.W.Frag):List V→Hp→VK→Prop:=fun xs H Q=>∃ p ys,xs=[.ref p]∧((SqL K H p ys∧∀ l,H l=none→Q (.ref l) (upd H l (.tup ys)))∨(SqT K H p ys∧Q (.ref p) H))
theorem mD(K:PySem.W.Frag)(h:X.K=K:=by rfl):dS X (.type "tuple") (yq K):=by subst h;exact lE
theorem ixL(K:PySem.W.Frag)(h:X.K=K:=by rfl):IxR X (xW K):=by subst h;exact vx
theorem ixT(K:PySem.W.Frag)(h:X.K=K:=by rfl):IxR X (x9 K):=by subst h;exact xg
theorem slL(K:PySem.W.Frag)(h:X.K=K:=by rfl):SlR X (yj K):=by subst h;exact vq
theorem inK(K:PySem.W.Frag)(h:X.K=K:=by rfl):OpR X (compareOp .In) (rIn K false):=by subst h;exact rp
theorem uw(K:PySem.W.Frag)(h:X.K=K:=by rfl):OpR X (compareOp .NotIn) (rIn K true):=by subst h;exact nG
theorem piL(K:PySem.W.Frag)(hl:PE X l tl)(h:X.K=K:=by rfl):PI X tg l (vU K tl):=by subst h;exact vt hl
theorem pgT(K:PySem.W.Frag){k:Nat}{t:TGs}{n:Nat}{pos:Pos}(hc:X.calm=true)(hp:PGs X es t)(hn:(assignEach es X.env).length=n:=by rfl)(hst:(assignEach es X.env).findIdx? (·.1)=none:=by rfl)(h:X.K=K:=by rfl):
 PG X (.Tuple es k pos) (yk K n t):=by subst h;exact xm hc hp hn hst
theorem oq{x:Str}{T:String}{pos:Pos}(hg:Gl X x)(hm:X.mg x=none)(hv:bootBuiltins x=some (.type T))(hn:x≠"__name__":=by decide)(hd:(x==("__debug__":Str))=false:=by decide):PE X (.Name x pos) (tC (.ty T)) :=
 vp hg hm hv rfl hn hd
end
end L2
namespace L2
open PySem PySem.Spec PyProof.Rows
def lv(od:Option Addr)(c:Value)(e:Addr)(h:Heap):Prop:=∃ oe vs,h.get? e=some oe∧oe.data = .fields vs∧vs[2]?=some c∧oe.dict=od
theorem sT(o:Obj)(f):(o.mapFields f).dict=o.dict:=by
 obtain⟨c,d,dt,sl⟩:=o
 cases dt<;>rfl
section
variable {M:Model}{A:Around}{E:Value→Shared→Prop}{s:Shared}{B:Heap}{env:Env}{outer l:List Env}{L e:Addr}{cls a0:Value}{Q:Unit→Shared→Prop}{od:Option Addr}{c:Value}
theorem mR{h:Heap}{T:Addr}{oT:Obj}{ts:Array Value}(f:Obj→Obj)(hT:h.get? T=some oT)(hd:oT.data = .fields ts):h.UpToSlots (h.update T f):=fun b o hb hn=>by
 have ne:T≠b:=fun z=>by
  rw[← z,hT]at hb
  cases hb
  exact hn ts hd
 exact⟨o.slots,(Heap.get?_update_other h f ne).trans hb⟩
theorem jt{h:Heap}{T:Addr}(f:Obj→Obj)(k:B.StaysIn h)(n:B.get? T=none):B.StaysIn (h.update T f):=fun b o hb=>by
 have ne:T≠b:=fun z=>by
  rw[← z,n]at hb
  cases hb
 exact(Heap.get?_update_other h f ne).trans (k b o hb)
theorem fN{h h' : Heap}(x:h.FunFrames B l)(u:h.UpToSlots h'):h'.FunFrames B l:=x.of_keeps fun b o hb hn =>
 let⟨_,q⟩:=u b o hb hn
 ⟨_,q,rfl⟩
theorem wg{fl:Value}(hk:B.StaysIn s.heap)(hn:B.get? e=none)(hl:s.heap.FunFrames B l)(ht:s.heap.TracedAtW B e cls a0 fl)(h2:lv od c e s.heap)
 (q:∀ h',Heap.FlyingW B l e cls a0 h'→lv od c e h'→s.heap.UpToSlots h'→Q () { s with heap:=h'}):wpAny M A (setFlight (.ref e) none) Q E s:=by
 obtain⟨oe,vs,T,oT,ts,ge,hc,de,f1,nT,Te,gT,dT,f3⟩:=ht
 have z3:3<ts.size:=(Array.getElem?_eq_some_iff.mp f3).1
 rw[setFlight]
 refine wpAny_bind (wpAny_field ge de f1 ?_)
 rw[if_pos (by simp)]
 refine wpAny_setField gT dT z3 ?_
 have up:=mR (Obj.mapFields (·.setIfInBounds 3 ((none:Option Addr).elim Value.none fun f=>rawInt f))) gT dT
 have ge':=(Heap.get?_update_other s.heap (Obj.mapFields (·.setIfInBounds 3 ((none:Option Addr).elim Value.none fun f=>rawInt f))) Te).trans ge
 have dT':=Obj.data_mapFields dT (·.setIfInBounds 3 ((none:Option Addr).elim Value.none fun f=>rawInt f))
 refine q _ ⟨jt _ hk nT,hn,fN hl up,oe,vs,T,_,_,ge',hc,de,f1,nT,Te,Heap.get?_update_self _ gT (Obj.isFreed_of_fields dT'),dT',by simp[z3]⟩ ?_ up
 obtain⟨o2,v2,g2,d2,k2,z2⟩:=h2
 rw[ge]at g2
 cases g2
 exact⟨oe,v2,ge',d2,k2,z2⟩
theorem uF{oe:Obj}{vs:Array Value}{head:Value}{hadNext:Bool}(hfr:A.frames=some (env::outer))(hl:s.heap.FunFrames B (env::outer))(hf:env.frame=some L)(ge:s.heap.get? e=some oe)(hk:B.StaysIn s.heap)(hn:B.get? e=none)
 (de:oe.data = .fields vs) (hz:1<vs.size) (h0:vs[0]?=some a0) (h2:vs[2]?=some c) (hz2:oe.dict=od)
 (q:∀ h',Heap.HeldW B (env::outer) e oe.cls a0 L h'→lv od c e h'→s.heap.UpToSlots h'→Q () { s with heap:=h'}) :
 wpAny M A (do let a←frameOf env;let pl←entryPlaceOf L hadNext;let b←EntryCells.newEntry head a .none (rawInt L) .none pl;setField (.ref e) 1 b) Q E s:=by
 have noFr:e∉(env::outer).filterMap (·.frame):=fun z=>by
  obtain⟨_,o,ho,nf⟩:=hl.mem z
  rw[ge]at ho
  cases ho
  exact nf vs de
 refine wpAny_bind (wpAny_frameOf_fun hfr hl hf fun h1 so=>wpAny_bind (wpAny_entryPlaceOf fun pl ip=>?_))
 rw[EntryCells.newEntry,newFields]
 refine wpAny_bind (wpAny_newObj_type ?_ (ip.sizeOk5 _ _ _ _ _))
 generalize hnw:({ cls:=.type "traceback",dict:=none,data:=.fields ([head,.ref L,.none,rawInt L,.none]++(if pl.isEmpty then List.replicate 6 Value.none else pl)).toArray}:Obj)=nw
 have dn:nw.data = .fields ([head,.ref L,.none,rawInt L,.none]++(if pl.isEmpty then List.replicate 6 Value.none else pl)).toArray:=by rw[← hnw]
 have ge1:h1.get? e=some oe:=(so.2.1 e noFr).trans ge
 have ge2:=Heap.get?_push_of_some (h:=h1) nw ge1
 have Te:h1.objs.size≠e:=Nat.ne_of_gt (Heap.lt_size ge1)
 refine wpAny_setField ge2 de hz ?_
 have de3:=Obj.data_mapFields de (·.setIfInBounds 1 (Value.ref h1.objs.size))
 have ge3:=Heap.get?_update_self (Obj.mapFields (·.setIfInBounds 1 (Value.ref h1.objs.size))) ge2 (Obj.isFreed_of_fields de3)
 have gT3:=(Heap.get?_update_other (h1.push nw) (Obj.mapFields (·.setIfInBounds 1 (Value.ref h1.objs.size))) (Ne.symm Te)).trans (Heap.get?_push_size h1 (by rw[← hnw];rfl))
 have up:s.heap.UpToSlots ((h1.push nw).update e (Obj.mapFields (·.setIfInBounds 1 (Value.ref h1.objs.size)))):=by
  have u1:s.heap.UpToSlots h1:=fun b o hb _=>so.2.2 b o hb
  exact(u1.trans (.of_keeps fun b o hb=>Heap.get?_push_of_some nw hb)).trans (mR _ ge2 de)
 have k1:B.StaysIn h1:=fun b o hb=>(so.2.1 b fun z=>by rw[(hl.mem z).1]at hb;cases hb).trans (hk b o hb)
 have k2:B.StaysIn (h1.push nw):=fun b o hb=>Heap.get?_push_of_some nw (k1 b o hb)
 refine q _ ⟨jt _ k2 hn,hn,fN hl up,_,_,h1.objs.size,nw,_,ge3,⟨Obj.cls_mapFields _ _,by rw[Array.getElem?_setIfInBounds_ne (by decide)];exact h0⟩,de3,by simp[hz],k1.fresh,Te,gT3,dn,?_⟩ ?_ up
 ·first | (simp;done) | (rcases ip with rfl | ⟨_,_,_,_,_,_,_,rfl⟩<;>simp)
 ·exact⟨_,_,ge3,de3,by rw[Array.getElem?_setIfInBounds_ne (by decide)];exact h2,(sT _ _).trans hz2⟩
theorem xL(hfr:A.frames=some (env::outer))(hf:env.frame=some L)(fl:Heap.FlyingW B (env::outer) e cls a0 s.heap)(h2:lv od c e s.heap)
 (q:∀ h',Heap.HeldW B (env::outer) e cls a0 L h'→lv od c e h'→s.heap.UpToSlots h'→Q () { s with heap:=h'}):wpAny M A (noteFrame (.ref e) env) Q E s:=by
 obtain⟨hk,hn,hl,oe,vs,T,oT,ts,ge,⟨hc,h0⟩,de,f1,nT,Te,gT,dT,f3⟩:=fl
 obtain⟨o2,v2,g2,d2,k2,z2⟩:=h2
 rw[ge]at g2
 cases g2
 rw[de]at d2
 cases d2
 cases hc
 rw[noteFrame]
 simp only[hf]
 refine wpAny_bind (wpAny_field ge de f1 ?_)
 rw[if_pos (by simp)]
 refine wpAny_bind (wpAny_field gT dT f3 ?_)
 rw[if_neg (by simp[rawInt])]
 refine wpAny_bind (wpAny_setField gT dT (Array.getElem?_eq_some_iff.mp f3).1 ?_)
 have up:=mR (Obj.mapFields (·.setIfInBounds 3 Value.none)) gT dT
 have ge':=(Heap.get?_update_other s.heap (Obj.mapFields (·.setIfInBounds 3 Value.none)) Te).trans ge
 exact uF (s:={ s with heap:=s.heap.update T (Obj.mapFields (·.setIfInBounds 3 Value.none))}) hfr (fN hl up) hf ge' (jt _ hk nT) hn de (Array.getElem?_eq_some_iff.mp f1).1 h0 k2 z2 fun h' x1 x2 x3=>q h' x1 x2 (up.trans x3)
theorem yr(x:Heap.FlyingW B (env::outer) e cls a0 s.heap):Heap.FlyingW B outer e cls a0 s.heap :=
 let⟨k1,k2,⟨_,_,k3⟩,k4⟩:=x
 ⟨k1,k2,k3,k4⟩
theorem rO(hfr:A.frames=some (env::outer))(hf:env.frame=some L)(fl:Heap.FlyingW B (env::outer) e cls a0 s.heap)(h2:lv od c e s.heap)
 (q:∀ h',Heap.FlyingW B outer e cls a0 h'→lv od c e h'→s.heap.UpToSlots h'→Q () { s with heap:=h'}):wpAny M A (leaving env (.ref e)) Q E s:=by
 rw[leaving]
 refine wpAny_bind (xL hfr hf fl h2 fun h' x1 x2 x3=>?_)
 obtain⟨y1,y2,y3,y4⟩:=x1
 exact wg (s:={ s with heap:=h'}) y1 y2 y3 y4 x2 fun h'' z1 z2 z3=>q h'' (yr (s:={ s with heap:=h''}) z1) z2 (x3.trans z3)
theorem se{oe:Obj}{vs:Array Value}(hfr:A.frames=some (env::outer))(hf:env.frame=some L)(hk:B.StaysIn s.heap)(hn:B.get? e=none)(hl:s.heap.FunFrames B (env::outer))(ge:s.heap.get? e=some oe)(de:oe.data = .fields vs)
 (h0:vs[0]?=some a0) (h1:vs[1]?=some .none) (h2:vs[2]?=some c) (hz2:oe.dict=od)
 (q:∀ h',Heap.FlyingW B outer e oe.cls a0 h'→lv od c e h'→s.heap.UpToSlots h'→Q () { s with heap:=h'}):wpAny M A (leaving env (.ref e)) Q E s:=by
 rw[leaving,noteFrame]
 simp only[hf]
 refine wpAny_bind (wpAny_bind (wpAny_field ge de h1 ?_))
 rw[if_neg (by decide)]
 refine uF (a0:=a0) hfr hl hf ge hk hn de (Array.getElem?_eq_some_iff.mp h1).1 h0 h2 hz2 fun h' x1 x2 x3=>?_
 obtain⟨y1,y2,y3,y4⟩:=x1
 exact wg (s:={ s with heap:=h'}) y1 y2 y3 y4 x2 fun h'' z1 z2 z3=>q h'' (yr (s:={ s with heap:=h''}) z1) z2 (x3.trans z3)
end
end L2
namespace L2
open PySem PySem.Spec PyProof.Rows
section
variable {P:Program}{w:World}{H H0 H1:Hp}{h h0 h1 h2:Heap}{a:Addr}{o:HO}{fs:List Addr}{B:Heap}
theorem aV.thing(x:aV P w H h a o):∃ ob,h.get? a=some ob:=by
 cases o with
 | lst xs=>obtain⟨_,_,_,_,e⟩:=x;exact⟨_,e⟩
 | tup xs=>obtain⟨_,_,_,ob,e,_⟩:=x;exact⟨ob,e⟩
 | dK kvs=>obtain⟨_,_,_,_,ob,_,_,e,_⟩:=x;exact⟨ob,e⟩
 | dT kvs=>obtain⟨_,_,_,_,ob,_,_,e,_⟩:=x;exact⟨ob,e⟩
 | set S n=>obtain⟨ob,_,_,_,e,_⟩:=x;exact⟨ob,e⟩
 | ins C dx fs=>obtain⟨_,_,_,e,_⟩:=x;exact⟨_,e⟩
 | own y=>exact x
 | xd fs=>obtain⟨_,⟨ob,_,_,e,_⟩,_⟩:=x;exact⟨ob,e⟩
 | rng lo hi=>obtain⟨_,_,_,e⟩:=x;exact⟨_,e⟩
 | frz ob u=>obtain⟨e,_⟩:=x;exact⟨_,e⟩
 | tbl ps=>obtain⟨_,e,_⟩:=x;exact⟨_,e⟩
 | met f y=>exact⟨_,(show h.get? a=some _ from x)⟩
 | ext φ=>obtain⟨_,e,_⟩:=x;exact e
def Cov(B:Heap)(fs:List Addr)(h0:Heap)(H:Hp)(h:Heap):Prop:=∀ b o,h.get? b=some o→(H b≠none∨∃ o',h0.get? b=some o')→b∉fs→B.get? b=some o
theorem sY(un:Un fs [] H0 H1 h0 h1)(hok:HOk P w H1 h1)(nof:∀ b∈fs,H1 b=none)(fr:∀ b∈fs,∀ ob,h1.get? b=some ob→∀ vs,ob.data≠.fields vs)(cov:Cov B fs h0 H1 h1)
 (hB:B.StaysIn h2) (up:h1.UpToSlots h2):Un fs [] H0 H1 h0 h2∧HOk P w H1 h2∧Cov B fs h0 H1 h2:=by
 have inB:∀ b ob,h1.get? b=some ob→(H1 b≠none∨∃ o',h0.get? b=some o')→b∉fs→h2.get? b=some ob:=fun b ob e c n=>hB b ob (cov b ob e c n)
 have trk:∀ b u,H1 b=some u→b∉fs:=fun b u e z=>by
  rw[nof b z]at e
  cases e
 refine⟨⟨fun b ob e n hb hx=>inB b ob (un.keep b ob e n hb hx) (.inr ⟨ob,e⟩) hb,fun b ob e n hb hx=>?_,un.free,fun b ob e hx=>?_,un.tups,un.frzs,un.tbls⟩,fun b u e=>?_,fun b ob e c n=>?_⟩
 ·obtain⟨sl,q⟩:=un.slot b ob e n hb hx
  obtain⟨sl',q'⟩:=up b _ q (fr b hb _ q)
  exact⟨sl',q'⟩
 ·obtain⟨o',q⟩:=un.there b ob e hx
  by_cases hb:b∈fs
  ·obtain⟨sl',q'⟩:=up b _ q (fr b hb _ q)
   exact⟨_,q'⟩
  ·exact⟨o',inB b o' q (.inr ⟨ob,e⟩) hb⟩
 ·refine(hok b u e).stay (fun c v hc q=>?_) (fun _ q=>q) fun _ _ q=>q
  have hct:∃ z,H1 c=some z:=by
   rcases hc with hc|hc
   ·rw[hc]
    exact⟨u,e⟩
   ·exact⟨_,hc⟩
  obtain⟨z,hz⟩:=hct
  exact inB c v q (.inl (by rw[hz];simp)) (trk c z hz)
 ·have ht:∃ o1,h1.get? b=some o1:=by
   rcases c with c|⟨o',c⟩
   ·cases hz:H1 b with
    | none=>exact absurd hz c
    | some z=>exact(hok b z hz).thing
   ·exact un.there b o' c (by simp)
  obtain⟨o1,q⟩:=ht
  have q2:=cov b o1 q c n
  have q3:=hB b o1 q2
  rw[e]at q3
  rw[Option.some.inj q3]
  exact q2
end
def yJ(ea:Addr)(cls:Value):HO:=.ext fun h=>∃ oe vs,h.get? ea=some oe∧oe.cls=cls∧oe.data = .fields vs∧vs[2]?=some .none
def xo(E:XK)(cls:Value)(od:Option Addr)(c:Value)(H:Hp):Prop:=(c = .none∧(∃ C0:Addr,cls = .ref C0)∧E cls od H)∨∃ C e' C',cls = .ref C∧od=none∧c = .ref e'∧H e' = some (yJ e' C')∧E (.int (C:Int) e') none H
def CX1(P:Program)(w:World):CXT:=fun outer H s E e s'=>∃(ea:Addr) (cls a0:Value) (od:Option Addr) (c:Value) (H' : Hp) (B:Heap),e = .ref ea∧s'.os=s.os∧AllBare s'.gens∧Un (frs outer) [] H H' s.heap s'.heap∧HOk P w H' s'.heap∧H' ea=none∧
 Cov B (frs outer) s.heap H' s'.heap∧Heap.FlyingW B outer ea cls a0 s'.heap∧lv od c ea s'.heap∧xo E cls od c H'
structure Out(X:Cx)(E:XK):Prop where
 stk:X.stack=X.env::X.outer
 fr:X.env.frame=some X.env.locals
 ex:X.ex=[]
 xe:∀ e s',wpAny (model X.prog X.w) X.A (leaving X.env e) (fun _ s''=>CX1 X.prog X.w X.outer X.H₀ X.s₀ E e s'') (fun e' s''=>CX1 X.prog X.w X.outer X.H₀ X.s₀ E e' s'') s'→X.xe e s'
def Thr(X:Cx)(E:XK):Prop:=∀(pins:List (Addr×Obj)) (σ:St) (H:Hp) (s:Shared) (h1:Heap) (ea C0:Addr) (vs:List Value),Inv X pins σ H s→Heap.MadeExcOf s.heap h1 ea (.ref C0) vs→E (.ref C0) none H→X.xe (.ref ea) { s with heap:=h1}
section
variable {X:Cx}{E:XK}{pins:List (Addr×Obj)}{σ:St}{H:Hp}{s:Shared}
theorem Inv.fsData(I:Inv X pins σ H s):∀ b∈X.fs,∀ ob,s.heap.get? b=some ob→∀ vs,ob.data≠.fields vs:=fun b hb ob e=>by
 obtain⟨_,o,ho,hnf⟩:=I.funs.mem hb
 rw[e]at ho
 cases ho
 exact hnf
theorem Inv.fsFree(I:Inv X pins σ H s)(hx:X.ex=[]):∀ b∈X.fs,H b=none:=fun b hb=>by
 obtain⟨_,o,ho,_⟩:=I.ok.funs.mem hb
 exact I.base.free b o ho (I.ok.frf b hb) (by rw[hx];simp)
theorem Cov.outer{B h0:Heap}{h:Heap}(I:Inv X pins σ H s)(cov:Cov B (frs X.stack) h0 H h)(k:∀ b o,X.s₀.heap.get? b=some o→∃ o',h0.get? b=some o'):Cov B X.fs X.s₀.heap H h:=fun b o e c n=>by
 refine cov b o e (c.imp id fun⟨o',q⟩=>k b o' q) fun z=>?_
 rcases List.mem_cons.mp (I.stkSub b z) with q|q
 ·subst q
  rcases c with c|⟨o',c⟩
  ·exact c I.free
  ·exact absurd (Nat.lt_of_lt_of_le (Heap.lt_size c) I.ok.above) (Nat.lt_irrefl _)
 ·exact n q
theorem qW(O:Out X E)(I:Inv X pins σ H s){B:Heap}{ea:Addr}{cls a0:Value}{od:Option Addr}{c:Value}{h2:Heap}(cov:Cov B X.fs X.s₀.heap H s.heap)(fl:Heap.FlyingW B X.outer ea cls a0 h2)(sc:lv od c ea h2)(up:s.heap.UpToSlots h2)(hn:H ea=none)(q:xo E cls od c H):
 CX1 X.prog X.w X.outer X.H₀ X.s₀ E (.ref ea) { s with heap:=h2}:=by
 have un:Un X.fs [] X.H₀ H X.s₀.heap s.heap:=by
  have u:=I.base
  rw[O.ex]at u
  exact u
 obtain⟨u2,ok2,c2⟩:=sY un I.hok (I.fsFree O.ex) I.fsData cov fl.1 up
 exact⟨ea,cls,a0,od,c,H,B,rfl,I.os,I.bare,u2,ok2,hn,c2,fl,sc,q⟩
theorem Out.thrC(O:Out X E){ea:Addr}{oe:Obj}{vs:Array Value}{a0 c:Value}(I:Inv X pins σ H s)(ge:s.heap.get? ea=some oe)(de:oe.data = .fields vs)(h0:vs[0]?=some a0)(h1:vs[1]?=some .none)(h2:vs[2]?=some c)
 (hn:H ea=none) (new:X.s₀.heap.get? ea=none) (q:xo E oe.cls oe.dict c H):X.xe (.ref ea) s:=by
 refine O.xe _ _ ?_
 have hfr:X.A.frames=some (X.env::X.outer):=by rw[I.ok.frames,O.stk]
 have hl:s.heap.FunFrames (PySem.W.hideAll s.heap (ea::frs X.stack)) (X.env::X.outer):=by
  have z:=PySem.W.funFrames_hide (as:=ea::frs X.stack) I.stack fun env he b hb=>List.mem_cons_of_mem _ (List.mem_filterMap.mpr ⟨env,he,hb⟩)
  rw[O.stk]at z ⊢
  exact z
 refine se hfr O.fr (fun b o e=>PySem.W.of_hideAll _ e) (PySem.W.hideAll_none _ (List.mem_cons_self ..)) hl ge de h0 h1 h2 rfl fun h3 fl sc up=>?_
 refine qW O I (Cov.outer I (h0:=X.s₀.heap) (fun b o e c n=>?_) fun b o e=>⟨o,e⟩) fl sc up hn q
 refine PySem.W.hideAll_get _ e fun z=>?_
 rcases List.mem_cons.mp z with z|z
 ·subst z
  rcases c with c|⟨o',c⟩
  ·exact c hn
  ·rw[new]at c
   cases c
 ·exact n z
theorem Out.thrG(O:Out X E){ea:Addr}{oe:Obj}{vs:Array Value}{a0:Value}(I:Inv X pins σ H s)(ge:s.heap.get? ea=some oe)(de:oe.data = .fields vs)(h0:vs[0]?=some a0)(h1:vs[1]?=some .none)(h2:vs[2]?=some .none)
 (hn:H ea=none) (new:X.s₀.heap.get? ea=none) (hcl:∃ C0:Addr,oe.cls = .ref C0) (q:E oe.cls oe.dict H):X.xe (.ref ea) s:=O.thrC I ge de h0 h1 h2 hn new (.inl ⟨rfl,hcl,q⟩)
theorem Out.thr(O:Out X E):Thr X E:=by
 intro pins σ H s h1 ea C0 vs I mk q
 have I1:Inv X pins σ H { s with heap:=h1}:=I.kept (t':=s.toks) mk.keeps
 have hn:H ea=none:=by
  cases hz:H ea with
  | none=>rfl
  | some z =>
    obtain⟨ob,e⟩:=(I.hok ea z hz).thing
    rw[mk.new]at e
    cases e
 obtain⟨t,ge,_,_⟩:=mk.there
 refine O.thrG I1 (a0:=.ref t) ge rfl rfl rfl rfl hn ?_ ⟨_,rfl⟩ q
 cases hz:X.s₀.heap.get? ea with
 | none=>rfl
 | some o =>
   obtain⟨o',e⟩:=I.base.there ea o hz (by rw[O.ex];simp)
   rw[mk.new]at e
   cases e
theorem Inv.threw{H' : Hp}{s' : Shared}(I:Inv X pins σ H s)(os:s'.os=s.os)(bare:AllBare s'.gens)(un:Un (frs X.stack) [] H H' s.heap s'.heap)(hok:HOk X.prog X.w H' s'.heap):Inv X pins σ H' s' :=
 I.call' (ch:=[]) os un hok bare fun b z=>absurd z (by simp)
theorem Out.passes(O:Out X E):kW (CX1 X.prog X.w) X E:=by
 intro pins σ H s e s' I q
 obtain⟨ea,cls,a0,od,c,H',B,rfl,os,bare,un,hok,hn,cov,fl,sc,qE⟩:=q
 have I1:=I.threw os bare un hok
 refine O.xe _ _ ?_
 have hfr:X.A.frames=some (X.env::X.outer):=by rw[I.ok.frames,O.stk]
 rw[O.stk]at fl
 refine rO hfr O.fr fl sc fun h2 fl2 sc2 up=>?_
 exact qW O I1 (Cov.outer I1 cov fun b o e=>I.base.there b o e (by rw[O.ex];simp)) fl2 sc2 up hn qE
end
theorem jf{P:Program}{w:World}{K:PySem.W.Frag}{mg:Str→Option Value}{base:Heap}{N:List Str}{qual:Str}{scope:Scope}{f:Addr}{cd:Value}{A:Around}{outer:List Env}{s:Shared}{H:Hp}{E:XK}:
 Out (mS (CX1 P w) P w K mg base N qual scope f cd A outer s H E) E:=⟨rfl,rfl,rfl,fun _ _ h=>h⟩
theorem Fun.ok1{P:Program}{w:World}{K:PySem.W.Frag}{mg:Str→Option Value}{base:Heap}{x qual:Str}{st:Stmt}{f:Addr}{fd:FuncData}{N ps:List Str}{k:Nat}{sp:Sp}(F:Fun K x qual st f fd)(S:FnScope N ps (ag st))
 (len:∀ vs H Q E,sp vs H Q E→vs.length=ps.length)
 (hbody:∀(cdv:Value) (A:Around) (outer:List Env) (s:Shared) (H:Hp) (vs:List V) (Q:VK) (E:XK),Room k (A.deeper (envOfC qual (ag st) s.heap.objs.size f cdv))→sp vs H Q E→
  ∃ t,PSs (mS (CX1 P w) P w K mg base N qual (ag st) f cdv A outer s H E) (ax st) t∧t { nx:=fun _ H'=>Q .non H',rt:=Q} (start N vs) H):FnOk P w K mg base (CX1 P w) (k+1) f fd ps sp:=by
 obtain⟨oc,od,kV,doc,pm,an,cdv,ct,osl,rfl,lk,hcd⟩:=F.ex
 exact tR lk hcd S len fun A outer s H vs Q E hr hsp=>hbody cdv A outer s H vs Q E hr hsp
section
variable {X:Cx}{E:XK}
def wW(C:Addr)(E:XK)(t:TA):TS:=fun _ σ H=>t σ H fun vs H1=>vs.length≤sizeLine∧E (.ref C) none H1
theorem nX{x:Str}{C:Addr}{bm:List Value}{B newId initId:String}{e:Expr}{es:List Expr}{ta:TA}{np cpos pos:Pos}(th:Thr X E)(hc:X.calm=true)(hg:Gl X x)(O:∀ h,X.K.In h→h.Ns mainGlobals X.mg→OwnCls x C bm newId X.mg h)
 (FB:ExcBaseFacts B newId initId bm) (ha:PA X (e::es) ta) (he:starEach (e::es) X.env=(false,eval e X.env)::starEach es X.env:=by rfl) (hpl:(backTo cpos (starEach es X.env)).any (·.1)=false:=by rfl)
 (hd:(x==("__debug__":Str))=false:=by decide):PS X (.Raise (some (.Call (.Name x np) (e::es) [] cpos)) none pos) (wW C E ta):=by
 intro pins s σ H D I h
 have OC:=O _ I.mod.kin I.mod.glob
 obtain⟨tl,N,nm,q,bs,hdct,sn,sub,ab,col,dd,k0,k1,k2,k3,k5,mN,hC,hN,hni,T⟩:=OC.obj
 refine wpAny_Raise_call_subT (C:=C) (nm:=nm) (q:=q) (N:=N) (bs:=bs) (bm:=tl) (hdct:=hdct) (sn:=sn) (sub:=sub) (ab:=ab) (col:=col) (dd:=dd) (k0:=k0) (k1:=k1) (k2:=k2) (k3:=k3) (k5:=k5)
  FB (mN:=mN) (T.hasType FB.hasBase) (I.ok.hd hc) (by rw[he];show(false || (backTo cpos (starEach es X.env)).any (·.1))=false;rw[hpl];rfl) hni (qK I hg OC.bound ⟨rfl,?_⟩ hd)
 have hA:=ha cpos pins s σ H _ I h
 rw[he]at hA ⊢
 refine Calls.evalArgs_plain (wpAny_mono hA (fun us s1 ⟨vs,H1,I1,r1,z,q1⟩=>?_) fun _ _ y=>y)
 exact⟨rfl,by rw[← r1.length];exact z,I1.bk _ _ hC,hN.keeps I1.bk,T.keeps I1.bk,fun h' ea hm=>th pins σ H1 s1 h' ea _ us I1 hm q1⟩
end
end L2
namespace L2
open PySem PySem.Spec PyProof.Rows
section
variable {X:Cx}{pins:List (Addr×Obj)}{σ:St}{H:Hp}{s:Shared}
end
section
variable {X:Cx}
end
end L2
namespace L2
open PySem PySem.Spec PySem.Calls PyProof.Rows PySem.W PySem.Builtin PySem.Builtin.ObjectAttr PySem.Builtin.Getset_descriptor
section
variable {K:Frag}{x D:Addr}
section
variable {prog:Program}{w:World}{A:Around}{E:Value→Shared→Prop}{s:Shared}
end
end
end L2
namespace L2
open PySem PySem.Spec PyProof.Rows
section
variable {X:Cx}
end
section
variable {X:Cx}{tg:Expr}
theorem uB{P:Program}{w:World}{X:Cx}:kW (CX1 P w) X (fun _ _ _=>False):=by
 intro pins σ H s e s' I q
 obtain⟨_,_,_,_,_,_,_,_,_,_,_,_,_,_,_,_,z⟩:=q
 rcases z with⟨_,_,z⟩|⟨_,_,_,_,_,_,_,z⟩
 ·exact z.elim
 ·exact z.elim
end
theorem sV{K:PySem.W.Frag}{h:Heap}{mg:Str→Option Value}{x:Str}{C:Addr}{bmB:List Value}{newId:String}(X:K.In h)(G:h.Ns mainGlobals mg)(e:PySem.W.nsIn K mainGlobals x=some (some (.ref C)))(q:PySem.W.excIn K C bmB newId=true):
 OwnCls x C bmB newId mg h:=by
 refine⟨PySem.W.mg_of X G e,?_⟩
 unfold PySem.W.excIn at q
 split at q
 ·rename_i od cd sl look
  split at q
  ·rename_i Cx bm j0 j1 j2 j3 nw j5 hmro hsl
   simp only[Bool.and_eq_true,beq_iff_eq,Bool.not_eq_true']at q
   obtain⟨⟨⟨⟨⟨rfl,rfl⟩,hdel⟩,ht⟩,hok⟩,hni⟩:=q
   obtain⟨nm,bs,mro,ns,qn,hd,sn,sub,ab,col,del⟩:=cd
   (dsimp only at hmro hdel hok hni;subst hmro hdel)
   have hs2:sl = #[j0,j1,j2,j3,some (.builtin nw),j5]:=by
    obtain⟨l⟩:=sl
    simp only at hsl
    rw[hsl]
   subst hs2
   exact⟨bm,ns,nm,qn,bs,hd,sn,sub,ab,col,od,j0,j1,j2,j3,j5,_,X _ _ look,.of_isNs (PySem.W.isNs_of_in X hok),PySem.W.nsMap_none_of_in X hok hni,PySem.W.tail_of_in X ht⟩
  ·cases q
 ·cases q
end L2
namespace L2
end L2
namespace L2
theorem kg{α:Type}:∀ us:List α,us.length=1→∃ a,us=[a]
 | [_],_=>⟨_,rfl⟩
theorem fK{α:Type}:∀ us:List α,us.length=2→∃ a b,us=[a,b]
 | [_,_],_=>⟨_,_,rfl⟩
theorem nL{α:Type}:∀ us:List α,us.length=3→∃ a b c,us=[a,b,c]
 | [_,_,_],_=>⟨_,_,_,rfl⟩
end L2
namespace L2
open PySem PySem.Spec PyProof.Rows
section
variable {X:Cx}{ea:Addr}{k:Nat}{f:Addr}{fd:FuncData}{ps:List Str}{sp:Sp}{dvs:List V}{ds:List Value}{x:Str}{p pos:Pos}{e:Expr}{es:List Expr}{t:TA}
end
section
variable {prog:Program}{w:World}{A:Around}{E:Value→Shared→Prop}{s:Shared}
end
end L2
namespace L2
open PySem PySem.Spec PyProof.Rows
section
variable {X:Cx}{pins:List (Addr×Obj)}{σ:St}{H:Hp}{s:Shared}{h' : Heap}
theorem Inv.yields{t' : Nat}{wr:List Addr}{T:Addr}{o:HO}(I:Inv X pins σ H s)(k:∀ b u,b∉wr→s.heap.get? b=some u→h'.get? b=some u)(hf:∀ b∈wr,iy X pins H b)(hT:s.heap.objs.size≤T)
 (new:aV X.prog X.w (upd H T o) h' T o):Inv X pins σ (upd H T o) { s with heap:=h',toks:=t'}:=by
 have hTn:H T=none:=I.hok.fresh hT
 have nT:∀ b u,H b=some u→b≠T:=fun b u e=>bS e hTn
 have nw:∀ b u,H b=some u→b∉wr:=fun b u e hb=>by rw[(hf b hb).1]at e;cases e
 refine I.step (g':=s.gens) (d':=s.drawn) (ch:=wr) (fun b hb=>?_) (fun b o _ _ hc e _=>k b o hc e) (fun b o _ _ hc e _=>⟨o.slots,k b o hc e⟩) (fun b u hc e n=>?_)
  (fun b o hc e=>⟨o,k b o hc e⟩) (fun b xs e=>?_) (fun b ob xs e=>?_) (fun b ps e=>⟨#[],?_⟩) (fun m hm=>?_) (fun b u e=>?_) I.bare
 ·obtain⟨_,f1,_,f3,f4,f5⟩:=hf b hb
  exact⟨f3,f1,f4,f5⟩
 ·rw[ak (Nat.ne_of_lt (Nat.lt_of_lt_of_le (Heap.lt_size e) hT))];exact n
 ·rw[ak (nT b _ e)];exact e
 ·rw[ak (nT b _ e)];exact e
 ·rw[ak (nT b _ e),e];simp
 ·obtain⟨o,es,ep,ho,r⟩:=hm
  exact⟨o,es,ep,k _ o (fun hb=>(hf _ hb).2.1 rfl) ho,r⟩
 ·by_cases hb:b=T
  ·subst hb;rw[ai]at e;cases e;exact new
  ·rw[ak hb]at e
   refine(I.hok b u e).stay (fun c v hc q=>k c v ?_ q) (fun c q=>by rw[ak (nT c _ q)];exact q) fun c xs q=>by rw[ak (nT c _ q)];exact q
   rcases hc with z|z
   ·rw[z];exact nw b u e
   ·exact nw c _ z
theorem Inv.turnedL{t' : Nat}{wr:List Addr}(I:Inv X pins σ H s)(k:∀ b u,b∉wr→s.heap.get? b=some u→h'.get? b=some u)(hf:∀ b∈wr,iy X pins H b):Inv X pins σ H { s with heap:=h',toks:=t'}:=by
 have nw:∀ b u,H b=some u→b∉wr:=fun b u e hb=>by rw[(hf b hb).1]at e;cases e
 refine I.step (g':=s.gens) (d':=s.drawn) (ch:=wr) (fun b hb=>?_) (fun b o _ _ hc e _=>k b o hc e) (fun b o _ _ hc e _=>⟨o.slots,k b o hc e⟩) (fun _ _ _ _ n=>n)
  (fun b o hc e=>⟨o,k b o hc e⟩) (fun _ _ e=>e) (fun _ _ _ e=>e) (fun b ps e=>⟨#[],by rw[e];simp⟩) (fun m hm=>?_) (fun b u e=>?_) I.bare
 ·obtain⟨_,f1,_,f3,f4,f5⟩:=hf b hb
  exact⟨f3,f1,f4,f5⟩
 ·obtain⟨o,es,ep,ho,r⟩:=hm
  exact⟨o,es,ep,k _ o (fun hb=>(hf _ hb).2.1 rfl) ho,r⟩
 ·refine(I.hok b u e).stay (fun c v hc q=>k c v ?_ q) (fun _ q=>q) fun _ _ q=>q
  rcases hc with z|z
  ·rw[z];exact nw b u e
  ·exact nw c _ z
end
def Itz(K:PySem.W.Frag)(a b:Addr):It :=
 ⟨fun i H=>∃ xs ys x y,SqL K H a xs∧SqL K H b ys∧xs[i]?=some x∧ys[i]?=some y,
  fun i H v H'=>∃ T x y,v = .ref T∧H T=none∧H' = upd H T (.tup [x,y])∧(∀ xs,SqL K H a xs→xs[i]?=some x)∧∀ ys,SqL K H b ys→ys[i]?=some y,
  fun i H=>∃ xs ys,SqL K H a xs∧SqL K H b ys∧(xs.length≤i∨ys.length≤i)⟩
theorem tX{P:Program}{w:World}{K:PySem.W.Frag}{elts:List Expr}{k:Nat}{pos:Pos}(a b z TI TO i1 i2:Addr)(D:ZipApart z TI TO i1 i2 a b):
 Turn P w K (.Tuple elts k pos) (Itz K a b) [z,TI,TO,i1,i2] z (fun i h=>IsZip h z TI TO .none∧IsPair h TI (.ref i1) (.ref i2)∧(∃ u v,IsPair h TO u v)∧h.IsListIter i1 a i∧h.IsListIter i2 b i) where
 mem:=by simp
 obj:=fun i h st c hc=>by
  obtain⟨hz,hI,⟨u,v,hO⟩,⟨o1,ho1,_,d1⟩,o2,ho2,_,d2⟩:=st
  have hc' : c=z∨c=TI∨c=TO∨c=i1∨c=i2:=by simpa using hc
  rcases hc' with rfl|rfl|rfl|rfl|rfl
  ·exact⟨_,hz,fun v z=>by cases z⟩
  ·exact⟨_,hI,fun v z=>by cases z⟩
  ·exact⟨_,hO,fun v z=>by cases z⟩
  ·exact⟨o1,ho1,fun v z=>by rw[d1]at z;cases z⟩
  ·exact⟨o2,ho2,fun v z=>by rw[d2]at z;cases z⟩
 keep:=fun i h h' st k=>by
  obtain⟨hz,hI,⟨u,v,hO⟩,h1,h2⟩:=st
  exact⟨k z (by simp) _ hz,k TI (by simp) _ hI,⟨u,v,k TO (by simp) _ hO⟩,h1.at fun o e=>k i1 (by simp) o e,h2.at fun o e=>k i2 (by simp) o e⟩
 item:=by
  intro X hP hw hK hc i pins s σ H E I hf st hg
  subst hP hw hK
  obtain⟨xs,ys,x,y,hq,hq2,hx,hy⟩:=hg
  obtain⟨its,rv,p,hzl⟩:=I.list hq
  obtain⟨its2,rv2,p2,hzl2⟩:=I.list hq2
  obtain⟨u,hu,ru⟩:=rv.get hx
  obtain⟨u2,hu2,ru2⟩:=rv2.get hy
  obtain⟨hz,hI,⟨v1,v2,hO⟩,h1,h2⟩:=st
  refine wpAny_pyNext_zip_item D hz hI hO h1 h2 p.isList p2.isList (x:=u) (y:=u2) (by simpa using hu) (by simpa using hu2) fun h3 hz3 hO3 h13 h23 hT hsz hk=>?_
  refine⟨_,rfl,wpAny_letOwnedTupleGo_zip hz3 fun h4 hz4 hs4=>?_⟩
  have lt:∀{c o},s.heap.get? c=some o→s.heap.objs.size≠c:=fun e=>Nat.ne_of_gt (Heap.lt_size e)
  have hT4:h4.get? s.heap.objs.size=some { cls:=.type "tuple",data:=.seq #[u,u2]}:=(hs4.2 _ (lt hz)).trans hT
  have kk:∀ c o,c∉[z,TO,i1,i2]→s.heap.get? c=some o→h4.get? c=some o:=fun c o hc q=>by
   have c1:c≠z:=fun e=>hc (by simp[e])
   exact(hs4.2 c c1).trans (hk c o c1 (fun e=>hc (by simp[e])) (fun e=>hc (by simp[e])) (fun e=>hc (by simp[e])) q)
  have hsub:∀ c∈[z,TO,i1,i2],c∈[z,TI,TO,i1,i2]:=fun c hc=>by
   have hc' : c=z∨c=TO∨c=i1∨c=i2:=by simpa using hc
   rcases hc' with rfl|rfl|rfl|rfl<;>simp
  refine⟨.ref s.heap.objs.size,upd H s.heap.objs.size (.tup [x,y]),I.yields (wr:=[z,TO,i1,i2]) (t':=s.toks) kk (fun c hc=>hf c (hsub c hc)) (Nat.le_refl _) ?_,rfl,
   ⟨_,x,y,rfl,I.fresh,rfl,fun zs hy=>by rw[I.list_inj hy hq];exact hx,fun zs hz=>by rw[I.list_inj hz hq2];exact hy⟩,⟨hz4,(hs4.2 _ D.TIz).trans (hk _ _ D.TIz D.TITO D.TIi1 D.TIi2 hI),⟨u,u2,(hs4.2 _ D.TOz).trans hO3⟩,?_,?_⟩,fun c hc=>?_⟩
  ·exact⟨dl rfl,[u,u2],.cons ru (.cons ru2 .nil),⟨_,hT4,rfl,_,rfl⟩⟩
  ·exact h13.at fun o q=>(hs4.2 _ D.i1z).trans q
  ·exact h23.at fun o q=>(hs4.2 _ D.i2z).trans q
  ·rw[ak]
   ·exact(hf c hc).1
   ·have hc' : c=z∨c=TI∨c=TO∨c=i1∨c=i2:=by simpa using hc
    rcases hc' with rfl|rfl|rfl|rfl|rfl
    ·exact Ne.symm (lt hz)
    ·exact Ne.symm (lt hI)
    ·exact Ne.symm (lt hO)
    ·obtain⟨o,q,_⟩:=h1
     exact Ne.symm (lt q)
    ·obtain⟨o,q,_⟩:=h2
     exact Ne.symm (lt q)
 done:=by
  intro X hP hw hK hc i pins s σ H E I hf st hg
  subst hP hw hK
  obtain⟨xs,ys,hq,hq2,hx⟩:=hg
  obtain⟨its,rv,p,hzl⟩:=I.list hq
  obtain⟨its2,rv2,p2,hzl2⟩:=I.list hq2
  obtain⟨hz,hI,⟨v1,v2,hO⟩,h1,h2⟩:=st
  have hl:=rv.length
  have hl2:=rv2.length
  have hsub:∀ c∈[z,TO,i1,i2],c∈[z,TI,TO,i1,i2]:=fun c hc=>by
   have hc' : c=z∨c=TO∨c=i1∨c=i2:=by simpa using hc
   rcases hc' with rfl|rfl|rfl|rfl<;>simp
  refine wpAny_pyNext_zip_end (I.ok.hd hc) D hz hI hO h1 h2 p.isList p2.isList (hx.imp (fun q=>by simp;(first|lia|omega)) fun q=>by simp;(first|lia|omega)) fun h' kk=>⟨rfl,I.turnedL (wr:=[z,TO,i1,i2]) (t':=s.toks) (fun c o hc q=>?_) fun c hc=>hf c (hsub c hc)⟩
  exact kk c o (fun e=>hc (by simp[e])) (fun e=>hc (by simp[e])) (fun e=>hc (by simp[e])) (fun e=>hc (by simp[e])) q
 self:=fun _ _ _ _ _ st h=>wpAny_pyIter_zip st.1 h
theorem rV{n a b:Nat}(la:a<n)(lb:b<n):ZipApart (n+4) (n+2) (n+3) n (n+1) a b:=by
 have k:∀{x y:Nat},x<y∨y<x→x≠y:=fun h=>by(first|lia|omega)
 constructor<;>exact k (by(first|lia|omega))
section
variable {X:Cx}{elts:List Expr}{n:Nat}{tp:Pos}
def yv(K:PySem.W.Frag)(ta:TA):TI:=fun σ H R=>ta σ H fun vs H1=>∃ a b,vs=[.ref a,.ref b]∧(∃ xs,SqL K H1 a xs)∧(∃ ys,SqL K H1 b ys)∧R (Itz K a b) H1
theorem xa(K:PySem.W.Frag){a b:Expr}{ta:TA}{p pos:Pos}(hg:Gl X "zip")(hm:X.mg "zip"=none)(ha:PA X [a,b] ta)(hs:starEach [a,b] X.env=[(false,eval a X.env),(false,eval b X.env)]:=by rfl)(hs2:starEach [b] X.env=[(false,eval b X.env)]:=by rfl)(hK:X.K=K:=by rfl):
 PI X (.Tuple elts n tp) (.Call (.Name "zip" p) [a,b] [] pos) (yv K ta):=by
 subst hK
 intro pins s σ H R I h
 refine Call_ (gr I hg hm boot_zip (PyProof.Rows.callWith_type1 (thn (ha pos pins s σ H _ I h) fun us s1 ⟨vs,H1,I1,r1,q1⟩=>?_) (by rw[hs,hs2]) (by rw[hs2];rfl)))
 obtain⟨a,b,e,⟨xs,hq⟩,⟨ys,hq2⟩,q⟩:=q1
 subst e
 cases r1 with
 | cons r rr =>
   cases rr with
   | cons r' rr =>
     cases rr
     cases r
     cases r'
     obtain⟨its,rv,pl,hz⟩:=I1.list hq
     obtain⟨its2,rv2,pl2,hz2⟩:=I1.list hq2
     refine call_zip_2 pl.isList pl2.isList fun h' hzz hI hO h1 h2 hsz hk=>?_
     have I2:Inv X pins σ H1 { s1 with heap:=h'}:=I1.kept (t':=s1.toks) hk
     have la:a<s1.heap.objs.size:=by obtain⟨_,q,_⟩:=pl.isList;exact Heap.lt_size q
     have lb:b<s1.heap.objs.size:=by obtain⟨_,q,_⟩:=pl2.isList;exact Heap.lt_size q
     refine wpAny_pyIter_zip hzz ⟨_,[s1.heap.objs.size+4,s1.heap.objs.size+2,s1.heap.objs.size+3,s1.heap.objs.size,s1.heap.objs.size+1],_,_,H1,rfl,I2,
      tX a b _ _ _ _ _ (rV la lb),⟨hzz,hI,⟨_,_,hO⟩,h1,h2⟩,fun c hc=>?_,q⟩
     have hc' : c=s1.heap.objs.size+4∨c=s1.heap.objs.size+2∨c=s1.heap.objs.size+3∨c=s1.heap.objs.size∨c=s1.heap.objs.size+1:=by simpa using hc
     have hcs:s1.heap.objs.size≤c:=by
      rcases hc' with rfl|rfl|rfl|rfl|rfl
      ·exact Nat.le_add_right _ _
      ·exact Nat.le_add_right _ _
      ·exact Nat.le_add_right _ _
      ·exact Nat.le_refl _
      ·exact Nat.le_add_right _ _
     exact I1.fpOk hcs (I1.hok.fresh hcs)
end
section
variable {K:PySem.W.Frag}{a b:Addr}{xs ys:List V}{g:TG}{tt:TT}{te:TE}{n:Nat}{fr:St}{D:Addr}{Q:Hp→Prop}{H1:Hp}
theorem tN(hxy:xs.length=ys.length)(Pv:Nat→List V→Hp→Prop)(h0:Pv 0 [] H1)(hl:∀ i acc H,i≤xs.length→Pv i acc H→SqL K H a xs∧SqL K H b ys∧H D=some (.lst acc)∧acc.length≤i)(hz:xs.length≤sizeLine)
 (hs:∀ i x y T acc H,xs[i]?=some x→ys[i]?=some y→Pv i acc H→H T=none→g (.ref T) (List.replicate n none++fr) (upd H T (.tup [x,y])) fun σ2 H2=>σ2.drop n=fr∧tt σ2 H2 fun b H3 =>
  if b=true then te σ2 H3 fun v H4=>H4 D=some (.lst acc)∧Pv (i+1) (acc++[v]) (upd H4 D (.lst (acc++[v]))) else Pv (i+1) acc H3)
 (hd:∀ acc H,Pv xs.length acc H→Q H):fF (Itz K a b) g tt te n fr D Q H1:=by
 refine⟨fun i m acc H=>m=xs.length-i∧i≤xs.length∧Pv i acc H,⟨xs.length,by simp,Nat.zero_le _,h0⟩,?_⟩
 rintro i m acc H ⟨rfl,hi,p⟩
 obtain⟨q,q2,hD,ha⟩:=hl i acc H hi p
 refine⟨hD,?_⟩
 by_cases hlt:i<xs.length
 ·have hlt2:i<ys.length:=by(first|lia|omega)
  refine .inr ⟨⟨xs,ys,xs[i],ys[i],q,q2,by simp[hlt],by simp[hlt2]⟩,by(first|lia|omega),Pv (i+1),fun acc' H' p'=>⟨xs.length-(i+1),by(first|lia|omega),rfl,hlt,p'⟩,fun v H' y=>?_⟩
  obtain⟨T,x,z,rfl,hT,rfl,y1,y2⟩:=y
  exact hs i x z T acc _ (y1 xs q) (y2 ys q2) p hT
 ·have e:i=xs.length:=by(first|lia|omega)
  subst e
  exact .inl ⟨⟨xs,ys,q,q2,.inl (Nat.le_refl _)⟩,hd acc H p⟩
end
end L2
namespace L2
open PySem PySem.Spec PyProof.Rows
section
variable {X:Cx}
theorem uN:dS X (.type "range") (fun xs H Q=>∃ j:Int,xs=[.int j]∧∀ p,H p=none→Q (.ref p) (upd H p (.rng 0 j))):=by
 intro pins s σ H xs us Q I r h
 obtain⟨j,rfl,q⟩:=h
 obtain⟨u,rfl,t,rfl⟩:=iI r
 refine call_range_1 ⟨.ref s.heap.objs.size,_,I.laid (t':=s.toks+1+1) (fun b o e=>Heap.get?_push_of_some _ e) (Nat.le_refl _) ?_,rfl,q _ I.fresh⟩
 exact⟨_,_,_,Heap.get?_push_size _ rfl⟩
def ql(n:Nat):List V:=(List.range n).map fun i=>V.int ((i:Nat):Int)
theorem x6(hc:X.calm=true):dS X (.type "list") (fun xs H Q=>∃ p,∃ n:Nat,xs=[.ref p]∧H p=some (.rng 0 (n:Int))∧n≤900∧∀ l,H l=none→Q (.ref l) (upd H l (.lst (ql n)))):=by
 intro pins s σ H xs us Q I r h
 obtain⟨p,n,rfl,hp,hn,q⟩:=h
 obtain⟨u,rfl,rx⟩:=iI r
 cases rx
 obtain⟨t,u,v,e⟩:=(show aV X.prog X.w H s.heap p (.rng 0 (n:Int)) from I.hok p _ hp)
 have hsz:Builtin.Range.rangeSize 0 (n:Int) 1=(n:Int):=by rw[rangeSize_one];split<;>(first|lia|omega)
 refine call_list_range (I.ok.hd hc) e (small_one (by(first|lia|omega)) (by(first|lia|omega)) (by(first|lia|omega)) (by(first|lia|omega))) hsz (Nat.le_trans hn (by decide)) fun h' tk acc c kp e' hacc=>?_
 refine⟨.ref s.heap.objs.size,_,I.laid (t':=tk) kp (Nat.le_refl _) ?_,rfl,q _ I.fresh⟩
 have hl:acc.toList.length=n:=by rw[Array.length_toList];exact hacc.1
 have hz:(ql n).length≤sizeLine:=by
  unfold ql
  rw[List.length_map,List.length_range]
  exact Nat.le_of_lt (fG (by(first|lia|omega)))
 refine⟨hz,acc.toList,c,?_,by simpa using e'⟩
 have key:∀(ys:List Value) (k:Nat),(∀ j v,ys[j]?=some v→∃ t,v=Value.int (((k+j:Nat)):Int) t)→aW ((List.range' k ys.length).map fun i=>V.int ((i:Nat):Int)) ys:=by
  intro ys
  induction ys with
  | nil=>intro k _;exact .nil
  | cons y r ih =>
    intro k hy
    obtain⟨t,ht⟩:=hy 0 y rfl
    refine .cons ⟨t,by simpa using ht⟩ (ih (k+1) fun j v hv=>?_)
    obtain⟨t',ht'⟩:=hy (j+1) v (by simpa using hv)
    exact⟨t',by rw[ht'];congr 2;(first|lia|omega)⟩
 have z:=key acc.toList 0 fun j v hv=>by
  obtain⟨t,ht⟩:=hacc.2 j v (by simpa using hv)
  exact⟨t,by rw[ht];congr 1;(first|lia|omega)⟩
 rw[hl]at z
 unfold ql
 rw[List.range_eq_range']
 exact z
theorem xG(K:PySem.W.Frag)(hc:X.calm=true)(hK:X.K=K:=by rfl):dS X (.builtin "sum") (fun xs H Q=>∃(p:Addr) (ns:List Int),xs=[.ref p]∧SqL K H p (ns.map V.int)∧Q (.int ns.sum) H):=by
 subst hK
 intro pins s σ H xs us Q I r h
 obtain⟨p,ns,rfl,hq,q⟩:=h
 obtain⟨u,rfl,rx⟩:=iI r
 cases rx
 obtain⟨its,rv,pl,hz⟩:=I.list hq
 have hi:∀{ns:List Int} {its:List Value},aW (ns.map V.int) its→∃ xs:Array (Int×Tok),its.toArray=intItems xs∧xs.toList.map (·.1)=ns:=by
  intro ns
  induction ns with
  | nil=>intro its r;cases r;exact⟨#[],by simp[intItems],rfl⟩
  | cons a l ih =>
    intro its r
    cases r with
    | cons r1 r2 =>
      obtain⟨t,rfl⟩:=r1
      obtain⟨xs,h1,h2⟩:=ih r2
      refine⟨#[(a,t)]++xs,?_,by simp[h2]⟩
      have h1':=congrArg Array.toList h1
      simp only[intItems,Array.toList_map,List.toList_toArray]at h1'
      simp[intItems,h1',Array.map_append]
 obtain⟨ar,e1,e2⟩:=hi rv
 have hl:s.heap.IsList p (intItems ar):=e1▸pl.isList
 refine sum_intListG (I.ok.hd hc) hl fun h' tk t' hk=>?_
 have e3:preSum (numAt ar) ar.size=ns.sum:=by rw[preSum_eq,List.take_of_length_le (by simp),e2]
 rw[e3]
 exact⟨.int ns.sum,H,I.kept hk,⟨t',rfl⟩,q⟩
end
end L2
namespace L2
open PySem PySem.Spec PyProof.Rows
section
variable {X:Cx}
end
end L2
namespace L2
open PySem PySem.Spec PyProof.Rows
section
variable {X:Cx}
end
end L2
namespace HT
open PySem PyProof.Rows
section
variable {prog:Program}{w:World}{A:Around}{E:Value→Shared→Prop}{s:Shared}
theorem gZ{t sl:Addr}{items:Array Value}{vl vu:Value}{lo hi:Option Int}{Q:Value→Shared→Prop}(ht:IsTup s.heap t items)(hs:s.heap.IsSliceOf sl vl vu .none)(pl:IsPart vl lo)(pu:IsPart vu hi)
 (hw:sIx items.size 0 lo=0∧sIx items.size items.size hi=items.size) (h:Q (.ref t) s):wpAny (model prog w) A (getItem (.ref t) (.ref sl)) Q E s:=by
 obtain⟨os,hos,hcs,hds⟩:=id hs
 have hTs:s.TypeIs (.ref sl) "slice":=⟨os,hos,hcs⟩
 unfold getItem
 try with_reducible refine wpAny_holding ?_
 first | refine wpAny_bind (wpAny_pure ?_) | skip
 refine wpAny_bind (wpAny_sequenceKey ht.typeIs (by decide) ?_)
 refine wpAny_bind (wpAny_callSpecial?_slot (name:=Str.ofString "__getitem__") ht.typeIs PyProof.Rows.slot_tuple_getitem
  (wpAny_call_entry PyProof.Rows.slot_tuple_getitem ht.typeIs entry_tuple_getitem ?_ (args_tuple_getitem _ _)))
 show wpAny _ _ (Builtin.Tuple.tupleItemsOf (.ref t) >>= _) _ _ s
 refine wpAny_bind (tupleItemsOf_ ht ?_)
 refine wpAny_bind (wpAny_typeOf hTs ?_)
 rw[if_pos (by decide)]
 refine wpAny_bind (fL hs pl pu ?_)
 have hyes:(((sIx items.size 0 lo:Nat):Int)==0&&(1:Int)==1&&(sIx items.size items.size hi-sIx items.size 0 lo)==items.size)=true:=by
  rw[hw.1,hw.2]
  simp
 show wpAny _ _ (if(((sIx items.size 0 lo:Nat):Int)==0&&(1:Int)==1&&(sIx items.size items.size hi-sIx items.size 0 lo)==items.size)=true then _ else _) _ _ s
 rw[if_pos hyes]
 refine wpAny_bind ?_
 unfold Builtin.Tuple.tupleIsExact
 refine wpAny_bind (wpAny_typeOf ht.typeIs (wpAny_pure ?_))
 rw[if_pos (by decide)]
 exact wpAny_bind (wpAny_rule (wpAny_pure ⟨_,rfl,wpAny_pure h⟩))
end
end HT
namespace L2
open PySem PySem.Spec PyProof.Rows
section
variable {X:Cx}
def xT:V→Option Int→Option Int→Hp→VK→Prop:=fun x lo hi H Q=>∃ a xs,x = .ref a∧H a=some (.tup xs)∧∀ p H',am H H'→H' p=some (.tup (lC xs lo hi))→Q (.ref p) H'
theorem yd:SlR X xT:=by
 intro pins s σ H x v vl vu lo hi sl Q I rx hs pl pu h
 obtain⟨a,xs,rfl,hx,q⟩:=h
 cases rx
 obtain⟨its,r,ht,hz⟩:=I.tuple (SqT.of hx)
 have hlen:its.toArray.size=xs.length:=by rw[List.size_toArray];exact r.length.symm
 refine⟨"tuple",_,PyProof.Rows.slot_tuple_getitem.lookup,ht.typeIs,?_⟩
 by_cases hw:HT.sIx xs.length 0 lo=0∧HT.sIx xs.length xs.length hi=xs.length
 ·refine HT.gZ ht hs pl pu (by rw[hlen];exact hw) ⟨.ref a,H,I,rfl,q a H (am.refl _) ?_⟩
  unfold lC
  rw[hw.1,hw.2,List.drop_zero,Nat.sub_zero,List.take_length]
  exact hx
 ·refine HT.iC ht hs pl pu (by rw[hlen];exact hw) ?_ (by rw[hlen];exact hz)
  rw[hlen]
  refine⟨.ref s.heap.objs.size,_,I.laid (t':=s.toks) (o:=.tup (lC xs lo hi)) (fun b ob q=>Heap.get?_push_of_some _ q) (Nat.le_refl _) ?_,rfl,q _ _ (am.new (I.hok.fresh (Nat.le_refl _))) ai⟩
  exact⟨Nat.le_trans (jC xs lo hi) hz,_,(r.drop (HT.sIx xs.length 0 lo)).take (HT.sIx xs.length xs.length hi-HT.sIx xs.length 0 lo),IsTup.new _ _⟩
end
end L2
namespace Ring
open PySem
abbrev Tie:=Int×Int×Int
def bit(S:Int)(k:Nat):Bool:=decide (S/2^k%2=1)
def aI(S:Int):List Nat:=(List.range (Builtin.Int.intBits S)).filter (bit S)
structure InWeb(p:Nat)(ts:List Tie):Prop where
 ends:∀ t∈ts,0≤t.1∧t.1<(p:Int)∧0≤t.2.1∧t.2.1<(p:Int)
theorem cJ(m k:Nat):bit (m:Int) k=m.testBit k:=by
 unfold bit
 rw[Nat.testBit_eq_decide_div_mod_eq]
 have e:((m:Int)/2^k%2=1)↔(m/2^k%2=1):=by
  have h2:((2:Int)^k)=((2^k:Nat):Int):=by simp
  rw[h2,← Int.natCast_ediv]
  (first|lia|omega)
 simp only[e]
theorem oQ(m:Nat):Builtin.Int.intBits (m:Int)=if m=0 then 0 else m.log2+1:=by
 unfold Builtin.Int.intBits
 by_cases h:m=0
 ·simp[h]
 ·simp[h]
theorem jY{m n:Nat}(h:m<2^n):Builtin.Int.intBits (m:Int)≤n:=by
 rw[oQ]
 split
 ·exact Nat.zero_le _
 ·rename_i h0
  exact(Nat.log2_lt h0).mpr h
theorem kO{m k:Nat}(h:Builtin.Int.intBits (m:Int)≤k):bit (m:Int) k=false:=by
 rw[cJ]
 rw[oQ]at h
 by_cases h0:m=0
 ·simp[h0]
 ·rw[if_neg h0]at h
  exact Nat.testBit_lt_two_pow (Nat.lt_of_lt_of_le Nat.lt_log2_self (Nat.pow_le_pow_right (by decide) h))
theorem iU(f:Nat→Bool)(a:Nat):∀ d,(∀ k,a≤k→f k=false)→(List.range (a+d)).filter f=(List.range a).filter f
 | 0,_=>rfl
 | d+1,h=>by
   rw[← Nat.add_assoc,List.range_succ,List.filter_append,iU f a d h]
   have e:[a+d].filter f=[]:=by rw[List.filter_cons,if_neg (by rw[h _ (by(first|lia|omega))];simp)];rfl
   rw[e,List.append_nil]
theorem dP{m n:Nat}(h:m<2^n):aI (m:Int)=(List.range n).filter fun k=>m.testBit k:=by
 unfold aI
 have hb:=jY h
 obtain⟨d,hd⟩:=Nat.exists_eq_add_of_le hb
 have e:(fun k=>m.testBit k)=bit (m:Int):=funext fun k=>(cJ m k).symm
 rw[e]
 conv=>rhs;rw[hd]
 exact(iU _ _ d fun k hk=>kO hk).symm
theorem u8{m n:Nat}(h:m<2^n){k:Nat}(hk:k∈aI (m:Int)):k<n:=by
 rw[dP h]at hk
 exact List.mem_range.mp (List.mem_filter.mp hk).1
theorem tZ{a b x y:Nat}(q:x/2+2*(y/2)=a/2+b/2)(h:x%2+2*(y%2)=a%2+b%2):x+2*y=a+b:=by(first|lia|omega)
theorem vn{u v:Nat}(hu:u=0∨u=1)(hv:v=0∨v=1):(u^^^v)+2*(u&&&v)=u+v:=by
 rcases hu with rfl|rfl<;>rcases hv with rfl|rfl<;>rfl
theorem vF:∀ a b:Nat,(a^^^b)+2*(a&&&b)=a+b:=by
 intro a
 induction a using Nat.strongRecOn with
 | ind a ih =>
   intro b
   by_cases h:a=0
   ·subst h
    simp
   ·have q:=ih (a/2) (by(first|lia|omega)) (b/2)
    rw[← Nat.xor_div_two,← Nat.and_div_two]at q
    refine tZ q ?_
    have e1:(a^^^b)%2=a%2^^^b%2:=Nat.xor_mod_two_pow (n:=1)
    have e2:(a&&&b)%2=a%2&&&b%2:=Nat.and_mod_two_pow (n:=1)
    rw[e1,e2]
    exact vn (Nat.mod_two_eq_zero_or_one a) (Nat.mod_two_eq_zero_or_one b)
theorem xor_int(a b:Nat):Builtin.bitXor (a:Int) (b:Int)=((a^^^b:Nat):Int):=by
 have h:(a:Int)+b-2*((a&&&b:Nat):Int)=((a^^^b:Nat):Int):=by
  have q:=vF a b
  (first|lia|omega)
 have e:=PyProof.Rows.bitXor_and (a:Int) (b:Int)
 rw[e,PyProof.Rows.bitAnd_pp (by(first|lia|omega)) (by(first|lia|omega))]
 simpa using h
end Ring
namespace Ring
open PySem L2
def xk(t:Tie):List V:=[.int t.1,.int t.2.1,.int t.2.2]
def lm(H:Hp)(x:V)(t:Tie):Prop:=∃ b,x = .ref b∧H b=some (.tup (xk t))
structure WebAt(H:Hp)(w:Addr)(p:Nat)(ts:List Tie):Prop where
 ex:∃ b xs,H w=some (.tup [.int (p:Int),.ref b])∧H b=some (.tup xs)∧Paired (lm H) xs ts
structure Web(p:Nat)(ts:List Tie):Prop where
 inw:InWeb p ts
 len:ts.length≤24
 pts:p≤10
theorem lm.tups{H H' : Hp}(s:cy H H'){x:V}{t:Tie}(h:lm H x t):lm H' x t:=by
 obtain⟨b,e,h⟩:=h
 exact⟨b,e,s _ _ h⟩
theorem WebAt.tups{H H' : Hp}{w:Addr}{p:Nat}{ts:List Tie}(s:cy H H')(h:WebAt H w p ts):WebAt H' w p ts:=by
 obtain⟨b,xs,h1,h2,h3⟩:=h.ex
 exact⟨b,xs,s _ _ h1,s _ _ h2,Paired.imp' (fun _ _ z=>z.tups s) h3⟩
theorem WebAt.same{H H' : Hp}{w:Addr}{p:Nat}{ts:List Tie}(s:am H H')(h:WebAt H w p ts):WebAt H' w p ts:=h.tups s.tups
def aJ(l:List Nat):List V:=l.map fun k=>V.int ((k:Nat):Int)
theorem kz(l:List Nat)(k:Nat):aJ (l++[k])=aJ l++[.int (k:Int)]:=by unfold aJ;rw[List.map_append];rfl
theorem cr(l:List Nat):(aJ l).length=l.length:=by unfold aJ;rw[List.length_map]
theorem jr{l:List Nat}{i:Nat}{x:V}(h:(aJ l)[i]?=some x):∃ k,l[i]?=some k∧x = .int (k:Int):=by
 unfold aJ at h
 rw[List.getElem?_map]at h
 obtain⟨k,e,q⟩:=Option.map_eq_some_iff.mp h
 exact⟨k,e,q.symm⟩
theorem bL(f:Nat→Bool)(i:Nat):(List.range (i+1)).filter f=(List.range i).filter f++(if f i=true then[i] else[]):=by
 rw[List.range_succ,List.filter_append]
 congr 1
 cases h:f i with
 | true=>rw[List.filter_cons,if_pos h,if_pos rfl];rfl
 | false=>rw[List.filter_cons,if_neg (by rw[h];simp),if_neg (by simp)];rfl
def gX(f:Nat→Bool)(H:Hp)(D:Addr)(i:Nat)(acc:List V)(H2:Hp):Prop:=am H H2∧H2 D=some (.lst acc)∧acc=aJ ((List.range i).filter f)
section
variable {f:Nat→Bool}{H H2 H3:Hp}{D:Addr}{i:Nat}{acc:List V}
theorem gX.start(hD:H D=none):gX f H D 0 [] (upd H D (.lst [])):=⟨am.new hD,ai,rfl⟩
theorem gX.len(p:gX f H D i acc H2):H2 D=some (.lst acc)∧acc.length≤i:=by
 refine⟨p.2.1,?_⟩
 rw[p.2.2,cr]
 exact Nat.le_trans (List.length_filter_le _ _) (by rw[List.length_range];exact Nat.le_refl _)
theorem gX.yes(p:gX f H D i acc H2)(hD:H D=none)(s:am H2 H3)(hf:f i=true):H3 D=some (.lst acc)∧gX f H D (i+1) (acc++[.int (i:Int)]) (upd H3 D (.lst (acc++[.int (i:Int)]))):=by
 refine⟨s _ _ p.2.1,(p.1.trans s).put hD,ai,?_⟩
 rw[bL,if_pos hf,kz,← p.2.2]
theorem gX.no(p:gX f H D i acc H2)(s:am H2 H3)(hf:f i=false):gX f H D (i+1) acc H3:=by
 refine⟨p.1.trans s,s _ _ p.2.1,?_⟩
 rw[bL,if_neg (by rw[hf];simp),List.append_nil]
 exact p.2.2
end
def cb(ts:List Tie)(k:Nat):Tie:=ts.getD k (0,0,0)
theorem gF{n j:Nat}(h:j<n):ixN n (j:Int)=some j:=by
 unfold ixN
 rw[if_pos (by(first|lia|omega)),if_pos (by(first|lia|omega)),Int.toNat_natCast]
def gY(k:Nat):PyData:=.int (k:Int)
theorem kr{K:PySem.W.Frag}{H:Hp}:∀ l:List Nat,DatVs K H (aJ l) (l.map gY)
 | []=>.nil
 | _::r=>.cons (.int _) (kr r)
theorem oW:∀ l:List Nat,PyData.canLayAll0 (l.map gY)=true
 | []=>rfl
 | _::r=>by
   have ih:=oW r
   simp only[List.map_cons,PyData.canLayAll0,ih,Bool.and_true]
   rfl
theorem md:∀ l:List Nat,PyData.depthAll (l.map gY)=0
 | []=>rfl
 | _::r=>by
   have ih:=md r
   show max (PyData.depth (PyData.int _)) (PyData.depthAll (r.map _))=0
   rw[ih]
   rfl
theorem nN(l:List Nat):SeqAt.shaped (.list (l.map gY))=true:=by
 unfold SeqAt.shaped
 have e:(PyData.list (l.map gY)).canLay0=PyData.canLayAll0 (l.map gY):=by simp[PyData.canLay0]
 rw[e,oW,Bool.true_and]
 refine decide_eq_true ?_
 have e2:PyData.depth (PyData.list (l.map gY))=PyData.depthAll (l.map gY)+1:=by simp[PyData.depth]
 rw[e2,md]
 decide
theorem vL(l:List Nat):PyData.eqv (.list (l.map gY)) (.list [])=decide (l=[]):=by
 cases l with
 | nil=>rfl
 | cons a r=>rfl
theorem pW(S:Int)(k:Nat):decide (V.int (Builtin.bitAnd (S/2^k) 1)=V.int 1)=bit S k:=by
 unfold bit
 rw[PyProof.Rows.bitAnd_m1]
 rw[Bool.eq_iff_iff]
 simp
end Ring
namespace Ring
open PySem L2
structure GoodTie(p:Int)(t:Tie):Prop where
 a0:0≤t.1
 a1:t.1<p
 b0:0≤t.2.1
 b1:t.2.1<p
 ne:t.1≠t.2.1
 l0:1≤t.2.2
 l1:t.2.2≤1000000000000000000000000000000
structure GoodWeb(p:Nat)(ts:List Tie):Prop where
 p1:1≤p
 p2:p≤10
 len:ts.length≤24
 ties:∀ t∈ts,GoodTie (p:Int) t
theorem GoodWeb.web{p:Nat}{ts:List Tie}(g:GoodWeb p ts):Web p ts:=⟨⟨fun t ht=>let z:=g.ties t ht;⟨z.a0,z.a1,z.b0,z.b1⟩⟩,g.len,g.p2⟩
def kF(p:Int)(H:Hp)(D:Addr)(n:Nat)(H2:Hp):Prop:=am H H2∧∃ acc ts,H2 D=some (.lst acc)∧Paired (lm H2) acc ts∧acc.length=n∧∀ t∈ts,GoodTie p t
section
variable {p:Int}{H H2 H3:Hp}{D b:Addr}{n:Nat}{t:Tie}
theorem kF.start(hD:H D=none):kF p H D 0 (upd H D (.lst [])):=⟨am.new hD,[],[],ai,.nil,rfl,fun t ht=>nomatch ht⟩
theorem kF.push(h:kF p H D n H2)(hD:H D=none)(s:am H2 H3)(g:GoodTie p t)(hb:H3 b=some (.tup (xk t))):
 ∃ acc,H3 D=some (.lst acc)∧acc.length=n∧kF p H D (n+1) (upd H3 D (.lst (acc++[.ref b]))):=by
 obtain⟨s2,acc,ts,hd,pr,hn,gt⟩:=h
 have hd3:H3 D=some (.lst acc):=s _ _ hd
 refine⟨acc,hd3,hn,(s2.trans s).put hD,acc++[.ref b],ts++[t],ai,?_,by rw[List.length_append,List.length_singleton,hn],fun u hu=>?_⟩
 ·exact Paired.snoc (Paired.imp' (fun _ _ z=>z.tups (s.tups.trans (cy.put hd3))) pr) ⟨b,rfl,cy.put hd3 _ _ hb⟩
 ·rcases List.mem_append.mp hu with hu|hu
  ·exact gt u hu
  ·cases List.mem_singleton.mp hu
   exact g
theorem kF.fin{q:Nat}(h:kF (q:Int) H D n H2):∃ acc ts,H2 D=some (.lst acc)∧ts.length=n∧(∀ t∈ts,GoodTie (q:Int) t)∧∀ l,H2 l=none→∀ w,upd H2 l (.tup acc) w=none→
 am H (upd (upd H2 l (.tup acc)) w (.tup [.int (q:Int),.ref l]))∧WebAt (upd (upd H2 l (.tup acc)) w (.tup [.int (q:Int),.ref l])) w q ts:=by
 obtain⟨s2,acc,ts,hd,pr,hn,gt⟩:=h
 refine⟨acc,ts,hd,by rw[← pr.length,hn],gt,fun l hl w hw=>?_⟩
 have n1:am H2 (upd H2 l (.tup acc)):=am.new hl
 have n2:=n1.trans (am.new (o:=.tup [.int (q:Int),.ref l]) hw)
 refine⟨s2.trans n2,l,acc,ai,?_,Paired.imp' (fun _ _ z=>z.tups n2.tups) pr⟩
 rw[ak (bS ai hw),ai]
end
theorem sM{p o r:Int}(h:0≤o)(h1:o<p)(r0:0≤r)(r1:r<p-1):0≤(o+1+r)%p∧(o+1+r)%p<p∧o≠(o+1+r)%p:=by
 have hp:0<p:=by(first|lia|omega)
 refine⟨Int.emod_nonneg _ (by(first|lia|omega)),Int.emod_lt_of_pos _ hp,?_⟩
 by_cases hlt:o+1+r<p
 ·rw[Int.emod_eq_of_lt (by(first|lia|omega)) hlt]
  (first|lia|omega)
 ·have e:(o+1+r)%p=o+1+r-p:=by
   rw[← Int.sub_emod_right,Int.emod_eq_of_lt (by(first|lia|omega)) (by(first|lia|omega))]
  rw[e]
  (first|lia|omega)
theorem dN{n:Nat}(h:n≤24):n≤sizeLine:=Nat.le_of_lt (fG (by(first|lia|omega)))
theorem i9{n:Nat}(h:n≤900):n<sizeLine:=fG (by(first|lia|omega))
theorem jX{ns:List Int}{k:Nat}(h:k<ns.length):(ns.map V.int)[k]?=some (.int (ns.getD k 0)):=by
 rw[List.getElem?_map,List.getD_eq_getElem?_getD]
 simp[h]
theorem eI(x m:Int)(h:0<m):0≤x%m∧x%m<m:=⟨Int.emod_nonneg _ (by(first|lia|omega)),Int.emod_lt_of_pos _ h⟩
end Ring
namespace RM
def br(f:Nat→Bool):Nat→Bool
 | 0=>false
 | n+1=>br f n^^f n
theorem bf{f g:Nat→Bool}:∀{n:Nat},(∀ k,k<n→f k=g k)→br f n=br g n
 | 0,_=>rfl
 | n+1,h=>by
   unfold br
   rw[bf fun k hk=>h k (by(first|lia|omega)),h n (by(first|lia|omega))]
theorem eG(f g:Nat→Bool):∀ n,br (fun k=>f k^^g k) n=(br f n^^br g n)
 | 0=>rfl
 | n+1=>by
   unfold br
   rw[eG f g n]
   cases br f n<;>cases br g n<;>cases f n<;>cases g n<;>rfl
theorem hZ:∀ n,br (fun _=>false) n=false
 | 0=>rfl
 | n+1=>by unfold br;rw[hZ n];rfl
theorem eF(c:Bool)(f:Nat→Bool):∀ n,br (fun k=>c&&f k) n=(c&&br f n)
 | 0=>by cases c<;>rfl
 | n+1=>by
   unfold br
   rw[eF c f n]
   cases c<;>simp
theorem jo(f:Nat→Nat→Bool)(n:Nat):∀ m,br (fun x=>br (fun k=>f x k) n) m=br (fun k=>br (fun x=>f x k) m) n
 | 0=>by
   show false=_
   rw[← hZ n]
   rfl
 | m+1=>by
   show(br (fun x=>br (fun k=>f x k) n) m^^br (fun k=>f m k) n)=_
   rw[jo f n m,← eG]
   rfl
theorem ed{f:Nat→Bool}{n:Nat}(h:∀ k,k<n→f k=false):br f n=false:=by
 rw[bf (g:=fun _=>false) h,hZ]
theorem iH{f:Nat→Bool}{a:Nat}:∀{n:Nat},a<n→(∀ k,k<n→k≠a→f k=false)→br f n=f a
 | 0,h,_=>absurd h (Nat.not_lt_zero _)
 | n+1,h,z=>by
   unfold br
   by_cases e:a=n
   ·subst e
    rw[ed fun k hk=>z k (by(first|lia|omega)) (by(first|lia|omega))]
    simp
   ·rw[iH (a:=a) (by(first|lia|omega)) fun k hk hn=>z k (by(first|lia|omega)) hn,z n (by(first|lia|omega)) (fun q=>e q.symm)]
    simp
theorem dC(C:Nat→Bool){a m:Nat}(h:a<m):br (fun x=>C x&&decide (a=x)) m=C a:=by
 rw[iH h fun k _ hk=>by simp[Ne.symm hk]]
 simp
structure Net where
 p:Nat
 n:Nat
 a:Nat→Nat
 b:Nat→Nat
 al:∀ k,k<n→a k<p
 bl:∀ k,k<n→b k<p
 ne:∀ k,k<n→a k≠b k
variable (N:Net)
def Net.inc(k x:Nat):Bool:=decide (N.a k=x)^^decide (N.b k=x)
def Net.bd(m x:Nat):Bool:=br (fun k=>m.testBit k&&N.inc k x) N.n
def Net.Even(m:Nat):Prop:=∀ x,x<N.p→N.bd m x=false
variable {N}
theorem di(m q x:Nat):N.bd (m^^^q) x=(N.bd m x^^N.bd q x):=by
 unfold Net.bd
 rw[← eG]
 refine bf fun k _=>?_
 rw[Nat.testBit_xor]
 cases m.testBit k<;>cases q.testBit k<;>cases N.inc k x<;>rfl
theorem iQ(x:Nat):N.bd 0 x=false:=by
 unfold Net.bd
 exact ed fun k _=>by simp
theorem fe{k:Nat}(h:k<N.n)(x:Nat):N.bd (2^k) x=N.inc k x:=by
 unfold Net.bd
 rw[iH h fun j _ hj=>by simp[Nat.testBit_two_pow,Ne.symm hj]]
 simp[Nat.testBit_two_pow]
theorem Even.xor{m q:Nat}(h:N.Even m)(h' : N.Even q):N.Even (m^^^q):=fun x hx=>by rw[di,h x hx,h' x hx];rfl
theorem tE{m:Nat}(C:Nat→Bool)(h:∀ k,k<N.n→m.testBit k=true→C (N.a k)=C (N.b k)):br (fun x=>C x&&N.bd m x) N.p=false:=by
 have e:br (fun x=>C x&&N.bd m x) N.p=br (fun x=>br (fun k=>C x&&(m.testBit k&&N.inc k x)) N.n) N.p :=
  bf fun x _=>(eF (C x) _ N.n).symm
 rw[e,jo]
 refine ed fun k hk=>?_
 have e2:br (fun x=>C x&&(m.testBit k&&N.inc k x)) N.p=(m.testBit k&&(C (N.a k)^^C (N.b k))):=by
  rw[← dC C (N.al k hk),← dC C (N.bl k hk),← eG,← eF]
  refine bf fun x _=>?_
  unfold Net.inc
  cases C x<;>cases m.testBit k<;>cases decide (N.a k=x)<;>cases decide (N.b k=x)<;>rfl
 rw[e2]
 cases hb:m.testBit k with
 | false=>rfl
 | true=>rw[h k hk hb];simp
def cM(L:Nat→Nat)(u v:Nat):Nat→Nat:=fun x=>if L x=max (L u) (L v) then min (L u) (L v) else L x
theorem uW{L:Nat→Nat}{u v x y:Nat}(h:L x=L y):cM L u v x=cM L u v y:=by unfold cM;rw[h]
theorem rC(L:Nat→Nat)(u v:Nat):cM L u v u=cM L u v v:=by
 unfold cM
 split<;>split<;>(first|lia|omega)
theorem lX{L:Nat→Nat}{u v:Nat}(h:L u=L v):cM L u v=L:=by
 funext x
 unfold cM
 rw[h]
 split<;>(first|lia|omega)
theorem qo{L:Nat→Nat}{u v x y:Nat}(h:cM L u v x=cM L u v y):L x=L y∨(L x=L u∧L y=L v)∨(L x=L v∧L y=L u):=by
 unfold cM at h
 have mm:(max (L u) (L v)=L u∧min (L u) (L v)=L v)∨(max (L u) (L v)=L v∧min (L u) (L v)=L u):=by
  rcases Nat.le_total (L u) (L v) with q|q
  ·exact .inr ⟨Nat.max_eq_right q,Nat.min_eq_left q⟩
  ·exact .inl ⟨Nat.max_eq_left q,Nat.min_eq_right q⟩
 rcases mm with⟨e1,e2⟩|⟨e1,e2⟩
 ·rw[e1,e2]at h
  split at h
  ·rename_i hx
   split at h
   ·rename_i hy
    exact .inl (hx.trans hy.symm)
   ·exact .inr (.inl ⟨hx,h.symm⟩)
  ·split at h
   ·rename_i hy
    exact .inr (.inr ⟨h,hy⟩)
   ·exact .inl h
 ·rw[e1,e2]at h
  split at h
  ·rename_i hx
   split at h
   ·rename_i hy
    exact .inl (hx.trans hy.symm)
   ·exact .inr (.inr ⟨hx,h.symm⟩)
  ·split at h
   ·rename_i hy
    exact .inr (.inl ⟨h,hy⟩)
   ·exact .inl h
theorem u6{L:Nat→Nat}{u v x:Nat}(h:L x≤x):cM L u v x≤x:=by
 unfold cM
 split<;>(first|lia|omega)
theorem sw{L:Nat→Nat}{u v:Nat}(h:∀ x,L (L x)=L x)(x:Nat):cM L u v (cM L u v x)=cM L u v x:=by
 have hu:=h u
 have hv:=h v
 have hx:=h x
 have hlo:L (min (L u) (L v))=min (L u) (L v):=by
  rcases Nat.le_total (L u) (L v) with q|q
  ·rw[Nat.min_eq_left q];exact hu
  ·rw[Nat.min_eq_right q];exact hv
 unfold cM
 split
 ·rw[hlo]
  split<;>(first|lia|omega)
 ·rw[hx]
  split<;>(first|lia|omega)
def Net.labs(N:Net)(S:Nat→Bool):Nat→Nat→Nat
 | 0=>fun x=>x
 | k+1=>if S k=true then cM (Net.labs N S k) (N.a k) (N.b k) else Net.labs N S k
variable {S:Nat→Bool}
theorem jV:∀(k x:Nat),N.labs S k x≤x
 | 0,_=>Nat.le_refl _
 | k+1,x=>by
   unfold Net.labs
   split
   ·exact u6 (jV k x)
   ·exact jV k x
theorem cR:∀(k x:Nat),N.labs S k (N.labs S k x)=N.labs S k x
 | 0,_=>rfl
 | k+1,x=>by
   by_cases hs:S k=true
   ·have e:N.labs S (k+1)=cM (N.labs S k) (N.a k) (N.b k):=by
     conv=>lhs;unfold Net.labs
     rw[if_pos hs]
    rw[e]
    exact sw (cR k) x
   ·have e:N.labs S (k+1)=N.labs S k:=by
     conv=>lhs;unfold Net.labs
     rw[if_neg hs]
    rw[e]
    exact cR k x
theorem mi{x y k:Nat}(h:N.labs S k x=N.labs S k y):∀ d,N.labs S (k+d) x=N.labs S (k+d) y
 | 0=>h
 | d+1=>by
   have ih:=mi h d
   show N.labs S (k+d+1) x=N.labs S (k+d+1) y
   unfold Net.labs
   split
   ·exact uW ih
   ·exact ih
theorem gp{j k:Nat}(h:j<k)(hs:S j=true):N.labs S k (N.a j)=N.labs S k (N.b j):=by
 obtain⟨d,rfl⟩:=Nat.exists_eq_add_of_le (Nat.succ_le_of_lt h)
 refine mi ?_ d
 show N.labs S (j+1) (N.a j)=N.labs S (j+1) (N.b j)
 unfold Net.labs
 rw[if_pos hs]
 exact rC _ _ _
inductive Net.Conn(N:Net)(S:Nat→Bool)(k u:Nat):Nat→Prop
 | refl:Net.Conn N S k u u
 | fwd {j:Nat} (h:Net.Conn N S k u (N.a j)) (hj:j<k) (hs:S j=true):Net.Conn N S k u (N.b j)
 | bwd {j:Nat} (h:Net.Conn N S k u (N.b j)) (hj:j<k) (hs:S j=true):Net.Conn N S k u (N.a j)
theorem Net.Conn.trans{k u v w:Nat}(h:N.Conn S k u v)(h' : N.Conn S k v w):N.Conn S k u w:=by
 induction h' with
 | refl=>exact h
 | fwd _ hj hs ih=>exact .fwd ih hj hs
 | bwd _ hj hs ih=>exact .bwd ih hj hs
theorem Net.Conn.mono{k l u v:Nat}(h:N.Conn S k u v)(hkl:k≤l):N.Conn S l u v:=by
 induction h with
 | refl=>exact .refl
 | fwd _ hj hs ih=>exact .fwd ih (by(first|lia|omega)) hs
 | bwd _ hj hs ih=>exact .bwd ih (by(first|lia|omega)) hs
theorem bJ:∀(k u v:Nat),N.labs S k u=N.labs S k v→N.Conn S k u v
 | 0,u,v,h=>by
   have e:u=v:=h
   subst e
   exact .refl
 | k+1,u,v,h=>by
   unfold Net.labs at h
   split at h
   ·rename_i hs
    rcases qo h with q|⟨q1,q2⟩|⟨q1,q2⟩
    ·exact(bJ k u v q).mono (by(first|lia|omega))
    ·have c1:=(bJ k u _ q1).mono (Nat.le_succ k)
     have c2:=(bJ k _ v q2.symm).mono (Nat.le_succ k)
     exact Net.Conn.trans (.fwd c1 (by(first|lia|omega)) hs) c2
    ·have c1:=(bJ k u _ q1).mono (Nat.le_succ k)
     have c2:=(bJ k _ v q2.symm).mono (Nat.le_succ k)
     exact Net.Conn.trans (.bwd c1 (by(first|lia|omega)) hs) c2
   ·exact(bJ k u v h).mono (by(first|lia|omega))
def Net.lab(N:Net)(k:Nat):Nat→Nat:=N.labs (fun _=>true) k
def Net.inF(N:Net)(k:Nat):Bool:=!decide (N.lab k (N.a k)=N.lab k (N.b k))
theorem n6(k:Nat):N.lab (k+1)=if N.inF k=true then cM (N.lab k) (N.a k) (N.b k) else N.lab k:=by
 show N.labs (fun _=>true) (k+1)=_
 unfold Net.labs
 rw[if_pos rfl]
 unfold Net.inF
 by_cases h:N.lab k (N.a k)=N.lab k (N.b k)
 ·rw[if_neg (by simp[h])]
  exact lX h
 ·rw[if_pos (by simp[h])]
  rfl
theorem cZ{m:Nat}(hf:∀ k,m.testBit k=true→k<N.n∧N.inF k=true)(he:N.Even m):m=0:=by
 by_cases h0:m=0
 ·exact h0
 exfalso
 have hK:m.testBit m.log2=true:=Nat.testBit_log2 h0
 obtain⟨hKn,hKf⟩:=hf _ hK
 generalize hKe:m.log2=K at hK hKn hKf
 have hlt:m<2^(K+1):=by rw[← hKe];exact Nat.lt_log2_self
 have hcl:=tE (N:=N) (m:=m^^^2^K) (fun x=>decide (N.lab K x=N.lab K (N.a K))) fun k hk hb=>by
  have hkK:k<K:=by
   rw[Nat.testBit_xor,Nat.testBit_two_pow]at hb
   by_cases e:K=k
   ·subst e
    simp[hK]at hb
   ·have hb' : m.testBit k=true:=by simpa[e]using hb
    have:k<K+1:=by
     by_cases q:k<K+1
     ·exact q
     ·have z:=Nat.testBit_lt_two_pow (Nat.lt_of_lt_of_le hlt (Nat.pow_le_pow_right (by decide) (show K+1≤k by(first|lia|omega))))
      rw[hb']at z
      cases z
    (first|lia|omega)
  have e:N.lab K (N.a k)=N.lab K (N.b k):=gp (S:=fun _=>true) hkK rfl
  show decide (N.lab K (N.a k)=_)=decide (N.lab K (N.b k)=_)
  rw[e]
 have e:br (fun x=>decide (N.lab K x=N.lab K (N.a K))&&N.bd (m^^^2^K) x) N.p=br (fun x=>decide (N.lab K x=N.lab K (N.a K))&&N.inc K x) N.p :=
  bf fun x hx=>by rw[di,he x hx,fe hKn];simp
 rw[e]at hcl
 have e2:br (fun x=>decide (N.lab K x=N.lab K (N.a K))&&N.inc K x) N.p=(decide (N.lab K (N.a K)=N.lab K (N.a K))^^decide (N.lab K (N.b K)=N.lab K (N.a K))):=by
  rw[← dC (fun x=>decide (N.lab K x=N.lab K (N.a K))) (N.al K hKn),← dC (fun x=>decide (N.lab K x=N.lab K (N.a K))) (N.bl K hKn),← eG]
  refine bf fun x _=>?_
  unfold Net.inc
  cases decide (N.lab K x=N.lab K (N.a K))<;>cases decide (N.a K=x)<;>cases decide (N.b K=x)<;>rfl
 rw[e2]at hcl
 unfold Net.inF at hKf
 have hne : ¬ N.lab K (N.b K)=N.lab K (N.a K):=fun q=>by rw[q]at hKf;simp at hKf
 simp[hne]at hcl
def Net.trail(N:Net):Nat→Nat→Nat
 | 0=>fun _=>0
 | k+1=>if N.inF k=true then fun v=>if N.lab k v=max (N.lab k (N.a k)) (N.lab k (N.b k)) then Net.trail N k v^^^(Net.trail N k (N.a k)^^^Net.trail N k (N.b k)^^^2^k) else Net.trail N k v
   else Net.trail N k
theorem eJ:∀(k v j:Nat),(N.trail k v).testBit j=true→j<k∧N.inF j=true
 | 0,v,j,h=>by simp[Net.trail]at h
 | k+1,v,j,h=>by
   have ih:=eJ k
   unfold Net.trail at h
   split at h
   ·rename_i hf
    dsimp only at h
    split at h
    ·rw[Nat.testBit_xor,Nat.testBit_xor,Nat.testBit_xor,Nat.testBit_two_pow]at h
     by_cases e:k=j
     ·subst e
      exact⟨by(first|lia|omega),hf⟩
     ·have z : ¬((N.trail k v).testBit j=false∧(N.trail k (N.a k)).testBit j=false∧(N.trail k (N.b k)).testBit j=false):=by
       rintro⟨z1,z2,z3⟩
       simp[z1,z2,z3,e]at h
      cases h1:(N.trail k v).testBit j with
      | true=>obtain⟨q,r⟩:=ih v j h1;exact⟨by(first|lia|omega),r⟩
      | false=>cases h2:(N.trail k (N.a k)).testBit j with
        | true=>obtain⟨q,r⟩:=ih _ j h2;exact⟨by(first|lia|omega),r⟩
        | false=>cases h3:(N.trail k (N.b k)).testBit j with
          | true=>obtain⟨q,r⟩:=ih _ j h3;exact⟨by(first|lia|omega),r⟩
          | false=>exact absurd ⟨h1,h2,h3⟩ z
    ·obtain⟨q,r⟩:=ih v j h;exact⟨by(first|lia|omega),r⟩
   ·obtain⟨q,r⟩:=ih v j h;exact⟨by(first|lia|omega),r⟩
theorem uT(a b c d e f g h:Bool)(hlh:(d^^f)=(g^^h)):((a^^g)^^(((c^^d)^^(e^^f))^^(c^^e)))=(a^^h):=by
 have e1:(((c^^d)^^(e^^f))^^(c^^e))=(d^^f):=by cases c<;>cases d<;>cases e<;>cases f<;>rfl
 rw[e1,hlh]
 cases a<;>cases g<;>cases h<;>rfl
theorem iP:∀(k:Nat),k≤N.n→∀ v x,N.bd (N.trail k v) x=(decide (v=x)^^decide (N.lab k v=x))
 | 0,_,v,x=>by
   show N.bd 0 x=(decide (v=x)^^decide (v=x))
   rw[iQ]
   simp
 | k+1,hk,v,x=>by
   have ih:=iP k (by(first|lia|omega))
   rw[n6]
   unfold Net.trail
   by_cases hf:N.inF k=true
   ·rw[if_pos hf,if_pos hf]
    by_cases hm:N.lab k v=max (N.lab k (N.a k)) (N.lab k (N.b k))
    ·have e:cM (N.lab k) (N.a k) (N.b k) v=min (N.lab k (N.a k)) (N.lab k (N.b k)):=by unfold cM;rw[if_pos hm]
     show N.bd (if N.lab k v=_ then _ else _) x=_
     rw[if_pos hm,e,di,di,di,fe (by(first|lia|omega)),ih,ih,ih]
     unfold Net.inc
     refine uT _ false _ _ _ _ _ _ ?_
     rw[hm]
     rcases Nat.le_total (N.lab k (N.a k)) (N.lab k (N.b k)) with q|q
     ·rw[Nat.max_eq_right q,Nat.min_eq_left q,Bool.xor_comm]
     ·rw[Nat.max_eq_left q,Nat.min_eq_right q]
    ·have e:cM (N.lab k) (N.a k) (N.b k) v=N.lab k v:=by unfold cM;rw[if_neg hm]
     show N.bd (if N.lab k v=_ then _ else _) x=_
     rw[if_neg hm,e,ih]
   ·rw[if_neg hf,if_neg hf]
    exact ih v x
def Net.ring(N:Net)(c:Nat):Nat:=N.trail N.n (N.a c)^^^N.trail N.n (N.b c)^^^2^c
theorem tO{c:Nat}(h:c<N.n):N.lab N.n (N.a c)=N.lab N.n (N.b c):=gp (S:=fun _=>true) h rfl
theorem gW{c:Nat}(h:c<N.n):N.Even (N.ring c):=fun x _=>by
 unfold Net.ring
 rw[di,di,fe h,iP _ (Nat.le_refl _),iP _ (Nat.le_refl _),tO h]
 unfold Net.inc
 cases decide (N.a c=x)<;>cases decide (N.b c=x)<;>cases decide (N.lab N.n (N.b c)=x)<;>rfl
theorem gD{c j:Nat}(h:(N.ring c).testBit j=true):j=c∨(j<N.n∧N.inF j=true):=by
 unfold Net.ring at h
 rw[Nat.testBit_xor,Nat.testBit_xor,Nat.testBit_two_pow]at h
 by_cases e:c=j
 ·exact .inl e.symm
 ·right
  cases h1:(N.trail N.n (N.a c)).testBit j with
  | true=>exact eJ _ _ _ h1
  | false=>cases h2:(N.trail N.n (N.b c)).testBit j with
    | true=>exact eJ _ _ _ h2
    | false=>simp[h1,h2,e]at h
theorem nR{c:Nat}(hf:N.inF c=false):(N.ring c).testBit c=true:=by
 unfold Net.ring
 rw[Nat.testBit_xor,Nat.testBit_xor,Nat.testBit_two_pow]
 cases h1:(N.trail N.n (N.a c)).testBit c with
 | true=>obtain⟨_,q⟩:=eJ _ _ _ h1;rw[hf]at q;cases q
 | false=>cases h2:(N.trail N.n (N.b c)).testBit c with
   | true=>obtain⟨_,q⟩:=eJ _ _ _ h2;rw[hf]at q;cases q
   | false=>simp
theorem rn{j:Nat}(h:j<N.n)(hf:N.inF j=true):(N.trail N.n (N.a j)).testBit j=true∨(N.trail N.n (N.b j)).testBit j=true:=by
 have z:N.ring j=0:=cZ (fun k hk=>by
  rcases gD hk with rfl|q
  ·exact⟨h,hf⟩
  ·exact q) (gW h)
 have b:(N.ring j).testBit j=false:=by rw[z];simp
 unfold Net.ring at b
 rw[Nat.testBit_xor,Nat.testBit_xor,Nat.testBit_two_pow]at b
 cases h1:(N.trail N.n (N.a j)).testBit j with
 | true=>exact .inl rfl
 | false=>cases h2:(N.trail N.n (N.b j)).testBit j with
   | true=>exact .inr rfl
   | false=>simp[h1,h2]at b
end RM
namespace RM
def cnt(f:Nat→Bool):Nat→Nat
 | 0=>0
 | n+1=>cnt f n+(if f n=true then 1 else 0)
theorem et{f g:Nat→Bool}:∀{n:Nat},(∀ k,k<n→f k=g k)→cnt f n=cnt g n
 | 0,_=>rfl
 | n+1,h=>by
   unfold cnt
   rw[et fun k hk=>h k (by(first|lia|omega)),h n (by(first|lia|omega))]
theorem iW{f g:Nat→Bool}{h:Nat}(hg:g h=true):∀{p:Nat},h<p→(∀ x,x<p→f x=(g x && !decide (x=h)))→cnt g p=cnt f p+1
 | 0,hh,_=>absurd hh (Nat.not_lt_zero _)
 | p+1,hh,e=>by
   unfold cnt
   by_cases q:h=p
   ·subst q
    have z:cnt g h=cnt f h:=et fun k hk=>by rw[e k (by(first|lia|omega))];simp[show k≠h by(first|lia|omega)]
    rw[z,if_pos hg,e h (by(first|lia|omega))]
    simp
   ·rw[iW hg (by(first|lia|omega)) fun x hx=>e x (by(first|lia|omega)),e p (by(first|lia|omega))]
    simp[Ne.symm q]
    (first|lia|omega)
theorem jb(f:Nat→Bool):∀ n,((List.range n).filter f).length=cnt f n
 | 0=>rfl
 | n+1=>by
   rw[List.range_succ,List.filter_append,List.length_append,jb f n]
   show _=cnt f n+(if f n=true then 1 else 0)
   cases h:f n with
   | true=>rw[List.filter_cons,if_pos h];rfl
   | false=>rw[List.filter_cons,if_neg (by rw[h];simp)];rfl
theorem iu(f:Nat→Bool):∀ n,cnt f n+cnt (fun k=>!f k) n=n
 | 0=>rfl
 | n+1=>by
   have ih:=iu f n
   unfold cnt
   cases h:f n<;>simp<;>(first|lia|omega)
theorem re{f:Nat→Bool}:∀{n:Nat},(∀ k,k<n→f k=true)→cnt f n=n
 | 0,_=>rfl
 | n+1,h=>by
   unfold cnt
   rw[re fun k hk=>h k (by(first|lia|omega)),if_pos (h n (by(first|lia|omega)))]
variable {N:Net}{S:Nat→Bool}
def Net.root(N:Net)(S:Nat→Bool)(k x:Nat):Bool:=decide (N.labs S k x=x)
theorem jq(k:Nat):N.labs S (k+1)=if S k=true then cM (N.labs S k) (N.a k) (N.b k) else N.labs S k:=by
 conv=>lhs;unfold Net.labs
theorem mP{k x:Nat}(h:x<N.p):N.labs S k x<N.p:=Nat.lt_of_le_of_lt (jV k x) h
theorem sG{L:Nat→Nat}{u v:Nat}(hr:∀ x,L (L x)=L x)(hne:L u≠L v)(x:Nat):decide (cM L u v x=x)=(decide (L x=x) && !decide (x=max (L u) (L v))):=by
 have hhi:L (max (L u) (L v))=max (L u) (L v):=by
  rcases Nat.le_total (L u) (L v) with q|q
  ·rw[Nat.max_eq_right q];exact hr v
  ·rw[Nat.max_eq_left q];exact hr u
 have hlo:L (min (L u) (L v))=min (L u) (L v):=by
  rcases Nat.le_total (L u) (L v) with q|q
  ·rw[Nat.min_eq_left q];exact hr u
  ·rw[Nat.min_eq_right q];exact hr v
 unfold cM
 by_cases h:L x=max (L u) (L v)
 ·rw[if_pos h]
  have h1 : ¬ min (L u) (L v)=x:=fun z=>by
   rw[← z,hlo]at h
   (first|lia|omega)
  by_cases h2:x=max (L u) (L v)
  ·simp[h1,h2]
   (first|lia|omega)
  ·have h3 : ¬ L x=x:=fun z=>h2 (z.symm.trans h)
   simp[h1,h3]
 ·rw[if_neg h]
  have h2 : ¬ x=max (L u) (L v):=fun z=>h (by rw[z];exact hhi)
  simp[h2]
theorem p5{k:Nat}(hk:k<N.n):cnt (N.root S k) N.p=cnt (N.root S (k+1)) N.p+(if(S k && !decide (N.labs S k (N.a k)=N.labs S k (N.b k)))=true then 1 else 0):=by
 cases hs:S k with
 | false =>
   have e:N.root S (k+1)=N.root S k:=by unfold Net.root;rw[jq,if_neg (by rw[hs];simp)]
   rw[e];simp
 | true =>
   by_cases h:N.labs S k (N.a k)=N.labs S k (N.b k)
   ·have e:N.root S (k+1)=N.root S k:=by unfold Net.root;rw[jq,if_pos hs,lX h]
    rw[e];simp[h]
   ·have hhi:N.labs S k (max (N.labs S k (N.a k)) (N.labs S k (N.b k)))=max (N.labs S k (N.a k)) (N.labs S k (N.b k)):=by
     rcases Nat.le_total (N.labs S k (N.a k)) (N.labs S k (N.b k)) with q|q
     ·rw[Nat.max_eq_right q];exact cR _ _
     ·rw[Nat.max_eq_left q];exact cR _ _
    have h1:=mP (S:=S) (k:=k) (N.al k hk)
    have h2:=mP (S:=S) (k:=k) (N.bl k hk)
    rw[iW (f:=N.root S (k+1)) (g:=N.root S k) (h:=max (N.labs S k (N.a k)) (N.labs S k (N.b k))) (decide_eq_true hhi) (by(first|lia|omega)) fun x _=>by
     unfold Net.root
     rw[jq,if_pos hs]
     exact sG (cR k) h x]
    simp[h]
def Net.chords(N:Net):List Nat:=(List.range N.n).filter fun k=>!N.inF k
theorem gn{c:Nat}:c∈N.chords↔c<N.n∧N.inF c=false:=by
 unfold Net.chords
 rw[List.mem_filter,List.mem_range]
 simp
theorem cO{m n:Nat}(h:∀ k,m.testBit k=true→k<n):m<2^n:=Nat.lt_pow_two_of_testBit m fun k hk=>by
 cases q:m.testBit k with
 | false=>rfl
 | true=>exact absurd (h k q) (by(first|lia|omega))
theorem bX{m n k:Nat}(h:m<2^n)(hb:m.testBit k=true):k<n:=by
 by_cases q:k<n
 ·exact q
 ·have z:=Nat.testBit_lt_two_pow (Nat.lt_of_lt_of_le h (Nat.pow_le_pow_right (by decide) (show n≤k by(first|lia|omega))))
  rw[hb]at z
  cases z
theorem uE{m q:Nat}(hm:m<2^N.n)(hq:q<2^N.n)(em:N.Even m)(eq:N.Even q)(h:∀ c,c<N.n→N.inF c=false→m.testBit c=q.testBit c):m=q:=by
 have z:m^^^q=0:=cZ (N:=N) (fun k hk=>by
  have hk':=bX (Nat.xor_lt_two_pow hm hq) hk
  refine⟨hk',?_⟩
  cases hf:N.inF k with
  | true=>rfl
  | false =>
    rw[Nat.testBit_xor,h k hk' hf]at hk
    simp at hk) (Even.xor em eq)
 have e:m=m^^^q^^^q:=by rw[Nat.xor_assoc,Nat.xor_self,Nat.xor_zero]
 rw[e,z,Nat.zero_xor]
theorem nz{c:Nat}(h:c<N.n):N.ring c<2^N.n:=cO fun k hk=>by
 rcases gD hk with rfl|⟨q,_⟩
 ·exact h
 ·exact q
theorem kQ{c d:Nat}(hc:N.inF c=false)(hd:N.inF d=false):(N.ring c).testBit d=decide (c=d):=by
 by_cases e:c=d
 ·subst e;rw[nR hc];simp
 ·cases q:(N.ring c).testBit d with
  | false=>simp[e]
  | true=>rcases gD q with rfl | ⟨_,r⟩
          ·exact absurd rfl e
          ·rw[hd]at r;cases r
end RM
namespace Ring
open PySem L2
def bz(f:Nat→Bool):Nat→Nat
 | 0=>0
 | n+1=>(if f n=true then 2^n else 0)+bz f n
theorem jO(f:Nat→Bool):∀ n,bz f n<2^n
 | 0=>by show 0<1;decide
 | n+1=>by
   have ih:=jO f n
   have e:2^(n+1)=2^n+2^n:=by rw[Nat.pow_succ];(first|lia|omega)
   unfold bz
   split<;>(first|lia|omega)
theorem eN(f:Nat→Bool)(j:Nat):∀ n,(bz f n).testBit j=(decide (j<n)&&f j)
 | 0=>by simp[bz]
 | n+1=>by
   have ih:=eN f j n
   have hl:=jO f n
   unfold bz
   by_cases h:f n=true
   ·rw[if_pos h]
    rcases Nat.lt_trichotomy j n with q|q|q
    ·rw[Nat.testBit_two_pow_add_gt q,ih]
     simp[q,show j<n+1 by(first|lia|omega)]
    ·subst q
     rw[Nat.testBit_two_pow_add_eq,ih]
     simp[h]
    ·have z:2^n+bz f n<2^j:=Nat.lt_of_lt_of_le (show 2^n+bz f n<2^(n+1) by rw[Nat.pow_succ];(first|lia|omega)) (Nat.pow_le_pow_right (by decide) q)
     rw[Nat.testBit_lt_two_pow z]
     simp[show ¬ j<n+1 by(first|lia|omega)]
   ·rw[if_neg h,Nat.zero_add,ih]
    by_cases q:j=n
    ·subst q
     have h' : f j=false:=by simpa using h
     simp[h']
    ·by_cases r:j<n
     ·simp[r,show j<n+1 by(first|lia|omega)]
     ·simp[r,show ¬ j<n+1 by(first|lia|omega)]
theorem sH(n:Nat):bz (fun _=>true) n=2^n-1:=by
 induction n with
 | zero=>rfl
 | succ n ih =>
   unfold bz
   rw[ih,if_pos rfl,Nat.pow_succ]
   have:=Nat.two_pow_pos n
   (first|lia|omega)
theorem vm(n j:Nat):(2^n-1).testBit j=decide (j<n):=by
 rw[← sH,eN]
 simp
theorem wu{a b x y:Nat}(q:x/2+y/2=a/2+b/2)(h:x%2+y%2=a%2+b%2):x+y=a+b:=by(first|lia|omega)
theorem xp{u v:Nat}(hu:u=0∨u=1)(hv:v=0∨v=1):(u ||| v)+(u&&&v)=u+v:=by
 rcases hu with rfl|rfl<;>rcases hv with rfl|rfl<;>rfl
theorem xu:∀ a b:Nat,(a ||| b)+(a&&&b)=a+b:=by
 intro a
 induction a using Nat.strongRecOn with
 | ind a ih =>
   intro b
   by_cases h:a=0
   ·subst h
    simp
   ·have q:=ih (a/2) (by(first|lia|omega)) (b/2)
    rw[← Nat.or_div_two,← Nat.and_div_two]at q
    refine wu q ?_
    have e1:(a ||| b)%2=a%2 ||| b%2:=Nat.or_mod_two_pow (n:=1)
    have e2:(a&&&b)%2=a%2&&&b%2:=Nat.and_mod_two_pow (n:=1)
    rw[e1,e2]
    exact xp (Nat.mod_two_eq_zero_or_one a) (Nat.mod_two_eq_zero_or_one b)
theorem uy(a b:Nat):Builtin.bitOr (a:Int) (b:Int)=((a ||| b:Nat):Int):=by
 have q:=xu a b
 rw[PyProof.Rows.bitOr_and,PyProof.Rows.bitAnd_pp (by(first|lia|omega)) (by(first|lia|omega))]
 have h:(a:Int)+b-((a&&&b:Nat):Int)=((a ||| b:Nat):Int):=by(first|lia|omega)
 simpa using h
theorem gP(k:Nat):(1:Int)*2^(k:Int).toNat=((2^k:Nat):Int):=by
 rw[Int.toNat_natCast,Int.one_mul]
 simp
theorem cF{ts:List Tie}{k:Nat}(h:k<ts.length):cb ts k∈ts:=by
 unfold cb
 rw[List.getD_eq_getElem?_getD]
 simp[h]
theorem lR{ts:List Tie}{k:Nat}(h:k<ts.length):ts[k]?=some (cb ts k):=by
 unfold cb
 rw[List.getD_eq_getElem?_getD]
 simp[h]
def ad(p:Nat)(ts:List Tie)(g:GoodWeb p ts):RM.Net where
 p:=p
 n:=ts.length
 a:=fun k=>(cb ts k).1.toNat
 b:=fun k=>(cb ts k).2.1.toNat
 al:=fun k hk=>by
  have z:=g.ties _ (cF hk)
  have z0:=z.a0
  have z1:=z.a1
  (first|lia|omega)
 bl:=fun k hk=>by
  have z:=g.ties _ (cF hk)
  have z0:=z.b0
  have z1:=z.b1
  (first|lia|omega)
 ne:=fun k hk e=>by
  have z:=g.ties _ (cF hk)
  have z0:=z.a0
  have z1:=z.b0
  exact z.ne (by(first|lia|omega))
theorem wj{p:Nat}{ts:List Tie}{g:GoodWeb p ts}{k:Nat}(h:k<ts.length):(cb ts k).1=(((ad p ts g).a k:Nat):Int):=by
 have z:=(g.ties _ (cF h)).a0
 show _=(((cb ts k).1.toNat:Nat):Int)
 (first|lia|omega)
theorem vW{p:Nat}{ts:List Tie}{g:GoodWeb p ts}{k:Nat}(h:k<ts.length):(cb ts k).2.1=(((ad p ts g).b k:Nat):Int):=by
 have z:=(g.ties _ (cF h)).b0
 show _=(((cb ts k).2.1.toNat:Nat):Int)
 (first|lia|omega)
def eQ(f:Nat→Nat)(n:Nat):List V:=(List.range n).map fun x=>V.int ((f x:Nat):Int)
theorem df(f:Nat→Nat)(n:Nat):(eQ f n).length=n:=by unfold eQ;rw[List.length_map,List.length_range]
theorem bP{f:Nat→Nat}{n x:Nat}(h:x<n):(eQ f n)[x]?=some (.int ((f x:Nat):Int)):=by
 unfold eQ
 rw[List.getElem?_map,List.getElem?_range h]
 rfl
theorem jT{f:Nat→Nat}{n x:Nat}{v:V}(h:(eQ f n)[x]?=some v):x<n∧v = .int ((f x:Nat):Int):=by
 have hx:x<n:=by
  have:=(List.getElem?_eq_some_iff.mp h).1
  rwa [df]at this
 rw[bP hx]at h
 exact⟨hx,(Option.some.inj h).symm⟩
theorem lP(f:Nat→Nat)(n:Nat):eQ f (n+1)=eQ f n++[.int ((f n:Nat):Int)]:=by
 unfold eQ
 rw[List.range_succ,List.map_append]
 rfl
theorem sU(p:Nat):(List.replicate p [V.int 0]).flatten=eQ (fun _=>0) p:=by
 induction p with
 | zero=>rfl
 | succ p ih =>
   rw[lP,← ih,List.replicate_succ',List.flatten_append]
   rfl
def m8(f:Nat→Nat)(H:Hp)(D:Addr)(i:Nat)(acc:List V)(H2:Hp):Prop:=am H H2∧H2 D=some (.lst acc)∧acc=eQ f i
section
variable {f:Nat→Nat}{H H2 H3:Hp}{D:Addr}{i:Nat}{acc:List V}{v:V}
theorem m8.start(hD:H D=none):m8 f H D 0 [] (upd H D (.lst [])):=⟨am.new hD,ai,rfl⟩
theorem m8.len(p:m8 f H D i acc H2):H2 D=some (.lst acc)∧acc.length≤i:=⟨p.2.1,by rw[p.2.2,df];exact Nat.le_refl _⟩
theorem m8.next(p:m8 f H D i acc H2)(hD:H D=none)(s:am H2 H3)(hv:v = .int ((f i:Nat):Int)):H3 D=some (.lst acc)∧m8 f H D (i+1) (acc++[v]) (upd H3 D (.lst (acc++[v]))):=by
 refine⟨s _ _ p.2.1,(p.1.trans s).put hD,ai,?_⟩
 rw[lP,← p.2.2,hv]
end
end Ring
namespace RM
end RM
namespace Ring
open PySem L2
def yt(L:Nat→Nat)(p s:Nat):List Nat:=(List.range p).filter fun x=>decide (L x=s)
section
variable {L:Nat→Nat}{p i:Nat}{H H2 H3:Hp}{D b:Addr}
end
theorem uX(a b:Nat):(if(b:Int)<(a:Int) then(b:Int) else(a:Int))=((min a b:Nat):Int):=by
 split<;>(first|lia|omega)
theorem qJ(a b:Nat):(if(b:Int) > (a:Int) then(b:Int) else(a:Int))=((max a b:Nat):Int):=by
 split<;>(first|lia|omega)
theorem gJ(a b:Nat):decide (V.int (a:Int)=V.int (b:Int))=decide (a=b):=by
 rw[Bool.eq_iff_iff]
 simp
 (first|lia|omega)
end Ring
namespace RM
variable {N:Net}{S:Nat→Bool}
variable {pt r j:Nat}{l:List Nat}
theorem tw{l:List Nat}:∀{p:Nat},l.Nodup→(∀ x∈l,x<p)→l.length≤p:=by
 intro p hn hl
 have hp:l.Perm ((List.range p).filter fun x=>decide (x∈l)):=by
  refine(List.perm_ext_iff_of_nodup hn (List.Pairwise.filter _ List.nodup_range)).mpr fun a=>?_
  rw[List.mem_filter,List.mem_range]
  simp
  exact fun h=>hl a h
 rw[hp.length_eq]
 have:=List.length_filter_le (fun x=>decide (x∈l)) (List.range p)
 rwa [List.length_range]at this
end RM
namespace Ring
open PySem L2
theorem qi{p:Nat}{f:Nat→Bool}:((List.range p).filter f).Pairwise (· < ·):=List.Pairwise.filter _ List.pairwise_lt_range
theorem pZ(l:List Nat):aJ l=(l.map fun x=>((x:Nat):Int)).map V.int:=by unfold aJ;rw[List.map_map];rfl
theorem fA(u:Nat)(l:List Nat):inV (.int (u:Int)) (aJ l)=decide (u∈l):=by
 unfold inV aJ
 rw[List.any_map,Bool.eq_iff_iff,List.any_eq_true]
 simp only[Function.comp,decide_eq_true_eq]
 constructor
 ·rintro⟨x,hx,h⟩
  have e:((x:Nat):Int)=(u:Int):=eq_of_beq h
  have:x=u:=by(first|lia|omega)
  exact this▸hx
 ·intro h
  exact⟨u,h,by simp[eqV]⟩
theorem fu(l:List Nat):(aJ l).all iX=true:=by
 unfold aJ
 rw[List.all_map,List.all_eq_true]
 intro x _
 rfl
theorem and_int(a b:Nat):Builtin.bitAnd (a:Int) (b:Int)=((a&&&b:Nat):Int):=by
 rw[PyProof.Rows.bitAnd_pp (by(first|lia|omega)) (by(first|lia|omega))]
 simp
end Ring
namespace RM
variable {N:Net}
end RM
namespace Ring
open PySem L2
def orT(T:Nat→Nat):Nat→Nat
 | 0=>0
 | n+1=>orT T n ||| T n
theorem qT(T:Nat→Nat)(j:Nat):∀ n,(orT T n).testBit j=true↔∃ x,x<n∧(T x).testBit j=true
 | 0=>by simp[orT]
 | n+1=>by
   unfold orT
   rw[Nat.testBit_or,Bool.or_eq_true,qT T j n]
   constructor
   ·rintro(⟨x,hx,h⟩|h)
    ·exact⟨x,by(first|lia|omega),h⟩
    ·exact⟨n,by(first|lia|omega),h⟩
   ·rintro⟨x,hx,h⟩
    by_cases e:x=n
    ·subst e;exact .inr h
    ·exact .inl ⟨x,by(first|lia|omega),h⟩
section
variable {p:Nat}{ts:List Tie}{g:GoodWeb p ts}
def eX(p:Nat)(ts:List Tie)(g:GoodWeb p ts):Nat:=bz (ad p ts g).inF ts.length
theorem pJ:orT ((ad p ts g).trail ts.length) p=eX p ts g:=by
 refine Nat.eq_of_testBit_eq fun j=>?_
 unfold eX
 rw[eN,Bool.eq_iff_iff,qT]
 simp only[Bool.and_eq_true,decide_eq_true_eq]
 constructor
 ·rintro⟨x,_,h⟩
  exact RM.eJ _ _ _ h
 ·rintro⟨h1,h2⟩
  rcases RM.rn (N:=ad p ts g) h1 h2 with h|h
  ·exact⟨_,(ad p ts g).al j h1,h⟩
  ·exact⟨_,(ad p ts g).bl j h1,h⟩
theorem pL(j:Nat):((2^ts.length-1)^^^eX p ts g).testBit j=(decide (j<ts.length) && !(ad p ts g).inF j):=by
 unfold eX
 rw[Nat.testBit_xor,vm,eN]
 cases decide (j<ts.length)<;>cases(ad p ts g).inF j<;>rfl
theorem lW:(2^ts.length-1)^^^eX p ts g<2^ts.length:=Nat.xor_lt_two_pow (by have:=Nat.two_pow_pos ts.length;(first|lia|omega)) (jO _ _)
theorem oG:aI (((2^ts.length-1)^^^eX p ts g:Nat):Int)=(ad p ts g).chords:=by
 rw[dP lW]
 unfold RM.Net.chords
 refine List.filter_congr fun k hk=>?_
 have:=List.mem_range.mp hk
 rw[pL]
 simp[this]
end
theorem vd(n:Nat):((2:Int)^n-1)=((2^n-1:Nat):Int):=by
 have h:((2:Int)^n)=((2^n:Nat):Int):=by simp
 have:=Nat.two_pow_pos n
 (first|lia|omega)
theorem wH{S:Int}{l:List Nat}(h:∀ c∈l,S≠((c:Nat):Int)):inV (.int S) (aJ l)=false:=by
 unfold inV aJ
 rw[List.any_map,List.any_eq_false]
 intro x hx z
 exact h x hx (eq_of_beq z).symm
theorem mV{l:List Nat}{i:Nat}{k:Nat}(h:l[i]?=some k):(aJ l)[i]?=some (.int (k:Int)):=by
 unfold aJ
 rw[List.getElem?_map,h]
 rfl
end Ring
namespace Ring
open PySem L2
section
variable {f:Nat→Bool}{l:List Nat}{H H2 H3:Hp}{D:Addr}{i k:Nat}{acc:List V}
end
section
variable {f:Nat→Int}{l:List Nat}{H H2 H3:Hp}{D:Addr}{i k:Nat}{acc:List V}{v:V}
end
end Ring
namespace RM
theorem kt(f:Nat→Bool):∀ n,br f n=decide (cnt f n%2=1)
 | 0=>rfl
 | n+1=>by
   unfold br cnt
   rw[kt f n]
   by_cases h:f n=true
   ·rw[h,if_pos rfl]
    by_cases q:cnt f n%2=1
    ·have q' : ¬(cnt f n+1)%2=1:=by(first|lia|omega)
     simp[q,q']
    ·have q' : (cnt f n+1)%2=1:=by(first|lia|omega)
     simp[q,q']
   ·have h' : f n=false:=by simpa using h
    rw[h',if_neg (by decide)]
    simp
end RM
namespace Ring
open PySem L2
def fk(ts:List Tie)(m:Nat):Int:=((aI (m:Int)).map fun k=>(cb ts k).2.2).sum
def sB(ts:List Tie)(f:Nat→Bool):Nat→Int
 | 0=>0
 | n+1=>sB ts f n+(if f n=true then(cb ts n).2.2 else 0)
theorem jv(ts:List Tie)(f:Nat→Bool):∀ n,(((List.range n).filter f).map fun k=>(cb ts k).2.2).sum=sB ts f n
 | 0=>rfl
 | n+1=>by
   rw[bL,List.map_append,List.sum_append,jv ts f n]
   show _=sB ts f n+(if f n=true then(cb ts n).2.2 else 0)
   split<;>simp
theorem sv{ts:List Tie}{m:Nat}(hm:m<2^ts.length):fk ts m=sB ts (fun k=>m.testBit k) ts.length:=by
 unfold fk
 rw[dP hm]
 exact jv ts _ _
section
variable {p:Nat}{ts:List Tie}(g:GoodWeb p ts)
include g
end
section
variable {p:Nat}{ts:List Tie}
end
end Ring
namespace L2
open PySem PySem.Spec PyProof.Rows
end L2
namespace Ring
open PySem L2
end Ring
namespace RM
def sm(f:Nat→Nat):Nat→Nat
 | 0=>0
 | n+1=>sm f n+f n
theorem dR{f g:Nat→Nat}:∀{n:Nat},(∀ k,k<n→f k=g k)→sm f n=sm g n
 | 0,_=>rfl
 | n+1,h=>by
   show sm f n+f n=sm g n+g n
   rw[dR fun k hk=>h k (by(first|lia|omega)),h n (by(first|lia|omega))]
theorem j4(f g:Nat→Nat):∀ n,sm (fun k=>f k+g k) n=sm f n+sm g n
 | 0=>rfl
 | n+1=>by
   show sm (fun k=>f k+g k) n+(f n+g n)=sm f n+f n+(sm g n+g n)
   rw[j4 f g n]
   (first|lia|omega)
theorem jP:∀ n,sm (fun _=>0) n=0
 | 0=>rfl
 | n+1=>by
   show sm (fun _=>0) n+0=0
   rw[jP n]
theorem rf(f:Nat→Nat→Nat)(n:Nat):∀ p,sm (fun x=>sm (fun k=>f x k) n) p=sm (fun k=>sm (fun x=>f x k) p) n
 | 0=>(jP n).symm
 | p+1=>by
   show sm (fun x=>sm (fun k=>f x k) n) p+sm (fun k=>f p k) n=sm (fun k=>sm (fun x=>f x k) p+f p k) n
   rw[rf f n p,j4]
theorem eT(f:Nat→Bool):∀ n,cnt f n=sm (fun k=>if f k=true then 1 else 0) n
 | 0=>rfl
 | n+1=>by
   show cnt f n+(if f n=true then 1 else 0)=sm (fun k=>if f k=true then 1 else 0) n+(if f n=true then 1 else 0)
   rw[eT f n]
theorem qC{f g:Nat→Nat}:∀{n:Nat},(∀ k,k<n→f k≤g k)→sm f n≤sm g n
 | 0,_=>Nat.le_refl _
 | n+1,h=>by
   have h1:=qC (f:=f) (g:=g) (n:=n) fun k hk=>h k (by(first|lia|omega))
   have h2:=h n (by(first|lia|omega))
   show sm f n+f n≤sm g n+g n
   (first|lia|omega)
theorem vY{f g:Nat→Nat}{n:Nat}(h:∀ k,k<n→f k≤g k)(e:sm f n=sm g n):∀ k,k<n→f k=g k:=by
 induction n with
 | zero=>exact fun k hk=>absurd hk (Nat.not_lt_zero _)
 | succ n ih =>
   intro k hk
   have h1:=qC (f:=f) (g:=g) (n:=n) fun k hk=>h k (by(first|lia|omega))
   have h2:=h n (by(first|lia|omega))
   have e:sm f n+f n=sm g n+g n:=e
   by_cases hkn:k=n
   ·subst hkn
    (first|lia|omega)
   ·exact ih (fun j hj=>h j (by(first|lia|omega))) (by(first|lia|omega)) k (by(first|lia|omega))
theorem ul{f g:Nat→Bool}{n:Nat}(h:∀ k,k<n→f k=true→g k=true):cnt f n≤cnt g n:=by
 rw[eT,eT]
 refine qC fun k hk=>?_
 by_cases hf:f k=true
 ·rw[if_pos hf,if_pos (h k hk hf)]
  exact Nat.le_refl _
 ·rw[if_neg hf]
  exact Nat.zero_le _
theorem uu{f g:Nat→Bool}{n:Nat}(h:∀ k,k<n→f k=true→g k=true)(e:cnt f n=cnt g n):∀ k,k<n→g k=true→f k=true:=fun k hk hg=>by
 rw[eT,eT]at e
 have q:=vY (n:=n) (fun k hk=>by
  by_cases hf:f k=true
  ·rw[if_pos hf,if_pos (h k hk hf)]
   exact Nat.le_refl _
  ·rw[if_neg hf]
   exact Nat.zero_le _) e k hk
 rw[if_pos hg]at q
 by_cases hf:f k=true
 ·exact hf
 ·rw[if_neg hf]at q
  (first|lia|omega)
theorem iq{f:Nat→Bool}:∀{n:Nat},0<cnt f n→∃ k,k<n∧f k=true
 | 0,h=>absurd h (Nat.lt_irrefl _)
 | n+1,h=>by
   by_cases hf:f n=true
   ·exact⟨n,by(first|lia|omega),hf⟩
   ·have h:0<cnt f n+(if f n=true then 1 else 0):=h
    rw[if_neg hf]at h
    obtain⟨k,hk,q⟩:=iq (f:=f) (n:=n) (by(first|lia|omega))
    exact⟨k,by(first|lia|omega),q⟩
theorem gM{f:Nat→Bool}{k:Nat}(hf:f k=true):∀{n:Nat},k<n→0<cnt f n
 | 0,h=>absurd h (Nat.not_lt_zero _)
 | n+1,h=>by
   show 0<cnt f n+(if f n=true then 1 else 0)
   by_cases hk:k=n
   ·subst hk
    rw[if_pos hf]
    (first|lia|omega)
   ·have:=gM hf (n:=n) (by(first|lia|omega))
    (first|lia|omega)
theorem iA{f:Nat→Bool}:∀{n:Nat},2≤cnt f n→∃ c d,c<d∧d<n∧f c=true∧f d=true
 | 0,h=>absurd h (by show ¬ 2≤0;(first|lia|omega))
 | n+1,h=>by
   have h:2≤cnt f n+(if f n=true then 1 else 0):=h
   by_cases hf:f n=true
   ·rw[if_pos hf]at h
    obtain⟨k,hk,q⟩:=iq (f:=f) (n:=n) (by(first|lia|omega))
    exact⟨k,n,hk,by(first|lia|omega),q,hf⟩
   ·rw[if_neg hf]at h
    obtain⟨c,d,h1,h2,h3,h4⟩:=iA (f:=f) (n:=n) (by(first|lia|omega))
    exact⟨c,d,h1,by(first|lia|omega),h3,h4⟩
theorem nA{f:Nat→Bool}{u v:Nat}(hu:f u=true)(hv:f v=true)(ne:u≠v):∀{n:Nat},u<n→v<n→2≤cnt f n
 | 0,h,_=>absurd h (Nat.not_lt_zero _)
 | n+1,h1,h2=>by
   show 2≤cnt f n+(if f n=true then 1 else 0)
   by_cases e1:u=n
   ·subst e1
    have:=gM hv (n:=u) (by(first|lia|omega))
    rw[if_pos hu]
    (first|lia|omega)
   ·by_cases e2:v=n
    ·subst e2
     have:=gM hu (n:=v) (by(first|lia|omega))
     rw[if_pos hv]
     (first|lia|omega)
    ·have:=nA hu hv ne (n:=n) (by(first|lia|omega)) (by(first|lia|omega))
     (first|lia|omega)
theorem nc(a:Nat):∀ n,cnt (fun x=>decide (a=x)) n=if a<n then 1 else 0
 | 0=>rfl
 | n+1=>by
   show cnt (fun x=>decide (a=x)) n+(if decide (a=n)=true then 1 else 0)=_
   rw[nc a n]
   by_cases e:a=n
   ·subst e
    simp
   ·have d:(if decide (a=n)=true then 1 else 0)=0:=if_neg (by simpa using e)
    rw[d]
    by_cases h:a<n
    ·rw[if_pos h,if_pos (by(first|lia|omega))]
    ·rw[if_neg h,if_neg (by(first|lia|omega))]
theorem nq{f g:Nat→Bool}:∀{n:Nat},(∀ x,x<n→¬(f x=true∧g x=true))→cnt (fun x=>f x^^g x) n=cnt f n+cnt g n
 | 0,_=>rfl
 | n+1,h=>by
   show cnt (fun x=>f x^^g x) n+(if(f n^^g n)=true then 1 else 0)=cnt f n+(if f n=true then 1 else 0)+(cnt g n+(if g n=true then 1 else 0))
   rw[nq fun x hx=>h x (by(first|lia|omega))]
   have q:=h n (by(first|lia|omega))
   cases hf:f n<;>cases hg:g n
   ·simp
   ·simp
    (first|lia|omega)
   ·simp
    (first|lia|omega)
   ·exact absurd ⟨hf,hg⟩ q
variable {N:Net}
def Net.dg(N:Net)(m x:Nat):Nat:=cnt (fun k=>m.testBit k&&N.inc k x) N.n
theorem qu(m x:Nat):N.bd m x=decide (N.dg m x%2=1):=kt _ _
theorem nC{m x:Nat}(e:N.Even m)(hx:x<N.p):N.dg m x%2=0:=by
 have h:=e x hx
 rw[qu]at h
 have:=of_decide_eq_false h
 (first|lia|omega)
theorem eY{k x:Nat}(hk:k<N.n):N.inc k x=true↔(N.a k=x∨N.b k=x):=by
 have ne:=N.ne k hk
 unfold Net.inc
 by_cases h1:N.a k=x
 ·have h2 : ¬ N.b k=x:=fun z=>ne (h1.trans z.symm)
  simp[h1,h2]
 ·by_cases h2:N.b k=x
  ·simp[h1,h2]
  ·simp[h1,h2]
theorem vS{k:Nat}(hk:k<N.n):cnt (N.inc k) N.p=2:=by
 have ne:=N.ne k hk
 have e:cnt (N.inc k) N.p=cnt (fun x=>decide (N.a k=x)^^decide (N.b k=x)) N.p:=rfl
 rw[e,nq fun x _ ⟨h1,h2⟩=>ne ((of_decide_eq_true h1).trans (of_decide_eq_true h2).symm),nc,nc,if_pos (N.al k hk),if_pos (N.bl k hk)]
theorem uk(m:Nat):sm (fun x=>N.dg m x) N.p=2*cnt (fun k=>m.testBit k) N.n:=by
 have e:sm (fun x=>N.dg m x) N.p=sm (fun x=>sm (fun k=>if(m.testBit k&&N.inc k x)=true then 1 else 0) N.n) N.p:=dR fun x _=>eT _ _
 rw[e,rf,eT]
 have d:∀ n,2*sm (fun k=>if m.testBit k=true then 1 else 0) n=sm (fun k=>(if m.testBit k=true then 1 else 0)+(if m.testBit k=true then 1 else 0)) n:=fun n=>by
  rw[j4]
  (first|lia|omega)
 rw[d]
 refine dR fun k hk=>?_
 by_cases h:m.testBit k=true
 ·rw[if_pos h]
  have q:=vS hk
  rw[eT]at q
  show _=2
  exact(dR fun x _=>by rw[h,Bool.true_and]).trans q
 ·rw[if_neg h]
  have h' : m.testBit k=false:=by simpa using h
  have:sm (fun x=>if(m.testBit k&&N.inc k x)=true then 1 else 0) N.p=sm (fun _=>0) N.p:=dR fun x _=>by rw[h'];rfl
  rw[this,jP]
theorem xH{q m:Nat}(h:∀ k,q.testBit k=true→m.testBit k=true)(x:Nat):N.dg q x≤N.dg m x:=ul fun k _ hq=>by
 rw[Bool.and_eq_true]at hq ⊢
 exact⟨h k hq.1,hq.2⟩
theorem t6{m k x:Nat}(hk:k<N.n)(hb:m.testBit k=true)(hx:N.a k=x∨N.b k=x):0<N.dg m x:=gM (k:=k) (by rw[hb,Bool.true_and];exact(eY hk).mpr hx) hk
theorem m6{m x:Nat}(h:0<N.dg m x):∃ k,k<N.n∧m.testBit k=true∧(N.a k=x∨N.b k=x):=by
 obtain⟨k,hk,q⟩:=iq h
 rw[Bool.and_eq_true]at q
 exact⟨k,hk,q.1,(eY hk).mp q.2⟩
theorem qV{m x y:Nat}(h:N.dg m x=0)(c:N.Conn (fun k=>m.testBit k) N.n x y):y=x:=by
 induction c with
 | refl=>rfl
 | fwd _ hj hs ih=>exact absurd (t6 hj hs (.inl ih)) (by(first|lia|omega))
 | bwd _ hj hs ih=>exact absurd (t6 hj hs (.inr ih)) (by(first|lia|omega))
theorem rX{S:Nat→Bool}{k u v:Nat}(hk:k≤N.n)(c:N.Conn S k u v):∃ t,(∀ j,t.testBit j=true→j<k∧S j=true)∧∀ x,N.bd t x=(decide (u=x)^^decide (v=x)):=by
 induction c with
 | refl=>exact⟨0,fun j hj=>by simp at hj,fun x=>by rw[iQ];simp⟩
 | fwd _ hj hs ih =>
   rename_i j _
   obtain⟨t,h1,h2⟩:=ih
   refine⟨t^^^2^j,fun i hi=>?_,fun x=>?_⟩
   ·rw[Nat.testBit_xor,Nat.testBit_two_pow]at hi
    by_cases e:j=i
    ·subst e
     exact⟨hj,hs⟩
    ·rw[decide_eq_false e,Bool.xor_false]at hi
     exact h1 i hi
   ·rw[di,h2,fe (by(first|lia|omega))]
    unfold Net.inc
    cases decide (u=x)<;>cases decide (N.a j=x)<;>cases decide (N.b j=x)<;>rfl
 | bwd _ hj hs ih =>
   rename_i j _
   obtain⟨t,h1,h2⟩:=ih
   refine⟨t^^^2^j,fun i hi=>?_,fun x=>?_⟩
   ·rw[Nat.testBit_xor,Nat.testBit_two_pow]at hi
    by_cases e:j=i
    ·subst e
     exact⟨hj,hs⟩
    ·rw[decide_eq_false e,Bool.xor_false]at hi
     exact h1 i hi
   ·rw[di,h2,fe (by(first|lia|omega))]
    unfold Net.inc
    cases decide (u=x)<;>cases decide (N.a j=x)<;>cases decide (N.b j=x)<;>rfl
def Net.Ring(N:Net)(m:Nat):Prop:=m≠0∧N.Even m∧∀ q,(∀ k,q.testBit k=true→m.testBit k=true)→N.Even q→q=0∨q=m
section
variable {m s:Nat}
theorem pX(hm:m<2^N.n)(r:N.Ring m):∃ k0,k0<N.n∧m.testBit k0=true∧∀ k,k<N.n→m.testBit k=true→N.labs (fun k=>m.testBit k) N.n (N.a k)=N.labs (fun k=>m.testBit k) N.n (N.a k0):=by
 obtain⟨h0,ev,mn⟩:=r
 obtain⟨k0,hb0⟩:=Nat.exists_testBit_of_ne_zero h0
 have hk0:=bX hm hb0
 refine⟨k0,hk0,hb0,?_⟩
 generalize hs:N.labs (fun k=>m.testBit k) N.n (N.a k0)=s
 have bit:∀ k,(Ring.bz (fun k=>m.testBit k&&decide (N.labs (fun k=>m.testBit k) N.n (N.a k)=s)) N.n).testBit k=(decide (k<N.n)&&(m.testBit k&&decide (N.labs (fun k=>m.testBit k) N.n (N.a k)=s))):=fun k=>Ring.eN _ k _
 have sub:∀ k,(Ring.bz (fun k=>m.testBit k&&decide (N.labs (fun k=>m.testBit k) N.n (N.a k)=s)) N.n).testBit k=true→m.testBit k=true:=fun k hk=>by
  rw[bit,Bool.and_eq_true,Bool.and_eq_true]at hk
  exact hk.2.1
 have evn:N.Even (Ring.bz (fun k=>m.testBit k&&decide (N.labs (fun k=>m.testBit k) N.n (N.a k)=s)) N.n):=fun x hx=>by
  have e:N.bd (Ring.bz (fun k=>m.testBit k&&decide (N.labs (fun k=>m.testBit k) N.n (N.a k)=s)) N.n) x=(decide (N.labs (fun k=>m.testBit k) N.n x=s)&&N.bd m x):=by
   unfold Net.bd
   rw[← eF]
   refine bf fun k hk=>?_
   rw[bit,decide_eq_true hk,Bool.true_and]
   cases hb:m.testBit k with
   | false=>simp
   | true =>
     cases hi:N.inc k x with
     | false=>simp
     | true =>
       have el:N.labs (fun k=>m.testBit k) N.n (N.a k)=N.labs (fun k=>m.testBit k) N.n x:=by
        rcases(eY hk).mp hi with z|z
        ·rw[z]
        ·rw[← z]
         exact gp (S:=fun k=>m.testBit k) hk hb
       rw[el]
       simp
  rw[e,ev x hx,Bool.and_false]
 rcases mn _ sub evn with q|q
 ·have:=bit k0
  rw[q,hb0,hs,decide_eq_true hk0]at this
  simp at this
 ·intro k hk hb
  have h:=bit k
  rw[q,hb,decide_eq_true hk]at h
  exact of_decide_eq_true (by simpa using h.symm)
theorem mI(S:Nat→Bool):∀ k,k≤N.n→cnt (N.root S k) N.p+cnt (fun j=>S j && !decide (N.labs S j (N.a j)=N.labs S j (N.b j))) k=N.p
 | 0,_=>by
   show cnt (N.root S 0) N.p+0=N.p
   rw[re (f:=N.root S 0) fun x _=>decide_eq_true rfl]
   rfl
 | k+1,hk=>by
   have ih:=mI S k (by(first|lia|omega))
   have st:=p5 (N:=N) (S:=S) (k:=k) (by(first|lia|omega))
   show cnt (N.root S (k+1)) N.p+(cnt (fun j=>S j && !decide (N.labs S j (N.a j)=N.labs S j (N.b j))) k+if(S k && !decide (N.labs S k (N.a k)=N.labs S k (N.b k)))=true then 1 else 0)=N.p
   (first|lia|omega)
theorem uo(hm:m<2^N.n)(r:N.Ring m)(C:Nat→Bool)(hC:∀ x,x<N.p→C x=decide (N.labs (fun k=>m.testBit k) N.n x=s))
 (tie:∀ k,k<N.n→m.testBit k=true→C (N.a k)=true):2≤cnt C N.p∧cnt C N.p=cnt (fun k=>m.testBit k) N.n∧∀ x,x<N.p→C x=false→N.labs (fun k=>m.testBit k) N.n x=x∧∀ y,N.labs (fun k=>m.testBit k) N.n y=x→y=x:=by
 obtain⟨h0,ev,mn⟩:=r
 obtain⟨k0,hb0⟩:=Nat.exists_testBit_of_ne_zero h0
 have hk0:=bX hm hb0
 have inC:∀ k,k<N.n→m.testBit k=true→C (N.a k)=true∧C (N.b k)=true:=fun k hk hb=>by
  have h:=tie k hk hb
  refine⟨h,?_⟩
  rw[hC _ (N.al k hk)]at h
  rw[hC _ (N.bl k hk),← gp (S:=fun k=>m.testBit k) hk hb]
  exact h
 have h2:2≤cnt C N.p:=nA (inC k0 hk0 hb0).1 (inC k0 hk0 hb0).2 (N.ne k0 hk0) (N.al k0 hk0) (N.bl k0 hk0)
 have none:∀ x,x<N.p→C x=false→N.dg m x=0:=fun x hx hc=>by
  cases hz:N.dg m x with
  | zero=>rfl
  | succ d =>
    exfalso
    obtain⟨k,hk,hb,hx2⟩:=m6 (N:=N) (m:=m) (x:=x) (by(first|lia|omega))
    rcases hx2 with e|e
    ·have:=(inC k hk hb).1
     rw[e,hc]at this
     cases this
    ·have:=(inC k hk hb).2
     rw[e,hc]at this
     cases this
 have solo:∀ x,x<N.p→C x=false→N.labs (fun k=>m.testBit k) N.n x=x∧∀ y,N.labs (fun k=>m.testBit k) N.n y=x→y=x:=fun x hx hc=>by
  have hz:=none x hx hc
  have r1:N.labs (fun k=>m.testBit k) N.n x=x:=qV hz (bJ _ _ _ (cR _ _).symm)
  exact⟨r1,fun y hy=>qV hz (bJ _ _ _ (r1.trans hy.symm))⟩
 refine⟨h2,?_,solo⟩
 have pos:∀ x,x<N.p→C x=true→0<N.dg m x:=fun x hx hc=>by
  cases hz:N.dg m x with
  | succ d=>(first|lia|omega)
  | zero =>
    exfalso
    obtain⟨y,hy,hcy,hne⟩:∃ y,y<N.p∧C y=true∧y≠x:=by
     obtain⟨c,d,h1,h3,h4,h5⟩:=iA h2
     by_cases e:c=x
     ·exact⟨d,h3,h5,by(first|lia|omega)⟩
     ·exact⟨c,by(first|lia|omega),h4,e⟩
    rw[hC x hx]at hc
    rw[hC y hy]at hcy
    exact hne (qV hz (bJ _ _ _ ((of_decide_eq_true hc).trans (of_decide_eq_true hcy).symm)))
 have ge:cnt C N.p≤cnt (fun k=>m.testBit k) N.n:=by
  have h:sm (fun x=>if C x=true then 2 else 0) N.p≤sm (fun x=>N.dg m x) N.p:=qC fun x hx=>by
   by_cases hc:C x=true
   ·rw[if_pos hc]
    have h1:=pos x hx hc
    have h3:=nC ev hx
    (first|lia|omega)
   ·rw[if_neg hc]
    exact Nat.zero_le _
  rw[uk]at h
  have d:sm (fun x=>if C x=true then 2 else 0) N.p=2*cnt C N.p:=by
   rw[eT]
   have d:∀ n,2*sm (fun k=>if C k=true then 1 else 0) n=sm (fun k=>(if C k=true then 1 else 0)+(if C k=true then 1 else 0)) n:=fun n=>by
    rw[j4]
    (first|lia|omega)
   rw[d]
   exact dR fun x _=>by split<;>rfl
  (first|lia|omega)
 refine Nat.le_antisymm ge (Nat.le_of_not_lt fun more=>?_)
 have hroots:=mI (N:=N) (fun k=>m.testBit k) N.n (Nat.le_refl _)
 have hr:cnt (N.root (fun k=>m.testBit k) N.n) N.p+cnt C N.p=N.p+1:=by
  have hc0:=(inC k0 hk0 hb0).1
  rw[hC _ (N.al k0 hk0)]at hc0
  have hs:=of_decide_eq_true hc0
  have hsp:s<N.p:=by rw[← hs];exact mP (N.al k0 hk0)
  have hss:N.labs (fun k=>m.testBit k) N.n s=s:=by rw[← hs];exact cR _ _
  have e:cnt (N.root (fun k=>m.testBit k) N.n) N.p=cnt (fun x=>!C x^^decide (s=x)) N.p:=et fun x hx=>by
   unfold Net.root
   cases hc:C x with
   | false =>
     have ne : ¬ s=x:=fun z=>by
      have:=hC x hx
      rw[hc,← z,hss]at this
      simp at this
     rw[decide_eq_true (solo x hx hc).1,decide_eq_false ne]
     rfl
   | true =>
     have h:=hC x hx
     rw[hc]at h
     have h:=of_decide_eq_true h.symm
     rw[h]
     simp
  rw[e,nq fun x hx ⟨z1,z2⟩=>by
   have z2:=of_decide_eq_true z2
   have:=hC x hx
   rw[← z2,hss]at this
   rw[← z2,this]at z1
   simp at z1,nc,if_pos hsp]
  have:=iu C N.p
  (first|lia|omega)
 have split:cnt (fun k=>m.testBit k) N.n=cnt (fun j=>m.testBit j && !decide (N.labs (fun k=>m.testBit k) j (N.a j)=N.labs (fun k=>m.testBit k) j (N.b j))) N.n+cnt (fun j=>m.testBit j&&decide (N.labs (fun k=>m.testBit k) j (N.a j)=N.labs (fun k=>m.testBit k) j (N.b j))) N.n:=by
  rw[← nq fun x _ ⟨z1,z2⟩=>by
   rw[Bool.and_eq_true]at z1 z2
   have:=z1.2
   rw[z2.2]at this
   cases this]
  refine et fun k _=>?_
  cases m.testBit k<;>cases decide (N.labs (fun k=>m.testBit k) k (N.a k)=N.labs (fun k=>m.testBit k) k (N.b k))<;>rfl
 obtain⟨c,d,hcd,hd,hc1,hd1⟩:=iA (f:=fun j=>m.testBit j&&decide (N.labs (fun k=>m.testBit k) j (N.a j)=N.labs (fun k=>m.testBit k) j (N.b j))) (n:=N.n) (by(first|lia|omega))
 have whole:∀ j,j<N.n→(m.testBit j&&decide (N.labs (fun k=>m.testBit k) j (N.a j)=N.labs (fun k=>m.testBit k) j (N.b j)))=true→∀ i,m.testBit i=true→i≤j:=fun j hj h i hi=>by
  rw[Bool.and_eq_true]at h
  obtain⟨t,t1,t2⟩:=rX (Nat.le_of_lt hj) (bJ _ _ _ (of_decide_eq_true h.2))
  have own:(t^^^2^j).testBit j=true:=by
   rw[Nat.testBit_xor,Nat.testBit_two_pow,decide_eq_true rfl]
   cases hz:t.testBit j with
   | false=>rfl
   | true=>exact absurd (t1 j hz).1 (Nat.lt_irrefl _)
  have sub:∀ k,(t^^^2^j).testBit k=true→m.testBit k=true:=fun k hk=>by
   rw[Nat.testBit_xor,Nat.testBit_two_pow]at hk
   by_cases e:j=k
   ·subst e
    exact h.1
   ·rw[decide_eq_false e,Bool.xor_false]at hk
    exact(t1 k hk).2
  have evn:N.Even (t^^^2^j):=fun x hx=>by
   rw[di,t2,fe hj]
   unfold Net.inc
   cases decide (N.a j=x)<;>cases decide (N.b j=x)<;>rfl
  rcases mn _ sub evn with q|q
  ·rw[q]at own
   simp at own
  ·rw[← q,Nat.testBit_xor,Nat.testBit_two_pow]at hi
   by_cases e:j=i
   ·(first|lia|omega)
   ·rw[decide_eq_false e,Bool.xor_false]at hi
    exact Nat.le_of_lt (t1 i hi).1
 have h1:m.testBit d=true:=by
  rw[Bool.and_eq_true]at hd1
  exact hd1.1
 have:=whole c (by(first|lia|omega)) hc1 d h1
 (first|lia|omega)
end
end RM
namespace Ring
open PySem L2
theorem oF{m n:Nat}(hm:m<2^n):(aI (m:Int)).length=RM.cnt (fun k=>m.testBit k) n:=by
 rw[dP hm]
 exact RM.jb _ _
theorem uD(u v:Bool):decide (V.bl u=V.bl v)=decide (u=v):=decide_eq_decide.mpr ⟨fun z=>V.bl.inj z,fun z=>by rw[z]⟩
section
variable {f:List Nat→Bool}{ls:List (List Nat)}{H H2 H3:Hp}{D:Addr}{i:Nat}{acc:List V}{y:V}{l:List Nat}
end
end Ring
namespace L2
open PySem PySem.Spec PyProof.Rows
section
variable {prog:Program}{w:World}{A:Around}{E:Value→Shared→Prop}{s:Shared}
theorem pO{it t:Addr}{i:Nat}{items:Array Value}{x:Value}{Q:Value→Shared→Prop}(hit:s.heap.IsTupleIter it t i)(ht:s.heap.IsTuple t items)(hx:items[i]?=some x)
 (q:∀ h',h'.IsTupleIter it t (i+1)→Heap.SameBut it s.heap h'→Q x { s with heap:=h'}):wpAny (model prog w) A (Builtin.SmallTypes.nextOf (.ref it)) Q E s:=by
 obtain⟨o,ho,hc,hd⟩:=id hit
 obtain⟨ot,hot,_,nt,hdt⟩:=ht
 rw[Builtin.SmallTypes.nextOf]
 refine wpAny_bind (wpAny_callSpecial?_slot (name:=Str.ofString "__next__") hit.typeIs F.slot_tuple_iterator_next (wpAny_call_entry F.slot_tuple_iterator_next hit.typeIs F.entry_tuple_iterator_next ?_ (F.args_tuple_iterator_next_1 _)))
 show wpAny _ _ (field (.ref it) 0 >>= fun _=>_) _ _ s
 refine wpAny_bind (wpAny_field ho hd (x:=.ref t) rfl ?_)
 show wpAny _ _ (if(Value.ref t==Value.none)=true then _ else _) _ _ s
 rw[if_neg (by simp)]
 show wpAny _ _ (field (.ref it) 1 >>= fun _=>_) _ _ s
 refine wpAny_bind (wpAny_field ho hd (x:=.int i 0) rfl ?_)
 show wpAny _ _ (seqItems? (.ref t) >>= fun _=>_) _ _ s
 refine wpAny_bind (wpAny_seqItems hot hdt ?_)
 simp only[Int.toNat_natCast,hx]
 refine wpAny_bind (wpAny_setField ho hd (by simp) (wpAny_pure ⟨x,rfl,wpAny_pure (q _ ?_ (Heap.SameBut.update ..))⟩))
 refine⟨_,Heap.get?_update_self _ ho (Obj.isFreed_of_fields (Obj.data_mapFields hd _)),(Obj.cls_mapFields ..).trans hc,?_⟩
 rw[Obj.data_mapFields hd]
 simp[rawInt]
theorem rR{it t:Addr}{i:Nat}{items:Array Value}{Q:Value→Shared→Prop}(hh:A.handled=none)(hit:s.heap.IsTupleIter it t i)(ht:s.heap.IsTuple t items)(hx:items[i]?=none)
 (q:∀ h' e,Heap.ExtBut it s.heap h'→(∃ o,h'.get? e=some o∧o.cls = .type "StopIteration")→E (.ref e) { s with heap:=h'}):wpAny (model prog w) A (Builtin.SmallTypes.nextOf (.ref it)) Q E s:=by
 obtain⟨o,ho,hc,hd⟩:=id hit
 obtain⟨ot,hot,_,nt,hdt⟩:=ht
 rw[Builtin.SmallTypes.nextOf]
 refine wpAny_bind (wpAny_callSpecial?_slot (name:=Str.ofString "__next__") hit.typeIs F.slot_tuple_iterator_next (wpAny_call_entry F.slot_tuple_iterator_next hit.typeIs F.entry_tuple_iterator_next ?_ (F.args_tuple_iterator_next_1 _)))
 show wpAny _ _ (field (.ref it) 0 >>= fun _=>_) _ _ s
 refine wpAny_bind (wpAny_field ho hd (x:=.ref t) rfl ?_)
 show wpAny _ _ (if(Value.ref t==Value.none)=true then _ else _) _ _ s
 rw[if_neg (by simp)]
 show wpAny _ _ (field (.ref it) 1 >>= fun _=>_) _ _ s
 refine wpAny_bind (wpAny_field ho hd (x:=.int i 0) rfl ?_)
 show wpAny _ _ (seqItems? (.ref t) >>= fun _=>_) _ _ s
 refine wpAny_bind (wpAny_seqItems hot hdt ?_)
 simp only[Int.toNat_natCast,hx]
 refine wpAny_bind (wpAny_rule (wpAny_bind (wpAny_setField ho hd (by simp) ?_)))
 show wpAny _ _ (newExc (.type "StopIteration") [] >>= fun _=>_) _ _ _
 refine wpAny_bind ?_
 simp only[newExc,newTuple]
 refine wpAny_bind (wpAny_newObj_type ?_ (by size_fits))
 refine wpAny_bind (m:=firstArgMember _ _) (wpAny_of_eq (a:=Value.none) (by first | rfl | (simp only[firstArgMember];rfl)) (wpAny_newObj_type ?_ (by size_fits)))
 exact wpAny_raiseNew_none hh (q _ _ (((Heap.SameBut.update ..).extBut.push _).push _) ⟨_,Heap.get?_push_size _ rfl,rfl⟩)
theorem jD(hh:A.handled=none)(it t:Addr)(hne:t≠it)(items:Array Value):
 Draws prog w A it [it,t] items.size (fun i v=>items[i]?=some v) (fun i h=>h.IsTupleIter it t i∧h.IsTuple t items) where
 live:=fun _ _ st=>let⟨o,ho,_⟩:=st.1;⟨o,ho⟩
 frame:=fun _ _ _ st hk=>⟨st.1.at fun o e=>hk it (by simp) o e,st.2.at fun o e=>hk t (by simp) o e⟩
 item:=fun i s Q E hi st hQ=>pO st.1 st.2 (x:=items[i]) (by simp[hi]) fun h' hit' hs'=>hQ _ h' s.toks (by simp[hi]) ⟨hit',st.2.extBut hs'.extBut hne⟩ hs'
 done:=fun s Q E st hE=>rR hh st.1 st.2 (by simp) hE
end
open AutoSeq1 (wpAny_loadPart') in
theorem jl(l:Addr)(items:Array Value)(n:Nat)(dct:Option Addr)(sl:Array (Option Value)):
 Meets (Builtin.«enumerate.__new__» ⟨[.type "enumerate",.ref l],[]⟩) (fun _ R s=>s.heap.get? l=some { cls:=.type "tuple",dict:=dct,data:=.seq items n,slots:=sl}∧
  R (.ok (.ret (.ref (s.heap.push { cls:=.type "tuple_iterator",data:=.fields #[.ref l,.int 0 0]}).objs.size)))
    { s with heap:=(s.heap.push { cls:=.type "tuple_iterator",data:=.fields #[.ref l,.int 0 0]}).push { cls:=.type "enumerate",data:=.fields #[.none,.bool false,.ref s.heap.objs.size,rawInt 0,.none,.none]}}) :=
 .of_wp fun prog w A R s h=>by
  obtain⟨hp,g,d,tk,os⟩:=s
  obtain⟨hl,h⟩:=h
  have hsub:=sub_enumerate
  have hL:Heap.IsTuple (Shared.heap ⟨hp,g,d,tk,os⟩) l items:=⟨_,hl,rfl,n,rfl⟩
  wp_walk using wpAny_loadPart' hl
  refine wpAny_stack_any fun st=>wpAny_pure ?_
  split
  ·rename_i c _ _ _ _ _
   cases(c==Value.type "enumerate")
   ·wp_walk using wpAny_loadPart' hl,wpAny_pyIter_tuple hL
    exact⟨_,rfl,h⟩
   ·wp_walk using wpAny_loadPart' hl,wpAny_pyIter_tuple hL
    exact⟨_,rfl,h⟩
  ·wp_walk using wpAny_loadPart' hl,wpAny_pyIter_tuple hL
   exact⟨_,rfl,h⟩
section
variable {prog:Program}{w:World}{A:Around}{E:Value→Shared→Prop}{s:Shared}
theorem pq{l:Addr}{items:Array Value}{Q:Value→Shared→Prop}(hL:s.heap.IsTuple l items)
 (h:∀ h',IsEnum h' (s.heap.objs.size+1) s.heap.objs.size 0 .none→h'.IsTupleIter s.heap.objs.size l 0→h'.objs.size=s.heap.objs.size+2→(∀ b o,s.heap.get? b=some o→h'.get? b=some o)→Q (.ref (s.heap.objs.size+1)) { s with heap:=h'}) :
 wpAny (model prog w) A (call (.type "enumerate") [.ref l]) Q E s:=by
 obtain⟨⟨c,dct,dt,sl⟩,hl,hc,n,hd⟩:=hL
 replace hc:c = .type "tuple":=hc
 replace hd:dt = .seq items n:=hd
 subst hc hd
 refine callType_new F.called_enumerate (by decide) (F.typeCall_enumerate_1 _) (F.newCall_enumerate_1 _) (fun obj=>F.args_object_init_2 obj _) F.entry_enumerate_new (jl l items n dct sl) ⟨hl,?_⟩
 have hz:(s.heap.push { cls:=.type "tuple_iterator",data:=.fields #[.ref l,.int 0 0]}).objs.size=s.heap.objs.size+1:=Heap.size_push ..
 show _∧_
 rw[hz]
 have he:IsEnum ((s.heap.push { cls:=.type "tuple_iterator",data:=.fields #[.ref l,.int 0 0]}).push { cls:=.type "enumerate",data:=.fields #[.none,.bool false,.ref s.heap.objs.size,rawInt 0,.none,.none]}) (s.heap.objs.size+1) s.heap.objs.size 0 .none:=by
  have z:=Heap.get?_push_size (s.heap.push { cls:=.type "tuple_iterator",data:=.fields #[.ref l,.int 0 0]}) (o:={ cls:=.type "enumerate",data:=.fields #[.none,.bool false,.ref s.heap.objs.size,rawInt 0,.none,.none]}) rfl
  rw[hz]at z
  exact z
 exact⟨⟨_,he,rfl⟩,h _ he ⟨_,Heap.get?_push_of_some _ (Heap.get?_push_size _ rfl),rfl,rfl⟩ (by rw[Heap.size_push,hz]) fun b o x=>Heap.get?_push_of_some _ (Heap.get?_push_of_some _ x)⟩
end
def rF(K:PySem.W.Frag)(a:Addr):It :=
 ⟨fun i H=>∃ xs x,SqT K H a xs∧xs[i]?=some x,fun i H v H'=>∃ T x,v = .ref T∧H T=none∧H' = upd H T (.tup [.int (i:Int),x])∧∀ xs,SqT K H a xs→xs[i]?=some x,fun i H=>∃ xs,SqT K H a xs∧xs.length=i⟩
theorem pU{P:Program}{w:World}{K:PySem.W.Frag}{elts:List Expr}{k:Nat}{pos:Pos}(a e it:Addr)(hne:e≠it):
 Turn P w K (.Tuple elts k pos) (rF K a) [e,it] e (fun i h=>(∃ old,IsEnum h e it (i:Int) old)∧h.IsTupleIter it a i) where
 mem:=by simp
 obj:=fun i h st b hb=>by
  obtain⟨⟨old,he⟩,o,ho,c,d⟩:=st
  have hb' : b=e∨b=it:=by simpa using hb
  rcases hb' with rfl|rfl
  ·exact⟨_,he,fun v z=>by cases z⟩
  ·exact⟨o,ho,fun v z=>by rw[d]at z;cases z⟩
 keep:=fun i h h' st k=>by
  obtain⟨⟨old,he⟩,hit⟩:=st
  exact⟨⟨old,k e (by simp) _ he⟩,hit.at fun o x=>k it (by simp) o x⟩
 item:=by
  intro X hP hw hK hc i pins s σ H E I hf st hg
  subst hP hw hK
  obtain⟨xs,x,hq,hx⟩:=hg
  obtain⟨its,rv,p,hz⟩:=I.tuple hq
  obtain⟨u,hu,ru⟩:=rv.get hx
  obtain⟨⟨old,he⟩,hit⟩:=st
  have pT:s.heap.IsTuple a its.toArray:=p
  have hai:a≠it:=fun z=>by
   obtain⟨o1,h1,_,_,d1⟩:=pT
   obtain⟨o2,h2,_,d2⟩:=hit
   rw[z,h2]at h1
   cases h1
   rw[d2]at d1
   cases d1
  have hae:e∉[it,a]:=fun z=>by
   have z' : e=it∨e=a:=by simpa using z
   rcases z' with z' | z'
   ·exact hne z'
   ·obtain⟨o1,h1,_,_,d1⟩:=pT
    rw[← z',he]at h1
    cases h1
    cases d1
  refine wpAny_pyNext_enum_itemD (jD (A:=X.A.in1) (I.ok.hd hc) it a hai its.toArray) he ⟨hit,pT⟩ (by have:=(List.getElem?_eq_some_iff.mp hu).1;simpa using this) hne hae fun y h1 tk hy ho hit1 hT hsz hk=>?_
  have hyu:y=u:=by
   have z:its.toArray[i]?=some u:=by simpa using hu
   rw[hy]at z
   exact Option.some.inj z
  subst hyu
  refine⟨_,rfl,wpAny_letOwnedTupleGo_enum ho fun h2 he2 hs2=>?_⟩
  have hTe:s.heap.objs.size≠e:=Nat.ne_of_gt (Heap.lt_size he)
  have hT2:h2.get? s.heap.objs.size=some { cls:=.type "tuple",data:=.seq #[.int i tk,y]}:=(hs2.2 _ hTe).trans hT
  refine⟨.ref s.heap.objs.size,upd H s.heap.objs.size (.tup [.int (i:Int),x]),I.yields (wr:=[e,it]) (t':=tk+1) (fun b o hb q=>?_) hf (Nat.le_refl _) ?_,rfl,⟨_,x,rfl,I.fresh,rfl,fun ys hy=>by rw[I.tuple_inj hy hq];exact hx⟩,⟨⟨y,by simpa using he2⟩,?_⟩,fun b hb=>?_⟩
  ·have h1' : b≠e:=fun z=>hb (by simp[z])
   have h2' : b≠it:=fun z=>hb (by simp[z])
   exact(hs2.2 b h1').trans (hk b o h1' h2' q)
  ·exact⟨dl rfl,[.int i tk,y],.cons ⟨_,rfl⟩ (.cons ru .nil),⟨_,hT2,rfl,_,rfl⟩⟩
  ·exact hit1.1.at fun o q=>(hs2.2 it (Ne.symm hne)).trans q
  ·rw[ak]
   ·exact(hf b hb).1
   ·have hb' : b=e∨b=it:=by simpa using hb
    rcases hb' with rfl|rfl
    ·exact Ne.symm hTe
    ·obtain⟨o,q,_⟩:=hit
     exact Nat.ne_of_lt (Heap.lt_size q)
 done:=by
  intro X hP hw hK hc i pins s σ H E I hf st hg
  subst hP hw hK
  obtain⟨xs,hq,hx⟩:=hg
  obtain⟨its,rv,p,hz⟩:=I.tuple hq
  obtain⟨⟨old,he⟩,hit⟩:=st
  have pT:s.heap.IsTuple a its.toArray:=p
  have hai:a≠it:=fun z=>by
   obtain⟨o1,h1,_,_,d1⟩:=pT
   obtain⟨o2,h2,_,d2⟩:=hit
   rw[z,h2]at h1
   cases h1
   rw[d2]at d1
   cases d1
  obtain⟨f0,f1,f2,f3,f4,f5⟩:=hf it (by simp)
  have hl:=rv.length
  have hi:i=its.toArray.size:=by rw[List.size_toArray];(first|lia|omega)
  subst hi
  exact wpAny_pyNext_enum_endD (jD (A:=X.A.in1) (I.ok.hd hc) it a hai its.toArray) he ⟨hit,pT⟩ fun h' eb=>⟨rfl,I.turned (t':=s.toks) (fun b o hb e=>eb b o hb e) f0 f1 f3 f4 f5⟩
 self:=fun _ _ _ _ _ st h=>by
  obtain⟨⟨old,he⟩,_⟩:=st
  exact wpAny_pyIter_enum he h
section
variable {X:Cx}{elts:List Expr}{n:Nat}{tp:Pos}
def xq(K:PySem.W.Frag)(ta:TA):TI:=fun σ H R=>ta σ H fun vs H1=>∃ a,vs=[.ref a]∧(∃ xs,SqT K H1 a xs)∧R (rF K a) H1
theorem oz(K:PySem.W.Frag){a:Expr}{ta:TA}{p pos:Pos}(hg:Gl X "enumerate")(hm:X.mg "enumerate"=none)(ha:PA X [a] ta)(hs:starEach [a] X.env=[(false,eval a X.env)]:=by rfl)(hK:X.K=K:=by rfl):
 PI X (.Tuple elts n tp) (.Call (.Name "enumerate" p) [a] [] pos) (xq K ta):=by
 subst hK
 intro pins s σ H R I h
 refine Call_ (gr I hg hm boot_enumerate (PyProof.Rows.callWith_type1 (thn (ha pos pins s σ H _ I h) fun us s1 ⟨vs,H1,I1,r1,q1⟩=>?_) hs rfl))
 obtain⟨a,e,⟨xs,hq⟩,q⟩:=q1
 subst e
 cases r1 with
 | cons r rr =>
   cases rr
   cases r
   obtain⟨its,rv,pl,hz⟩:=I1.tuple hq
   refine pq (show s1.heap.IsTuple a its.toArray from pl) fun h' he hit hsz hk=>?_
   have I2:Inv X pins σ H1 { s1 with heap:=h'}:=I1.kept (t':=s1.toks) hk
   refine wpAny_pyIter_enum he ⟨_,[s1.heap.objs.size+1,s1.heap.objs.size],_,_,H1,rfl,I2,pU a _ _ (Nat.succ_ne_self _),⟨⟨_,he⟩,hit⟩,fun b hb=>?_,q⟩
   have hb' : b=s1.heap.objs.size+1∨b=s1.heap.objs.size:=by simpa using hb
   have hbs:s1.heap.objs.size≤b:=by
    rcases hb' with rfl|rfl
    ·exact Nat.le_succ _
    ·exact Nat.le_refl _
   exact I1.fpOk hbs (I1.hok.fresh hbs)
end
section
variable {K:PySem.W.Frag}{a:Addr}{xs:List V}{g:TG}{tt:TT}{te:TE}{n:Nat}{fr:St}{D:Addr}{Q:Hp→Prop}{H1:Hp}
theorem pP(Pv:Nat→List V→Hp→Prop)(h0:Pv 0 [] H1)(hl:∀ i acc H,i≤xs.length→Pv i acc H→SqT K H a xs∧H D=some (.lst acc)∧acc.length≤i)(hz:xs.length≤sizeLine)
 (hs:∀ i x T acc H,xs[i]?=some x→Pv i acc H→H T=none→g (.ref T) (List.replicate n none++fr) (upd H T (.tup [.int (i:Int),x])) fun σ2 H2=>σ2.drop n=fr∧tt σ2 H2 fun b H3 =>
  if b=true then te σ2 H3 fun v H4=>H4 D=some (.lst acc)∧Pv (i+1) (acc++[v]) (upd H4 D (.lst (acc++[v]))) else Pv (i+1) acc H3)
 (hd:∀ acc H,Pv xs.length acc H→Q H):fF (rF K a) g tt te n fr D Q H1:=by
 refine⟨fun i m acc H=>m=xs.length-i∧i≤xs.length∧Pv i acc H,⟨xs.length,by simp,Nat.zero_le _,h0⟩,?_⟩
 rintro i m acc H ⟨rfl,hi,p⟩
 obtain⟨q,hD,ha⟩:=hl i acc H hi p
 refine⟨hD,?_⟩
 by_cases hlt:i<xs.length
 ·refine .inr ⟨⟨xs,xs[i],q,by simp[hlt]⟩,by(first|lia|omega),Pv (i+1),fun acc' H' p'=>⟨xs.length-(i+1),by(first|lia|omega),rfl,hlt,p'⟩,fun v H' y=>?_⟩
  obtain⟨T,x,rfl,hT,rfl,y⟩:=y
  exact hs i x T acc _ (y xs q) p hT
 ·have e:i=xs.length:=by(first|lia|omega)
  subst e
  exact .inl ⟨⟨xs,q,rfl⟩,hd acc H p⟩
end
end L2
namespace RM
variable {N:Net}
def Net.cut(N:Net)(C:Nat→Bool):Nat:=Ring.bz (fun k=>C (N.a k)^^C (N.b k)) N.n
def Net.par(N:Net)(q m:Nat):Bool:=br (fun k=>q.testBit k&&m.testBit k) N.n
theorem jS(q r m:Nat):N.par (q^^^r) m=(N.par q m^^N.par r m):=by
 unfold Net.par
 rw[← eG]
 refine bf fun k _=>?_
 rw[Nat.testBit_xor]
 cases q.testBit k<;>cases r.testBit k<;>cases m.testBit k<;>rfl
theorem iN(m:Nat):N.par 0 m=false:=ed fun k _=>by simp
theorem qZ{k:Nat}(h:k<N.n)(m:Nat):N.par (2^k) m=m.testBit k:=by
 unfold Net.par
 rw[iH h fun j _ hj=>by simp[Nat.testBit_two_pow,Ne.symm hj]]
 simp[Nat.testBit_two_pow]
theorem iS(C:Nat→Bool)(k:Nat):(N.cut C).testBit k=(decide (k<N.n)&&(C (N.a k)^^C (N.b k))):=Ring.eN _ k _
theorem tY(C:Nat→Bool):N.cut C<2^N.n:=Ring.jO _ _
theorem rq{C D:Nat→Bool}(h:∀ x,x<N.p→C x=D x):N.cut C=N.cut D:=by
 refine Nat.eq_of_testBit_eq fun k=>?_
 rw[iS,iS]
 by_cases hk:k<N.n
 ·rw[h _ (N.al k hk),h _ (N.bl k hk)]
 ·rw[decide_eq_false hk]
  rfl
theorem uV{q:Nat}(e:N.Even q)(C:Nat→Bool):N.par q (N.cut C)=false:=by
 have h:N.par q (N.cut C)=br (fun x=>C x&&N.bd q x) N.p:=by
  have e1:br (fun x=>C x&&N.bd q x) N.p=br (fun x=>br (fun k=>C x&&(q.testBit k&&N.inc k x)) N.n) N.p:=bf fun x _=>(eF _ _ _).symm
  rw[e1,jo]
  unfold Net.par
  refine bf fun k hk=>?_
  rw[iS,decide_eq_true hk,Bool.true_and]
  have e2:br (fun x=>C x&&(q.testBit k&&N.inc k x)) N.p=(q.testBit k&&(C (N.a k)^^C (N.b k))):=by
   have e3:∀ x,(C x&&(q.testBit k&&N.inc k x))=((q.testBit k&&(C x&&decide (N.a k=x)))^^(q.testBit k&&(C x&&decide (N.b k=x)))):=fun x=>by
    unfold Net.inc
    cases C x<;>cases q.testBit k<;>cases decide (N.a k=x)<;>cases decide (N.b k=x)<;>rfl
   rw[bf fun x _=>e3 x,eG,eF,eF,dC C (N.al k hk),dC C (N.bl k hk)]
   cases q.testBit k<;>rfl
  exact e2.symm
 rw[h]
 exact ed fun x hx=>by rw[e x hx,Bool.and_false]
theorem nQ{k:Nat}(hk:k<N.n)(hf:N.inF k=true):N.ring k=0:=cZ (fun j hj=>by
 rcases gD hj with e|e
 ·subst e
  exact⟨hk,hf⟩
 ·exact e) (gW hk)
theorem rA{m:Nat}(k:Nat):(m^^^N.cut fun x=>N.par (N.trail N.n x) m).testBit k=if k<N.n then N.par (N.ring k) m else m.testBit k:=by
 rw[Nat.testBit_xor,iS]
 by_cases hk:k<N.n
 ·rw[if_pos hk,decide_eq_true hk,Bool.true_and]
  unfold Net.ring
  rw[jS,jS,qZ hk]
  cases m.testBit k<;>cases N.par (N.trail N.n (N.a k)) m<;>cases N.par (N.trail N.n (N.b k)) m<;>rfl
 ·rw[if_neg hk,decide_eq_false hk]
  simp
theorem o9{m k:Nat}(hm:m<2^N.n)(h:(m^^^N.cut fun x=>N.par (N.trail N.n x) m).testBit k=true):k<N.n∧N.inF k=false∧N.par (N.ring k) m=true:=by
 rw[rA]at h
 by_cases hk:k<N.n
 ·rw[if_pos hk]at h
  refine⟨hk,?_,h⟩
  cases hf:N.inF k with
  | false=>rfl
  | true =>
    rw[nQ hk hf,iN]at h
    cases h
 ·rw[if_neg hk]at h
  exact absurd (bX hm h) hk
end RM
namespace Ring
def orM(ks:List Nat):Nat:=ks.foldl (fun m k=>m ||| 2^k) 0
theorem tP(ks:List Nat)(j:Nat):∀ m,(ks.foldl (fun m k=>m ||| 2^k) m).testBit j=(m.testBit j || decide (j∈ks)):=by
 induction ks with
 | nil=>intro m;simp
 | cons k r ih =>
   intro m
   rw[List.foldl_cons,ih,Nat.testBit_or,Nat.testBit_two_pow]
   by_cases h:k=j
   ·subst h
    simp
   ·have h' : ¬ j=k:=fun z=>h z.symm
    simp[h,h']
theorem fX(ks:List Nat)(j:Nat):(orM ks).testBit j=decide (j∈ks):=by
 unfold orM
 rw[tP]
 simp
theorem oK(ks:List Nat){t:Nat}(h:t∉ks):orM (ks++[t])=orM ks^^^2^t:=Nat.eq_of_testBit_eq fun j=>by
 rw[Nat.testBit_xor,fX,fX,Nat.testBit_two_pow]
 by_cases e:t=j
 ·subst e
  simp[h]
 ·have e' : ¬ j=t:=fun z=>e z.symm
  simp[e,e']
theorem pM(f:Nat→Bool)(n:Nat):orM ((List.range n).filter f)=bz f n:=Nat.eq_of_testBit_eq fun j=>by
 rw[fX,eN,Bool.eq_iff_iff]
 simp
end Ring
namespace RM
variable {N:Net}
inductive Net.Walk(N:Net):List Nat→Nat→List Nat→Prop
 | one {v:Nat}:Net.Walk N [] v []
 | snoc {pre ks:List Nat} {v w t:Nat} (h:Net.Walk N pre v ks) (ht:t<N.n) (hn:t∉ks) (j:(N.a t=v∧N.b t=w)∨(N.b t=v∧N.a t=w)):Net.Walk N (pre++[v]) w (ks++[t])
theorem Net.Walk.len{pre ks:List Nat}{v:Nat}(h:N.Walk pre v ks):pre.length=ks.length:=by
 induction h with
 | one=>rfl
 | snoc _ _ _ _ ih=>rw[List.length_append,List.length_append,ih];rfl
theorem Net.Walk.lt{pre ks:List Nat}{v:Nat}(h:N.Walk pre v ks):∀ t∈ks,t<N.n:=by
 induction h with
 | one=>exact fun t ht=>nomatch ht
 | snoc _ ht _ _ ih =>
   intro s hs
   rcases List.mem_append.mp hs with q|q
   ·exact ih s q
   ·have e:=List.mem_singleton.mp q
    rw[e]
    exact ht
theorem Net.Walk.bd{pre ks:List Nat}{v:Nat}(h:N.Walk pre v ks):∀ i u,(pre++[v])[i]?=some u→∀ x,N.bd (Ring.orM (ks.drop i)) x=(decide (u=x)^^decide (v=x)):=by
 induction h with
 | one =>
   rename_i v
   intro i u hu x
   match i,hu with
   | 0,hu =>
     have e:v=u:=Option.some.inj hu
     subst e
     show N.bd 0 x=_
     rw[iQ]
     simp
   | i+1,hu=>simp at hu
 | snoc hw ht hn j ih =>
   rename_i pre ks v w t
   intro i u hu x
   have hl:=hw.len
   by_cases hi:i<(pre++[v]).length
   ·rw[List.getElem?_append_left hi]at hu
    have hi' : i≤ks.length:=by rw[List.length_append]at hi;simp at hi;(first|lia|omega)
    rw[List.drop_append_of_le_length hi',Ring.oK _ (fun z=>hn (List.mem_of_mem_drop z)),di,ih i u hu x,fe ht]
    have e:N.inc t x=(decide (v=x)^^decide (w=x)):=by
     unfold Net.inc
     rcases j with⟨j1,j2⟩|⟨j1,j2⟩
     ·rw[j1,j2]
     ·rw[j1,j2]
      exact Bool.xor_comm _ _
    rw[e]
    cases decide (u=x)<;>cases decide (v=x)<;>cases decide (w=x)<;>rfl
   ·have hi2:i=(pre++[v]).length:=by
     have:=(List.getElem?_eq_some_iff.mp hu).1
     rw[List.length_append]at this
     simp at this hi ⊢
     (first|lia|omega)
    rw[hi2,List.getElem?_append_right (Nat.le_refl _),Nat.sub_self]at hu
    have e:w=u:=Option.some.inj hu
    subst e
    have:(ks++[t]).drop i=[]:=List.drop_eq_nil_of_le (by rw[hi2,List.length_append,List.length_append];simp;(first|lia|omega))
    rw[this]
    show N.bd 0 x=_
    rw[iQ]
    simp
structure Way(N:Net)(even:Nat)(pre:List Nat)(v:Nat)(ks:List Nat)(left:Nat):Prop where
 w:N.Walk pre v ks
 lt:even<2^N.n
 ev:N.Even even
 sub:∀ t∈ks,even.testBit t=true
 left_is:left=even^^^Ring.orM ks
 nd:pre.Nodup
 inp:∀ x∈pre++[v],x<N.p
 st:pre=[]→∃ t,t<N.n∧even.testBit t=true∧N.a t=v
section
variable {even left v:Nat}{pre ks:List Nat}
theorem Way.start{t:Nat}(lt:even<2^N.n)(ev:N.Even even)(hb:even.testBit t=true):Way N even [] (N.a t) [] even:=by
 have ht:=bX lt hb
 refine⟨.one,lt,ev,(fun _ z=>nomatch z),?_,List.Pairwise.nil,fun x hx=>?_,fun _=>⟨t,ht,hb,rfl⟩⟩
 ·show even=even^^^0
  simp
 ·have e:x=N.a t:=by simpa using hx
  rw[e]
  exact N.al t ht
theorem Way.left_bit(h:Way N even pre v ks left)(t:Nat):left.testBit t=(even.testBit t && !decide (t∈ks)):=by
 rw[h.left_is,Nat.testBit_xor,Ring.fX]
 by_cases hm:t∈ks
 ·rw[h.sub t hm,decide_eq_true hm]
  rfl
 ·rw[decide_eq_false hm]
  simp
theorem Way.left_lt(h:Way N even pre v ks left):left<2^N.n:=cO fun k hk=>by
 rw[h.left_bit,Bool.and_eq_true]at hk
 exact bX h.lt hk.1
theorem Way.on(h:Way N even pre v ks left)(hv:v∉pre):∃ t,left.testBit t=true∧(N.a t=v∨N.b t=v):=by
 cases pre with
 | nil =>
   obtain⟨t,ht,hb,e⟩:=h.st rfl
   have hk:ks=[]:=List.length_eq_zero_iff.mp (by rw[← h.w.len];rfl)
   refine⟨t,?_,.inl e⟩
   rw[h.left_bit,hb,hk]
   simp
 | cons u r =>
   have hb:=h.w.bd 0 u rfl v
   rw[List.drop_zero]at hb
   have hu : ¬ u=v:=fun z=>hv (by rw[z];exact List.mem_cons_self)
   rw[decide_eq_false hu,decide_eq_true rfl]at hb
   have hvp:v<N.p:=h.inp v (List.mem_append_right _ (List.mem_singleton.mpr rfl))
   have hl:N.bd left v=true:=by
    rw[h.left_is,di,h.ev v hvp,hb]
    rfl
   rw[qu]at hl
   have hp:=of_decide_eq_true hl
   obtain⟨k,hk,hkb,hx⟩:=m6 (N:=N) (m:=left) (x:=v) (by(first|lia|omega))
   exact⟨k,hkb,hx⟩
theorem Way.go(h:Way N even pre v ks left)(hv:v∉pre){t w:Nat}(hb:left.testBit t=true)(j:(N.a t=v∧N.b t=w)∨(N.b t=v∧N.a t=w)):
 Way N even (pre++[v]) w (ks++[t]) (left^^^2^t):=by
 rw[h.left_bit,Bool.and_eq_true]at hb
 have hn:t∉ks:=by simpa using hb.2
 have ht:=bX h.lt hb.1
 refine⟨.snoc h.w ht hn j,h.lt,h.ev,fun s hs=>?_,?_,?_,fun x hx=>?_,fun z=>?_⟩
 ·rcases List.mem_append.mp hs with q|q
  ·exact h.sub s q
  ·rw[List.mem_singleton.mp q]
   exact hb.1
 ·rw[Ring.oK _ hn,h.left_is,Nat.xor_assoc]
 ·refine List.nodup_append.mpr ⟨h.nd,by simp,fun x hx y hy=>?_⟩
  have e:y=v:=by simpa using hy
  rw[e]
  exact fun z=>hv (z▸hx)
 ·rcases List.mem_append.mp hx with q|q
  ·exact h.inp x q
  ·have e:x=w:=by simpa using q
   rw[e]
   rcases j with⟨_,j2⟩|⟨_,j2⟩
   ·rw[← j2];exact N.bl t ht
   ·rw[← j2];exact N.al t ht
 ·simp at z
theorem Way.closes(h:Way N even pre v ks left){i:Nat}(hi:pre[i]?=some v):Ring.orM (ks.drop i)≠0∧N.Even (Ring.orM (ks.drop i))∧Ring.orM (ks.drop i)<2^N.n∧∀ k,(Ring.orM (ks.drop i)).testBit k=true→even.testBit k=true:=by
 have hil:=(List.getElem?_eq_some_iff.mp hi).1
 have hl:=h.w.len
 have hbit:∀ k,(Ring.orM (ks.drop i)).testBit k=true→k∈ks:=fun k hk=>by
  rw[Ring.fX]at hk
  exact List.mem_of_mem_drop (of_decide_eq_true hk)
 refine⟨fun z=>?_,fun x _=>?_,cO fun k hk=>h.w.lt k (hbit k hk),fun k hk=>h.sub k (hbit k hk)⟩
 ·have hne:ks.drop i≠[]:=fun q=>by
   have:=List.drop_eq_nil_iff.mp q
   (first|lia|omega)
  obtain⟨k,hk⟩:=List.exists_mem_of_ne_nil _ hne
  have:=Ring.fX (ks.drop i) k
  rw[z,decide_eq_true hk]at this
  simp at this
 ·rw[h.w.bd i v (by rw[List.getElem?_append_left hil];exact hi) x]
  simp
end
end RM
namespace Ring
open PySem L2
theorem vo{p:Nat}{ts:List Tie}{g:GoodWeb p ts}{q m:Nat}(hm:m<2^ts.length):decide ((aI ((q&&&m:Nat):Int)).length%2=1)=(ad p ts g).par q m:=by
 rw[oF (n:=ts.length) (Nat.and_lt_two_pow q hm)]
 unfold RM.Net.par
 rw[RM.kt]
 have e:RM.cnt (fun k=>(q&&&m).testBit k) ts.length=RM.cnt (fun k=>q.testBit k&&m.testBit k) (ad p ts g).n:=RM.et fun k _=>by rw[Nat.testBit_and]
 rw[e]
def vB(rs:List Nat):Nat:=rs.foldl (fun m r=>m^^^r) 0
theorem sA(rs:List Nat):∀ m,rs.foldl (fun m r=>m^^^r) m=m^^^vB rs:=by
 induction rs with
 | nil=>intro m;show m=m^^^0;simp
 | cons r rs ih =>
   intro m
   show rs.foldl (fun m r=>m^^^r) (m^^^r)=m^^^rs.foldl (fun m r=>m^^^r) (0^^^r)
   rw[ih,ih,Nat.zero_xor,Nat.xor_assoc]
theorem rH(rs:List Nat)(r:Nat):vB (r::rs)=r^^^vB rs:=by
 show rs.foldl (fun m r=>m^^^r) (0^^^r)=_
 rw[sA,Nat.zero_xor]
end Ring
namespace Ring
open PySem L2
end Ring
namespace L2
open PySem PySem.Spec PyProof.Rows
section
variable {κ:Type}[DecidableEq κ]
def cA(kvs:List (κ×V))(k:κ):Option V:=(kvs.find? fun kv=>decide (kv.1=k)).map (·.2)
def d5(kvs:List (κ×V))(k:κ)(v:V):List (κ×V) :=
 if(kvs.any fun kv=>decide (kv.1=k))=true then kvs.map (fun kv=>if kv.1=k then(kv.1,v) else kv) else kvs++[(k,v)]
def cn(kvs:List (κ×V))(k:κ):List (κ×V):=kvs.filter fun kv=>decide (kv.1≠k)
theorem kH{k:κ}:cA ([]:List (κ×V)) k=none:=rfl
theorem bF{p:κ×V}{r:List (κ×V)}{k:κ}(e:p.1=k):cA (p::r) k=some p.2:=by simp[cA,List.find?_cons,e]
theorem bA{p:κ×V}{r:List (κ×V)}{k:κ}(e : ¬ p.1=k):cA (p::r) k=cA r k:=by simp[cA,List.find?_cons,e]
theorem dQ(k:κ):∀ kvs:List (κ×V),(kvs.any fun kv=>decide (kv.1=k))=(cA kvs k).isSome
 | []=>rfl
 | p::r=>by
   rw[List.any_cons]
   by_cases e:p.1=k
   ·simp only[bF e,decide_eq_true e,Bool.true_or,Option.isSome_some]
   ·rw[bA e,decide_eq_false e,Bool.false_or];exact dQ k r
theorem oa(k j:κ)(y:V):∀ kvs:List (κ×V),cA (kvs.map fun kv=>if kv.1=k then(kv.1,y) else kv) j=(cA kvs j).map fun x=>if j=k then y else x
 | []=>rfl
 | p::r=>by
   have ih:=oa k j y r
   rw[List.map_cons]
   by_cases h:p.1=k
   ·rw[if_pos h]
    by_cases e:p.1=j
    ·rw[bF (p:=(p.1,y)) e,bF e,Option.map_some,if_pos (e.symm.trans h)]
    ·rw[bA (p:=(p.1,y)) e,bA e,ih]
   ·rw[if_neg h]
    by_cases e:p.1=j
    ·rw[bF (p:=p) e,bF e,Option.map_some,if_neg (fun z=>h (e.trans z))]
    ·rw[bA (p:=p) e,bA e,ih]
theorem mF(k j:κ)(y:V):∀ kvs:List (κ×V),cA kvs k=none→cA (kvs++[(k,y)]) j=if j=k then some y else cA kvs j
 | [],_=>by
   by_cases e:k=j
   ·rw[if_pos e.symm];exact bF (p:=(k,y)) e
   ·rw[if_neg (fun z=>e z.symm)];exact bA (p:=(k,y)) e
 | p::r,hn=>by
   rw[List.cons_append]
   have hk : ¬ p.1=k:=fun z=>by rw[bF z]at hn;cases hn
   rw[bA hk]at hn
   have ih:=mF k j y r hn
   by_cases e:p.1=j
   ·rw[bF e,bF e,if_neg (fun z=>hk (e.trans z))]
   ·rw[bA e,bA e,ih]
theorem um(kvs:List (κ×V))(k j:κ)(y:V):cA (d5 kvs k y) j=if j=k then some y else cA kvs j:=by
 unfold d5
 by_cases a:(kvs.any fun kv=>decide (kv.1=k))=true
 ·rw[if_pos a,oa]
  rw[dQ]at a
  by_cases e:j=k
  ·obtain⟨x,hx⟩:=Option.isSome_iff_exists.mp a
   rw[if_pos e,e,hx,Option.map_some,if_pos rfl]
  ·rw[if_neg e]
   cases cA kvs j with
   | none=>rfl
   | some x=>rw[Option.map_some,if_neg e]
 ·rw[if_neg a]
  refine mF k j y kvs ?_
  rw[dQ]at a
  cases q:cA kvs k with
  | none=>rfl
  | some x=>rw[q]at a;exact(a rfl).elim
theorem jI(kvs:List (κ×V))(k:κ)(v:V):(d5 kvs k v).length≤kvs.length+1:=by
 unfold d5
 split
 ·rw[List.length_map];(first|lia|omega)
 ·rw[List.length_append,List.length_cons,List.length_nil];(first|lia|omega)
theorem oy{kvs:List (κ×V)}{k:κ}(v:V)(h:cA kvs k=none):d5 kvs k v=kvs++[(k,v)]:=by
 unfold d5
 rw[dQ,h]
 exact if_neg (by decide)
theorem ix.isSome_eq{o:Option V}{u:Option Value}(r:ix o u):o.isSome=u.isSome:=by
 cases o with
 | none=>cases u with
   | none=>rfl
   | some _=>exact(show False from r).elim
 | some _=>cases u with
   | none=>exact(show False from r).elim
   | some _=>rfl
theorem ix.getD{o:Option V}{u:Option Value}{d:V}{d' : Value}(r:ix o u)(rd:aR d d'):aR (o.getD d) (u.getD d'):=by
 cases o with
 | none=>cases u with
   | none=>exact rd
   | some _=>exact(show False from r).elim
 | some _=>cases u with
   | none=>exact(show False from r).elim
   | some _=>exact r
theorem KV.val{kvs:List (κ×V)}{vs:List (κ×Value)}(r:KV kvs vs)(k:κ):ix (cA kvs k) (valueAt vs k):=by
 unfold KV at r
 induction r with
 | nil=>exact True.intro
 | @cons p q ps qs h t ih =>
   obtain⟨h1,h2⟩:=h
   by_cases e:p.1=k
   ·have e' : q.1=k:=h1.symm.trans e
    have b:valueAt (q::qs) k=some q.2:=by simp[valueAt,List.find?_cons,e']
    rw[bF e,b];exact h2
   ·have e' : ¬ q.1=k:=fun z=>e (h1.trans z)
    have b:valueAt (q::qs) k=valueAt qs k:=by simp[valueAt,List.find?_cons,e']
    rw[bA e,b];exact ih
theorem KV.any{kvs:List (κ×V)}{vs:List (κ×Value)}(r:KV kvs vs)(k:κ):(kvs.any fun kv=>decide (kv.1=k))=vs.any fun kv=>decide (kv.1=k):=by
 unfold KV at r
 induction r with
 | nil=>rfl
 | cons h t ih=>rw[List.any_cons,List.any_cons,ih,h.1]
theorem KV.repl{kvs:List (κ×V)}{vs:List (κ×Value)}(r:KV kvs vs)(k:κ){y:V}{u:Value}(ry:aR y u):
 KV (kvs.map fun kv=>if kv.1=k then(kv.1,y) else kv) (vs.map fun kv=>if kv.1=k then(kv.1,u) else kv):=by
 unfold KV at r ⊢
 induction r with
 | nil=>exact .nil
 | @cons p q ps qs h t ih =>
   rw[List.map_cons,List.map_cons]
   refine .cons ?_ ih
   obtain⟨h1,h2⟩:=h
   by_cases e:p.1=k
   ·rw[if_pos e,if_pos (h1.symm.trans e)];exact⟨h1,ry⟩
   ·rw[if_neg e,if_neg (fun z=>e (h1.trans z))];exact⟨h1,h2⟩
theorem KV.put{kvs:List (κ×V)}{vs:List (κ×Value)}(r:KV kvs vs)(k:κ){y:V}{u:Value}(ry:aR y u):KV (d5 kvs k y) (stored vs k u):=by
 unfold d5 stored
 rw[r.any k]
 by_cases e:(vs.any fun kv=>decide (kv.1=k))=true
 ·rw[if_pos e,if_pos e];exact r.repl k ry
 ·rw[if_neg e,if_neg e];exact Paired.snoc r ⟨rfl,ry⟩
theorem KV.length{kvs:List (κ×V)}{vs:List (κ×Value)}(r:KV kvs vs):kvs.length=vs.length:=Paired.length r
theorem uj(kvs:List (κ×V))(k:κ):(cn kvs k).length≤kvs.length:=List.length_filter_le _ _
end
theorem qx{P:Program}{w:World}{k:Key}{u:Value}(r:aR (kV k) u):(cf P w).is k u=true:=by
 cases k with
 | inl i=>obtain⟨t,e⟩:=(show ∃ t,u=Value.int i t from r);subst e;exact oE P w i t
 | inr x=>obtain⟨t,e⟩:=(show ∃ t,u=Value.str x t from r);subst e;exact n5 P w x t
theorem mK{P:Program}{w:World}:∀{ks:List Key} {us:List Value},aW (ks.map kV) us→ItemsAre (cf P w) ks us
 | [],_,r=>by rw[List.map_nil]at r;cases r;exact .nil
 | k::ks,_,r=>by
   rw[List.map_cons]at r
   cases r with
   | cons h t=>exact .cons (qx h) (mK t)
abbrev KT(H:Hp):List (List Key×V)→List (List Key×Addr×Value)→Prop:=Paired fun p q=>p.1=q.1∧H q.2.1=some (.tup (p.1.map kV))∧aR p.2 q.2.2
theorem KT.val{H:Hp}{kvs:List (List Key×V)}{xs:List (List Key×Addr×Value)}(r:KT H kvs xs)(k:List Key):ix (cA kvs k) ((atKey xs k).map (·.2)):=by
 induction r with
 | nil=>exact True.intro
 | @cons p q ps qs h t ih =>
   obtain⟨h1,_,h2⟩:=h
   by_cases e:p.1=k
   ·have e' : q.1=k:=h1.symm.trans e
    have b:atKey (q::qs) k=some q.2:=by simp[atKey,List.find?_cons,e']
    rw[bF e,b];exact h2
   ·have e' : ¬ q.1=k:=fun z=>e (h1.trans z)
    have b:atKey (q::qs) k=atKey qs k:=by simp[atKey,List.find?_cons,e']
    rw[bA e,b];exact ih
theorem KT.repl{H:Hp}{kvs:List (List Key×V)}{xs:List (List Key×Addr×Value)}(r:KT H kvs xs)(k:List Key){y:V}{u:Value}(ry:aR y u):
 KT H (kvs.map fun kv=>if kv.1=k then(kv.1,y) else kv) (xs.map (putAt k u)):=by
 induction r with
 | nil=>exact .nil
 | @cons p q ps qs h t ih =>
   rw[List.map_cons,List.map_cons]
   refine .cons ?_ ih
   obtain⟨h1,h2,h3⟩:=h
   unfold putAt
   by_cases e:p.1=k
   ·rw[if_pos e,if_pos (h1.symm.trans e)];exact⟨h1,h2,ry⟩
   ·rw[if_neg e,if_neg (fun z=>e (h1.trans z))];exact⟨h1,h2,h3⟩
theorem KT.put{H:Hp}{kvs:List (List Key×V)}{xs:List (List Key×Addr×Value)}(r:KT H kvs xs)(k:List Key){b:Addr}{y:V}{u:Value}(hb:H b=some (.tup (k.map kV)))(ry:aR y u):
 KT H (d5 kvs k y) (storedH xs k b u):=by
 have e:(kvs.any fun kv=>decide (kv.1=k))=(atKey xs k).isSome:=by
  rw[dQ,(r.val k).isSome_eq,Option.isSome_map]
 unfold d5 storedH
 rw[e]
 by_cases q:(atKey xs k).isSome=true
 ·rw[if_pos q,if_pos q];exact r.repl k ry
 ·rw[if_neg q,if_neg q];exact Paired.snoc r ⟨rfl,hb,ry⟩
theorem KT.keeps{H H' : Hp}{kvs:List (List Key×V)}{xs:List (List Key×Addr×Value)}(r:KT H kvs xs)(ht:∀ b ys,H b=some (.tup ys)→H' b=some (.tup ys)):KT H' kvs xs :=
 Paired.mapP r fun _ _ z=>⟨z.1,ht _ _ z.2.1,z.2.2⟩
section
variable {P:Program}{w:World}{H:Hp}{h:Heap}{a:Addr}
theorem vX{u:HO}(ok:HOk P w H h)(e:Rd H a u):aV P w H h a u:=e.ok ok
theorem oB{kvs:List (Key×V)}(ok:HOk P w H h)(e:Rd H a (.dK kvs)):kvs.length≤sizeLine∧(a==sysModules)=false∧∃ vs,KV kvs vs∧h.DictOf (cf P w) a vs :=
 show aV P w H h a (.dK kvs) from vX ok e
theorem ye{kvs:List (Key×V)}(ok:HOk P w H h)(e:H a=some (.dK kvs)):kvs.length≤sizeLine∧(a==sysModules)=false∧∃ vs,KV kvs vs∧h.DictOf (cf P w) a vs:=oB ok (.inl e)
theorem jn{ks:List Key}(ok:HOk P w H h)(e:H a=some (.tup (ks.map kV))):(tupleKind (cf P w)).is h ks a:=by
 obtain⟨_,its,r,o,h1,h2,n,h3⟩:=(show aV P w H h a (.tup (ks.map kV)) from ok a _ e)
 exact⟨o,its.toArray,n,h1,h2,h3,by simpa using mK r⟩
theorem oj{kvs:List (List Key×V)}(ok:HOk P w H h)(e:Rd H a (.dT kvs)):kvs.length≤sizeLine∧(a==sysModules)=false∧
 ∃ xs,KT H kvs xs∧h.DictOfH (tupleKind (cf P w)) a xs:=by
 obtain⟨z,y,xs,r,o,es,ep,h1,h2,h3,h4,h5⟩:=(show aV P w H h a (.dT kvs) from vX ok e)
 refine⟨z,y,xs,r,o,es,ep,h1,h2,h3,h4,fun x hx=>?_,h5⟩
 have all:∀{l:List (List Key×V)} {m:List (List Key×Addr×Value)},KT H l m→∀ x∈m,(tupleKind (cf P w)).is h x.1 x.2.1:=by
  intro l m q
  induction q with
  | nil=>intro x hx;exact nomatch hx
  | @cons p q ps qs hq t ih =>
    intro x hx
    rcases List.mem_cons.mp hx with e|hx
    ·subst e
     exact jn ok (by rw[← hq.1];exact hq.2.1)
    ·exact ih x hx
 exact all r x hx
theorem uQ{kvs:List (List Key×V)}(ok:HOk P w H h)(e:H a=some (.dT kvs)):kvs.length≤sizeLine∧(a==sysModules)=false∧
 ∃ xs,KT H kvs xs∧h.DictOfH (tupleKind (cf P w)) a xs:=oj ok (.inl e)
end
def tH(H:Hp)(a:Addr)(y:V)(r:Option V):Prop :=
 (∃ kvs k,Rd H a (.dK kvs)∧y=kV k∧r=cA kvs k)∨∃ kvs k b,Rd H a (.dT kvs)∧y = .ref b∧H b=some (.tup (k.map kV))∧r=cA kvs k
def uU(H:Hp)(a:Addr)(y v:V)(H' : Hp):Prop :=
 (∃ kvs k,H a=some (.dK kvs)∧y=kV k∧kvs.length<sizeLine∧H' = upd H a (.dK (d5 kvs k v)))∨
 ∃ kvs k b,H a=some (.dT kvs)∧y = .ref b∧H b=some (.tup (k.map kV))∧kvs.length<sizeLine∧H' = upd H a (.dT (d5 kvs k v))
theorem uU.t{H:Hp}{a b:Addr}{kvs:List (List Key×V)}{k:List Key}{v:V}(e:H a=some (.dT kvs))(eb:H b=some (.tup (k.map kV)))(hl:kvs.length<sizeLine):
 uU H a (.ref b) v (upd H a (.dT (d5 kvs k v))):=.inr ⟨kvs,k,b,e,rfl,eb,hl,rfl⟩
section
variable {X:Cx}{pins:List (Addr×Obj)}{σ:St}{H:Hp}{s:Shared}{a:Addr}{y v:V}{u r:Value}{o:Option V}{A:Around}{E:Value→Shared→Prop}
theorem Inv.big(I:Inv X pins σ H s):sysModules<s.heap.objs.size:=by
 have h:mainGlobals<s.heap.objs.size:=(I.mod.glob.keeps I.bk).lt
 exact Nat.lt_trans (by decide) h
theorem rT{Q:Value→Shared→Prop}(hu:A.units+1<cLine)(I:Inv X pins σ H s)(g:tH H a y (some v))(ry:aR y u)(h:∀ w' s',Inv X pins σ H s'→aR v w'→Q w' s'):
 wpAny (model X.prog X.w) A (getItem (.ref a) u) Q E s:=by
 rcases g with⟨kvs,k,e,ey,l⟩|⟨kvs,k,b,e,ey,eb,l⟩
 ·subst ey
  obtain⟨z,hd,vs,rel,dd⟩:=oB I.hok e
  obtain⟨w',hw,rw'⟩:=ix.some_of (v:=v) (o:=valueAt vs k) (by rw[l];exact rel.val k)
  exact wpAny_getItem_of (qx ry) dd.mapOf hw (h w' _ (I.tok _) rw')
 ·subst ey
  cases(show u=Value.ref b from ry)
  obtain⟨z,hd,xs,rel,dd⟩:=oj I.hok e
  obtain⟨w',hw,rw'⟩:=ix.some_of (v:=v) (o:=(atKey xs k).map (·.2)) (by rw[l];exact rel.val k)
  obtain⟨p,hp,hp2⟩:=Option.map_eq_some_iff.mp hw
  refine wpAny_getItem_heap (tupleKind_room_in1 hu) (jn I.hok eb) dd hp ?_
  rw[hp2]
  exact h w' _ (I.tok _) rw'
theorem jR{h' : Heap}{t' : Nat}{ob:HO}(I:Inv X pins σ H s)(mu:Mut (H a))(hs:Heap.SameBut a s.heap h')(he:∃ q,h'.get? a=some q)(new:aV X.prog X.w (upd H a ob) h' a ob):
 Inv X pins σ (upd H a ob) { s with heap:=h',toks:=t'} :=
 I.write (x:=a) (e:=a) mu (.inl rfl) (fun b q hb z=>(hs.2 b hb).trans z) he new
theorem wI{P:Program}{w:World}{H' : Hp}{h' : Heap}{kvs:List (Key×V)}{vs:List (Key×Value)}(z:kvs.length≤sizeLine)(hd:(a==sysModules)=false)(rel:KV kvs vs)(dd:h'.DictOf (cf P w) a vs):
 aV P w H' h' a (.dK kvs):=⟨z,hd,vs,rel,dd⟩
theorem rJ{H' : Hp}{Q:Unit→Shared→Prop}(hu:A.units+1<cLine)(I:Inv X pins σ H s)(g:uU H a y v H')(ry:aR y u)(rv:aR v r)(h:∀ s',Inv X pins σ H' s'→Q () s'):
 wpAny (model X.prog X.w) A (setItem (.ref a) u r) Q E s:=by
 rcases g with⟨kvs,k,e,ey,l,eH⟩|⟨kvs,k,b,e,ey,eb,l,eH⟩
 ·subst ey eH
  obtain⟨z,hd,vs,rel,dd⟩:=ye I.hok e
  have hz:vs.length≤sizeLine:=by rw[← rel.length];exact z
  have hl:(d5 kvs k v).length≤sizeLine:=by have:=jI kvs k v;(first|lia|omega)
  refine wpAny_setItem_pairs (hsz:=hz) (qx ry) dd fun h' dd' hs=>h _ ?_
  have he:∃ q,h'.get? a=some q:=let⟨q,_,_,hq,_⟩:=dd';⟨q,hq⟩
  exact jR I (by rw[e];exact True.intro) hs he (wI hl hd (rel.put k rv) dd')
 ·subst ey eH
  cases(show u=Value.ref b from ry)
  obtain⟨z,hd,xs,rel,dd⟩:=uQ I.hok e
  have hz:xs.length≤sizeLine:=by rw[← Paired.length rel];exact z
  have hl:(d5 kvs k v).length≤sizeLine:=by have:=jI kvs k v;(first|lia|omega)
  refine wpAny_setItem_heap (hsz:=hz) (tupleKind_room_in1 hu) (jn I.hok eb) dd fun h' dd' hs=>h _ ?_
  obtain⟨q,es,ep,hq,h2,h3,h4,_,h5⟩:=dd'
  refine jR I (by rw[e];exact True.intro) hs ⟨q,hq⟩ ⟨hl,hd,_,(rel.put k eb rv).keeps fun c ys ec=>?_,q,es,ep,hq,h2,h3,h4,h5⟩
  rw[ak (aQ ec e (fun z=>nomatch z))]
  exact ec
end
section
variable {X:Cx}{pins:List (Addr×Obj)}{σ:St}{H:Hp}{s:Shared}{a:Addr}{kvs:List (Key×V)}{k:Key}{u:Value}{A:Around}{E:Value→Shared→Prop}
end
def xZ(i:Expr):Prop:=∀ ov iv,subscripted i false ov iv=operate [ov,iv] (getItem ov iv)
theorem vP{prog:Program}{w:World}{A:Around}{E:Value→Shared→Prop}{s:Shared}{env:Env}{value slice:Expr}{pos:Pos}{T id:String}{Q:Value→Shared→Prop}
 (hl:typeLookup (.type T) "__getitem__"=pure (some (.builtin id))) (hs:xZ slice)
 (h:wpAny (model prog w) A (eval value env) (fun o s₁=>wpAny (model prog w) A (eval slice env) (fun i s₂=>s₂.TypeIs o T∧wpAny (model prog w) A (getItem o i) Q E s₂) E s₁) E s) :
 wpAny (model prog w) A (eval (.Subscript value slice pos) env) Q E s:=by
 refine Subscript_ (wpAny_mono h (fun o s₁ h₁=>wpAny_mono h₁ (fun i s₂ h₂=>?_) fun _ _ x=>x) fun _ _ x=>x)
 obtain⟨hT,h₂⟩:=h₂
 unfold subscriptTail
 refine wpAny_bind ?_
 rw[getitemInPython_of_ne hT.not_modules]
 refine wpAny_bind (wpAny_specialOf hT hl ?_)
 have fin:wpAny (model prog w) A (subscripted slice false o i) (fun r s₃=>wpAny (model prog w) A (letTemporaryGo value o r >>= fun _=>pure r) Q E s₃) E s₂:=by
  rw[hs o i]
  exact wpAny_operating (wpAny_mono h₂ (fun r s₃ h₃=>wpAny_bind (wpAny_letTemporaryGo (wpAny_pure h₃))) fun _ _ x=>x)
 first
  | exact wpAny_pure (wpAny_bind fin)
  | exact wpAny_bind (wpAny_pure (wpAny_bind fin))
  | exact wpAny_bind fin
theorem oZ{X:Cx}{pins:List (Addr×Obj)}{σ:St}{H:Hp}{s:Shared}{a:Addr}{y:V}{o:Option V}(I:Inv X pins σ H s)(g:tH H a y o):s.TypeIs (.ref a) "dict":=by
 rcases g with⟨kvs,k,e,_,_⟩|⟨kvs,k,b,e,_,_,_⟩
 ·obtain⟨_,_,vs,_,dd⟩:=oB I.hok e
  exact dd.typeIs
 ·obtain⟨_,_,xs,_,dd⟩:=oj I.hok e
  exact dd.typeIs
def yl(td ty:TE):TE:=fun σ H Q=>td σ H fun x H1=>ty σ H1 fun y H2=>∃ a v,x = .ref a∧tH H2 a y (some v)∧Q v H2
def xU(td ty tv:TE):TS:=fun D σ H=>tv σ H fun v H1=>td σ H1 fun x H2=>ty σ H2 fun y H3=>∃ a H4,x = .ref a∧uU H3 a y v H4∧D.nx σ H4
section
variable {X:Cx}{o i e value:Expr}{pos pos' tpos:Pos}{td ty tv:TE}
theorem vg(hu:X.A.units+1<cLine)(ho:PE X o td)(hi:PE X i ty)(hs:xZ i):PE X (.Subscript o i pos) (yl td ty):=by
 intro pins s σ H Q I h
 refine vP PySem.F.slot_dict_getitem.lookup hs (thn (ho pins s σ H _ I h) fun u s1 ⟨x,H1,I1,rx,q1⟩=>thn (hi pins s1 σ H1 _ I1 q1) fun iv s2 ⟨y,H2,I2,ry,a,v,ex,g,q2⟩=>?_)
 subst ex
 obtain rfl:u=Value.ref a:=rx
 exact⟨oZ I2 g,rT hu I2 g ry fun w' s3 I3 rw'=>⟨v,H2,I3,rw',q2⟩⟩
theorem vE(hu:X.A.units+1<cLine)(ho:PE X o td)(hi:PE X i ty)(hv:PE X value tv)(hs:swapsWith value (some (.Subscript o i pos')) pos.line X.env=pure false):
 PS X (.Assign [.Subscript o i pos'] value pos) (xU td ty tv):=by
 intro pins s σ H D I h
 refine wpAny_Assign_Subscript (thn (hv pins s σ H _ I h) fun r s1 ⟨v,H1,I1,rv,q1⟩=>thn (ho pins s1 σ H1 _ I1 q1) fun u s2 ⟨x,H2,I2,rx,q2⟩=>thn (hi pins s2 σ H2 _ I2 q2) fun iv s3 ⟨y,H3,I3,ry,a,H4,ex,g,q3⟩=>?_) hs
 subst ex
 obtain rfl:u=Value.ref a:=rx
 exact rJ hu I3 g ry rv fun s4 I4=>⟨σ,H4,I4,q3⟩
end
theorem sK{P:Program}{w:World}{H:Hp}(h:Heap)(hb:sysModules<h.objs.size):aV P w H (h.push { cls:=.type "dict",data:=.dict #[]}) h.objs.size (.dT []) :=
 ⟨Nat.zero_le _,beq_eq_false_iff_ne.mpr (Ne.symm (Nat.ne_of_lt hb)),[],.nil,_,#[],0,Heap.get?_push_size _ rfl,⟨rfl,rfl,rfl⟩,rfl,rfl,List.nodup_nil⟩
section
variable {X:Cx}{pos:Pos}
end
structure M1(X:Cx)(o:Expr)(m:Str)(apos:Pos)(e:Expr)(cpos:Pos):Prop where
 base:attributeBase o m X.env (eval o X.env)=eval o X.env
 few:((backTo cpos (starEach [e] X.env)).all (fun x=>!x.1)&&(backToKw cpos (keywordEach [] X.env)).all (fun x=>x.1.isSome)
  && decide (([e]:List Expr).length+([]:List Keyword).length+(if([]:List Keyword).isEmpty then 0 else 1)<30))=true
 line:(apos.endLine==cpos.line)=true
 trees:backTo cpos (starEach [e] X.env)=[(false,eval e X.env)]
structure M2(X:Cx)(o:Expr)(m:Str)(apos:Pos)(e f:Expr)(cpos:Pos):Prop where
 base:attributeBase o m X.env (eval o X.env)=eval o X.env
 few:((backTo cpos (starEach [e,f] X.env)).all (fun x=>!x.1)&&(backToKw cpos (keywordEach [] X.env)).all (fun x=>x.1.isSome)
  && decide (([e,f]:List Expr).length+([]:List Keyword).length+(if([]:List Keyword).isEmpty then 0 else 1)<30))=true
 line:(apos.endLine==cpos.line)=true
 trees:backTo cpos (starEach [e,f] X.env)=[(false,eval e X.env),(false,eval f X.env)]
def IsD(H:Hp)(a:Addr):Prop:=(∃ kvs,Rd H a (.dK kvs))∨∃ kvs,Rd H a (.dT kvs)
theorem tG{X:Cx}{pins:List (Addr×Obj)}{σ:St}{H:Hp}{s:Shared}{a:Addr}(I:Inv X pins σ H s)(d:IsD H a):
 s.TypeIs (.ref a) "dict"∧(∀ b,Value.ref a = .ref b→∃ ob,s.heap.get? b=some ob∧ob.dict=none)∧(a==sysModules)=false:=by
 rcases d with⟨kvs,e⟩|⟨kvs,e⟩
 ·obtain⟨_,hd,vs,_,dd⟩:=oB I.hok e
  refine⟨dd.typeIs,fun b q=>?_,hd⟩
  cases q
  obtain⟨ob,_,_,h1,h2,_⟩:=dd
  exact⟨ob,h1,h2.2.1⟩
 ·obtain⟨_,hd,xs,_,dd⟩:=oj I.hok e
  refine⟨dd.typeIs,fun b q=>?_,hd⟩
  cases q
  obtain⟨ob,_,_,h1,h2,_⟩:=dd
  exact⟨ob,h1,h2.2.1⟩
section
variable {X:Cx}{pins:List (Addr×Obj)}{σ:St}{H:Hp}{s:Shared}{a:Addr}{y d:V}{u r:Value}{o:Option V}{A:Around}{E:Value→Shared→Prop}
theorem xl{Q:Value→Shared→Prop}(hu:A.units+1<cLine)(I:Inv X pins σ H s)(g:tH H a y o)(ry:aR y u)(rd:aR d r)(h:∀ w' s',Inv X pins σ H s'→aR (o.getD d) w'→Q w' s'):
 wpAny (model X.prog X.w) A (call (.builtin "dict.get") [.ref a,u,r]) Q E s:=by
 rcases g with⟨kvs,k,e,ey,l⟩|⟨kvs,k,b,e,ey,eb,l⟩
 ·subst ey
  obtain⟨z,hd,vs,rel,dd⟩:=oB I.hok e
  refine call_meetsIn PySem.F.slot_dict_get dd.typeIs PySem.F.entry_dict_get (PySem.F.args_dict_get_3 _ _ _) (meets_dict_get_default (cf X.prog X.w) a (qx ry) hd r) ⟨_,dd.mapOf,h _ _ (I.tok _) ?_⟩
  rw[l]
  exact(rel.val k).getD rd
 ·subst ey
  cases(show u=Value.ref b from ry)
  obtain⟨z,hd,xs,rel,dd⟩:=oj I.hok e
  refine call_meetsIn PySem.F.slot_dict_get dd.typeIs PySem.F.entry_dict_get (PySem.F.args_dict_get_3 _ _ _) (meetsH_dict_get_default (tupleKind (cf X.prog X.w)) a b hd r) ⟨tupleKind_room_in1 hu,k,xs,jn I.hok eb,dd,h _ _ (I.tok _) ?_⟩
  rw[l]
  exact(rel.val k).getD rd
end
def wX(td ty tx:TE):TE:=fun σ H Q=>td σ H fun x H1=>∃ a,x = .ref a∧IsD H1 a∧ty σ H1 fun y H2=>tx σ H2 fun z H3=>∃ o,tH H3 a y o∧Q (o.getD z) H3
section
variable {X:Cx}{o e f:Expr}{apos cpos:Pos}{td ty tx:TE}
theorem uL(hu:X.A.units+1<cLine)(ho:PE X o td)(he:PE X e ty)(hf:PE X f tx)(m:M2 X o "get" apos e f cpos):PE X (.Call (.Attribute o "get" apos) [e,f] [] cpos) (wX td ty tx):=by
 intro pins s σ H Q I h
 refine wpAny_Call_method m.base m.few m.line PySem.F.plainAttrs_dict PySem.F.slot_dict_get PySem.F.type_dict_get (thn (ho pins s σ H _ I h) fun u s1 ⟨x,H1,I1,rx,a,ex,d,q1⟩=>?_)
 subst ex
 obtain rfl:u=Value.ref a:=rx
 obtain⟨t1,t2,_⟩:=tG I1 d
 refine⟨t1,t2,?_⟩
 rw[m.trees]
 refine Calls.callWith_builtin rfl (Calls.evalArgs_plain (Calls.spliced_cons (thn (he pins s1 σ H1 _ I1 q1) fun iv s2 ⟨y,H2,I2,ry,q2⟩ =>
  Calls.spliced_cons (thn (hf pins s2 σ H2 _ I2 q2) fun fv s3 ⟨z,H3,I3,rz,ov,g,q3⟩=>Calls.spliced_nil ?_))))
 exact xl hu I3 g ry rz fun w' s4 I4 rw'=>⟨_,H3,I4,rw',q3⟩
end
section
variable {X:Cx}{pins:List (Addr×Obj)}{σ:St}{H:Hp}{s:Shared}{a:Addr}{kvs:List (Key×V)}{A:Around}{E:Value→Shared→Prop}
end
section
variable {X:Cx}{pins:List (Addr×Obj)}{σ:St}{H:Hp}{s:Shared}{a:Addr}{y:V}{u:Value}{A:Around}{E:Value→Shared→Prop}
end
end L2
namespace L2
open PySem PySem.Spec PyProof.Rows
section
variable {X:Cx}
end
section
variable {κ:Type}[DecidableEq κ]
theorem tj{kvs:List (κ×V)}{k:κ}(h:cA kvs k=none): ¬ k∈kvs.map (·.1):=by
 intro m
 obtain⟨p,hp,e⟩:=List.mem_map.mp m
 have q:(kvs.any fun kv=>decide (kv.1=k))=true:=List.any_eq_true.mpr ⟨p,hp,decide_eq_true e⟩
 rw[dQ,h]at q
 exact absurd q (by simp)
theorem uZ{kvs:List (κ×V)}{k:κ}{v:V}(h:cA kvs k=some v):k∈kvs.map (·.1):=by
 have q:(kvs.any fun kv=>decide (kv.1=k))=true:=by
  rw[dQ,h]
  all_goals rfl
 obtain⟨p,hp,e⟩:=List.any_eq_true.mp q
 exact List.mem_map.mpr ⟨p,hp,of_decide_eq_true e⟩
theorem rh:∀{l:List κ} {k:κ},l.Nodup→¬ k∈l→(l++[k]).Nodup
 | [],k,_,_=>by simp
 | a::r,k,h,hk=>by
   obtain⟨h1,h2⟩:=List.nodup_cons.mp h
   show(a::(r++[k])).Nodup
   refine List.nodup_cons.mpr ⟨fun m=>?_,rh h2 fun m=>hk (List.mem_cons.mpr (Or.inr m))⟩
   rcases List.mem_append.mp m with q|q
   ·exact h1 q
   ·exact hk (List.mem_cons.mpr (Or.inl (List.mem_singleton.mp q).symm))
theorem vR{kvs:List (κ×V)}{k:κ}(v:V)(hn:(kvs.map (·.1)).Nodup)(h:cA kvs k=none):((d5 kvs k v).map (·.1)).Nodup:=by
 rw[oy v h,List.map_append]
 exact rh hn (tj h)
theorem mC{p:κ×V}{r:List (κ×V)}{k:κ}(e:p.1=k):cn (p::r) k=cn r k:=by
 unfold cn
 rw[List.filter_cons,if_neg (by simp[e])]
theorem lL{p:κ×V}{r:List (κ×V)}{k:κ}(e : ¬ p.1=k):cn (p::r) k=p::cn r k:=by
 unfold cn
 rw[List.filter_cons,if_pos (by simp[e])]
theorem me{kvs:List (κ×V)}{k:κ}{p:κ×V}(h:p∈cn kvs k):p∈kvs:=(List.mem_filter.mp h).1
theorem li:∀{kvs:List (κ×V)} {k:κ},(kvs.map (·.1)).Nodup→((cn kvs k).map (·.1)).Nodup
 | [],_,_=>List.nodup_nil
 | p::r,k,h=>by
   have h:(p.1::r.map (·.1)).Nodup:=h
   obtain⟨h1,h2⟩:=List.nodup_cons.mp h
   by_cases e:p.1=k
   ·rw[mC e]
    exact li h2
   ·rw[lL e]
    show(p.1::(cn r k).map (·.1)).Nodup
    refine List.nodup_cons.mpr ⟨fun m=>h1 ?_,li h2⟩
    obtain⟨q,hq,eq⟩:=List.mem_map.mp m
    exact List.mem_map.mpr ⟨q,me hq,eq⟩
end
end L2
namespace L2
open PySem PySem.Spec PyProof.Rows
section
variable {prog:Program}{w:World}{A:Around}{E:Value→Shared→Prop}{s:Shared}{T:String}{r d:Addr}{n:Nat}{P:Nat→Value→Prop}{OK:Heap→Prop}
end
section
variable {X:Cx}
end
end L2
namespace Ring
open PySem L2
section
variable {p f n:Nat}{m m' : Held}{hs:List (Nat×Held)}{ds:List Deed}{t:Tie}
end
section
variable {H H' : Hp}{a b:Addr}{p f n:Nat}{m m' : Held}{es:List Ent}{t:Tie}
end
section
variable {n f:Nat}{d q:Addr}
end
section
variable {C p d q L:Addr}{H H' H2:Hp}{n:Nat}{hs:List (Nat×Held)}{ds:List Deed}{xs ys:List V}{x:V}{r:Nat×Held}
end
section
variable {K:PySem.W.Frag}
end
end Ring
namespace L2
open PySem PySem.Spec PyProof.Rows
section
variable {X:Cx}{pins:List (Addr×Obj)}{σ:St}{H:Hp}{s:Shared}
end
section
variable {X:Cx}{tg:Expr}
end
end L2
namespace RM
variable {N:Net}
theorem qa{S:Nat→Bool}{f:Nat→Bool}{k u v:Nat}(h:∀ j,j<k→f (N.a j)=f (N.b j))(c:N.Conn S k u v):f u=f v:=by
 induction c with
 | refl=>rfl
 | fwd _ hj _ ih=>exact ih.trans (h _ hj)
 | bwd _ hj _ ih=>exact ih.trans (h _ hj).symm
theorem rN{f:Nat→Bool}(h:∀ j,j<N.n→f (N.a j)=f (N.b j))(x:Nat):f x=f (N.lab N.n x) :=
 qa h (bJ N.n x _ (cR N.n x).symm)
theorem pD{r:Nat}(h:N.lab N.n r=r):N.trail N.n r=0:=cZ (fun k hk=>eJ N.n r k hk) fun x _=>by
 rw[iP N.n (Nat.le_refl _),h]
 cases decide (r=x)<;>rfl
theorem ur(f:Nat→Bool):∀ n,cnt f n≤n:=fun n=>by have:=iu f n;(first|lia|omega)
end RM
namespace Ring
open PySem L2
section
variable {p:Nat}{ts:List Tie}{g:GoodWeb p ts}
end
section
variable (p:Nat)(ts:List Tie)(g:GoodWeb p ts)
end
section
variable {p:Nat}{ts:List Tie}{g:GoodWeb p ts}{H H' : Hp}{kvs:List (Key×V)}{zs:List Nat}
end
end Ring
namespace L2
open PySem PySem.Spec PyProof.Rows
end L2
namespace Ring
end Ring
namespace Ring
open PySem L2
end Ring
namespace Ring
open PySem L2
end Ring
namespace Ring
open PySem L2
end Ring
namespace L2
open PySem PySem.Spec PyProof.Rows
section
variable {X:Cx}
end
section
variable {X:Cx}{elt iter tg:Expr}{ifs:List Expr}{scope:Scope}{xc:Str}{pos:Pos}{own frees:List Str}{js:List Nat}{wi:TI}{g:TG}{tt:TT}{te:TE}
end
end L2
namespace L2
open PySem PySem.Spec PyProof.Rows
section
variable {X:Cx}{E:XK}{pins:List (Addr×Obj)}{σ:St}{H:Hp}{s:Shared}{N:List Str}{scope:Scope}{C:Addr}{fp:List Addr}
end
section
variable {X:Cx}{EE:XK}{elt iter tg:Expr}{ifs:List Expr}{scope:Scope}{pos:Pos}{own frees:List Str}{js:List Nat}{wi:TI}{g:TG}{tt:TT}{te:TE}
end
end L2
namespace L2
open PySem PySem.Spec PyProof.Rows
section
variable {X:Cx}
end
end L2
namespace Ring
open PySem L2
end Ring
namespace L2
open PySem PySem.Spec PyProof.Rows
theorem sg{K:PySem.W.Frag}{a:Addr}{xs:List V}{g:TG}{tb:TS}{D:Ends}{σ:St}{H:Hp}(Pv:Nat→St→Hp→Prop)(h0:Pv 0 σ H)(hl:∀ i σ H,i≤xs.length→Pv i σ H→SqT K H a xs)
 (hs:∀ i x T σ H,xs[i]?=some x→Pv i σ H→H T=none→g (.ref T) σ (upd H T (.tup [.int (i:Int),x])) fun σ2 H2=>tb { D with nx:=Pv (i+1),ct:=Pv (i+1),bk:=D.nx} σ2 H2) (hd:∀ σ H,Pv xs.length σ H→D.nx σ H) :
 ∃ W:Nat→Nat→St→Hp→Prop,(∃ m,W 0 m σ H)∧∀ i m σ H,W i m σ H→
   ((rF K a).stop i H∧D.nx σ H)∨((rF K a).go i H∧∃ N:St→Hp→Prop,(∀ σ' H',N σ' H'→∃ m',m'<m∧W (i+1) m' σ' H')∧∀ x H',(rF K a).yld i H x H'→g x σ H' fun σ2 H2=>tb { D with nx:=N,ct:=N,bk:=D.nx} σ2 H2):=by
 refine⟨fun i m σ H=>m=xs.length-i∧i≤xs.length∧Pv i σ H,⟨xs.length,by simp,Nat.zero_le _,h0⟩,?_⟩
 rintro i m σ H ⟨rfl,hi,p⟩
 have q:=hl i σ H hi p
 by_cases hlt:i<xs.length
 ·refine .inr ⟨⟨xs,xs[i],q,by simp[hlt]⟩,Pv (i+1),fun σ' H' p'=>⟨xs.length-(i+1),by(first|lia|omega),rfl,hlt,p'⟩,fun v H' y=>?_⟩
  obtain⟨T,x,rfl,hT,rfl,y1⟩:=y
  exact hs i x T σ _ (y1 xs q) p hT
 ·have e:i=xs.length:=by(first|lia|omega)
  subst e
  exact .inl ⟨⟨xs,q,rfl⟩,hd σ H p⟩
end L2
namespace Ring
open PySem L2
def oV:Option Int→V
 | none=>.non
 | some i=>.int i
abbrev Pr:=Option Int×Option Int
def sel(q:Pr)(u:Bool):Option Int:=if u=true then q.2 else q.1
def ph(R:List Pr)(i:Nat):Pr:=R.getD i (none,none)
def cX(H:Hp)(x:V)(q:Pr):Prop:=∃ b,x = .ref b∧H b=some (.tup [oV q.1,oV q.2])
def jM(H:Hp)(x:V)(R:List Pr):Prop:=∃ b ys,x = .ref b∧H b=some (.tup ys)∧Paired (cX H) ys R
def cI(H:Hp)(b:Addr)(W:List (List Pr)):Prop:=∃ ys,H b=some (.tup ys)∧Paired (jM H) ys W
def Sqr(p:Nat)(W:List (List Pr)):Prop:=W.length=p∧∀ R∈W,R.length=p
theorem cX.same{H H' : Hp}(s:am H H'){x:V}{q:Pr}(h:cX H x q):cX H' x q:=let⟨b,e,z⟩:=h;⟨b,e,s _ _ z⟩
theorem jM.same{H H' : Hp}(s:am H H'){x:V}{R:List Pr}(h:jM H x R):jM H' x R:=let⟨b,ys,e,z,pr⟩:=h;⟨b,ys,e,s _ _ z,Paired.imp' (fun _ _ z=>z.same s) pr⟩
theorem cI.same{H H' : Hp}(s:am H H'){b:Addr}{W:List (List Pr)}(h:cI H b W):cI H' b W:=let⟨ys,z,pr⟩:=h;⟨ys,s _ _ z,Paired.imp' (fun _ _ z=>z.same s) pr⟩
theorem cX.tups{H H' : Hp}(s:cy H H'){x:V}{q:Pr}(h:cX H x q):cX H' x q:=let⟨b,e,z⟩:=h;⟨b,e,s _ _ z⟩
theorem jM.tups{H H' : Hp}(s:cy H H'){x:V}{R:List Pr}(h:jM H x R):jM H' x R:=let⟨b,ys,e,z,pr⟩:=h;⟨b,ys,e,s _ _ z,Paired.imp' (fun _ _ z=>z.tups s) pr⟩
theorem Sqr.row{p:Nat}{W:List (List Pr)}(h:Sqr p W){i:Nat}(hi:i<p):(W.getD i []).length=p:=by
 have hl:i<W.length:=by rw[h.1];exact hi
 rw[List.getD_eq_getElem?_getD]
 simp only[hl,List.getElem?_eq_getElem,Option.getD_some]
 exact h.2 _ (List.getElem_mem hl)
end Ring
namespace L2
open PySem PySem.Spec PyProof.Rows
end L2
namespace RM
variable {N:Net}{m t0:Nat}
def Net.far(N:Net)(t v:Nat):Nat:=if N.a t=v then N.b t else N.a t
def Net.tiesAt(N:Net)(left v:Nat):List Nat:=(List.range N.n).filter fun t=>left.testBit t&&(decide (N.a t=v) || decide (N.b t=v))
theorem aG{left v t:Nat}:t∈N.tiesAt left v↔t<N.n∧left.testBit t=true∧(N.a t=v∨N.b t=v):=by
 unfold Net.tiesAt
 rw[List.mem_filter,List.mem_range,Bool.and_eq_true,Bool.or_eq_true,decide_eq_true_eq,decide_eq_true_eq]
inductive Wk(N:Net)(m t0:Nat):List (Nat×Int)→Nat→Nat→Prop
 | start:Wk N m t0 [(t0,1)] (N.b t0) (m^^^2^t0)
 | next {acc:List (Nat×Int)} {v left t:Nat} (h:Wk N m t0 acc v left) (h0:left≠0) (ht:(N.tiesAt left v)[0]?=some t):Wk N m t0 (acc++[(t,if N.a t=v then 1 else -1)]) (N.far t v) (left^^^2^t)
theorem iT{t v:Nat}(h:N.a t=v∨N.b t=v):(N.a t=v∧N.b t=N.far t v)∨(N.b t=v∧N.a t=N.far t v):=by
 unfold Net.far
 by_cases e:N.a t=v
 ·rw[if_pos e]
  exact .inl ⟨e,rfl⟩
 ·rw[if_neg e]
  rcases h with h|h
  ·exact absurd h e
  ·exact .inr ⟨h,rfl⟩
theorem tM{pre ks:List Nat}{v left:Nat}(h:Way N m pre v ks left)(hz:∀ k,m.testBit k=true→k∈ks):left=0:=by
 apply Nat.eq_of_testBit_eq
 intro k
 rw[h.left_bit,Nat.zero_testBit]
 cases hb:m.testBit k with
 | false=>rfl
 | true=>rw[decide_eq_true (hz k hb)];rfl
theorem mv{pre ks:List Nat}{v left:Nat}(r:N.Ring m)(h:Way N m pre v ks left)(h0:left≠0):v∉pre:=fun hv=>by
 obtain⟨i,hi⟩:=List.getElem?_of_mem hv
 obtain⟨q0,qe,_,qs⟩:=h.closes hi
 rcases r.2.2 _ qs qe with z|z
 ·exact q0 z
 ·refine h0 (tM h fun k hk=>?_)
  rw[← z,Ring.fX]at hk
  exact List.mem_of_mem_drop (of_decide_eq_true hk)
theorem xw(hm:m<2^N.n)(r:N.Ring m)(hb:m.testBit t0=true){acc:List (Nat×Int)}{v left:Nat}(h:Wk N m t0 acc v left):∃ pre,Way N m pre v (acc.map (·.1)) left∧pre[0]?=some (N.a t0):=by
 induction h with
 | start =>
   refine⟨[N.a t0],?_,rfl⟩
   exact(Way.start hm r.2.1 hb).go (by simp) hb (.inl ⟨rfl,rfl⟩)
 | next h h0 ht ih =>
   obtain⟨pre,w,p0⟩:=ih
   have hm2:=aG.mp (List.mem_of_getElem? ht)
   refine⟨_,by rw[List.map_append];exact w.go (mv r w h0) hm2.2.1 (iT hm2.2.2),?_⟩
   rw[List.getElem?_append_left (by have:=(List.getElem?_eq_some_iff.mp p0).1;exact this)]
   exact p0
theorem xE(hm:m<2^N.n)(r:N.Ring m)(hb:m.testBit t0=true){acc:List (Nat×Int)}{v left:Nat}(h:Wk N m t0 acc v left)(h0:left≠0):∃ t,(N.tiesAt left v)[0]?=some t:=by
 obtain⟨pre,w,_⟩:=xw hm r hb h
 obtain⟨t,h1,h2⟩:=w.on (mv r w h0)
 have ht:t<N.n:=bX w.left_lt h1
 have hmem:t∈N.tiesAt left v:=aG.mpr ⟨ht,h1,h2⟩
 cases e:N.tiesAt left v with
 | nil=>rw[e]at hmem;cases hmem
 | cons x l=>exact⟨x,rfl⟩
theorem kf{left t n:Nat}(ht:t<n)(hb:left.testBit t=true):cnt (fun j=>left.testBit j) n=cnt (fun j=>(left^^^2^t).testBit j) n+1 :=
 iW (h:=t) hb ht fun x _=>by
  rw[Nat.testBit_xor,Nat.testBit_two_pow]
  by_cases e:x=t
  ·subst e
   simp[hb]
  ·rw[decide_eq_false e,decide_eq_false (fun z=>e z.symm)]
   simp
theorem lj(hm:m<2^N.n)(hb:m.testBit t0=true){acc:List (Nat×Int)}{v left:Nat}(h:Wk N m t0 acc v left):acc.length+cnt (fun j=>left.testBit j) N.n=cnt (fun j=>m.testBit j) N.n:=by
 induction h with
 | start =>
   have:=kf (bX hm hb) hb
   show 1+_=_
   (first|lia|omega)
 | next h h0 ht ih =>
   have hm2:=aG.mp (List.mem_of_getElem? ht)
   have:=kf hm2.1 hm2.2.1
   rw[List.length_append,List.length_singleton]
   (first|lia|omega)
end RM
namespace RM
variable {N:Net}{m t0:Nat}
theorem kh(m x:Nat):(N.tiesAt m x).length=N.dg m x:=by
 unfold Net.tiesAt Net.dg
 rw[jb]
 refine et fun k hk=>?_
 congr 1
 apply Bool.eq_iff_iff.mpr
 rw[Bool.or_eq_true,decide_eq_true_eq,decide_eq_true_eq]
 exact(eY hk).symm
def Net.D2(N:Net)(m:Nat):Prop:=∀ x,x<N.p→N.dg m x=0∨N.dg m x=2
theorem D2.even(h:N.D2 m):N.Even m:=fun x hx=>by
 rw[qu]
 refine decide_eq_false ?_
 rcases h x hx with e|e<;>(first|lia|omega)
theorem xf(C:Nat→Bool):∀ n,sm (fun x=>if C x=true then 2 else 0) n=2*cnt C n:=fun n=>by
 rw[eT]
 have:sm (fun k=>if C k=true then 2 else 0) n=sm (fun k=>(if C k=true then 1 else 0)+(if C k=true then 1 else 0)) n:=dR fun k _=>by
  by_cases h:C k=true
  ·rw[if_pos h,if_pos h]
  ·rw[if_neg h,if_neg h]
 rw[this,j4]
 (first|lia|omega)
theorem vf(hm:m<2^N.n)(r:N.Ring m):N.D2 m:=by
 obtain⟨k0,hk0,hb0,hall⟩:=pX hm r
 generalize hs:N.labs (fun k=>m.testBit k) N.n (N.a k0)=s at hall
 have hC:∀ x,x<N.p→(fun x=>decide (N.labs (fun k=>m.testBit k) N.n x=s)) x=decide (N.labs (fun k=>m.testBit k) N.n x=s):=fun x _=>rfl
 obtain⟨h2,hl,solo⟩:=uo (s:=s) hm r _ hC (fun k hk hb=>decide_eq_true (hall k hk hb))
 generalize hCC:(fun x=>decide (N.labs (fun k=>m.testBit k) N.n x=s))=C at hC h2 hl solo
 have none:∀ x,x<N.p→C x=false→N.dg m x=0:=fun x hx hc=>by
  cases hz:N.dg m x with
  | zero=>rfl
  | succ d =>
    exfalso
    obtain⟨k,hk,hb,hx2⟩:=m6 (N:=N) (m:=m) (x:=x) (by(first|lia|omega))
    rw[hC x hx]at hc
    refine of_decide_eq_false hc ?_
    rcases hx2 with e|e
    ·rw[← e]
     exact hall k hk hb
    ·rw[← e,← gp (S:=fun k=>m.testBit k) hk hb]
     exact hall k hk hb
 have pos:∀ x,x<N.p→C x=true→0<N.dg m x:=fun x hx hc=>by
  cases hz:N.dg m x with
  | succ d=>(first|lia|omega)
  | zero =>
    exfalso
    obtain⟨y,hy,hcy,hne⟩:∃ y,y<N.p∧C y=true∧y≠x:=by
     obtain⟨c,d,h1,h3,h4,h5⟩:=iA h2
     by_cases e:c=x
     ·exact⟨d,h3,h5,by(first|lia|omega)⟩
     ·exact⟨c,by(first|lia|omega),h4,e⟩
    rw[hC x hx]at hc
    rw[hC y hy]at hcy
    exact hne (qV hz (bJ _ _ _ ((of_decide_eq_true hc).trans (of_decide_eq_true hcy).symm)))
 have hle:∀ x,x<N.p→(if C x=true then 2 else 0)≤N.dg m x:=fun x hx=>by
  by_cases hc:C x=true
  ·rw[if_pos hc]
   have h1:=pos x hx hc
   have h3:=nC r.2.1 hx
   (first|lia|omega)
  ·rw[if_neg hc]
   exact Nat.zero_le _
 have he:sm (fun x=>if C x=true then 2 else 0) N.p=sm (fun x=>N.dg m x) N.p:=by
  rw[xf,uk,hl]
 intro x hx
 have:=vY hle he x hx
 by_cases hc:C x=true
 ·rw[if_pos hc]at this
  exact .inr this.symm
 ·rw[if_neg hc]at this
  exact .inl this.symm
theorem wf(hm:m<2^N.n)(hb:m.testBit t0=true){acc:List (Nat×Int)}{v left:Nat}(h:Wk N m t0 acc v left):∀ x,N.bd (m^^^left) x=(decide (N.a t0=x)^^decide (v=x)):=by
 induction h with
 | start =>
   intro x
   rw[← Nat.xor_assoc,Nat.xor_self,Nat.zero_xor,fe (bX hm hb)]
   rfl
 | @next acc v left t h h0 ht ih =>
   intro x
   have hm2:=aG.mp (List.mem_of_getElem? ht)
   rw[← Nat.xor_assoc,di,ih x,fe hm2.1]
   unfold Net.inc
   rcases iT hm2.2.2 with⟨e1,e2⟩|⟨e1,e2⟩
   ·rw[e1,e2]
    cases decide (N.a t0=x)<;>cases decide (v=x)<;>cases decide (N.far t v=x)<;>rfl
   ·rw[e1,e2]
    cases decide (N.a t0=x)<;>cases decide (v=x)<;>cases decide (N.far t v=x)<;>rfl
theorem d8(hb:m.testBit t0=true){acc:List (Nat×Int)}{v left:Nat}(h:Wk N m t0 acc v left):∀ k,left.testBit k=(m.testBit k && !decide (k∈acc.map (·.1))):=by
 induction h with
 | start =>
   intro k
   rw[Nat.testBit_xor,Nat.testBit_two_pow]
   by_cases e:t0=k
   ·subst e
    simp[hb]
   ·have e' : ¬ k=t0:=fun z=>e z.symm
    simp[e,e']
 | @next acc v left t h h0 ht ih =>
   intro k
   have hm2:=aG.mp (List.mem_of_getElem? ht)
   have hin:=hm2.2.1
   rw[ih t]at hin
   rw[Nat.testBit_xor,Nat.testBit_two_pow,ih k,List.map_append]
   by_cases e:t=k
   ·subst e
    rw[hin]
    simp
   ·have e' : ¬ k=t:=fun z=>e z.symm
    have e3:(k∈acc.map (·.1)++[(t,if N.a t=v then(1:Int) else -1)].map (·.1))↔k∈acc.map (·.1):=by simp[e']
    rw[show decide (k∈acc.map (·.1)++[(t,if N.a t=v then(1:Int) else -1)].map (·.1))=decide (k∈acc.map (·.1)) from decide_eq_decide.mpr e3]
    simp[e]
theorem qm(hm:m<2^N.n)(hb:m.testBit t0=true){acc:List (Nat×Int)}{v left:Nat}(h:Wk N m t0 acc v left):left<2^N.n:=cO fun k hk=>by
 rw[d8 hb h k,Bool.and_eq_true]at hk
 exact bX hm hk.1
theorem ni(hm:m<2^N.n)(hb:m.testBit t0=true){acc:List (Nat×Int)}{v left:Nat}(h:Wk N m t0 acc v left):v<N.p∧∃ acc' l y,acc=acc'++[(l,y)]∧l<N.n∧m.testBit l=true∧(N.a l=v∨N.b l=v)∧left.testBit l=false:=by
 have hl:=d8 hb h
 have key:v<N.p∧∃ acc' l y,acc=acc'++[(l,y)]∧l<N.n∧(N.a l=v∨N.b l=v):=by
  cases h with
  | start=>exact⟨N.bl t0 (bX hm hb),[],t0,1,rfl,bX hm hb,.inr rfl⟩
  | @next acc v left t h h0 ht =>
    have hm2:=aG.mp (List.mem_of_getElem? ht)
    rcases iT hm2.2.2 with⟨e1,e2⟩|⟨e1,e2⟩
    ·exact⟨by rw[← e2];exact N.bl t hm2.1,acc,t,_,rfl,hm2.1,.inr e2⟩
    ·exact⟨by rw[← e2];exact N.al t hm2.1,acc,t,_,rfl,hm2.1,.inl e2⟩
 obtain⟨hv,acc',l,y,rfl,h1,h2⟩:=key
 refine⟨hv,acc',l,y,rfl,h1,?_,h2,?_⟩
 ·
  clear hl
  have:∀{acc:List (Nat×Int)} {v left:Nat},Wk N m t0 acc v left→∀ q∈acc,m.testBit q.1=true:=fun {acc v left} h=>by
   induction h with
   | start =>
     intro q hq
     rw[List.mem_singleton.mp hq]
     exact hb
   | @next acc v left t h h0 ht ih =>
     intro q hq
     rcases List.mem_append.mp hq with z|z
     ·exact ih q z
     ·rw[List.mem_singleton.mp z]
      have hm2:=(aG.mp (List.mem_of_getElem? ht)).2.1
      rw[d8 hb h t,Bool.and_eq_true]at hm2
      exact hm2.1
  exact this h (l,y) (by simp)
 ·rw[hl l]
  simp
theorem pR{q:Nat}(hq:∀ k,q.testBit k=true→m.testBit k=true){x k:Nat}(h:k∈N.tiesAt q x):k∈N.tiesAt m x:=by
 obtain⟨h1,h2,h3⟩:=aG.mp h
 exact aG.mpr ⟨h1,hq k h2,h3⟩
theorem vO{l:List Nat}(h:l.length=2):∃ x y,l=[x,y]:=by
 match l,h with
 | [x,y],_=>exact⟨x,y,rfl⟩
theorem jz{x l:Nat}(h:N.D2 m)(hx:x<N.p)(hl:l∈N.tiesAt m x):∃ t,t≠l∧(N.tiesAt m x=[l,t]∨N.tiesAt m x=[t,l]):=by
 have hd:=h x hx
 rw[← kh]at hd
 have h0:(N.tiesAt m x).length≠0:=fun z=>by
  rw[List.length_eq_zero_iff]at z
  rw[z]at hl
  cases hl
 obtain⟨u,w,e⟩:=vO (hd.resolve_left h0)
 have hnd:(N.tiesAt m x).Nodup:=List.Nodup.sublist (List.filter_sublist) List.nodup_range
 rw[e]at hl hnd
 have hne:u≠w:=by simpa using hnd
 rcases List.mem_cons.mp hl with z|z
 ·subst z
  exact⟨w,Ne.symm hne,.inl e⟩
 ·rw[List.mem_singleton]at z
  subst z
  exact⟨u,hne,.inr e⟩
theorem tu{q x l t:Nat}(h:N.D2 m)(hx:x<N.p)(hq:∀ k,q.testBit k=true→m.testBit k=true)(ev:N.Even q)(hl:l∈N.tiesAt m x)(ht:t∈N.tiesAt m x)(hb:q.testBit l=true):q.testBit t=true:=by
 by_cases e:t=l
 ·rw[e]
  exact hb
 obtain⟨u,hu,hp⟩:=jz h hx hl
 have hut:u=t:=by
  rcases hp with z|z <;> · rw[z]at ht;simp at ht;(first|lia|omega)
 subst hut
 have hlm:=aG.mp hl
 have h1:=t6 (N:=N) hlm.1 hb hlm.2.2
 have h3:=nC ev hx
 obtain⟨c,d,hcd,hd,fc,fd⟩:=iA (show 2≤cnt (fun k=>q.testBit k&&N.inc k x) N.n from(by have:N.dg q x=cnt (fun k=>q.testBit k&&N.inc k x) N.n:=rfl;(first|lia|omega)))
 rw[Bool.and_eq_true]at fc fd
 have hcm:c∈N.tiesAt m x:=aG.mpr ⟨by(first|lia|omega),hq c fc.1,(eY (by(first|lia|omega))).mp fc.2⟩
 have hdm:d∈N.tiesAt m x:=aG.mpr ⟨hd,hq d fd.1,(eY hd).mp fd.2⟩
 have hz:c=u∨d=u:=by
  rcases hp with z|z <;> · rw[z]at hcm hdm;simp at hcm hdm;(first|lia|omega)
 rcases hz with z|z
 ·rw[← z]
  exact fc.1
 ·rw[← z]
  exact fd.1
theorem yh(hm:m<2^N.n)(h:N.D2 m)(hb:m.testBit t0=true){acc:List (Nat×Int)}{v left:Nat}(w:Wk N m t0 acc v left)(hv:v≠N.a t0):∃ acc' l y t,acc=acc'++[(l,y)]∧t<N.n∧(N.tiesAt m v=[l,t]∨N.tiesAt m v=[t,l])∧left≠0∧(N.tiesAt left v)[0]?=some t:=by
 obtain⟨hvp,acc',l,y,e,hl,hlm,hlv,hll⟩:=ni hm hb w
 have hlin:l∈N.tiesAt m v:=aG.mpr ⟨hl,hlm,hlv⟩
 obtain⟨t,hne,hp⟩:=jz h hvp hlin
 have htin:t∈N.tiesAt m v:=by rcases hp with z | z<;>rw[z]<;>simp
 have htm:=aG.mp htin
 have hbit:left.testBit t=true:=by
  cases hz:left.testBit t with
  | true=>rfl
  | false =>
    exfalso
    have hbd:=wf hm hb w v
    rw[decide_eq_false (fun z=>hv z.symm),decide_eq_true rfl]at hbd
    have hsub:∀ k,(m^^^left).testBit k=true→m.testBit k=true:=fun k hk=>by
     rw[Nat.testBit_xor,d8 hb w k]at hk
     cases hmk:m.testBit k with
     | true=>rfl
     | false =>
       rw[hmk]at hk
       simp at hk
    have h2:=xH (N:=N) hsub v
    have h3:2≤N.dg (m^^^left) v:=nA (u:=l) (v:=t) (by rw[Nat.testBit_xor,hlm,hll];exact(eY hl).mpr hlv) (by rw[Nat.testBit_xor,htm.2.1,hz];exact(eY htm.1).mpr htm.2.2) (Ne.symm hne) hl htm.1
    have h4:=h v hvp
    rw[qu]at hbd
    have:=of_decide_eq_true hbd
    (first|lia|omega)
 have hmem:t∈N.tiesAt left v:=aG.mpr ⟨htm.1,hbit,htm.2.2⟩
 refine⟨acc',l,y,t,e,htm.1,hp,(fun z=>by rw[z,Nat.zero_testBit]at hbit;cases hbit),?_⟩
 cases hc:N.tiesAt left v with
 | nil=>rw[hc]at hmem;cases hmem
 | cons x r =>
   have hx:x∈N.tiesAt left v:=by rw[hc];exact List.mem_cons_self
   have hxm:x∈N.tiesAt m v:=pR (fun k hk=>by rw[d8 hb w k,Bool.and_eq_true]at hk;exact hk.1) hx
   have hxl:x≠l:=fun z=>by
    have:=(aG.mp hx).2.1
    rw[z,hll]at this
    cases this
   have:x=t:=by rcases hp with z | z <;> · rw[z]at hxm;simp at hxm;(first|lia|omega)
   rw[this]
   rfl
theorem vj{acc:List (Nat×Int)}{v left:Nat}(w:Wk N m t0 acc v left):t0∈acc.map (·.1):=by
 induction w with
 | start=>simp
 | next h h0 ht ih=>rw[List.map_append];exact List.mem_append_left _ ih
theorem qU(hm:m<2^N.n)(h:N.D2 m)(hb:m.testBit t0=true){acc:List (Nat×Int)}{left:Nat}(w:Wk N m t0 acc (N.a t0) left):N.Ring m↔left=0:=by
 constructor
 ·intro r
  have ev:N.Even (m^^^left):=fun x _=>by rw[wf hm hb w x];cases decide (N.a t0=x)<;>rfl
  have hsub:∀ k,(m^^^left).testBit k=true→m.testBit k=true:=fun k hk=>by
   rw[Nat.testBit_xor,d8 hb w k]at hk
   cases hmk:m.testBit k with
   | true=>rfl
   | false =>
     rw[hmk]at hk
     simp at hk
  rcases r.2.2 _ hsub ev with z|z
  ·exfalso
   have h1:(m^^^left).testBit t0=true:=by
    rw[Nat.testBit_xor,d8 hb w t0,hb,decide_eq_true (vj w)]
    rfl
   rw[z,Nat.zero_testBit]at h1
   cases h1
  ·have e2:m^^^(m^^^left)=m^^^m:=by rw[z]
   rw[← Nat.xor_assoc,Nat.xor_self,Nat.zero_xor]at e2
   exact e2
 ·rintro rfl
  refine⟨fun z=>?_,D2.even h,fun q hq ev=>?_⟩
  ·rw[z,Nat.zero_testBit]at hb
   cases hb
  ·have key:∀{acc:List (Nat×Int)} {v left:Nat},Wk N m t0 acc v left→∀ k∈acc.map (·.1),(q.testBit k=true↔q.testBit t0=true):=fun {acc v left} w=>by
    induction w with
    | start =>
      intro k hk
      have:k=t0:=by simpa using hk
      rw[this]
    | @next acc v left t w h0 ht ih =>
      intro k hk
      rw[List.map_append]at hk
      rcases List.mem_append.mp hk with z|z
      ·exact ih k z
      ·have e:k=t:=by simpa using z
       subst e
       obtain⟨hvp,acc',l,y,rfl,hl,hlm,hlv,hll⟩:=ni hm hb w
       have h1:l∈N.tiesAt m v:=aG.mpr ⟨hl,hlm,hlv⟩
       have hkm:=aG.mp (List.mem_of_getElem? ht)
       have h2:k∈N.tiesAt m v:=aG.mpr ⟨hkm.1,by have:=hkm.2.1;rw[d8 hb w k,Bool.and_eq_true]at this;exact this.1,hkm.2.2⟩
       rw[← ih l (by simp)]
       exact⟨fun z=>tu h hvp hq ev h2 h1 z,fun z=>tu h hvp hq ev h1 h2 z⟩
   have hall:∀ k,m.testBit k=true→k∈acc.map (·.1):=fun k hk=>by
    have:=d8 hb w k
    rw[Nat.zero_testBit,hk,Bool.true_and]at this
    cases hd:decide (k∈acc.map (·.1)) with
    | true=>exact of_decide_eq_true hd
    | false=>rw[hd]at this;cases this
   cases h0:q.testBit t0 with
   | false =>
     left
     apply Nat.eq_of_testBit_eq
     intro k
     rw[Nat.zero_testBit]
     cases hk:q.testBit k with
     | false=>rfl
     | true =>
       have:=(key w k (hall k (hq k hk))).mp hk
       rw[h0]at this
       cases this
   | true =>
     right
     apply Nat.eq_of_testBit_eq
     intro k
     cases hk:m.testBit k with
     | true=>exact(key w k (hall k hk)).mpr h0
     | false =>
       cases hk2:q.testBit k with
       | false=>rfl
       | true=>rw[hq k hk2]at hk;cases hk
theorem tI{left n:Nat}(hl:left<2^n):cnt (fun j=>left.testBit j) n=0↔left=0:=by
 constructor
 ·intro h
  apply Classical.byContradiction
  intro h0
  obtain⟨j,hj⟩:=Nat.exists_testBit_of_ne_zero h0
  have:=gM (f:=fun j=>left.testBit j) hj (bX hl hj)
  (first|lia|omega)
 ·rintro rfl
  rw[eT]
  refine(dR fun k _=>?_).trans (jP n)
  rw[if_neg (by rw[Nat.zero_testBit];simp)]
theorem qO(hm:m<2^N.n)(hb:m.testBit t0=true){acc:List (Nat×Int)}{v left:Nat}(h:Wk N m t0 acc v left):acc.length=cnt (fun j=>m.testBit j) N.n↔left=0:=by
 have:=lj hm hb h
 rw[← tI (qm hm hb h)]
 (first|lia|omega)
end RM
namespace Ring
open PySem L2
def PrA(H:Hp)(x:V)(q:Nat×Int):Prop:=∃ b,x = .ref b∧H b=some (.tup [.int (q.1:Int),.int q.2])
def gy(H:Hp)(D:Addr)(acc:List (Nat×Int)):Prop:=∃ xs,H D=some (.lst xs)∧Paired (PrA H) xs acc
theorem PrA.same{H H' : Hp}(s:am H H'){x:V}{q:Nat×Int}(h:PrA H x q):PrA H' x q:=by
 obtain⟨b,e,hb⟩:=h
 exact⟨b,e,s _ _ hb⟩
theorem jA{α β:Type}{F:α→β→Prop}{x:α}{y:β}(h:F x y):∀{l:List α} {r:List β},Paired F l r→Paired F (l++[x]) (r++[y])
 | _,_,.nil=>.cons h .nil
 | _,_,.cons h1 h2=>.cons h1 (jA h h2)
theorem PrA.put{H:Hp}{D:Addr}{xs ys:List V}(hD:H D=some (.lst xs)){x:V}{q:Nat×Int}(h:PrA H x q):PrA (upd H D (.lst ys)) x q:=by
 obtain⟨b,e,hb⟩:=h
 have:b≠D:=fun z=>by
  rw[z,hD]at hb
  cases hb
 exact⟨b,e,by rw[ak this];exact hb⟩
theorem gy.push{H:Hp}{D b:Addr}{acc:List (Nat×Int)}{xs:List V}{q:Nat×Int}(hD:H D=some (.lst xs))(h:Paired (PrA H) xs acc)(hb:H b=some (.tup [.int (q.1:Int),.int q.2])):gy (upd H D (.lst (xs++[.ref b]))) D (acc++[q]) :=
 ⟨xs++[.ref b],ai,jA (PrA.put hD ⟨b,rfl,hb⟩) (Paired.imp' (fun _ _ z=>PrA.put hD z) h)⟩
structure Rows(H0:Hp)(D:Addr)(es:List Addr)(f:Nat→List Nat)(H:Hp):Prop where
 same:am H0 H
 nd:es.Nodup
 ne:D∉es
 fr:∀ b∈es,H0 b=none
 Dn:H0 D=none
 lst:H D=some (.lst (es.map V.ref))
 at_:∀ i b,es[i]?=some b→H b=some (.lst (aJ (f i)))
theorem Rows.go{H0 H H' : Hp}{D:Addr}{es:List Addr}{f:Nat→List Nat}(h:Rows H0 D es f H)(s:am H H'):Rows H0 D es f H' :=
 ⟨h.same.trans s,h.nd,h.ne,h.fr,h.Dn,s _ _ h.lst,fun i b e=>s _ _ (h.at_ i b e)⟩
theorem Rows.push{H0 H:Hp}{D b:Addr}{es:List Addr}{f:Nat→List Nat}{i k:Nat}(h:Rows H0 D es f H)(hb:es[i]?=some b):Rows H0 D es (fun j=>if j=i then f j++[k] else f j) (upd H b (.lst (aJ (f i)++[.int (k:Int)]))):=by
 have hm:=List.mem_of_getElem? hb
 have hne:D≠b:=fun z=>h.ne (z▸hm)
 refine⟨h.same.put (h.fr b hm),h.nd,h.ne,h.fr,h.Dn,by rw[ak hne];exact h.lst,fun j c hc=>?_⟩
 by_cases e:j=i
 ·subst e
  rw[hb]at hc
  cases hc
  rw[ai,if_pos rfl,kz]
 ·have:c≠b:=fun z=>by
   subst z
   obtain⟨h1,h2⟩:=List.getElem?_eq_some_iff.mp hc
   obtain⟨h3,h4⟩:=List.getElem?_eq_some_iff.mp hb
   exact e ((List.getElem_inj h.nd).mp (h2.trans h4.symm))
  rw[ak this,if_neg e]
  exact h.at_ j c hc
theorem Rows.get{H0 H:Hp}{D:Addr}{es:List Addr}{f:Nat→List Nat}{i:Nat}(h:Rows H0 D es f H)(hi:i<es.length):∃ b,(es.map V.ref)[i]?=some (.ref b)∧es[i]?=some b∧H b=some (.lst (aJ (f i))):=by
 have e:es[i]?=some es[i]:=List.getElem?_eq_getElem hi
 exact⟨es[i],by rw[List.getElem?_map,e];rfl,e,h.at_ i _ e⟩
def jx(H0:Hp)(D:Addr)(i:Nat)(acc:List V)(H:Hp):Prop:=∃ es,acc=es.map V.ref∧es.length=i∧Rows H0 D es (fun _=>[]) H
theorem jx.start{H0:Hp}{D:Addr}(hD:H0 D=none):jx H0 D 0 [] (upd H0 D (.lst [])) :=
 ⟨[],rfl,rfl,am.new hD,List.nodup_nil,List.not_mem_nil,fun _ h=>(List.not_mem_nil h).elim,hD,ai,fun i b e=>by cases e⟩
theorem jx.len{H0 H:Hp}{D:Addr}{i:Nat}{acc:List V}(h:jx H0 D i acc H):H D=some (.lst acc)∧acc.length≤i:=by
 obtain⟨es,rfl,e,r⟩:=h
 exact⟨r.lst,by rw[List.length_map];(first|lia|omega)⟩
theorem jx.next{H0 H:Hp}{D b:Addr}{i:Nat}{acc:List V}(h:jx H0 D i acc H)(hb:H b=none):upd H b (.lst []) D=some (.lst acc)∧jx H0 D (i+1) (acc++[.ref b]) (upd (upd H b (.lst [])) D (.lst (acc++[.ref b]))):=by
 obtain⟨es,rfl,e,r⟩:=h
 have hDb:D≠b:=fun z=>by
  have:=r.lst
  rw[z,hb]at this
  cases this
 have hbn:b∉es:=fun hm=>by
  obtain⟨j,hj⟩:=List.getElem?_of_mem hm
  have:=r.at_ j b hj
  rw[hb]at this
  cases this
 have hb0:H0 b=none:=r.same.free hb
 refine⟨by rw[ak hDb];exact r.lst,es++[b],by simp,by simp[e],(r.same.put hb0).put r.Dn,?_,?_,fun c hc=>?_,r.Dn,by rw[ai];simp,fun j c hc=>?_⟩
 ·exact List.nodup_append.mpr ⟨r.nd,by simp,fun x hx y hy=>by rw[List.mem_singleton.mp hy];exact fun z=>hbn (z▸hx)⟩
 ·intro hm
  rcases List.mem_append.mp hm with z|z
  ·exact r.ne z
  ·exact hDb (List.mem_singleton.mp z)
 ·rcases List.mem_append.mp hc with z|z
  ·exact r.fr c z
  ·rw[List.mem_singleton.mp z]
   exact hb0
 ·have hcm:=List.mem_of_getElem? hc
  have hcD:c≠D:=fun z=>by
   rcases List.mem_append.mp hcm with y|y
   ·exact r.ne (z▸y)
   ·exact hDb (z▸(List.mem_singleton.mp y))
  rw[ak hcD]
  rcases Nat.lt_or_ge j es.length with hj|hj
  ·rw[List.getElem?_append_left hj]at hc
   have:c≠b:=fun z=>hbn (z▸List.mem_of_getElem? hc)
   rw[ak this]
   exact r.at_ j c hc
  ·rcases List.mem_append.mp hcm with y|y
   ·have hx:(es++[b])[j]?=some c:=hc
    rw[List.getElem?_append_right hj]at hx
    have:c=b:=by
     have:=List.mem_of_getElem? hx
     exact List.mem_singleton.mp this
    rw[this,ai]
    rfl
   ·rw[List.mem_singleton.mp y,ai]
    rfl
theorem gj{H:Hp}{xs:List V}{p:Nat}{ts:List Tie}{g:GoodWeb p ts}{k:Nat}(h3:Paired (lm H) xs ts)(hk:k<ts.length):∃ c,xs[k]?=some (.ref c)∧H c=some (.tup [.int (((ad p ts g).a k:Nat):Int),.int (((ad p ts g).b k:Nat):Int),.int (cb ts k).2.2]):=by
 have hkx:k<xs.length:=by rw[h3.length];exact hk
 obtain⟨t,ht,c,hc,hct⟩:=Paired.getP h3 (i:=k) (x:=xs[k]) (by simp[hkx])
 have htt:t=cb ts k:=by
  have z:=lR hk
  rw[ht]at z
  exact Option.some.inj z
 refine⟨c,by rw[← hc];simp[hkx],?_⟩
 rw[hct,← wj hk,← vW hk,htt]
 rfl
theorem lU{m:Nat}(h:m≠0):∃ c,(aI (m:Int))[0]?=some c∧m.testBit c=true:=by
 obtain⟨k,hk⟩:=Nat.exists_testBit_of_ne_zero h
 have hm:k∈aI (m:Int):=by
  unfold aI
  refine List.mem_filter.mpr ⟨List.mem_range.mpr (Nat.lt_of_not_le fun z=>?_),by rw[cJ];exact hk⟩
  have:=kO z
  rw[cJ,hk]at this
  cases this
 cases e:aI (m:Int) with
 | nil =>
   rw[e]at hm
   cases hm
 | cons c r =>
   have hc:c∈aI (m:Int):=by rw[e];exact List.mem_cons_self
   unfold aI at hc
   have:=(List.mem_filter.mp hc).2
   rw[cJ]at this
   exact⟨c,rfl,this⟩
section
variable {α:Type}{f:α→Int}{l:List α}{H H2 H3:Hp}{D:Addr}{i:Nat}{k:α}{acc:List V}{v:V}
end
end Ring
namespace RM
variable {N:Net}{row:Nat→Int}
end RM
namespace Ring
open PySem L2
section
variable {H H2 H3:Hp}{D:Addr}{i:Nat}{acc:List V}
end
end Ring
namespace RM
variable {N:Net}{row:Nat→Int}
end RM
namespace RM
variable {N:Net}{row row' : Nat→Int}
theorem su{m t0:Nat}(hm:m<2^N.n)(r:N.Ring m)(hb:m.testBit t0=true):∃ acc v,Wk N m t0 acc v 0:=by
 have key:∀(k:Nat) (acc:List (Nat×Int)) (v left:Nat),Wk N m t0 acc v left→cnt (fun j=>left.testBit j) N.n=k→∃ acc v,Wk N m t0 acc v 0:=by
  intro k
  induction k with
  | zero =>
    intro acc v left h e
    have hl:=lj hm hb h
    rw[e]at hl
    have h0:=(qO hm hb h).mp hl
    subst h0
    exact⟨acc,v,h⟩
  | succ k ih =>
    intro acc v left h e
    by_cases h0:left=0
    ·subst h0
     exact⟨acc,v,h⟩
    ·obtain⟨t,ht⟩:=xE hm r hb h h0
     have h':=Wk.next h h0 ht
     have l1:=lj hm hb h
     have l2:=lj hm hb h'
     rw[List.length_append]at l2
     refine ih _ _ _ h' ?_
     have e1:[((t:Nat),(if N.a t=v then(1:Int) else -1))].length=1:=rfl
     (first|lia|omega)
 exact key _ _ _ _ .start rfl
variable {N' : Net}
end RM
namespace RM
variable {N:Net}{m t0:Nat}
end RM
namespace RM
variable {N N' : Net}
end RM
namespace Ring
open PySem L2
end Ring
namespace RM
variable {N:Net}
end RM
namespace RM
variable {N:Net}
section
variable {even left v:Nat}{pre ks:List Nat}
end
section
variable {m left:Nat}{rs:List Nat}
end
end RM
namespace RM
open Ring (vB rH bz)
variable {N:Net}
theorem rQ{c:Nat}(hc:c<N.n)(hf:N.inF c=false):N.Ring (N.ring c):=by
 refine⟨fun z=>?_,gW hc,fun q hq ev=>?_⟩
 ·have h:=nR hf
  rw[z]at h
  simp at h
 ·have hqn:q<2^N.n:=cO fun k hk=>bX (nz hc) (hq k hk)
  cases qc:q.testBit c with
  | true =>
    refine .inr (uE hqn (nz hc) ev (gW hc) fun d hd hfd=>?_)
    rw[kQ hf hfd]
    by_cases e:c=d
    ·subst e
     simp[qc]
    ·rw[decide_eq_false e]
     cases qd:q.testBit d with
     | false=>rfl
     | true =>
       have:=hq d qd
       rw[kQ hf hfd,decide_eq_false e]at this
       cases this
  | false =>
    refine .inl (cZ (fun k hk=>?_) ev)
    rcases gD (hq k hk) with e|e
    ·subst e
     rw[qc]at hk
     cases hk
    ·exact e
end RM
namespace L2
open PySem PySem.Spec PyProof.Rows
section
variable {X:Cx}
end
section
variable {X:Cx}{tg:Expr}
end
section
variable {X:Cx}
end
end L2
namespace RM
def bW(L:Nat→Int)(f:Nat→Bool):Nat→Int
 | 0=>0
 | n+1=>bW L f n+(if f n=true then L n else 0)
section
variable {L:Nat→Int}
theorem ig{f g:Nat→Bool}:∀{n:Nat},(∀ k,k<n→f k=g k)→bW L f n=bW L g n
 | 0,_=>rfl
 | n+1,h=>by
   unfold bW
   rw[ig fun k hk=>h k (by(first|lia|omega)),h n (by(first|lia|omega))]
theorem jj{f:Nat→Bool}:∀{n:Nat},(∀ k,k<n→f k=false)→bW L f n=0
 | 0,_=>rfl
 | n+1,h=>by
   unfold bW
   rw[jj fun k hk=>h k (by(first|lia|omega)),h n (by(first|lia|omega))]
   simp
theorem oJ{f:Nat→Bool}{a:Nat}:∀{n:Nat},a<n→(∀ k,k<n→f k=decide (k=a))→bW L f n=L a
 | 0,h,_=>by(first|lia|omega)
 | n+1,ha,h=>by
   unfold bW
   by_cases e:a=n
   ·subst e
    rw[jj fun k hk=>by rw[h k (by(first|lia|omega))];exact decide_eq_false (by(first|lia|omega)),h a (by(first|lia|omega)),decide_eq_true rfl]
    simp
   ·rw[oJ (show a<n by(first|lia|omega)) fun k hk=>h k (by(first|lia|omega)),h n (by(first|lia|omega)),decide_eq_false (by(first|lia|omega))]
    simp
theorem je{f g:Nat→Bool}:∀{n:Nat},(∀ k,k<n→0≤L k)→(∀ k,k<n→f k=true→g k=true)→bW L f n≤bW L g n
 | 0,_,_=>Int.le_refl _
 | n+1,hL,h=>by
   unfold bW
   have ih:=je (n:=n) (fun k hk=>hL k (by(first|lia|omega))) fun k hk=>h k (by(first|lia|omega))
   have h0:=hL n (by(first|lia|omega))
   have hn:=h n (by(first|lia|omega))
   cases hf:f n with
   | false=>cases g n<;>simp<;>(first|lia|omega)
   | true=>rw[hn hf];simp;(first|lia|omega)
theorem o7{f g:Nat→Bool}:∀{n:Nat},(∀ k,k<n→0≤L k)→bW L (fun k=>f k^^g k) n≤bW L f n+bW L g n
 | 0,_=>Int.le_refl _
 | n+1,hL=>by
   unfold bW
   have ih:=o7 (f:=f) (g:=g) (n:=n) fun k hk=>hL k (by(first|lia|omega))
   have h0:=hL n (by(first|lia|omega))
   cases f n<;>cases g n<;>simp<;>(first|lia|omega)
theorem kq{f g:Nat→Bool}:∀{n:Nat},(∀ k,k<n→f k=true→g k=false)→bW L (fun k=>f k^^g k) n=bW L f n+bW L g n
 | 0,_=>rfl
 | n+1,h=>by
   unfold bW
   rw[kq (f:=f) (g:=g) (n:=n) fun k hk=>h k (by(first|lia|omega))]
   have hn:=h n (by(first|lia|omega))
   cases hf:f n with
   | false=>cases g n<;>simp<;>(first|lia|omega)
   | true=>rw[hn hf];simp;(first|lia|omega)
theorem kE{k n:Nat}(h:k<n):bW L (fun j=>(2^k).testBit j) n=L k:=oJ h fun j _=>by
 rw[Nat.testBit_two_pow]
 exact decide_eq_decide.mpr eq_comm
end
theorem jk{m n k:Nat}(h:m<2^n)(hb:m.testBit k=true):k<n:=by
 apply Classical.byContradiction
 intro hk
 rw[Nat.testBit_lt_two_pow (Nat.lt_of_lt_of_le h (Nat.pow_le_pow_right (by decide) (by(first|lia|omega))))]at hb
 cases hb
def cd(x:Nat)(s:Bool):Nat:=2*x+s.toNat
theorem wC{x y:Nat}{s t:Bool}(h:cd x s=cd y t):x=y∧s=t:=by
 unfold cd at h
 cases s<;>cases t<;>simp at h ⊢ <;> (first|lia|omega)
def Jn(N:Net)(k v w:Nat):Prop:=(N.a k=v∧N.b k=w)∨(N.b k=v∧N.a k=w)
theorem Jn.lt{N:Net}{k v w:Nat}(hk:k<N.n)(h:Jn N k v w):w<N.p:=by
 rcases h with⟨_,rfl⟩|⟨_,rfl⟩
 ·exact N.bl k hk
 ·exact N.al k hk
inductive Wl(N:Net)(L:Nat→Int)(m u:Nat):List Nat→Nat→Bool→Int→Nat→Prop
 | nil:Wl N L m u [] u false 0 0
 | go {pre:List Nat} {v w k e:Nat} {s:Bool} {z:Int} (h:Wl N L m u pre v s z e) (hk:k<N.n) (hj:Jn N k v w):Wl N L m u (pre++[cd v s]) w (s^^m.testBit k) (z+L k) (e^^^2^k)
def Wy(N:Net)(L:Nat→Int)(m u x:Nat)(s:Bool)(z:Int):Prop:=∃ pre e,Wl N L m u pre x s z e
section
variable {N:Net}{L:Nat→Int}{m u:Nat}
theorem Wy.nil:Wy N L m u u false 0:=⟨_,_,.nil⟩
theorem Wy.go{v w k:Nat}{s:Bool}{z:Int}(h:Wy N L m u v s z)(hk:k<N.n)(hj:Jn N k v w):Wy N L m u w (s^^m.testBit k) (z+L k):=let⟨_,_,h⟩:=h;⟨_,_,h.go hk hj⟩
theorem ir(hL:∀ k,k<N.n→0≤L k)(hu:u<N.p){pre:List Nat}{v e:Nat}{s:Bool}{z:Int}(h:Wl N L m u pre v s z e):
 v<N.p∧e<2^N.n∧(∀ x,N.bd e x=(decide (u=x)^^decide (v=x)))∧N.par e m=s∧bW L (fun k=>e.testBit k) N.n≤z∧0≤z:=by
 induction h with
 | nil =>
   refine⟨hu,Nat.two_pow_pos _,fun x=>?_,iN m,?_,Int.le_refl _⟩
   ·rw[iQ]
    cases decide (u=x)<;>rfl
   ·rw[jj fun k _=>Nat.zero_testBit k]
    exact Int.le_refl _
 | @go pre v w k e s z h hk hj ih =>
   obtain⟨i1,i2,i3,i4,i5,i6⟩:=ih
   have h0:=hL k hk
   refine⟨hj.lt hk,Nat.xor_lt_two_pow i2 (Nat.pow_lt_pow_right (by decide) hk),fun x=>?_,?_,?_,by(first|lia|omega)⟩
   ·rw[di,i3,fe hk]
    unfold Net.inc
    rcases hj with⟨rfl,rfl⟩|⟨rfl,rfl⟩
    ·cases decide (u=x)<;>cases decide (N.a k=x)<;>cases decide (N.b k=x)<;>rfl
    ·cases decide (u=x)<;>cases decide (N.a k=x)<;>cases decide (N.b k=x)<;>rfl
   ·rw[jS,i4,qZ hk]
   ·have:=o7 (L:=L) (f:=fun j=>e.testBit j) (g:=fun j=>(2^k).testBit j) hL
    rw[kE hk]at this
    rw[ig (g:=fun j=>e.testBit j^^(2^k).testBit j) fun j _=>Nat.testBit_xor ..]
    (first|lia|omega)
theorem wQ(hL:∀ k,k<N.n→0≤L k){pre:List Nat}{v e:Nat}{s:Bool}{z:Int}(h:Wl N L m u pre v s z e):∀ i c,(pre++[cd v s])[i]?=some c→∃ v' s' z' e',Wl N L m u ((pre++[cd v s]).take i) v' s' z' e'∧cd v' s' = c∧z'≤z:=by
 induction h with
 | nil =>
   intro i c hc
   cases i with
   | zero=>exact⟨u,false,0,0,.nil,Option.some.inj hc,Int.le_refl _⟩
   | succ i=>cases hc
 | @go pre v w k e s z h hk hj ih =>
   intro i c hc
   have h0:=hL k hk
   by_cases hi:i<(pre++[cd v s]).length
   ·rw[List.getElem?_append_left hi]at hc
    obtain⟨v',s',z',e',w',ec,hz⟩:=ih i c hc
    exact⟨v',s',z',e',by rw[List.take_append_of_le_length (Nat.le_of_lt hi)];exact w',ec,by(first|lia|omega)⟩
   ·have hl:=(List.getElem?_eq_some_iff.mp hc).1
    rw[List.length_append]at hl
    have e1:i=(pre++[cd v s]).length:=by
     have:([cd w (s^^m.testBit k)]:List Nat).length=1:=rfl
     (first|lia|omega)
    subst e1
    rw[List.getElem?_append_right (Nat.le_refl _),Nat.sub_self]at hc
    exact⟨w,_,_,_,by rw[List.take_left' rfl];exact h.go hk hj,Option.some.inj hc,Int.le_refl _⟩
theorem uq(hL:∀ k,k<N.n→0≤L k){pre:List Nat}{v e:Nat}{s:Bool}{z:Int}(h:Wl N L m u pre v s z e):∃ pre' z' e',Wl N L m u pre' v s z' e'∧z'≤z∧(pre'++[cd v s]).Nodup:=by
 induction h with
 | nil=>exact⟨_,_,_,.nil,Int.le_refl _,by simp⟩
 | @go pre v w k e s z h hk hj ih =>
   obtain⟨pre',z',e',w',hz,nd⟩:=ih
   have h0:=hL k hk
   by_cases hc:cd w (s^^m.testBit k)∈pre'++[cd v s]
   ·obtain⟨i,hi⟩:=List.getElem?_of_mem hc
    obtain⟨v2,s2,z2,e2,w2,ec,hz2⟩:=wQ hL w' i _ hi
    obtain⟨rfl,rfl⟩:=wC ec
    refine⟨_,_,_,w2,by(first|lia|omega),?_⟩
    have:(pre'++[cd v s]).take i++[cd v2 (s^^m.testBit k)]=(pre'++[cd v s]).take (i+1):=by
     rw[List.take_add_one,hi]
     rfl
    rw[this]
    exact List.Sublist.nodup (List.take_sublist _ _) nd
   ·exact⟨_,_,_,w'.go hk hj,by(first|lia|omega),List.nodup_append.mpr ⟨nd,by simp,fun x hx y hy=>by
     have e:y=cd w (s^^m.testBit k):=by simpa using hy
     rw[e]
     rintro rfl
     exact hc hx⟩⟩
theorem uH(hu:u<N.p){pre:List Nat}{v e:Nat}{s:Bool}{z:Int}(h:Wl N L m u pre v s z e):v<N.p∧∀ c∈pre++[cd v s],c<2*N.p:=by
 have one:∀{x:Nat} {s:Bool},x<N.p→cd x s<2*N.p:=fun {x s} hx=>by
  unfold cd
  have:s.toNat≤1:=by cases s<;>decide
  (first|lia|omega)
 induction h with
 | nil=>exact⟨hu,fun c hc=>by
  have e:c=cd u false:=by simpa using hc
  rw[e]
  exact one hu⟩
 | @go pre v w k e s z h hk hj ih =>
   have hw:=hj.lt hk
   refine⟨hw,fun c hc=>?_⟩
   rcases List.mem_append.mp hc with hc|hc
   ·exact ih.2 c hc
   ·have e:c=cd w (s^^m.testBit k):=by simpa using hc
    rw[e]
    exact one hw
def lB(N:Net)(L:Nat→Int)(m u x:Nat)(s:Bool):Option Int→Prop
 | none=>∀ z,¬ Wy N L m u x s z
 | some d=>Wy N L m u x s d∧∀ z,Wy N L m u x s z→d≤z
theorem lB.uniq{x:Nat}{s:Bool}{o o' : Option Int}(h:lB N L m u x s o)(h' : lB N L m u x s o'):o=o':=by
 cases o with
 | none=>cases o' with
   | none=>rfl
   | some d=>exact absurd h'.1 (h d)
 | some d=>cases o' with
   | none=>exact absurd h.1 (h' d)
   | some d' =>
     have h1:=h.2 _ h'.1
     have h2:=h'.2 _ h.1
     rw[show d=d' by(first|lia|omega)]
def Snd(N:Net)(L:Nat→Int)(m u:Nat)(F:Nat→Bool→Option Int):Prop:=∀ x s d,F x s=some d→Wy N L m u x s d
def Cov(N:Net)(L:Nat→Int)(m u t:Nat)(F:Nat→Bool→Option Int):Prop:=∀ pre v s z e,Wl N L m u pre v s z e→pre.length≤t→∃ d,F v s=some d∧d≤z
def en(N:Net)(q:Nat):Nat:=if q/2%2=0 then N.a (q/4) else N.b (q/4)
def ot(N:Net)(q:Nat):Nat:=if q/2%2=0 then N.b (q/4) else N.a (q/4)
def od(q:Nat):Bool:=decide (q%2=1)
structure Rl(N:Net)(L:Nat→Int)(m u:Nat)(F0 F:Nat→Bool→Option Int)(q:Nat):Prop where
 snd:Snd N L m u F
 low:∀ x s d,F0 x s=some d→∃ d',F x s=some d'∧d'≤d
 dn:∀ j,j<q→∀ d,F0 (en N j) (od j)=some d→∃ d',F (ot N j) (od j^^m.testBit (j/4))=some d'∧d'≤d+L (j/4)
def iz(F:Nat→Bool→Option Int)(x:Nat)(s:Bool)(d:Int):Nat→Bool→Option Int:=fun y t=>if y=x∧t=s then some d else F y t
def lst:Option Int→Int→Int
 | none,y=>y
 | some x,y=>if y<x then y else x
theorem Rl.start{F:Nat→Bool→Option Int}(h:Snd N L m u F):Rl N L m u F F 0:=⟨h,fun _ _ d hd=>⟨d,hd,Int.le_refl _⟩,fun j hj=>by(first|lia|omega)⟩
theorem Rl.skip{F0 F:Nat→Bool→Option Int}{q:Nat}(h:Rl N L m u F0 F q)(hn:F (en N q) (od q)=none):Rl N L m u F0 F (q+1):=⟨h.snd,h.low,fun j hj d hd=>by
 by_cases e:j=q
 ·subst e
  obtain⟨d',hd',_⟩:=h.low _ _ _ hd
  rw[hn]at hd'
  cases hd'
 ·exact h.dn j (by(first|lia|omega)) d hd⟩
theorem xO{q:Nat}:Jn N (q/4) (en N q) (ot N q):=by
 unfold en ot
 by_cases e:q/2%2=0
 ·rw[if_pos e,if_pos e]
  exact .inl ⟨rfl,rfl⟩
 ·rw[if_neg e,if_neg e]
  exact .inr ⟨rfl,rfl⟩
theorem sI(o:Option Int)(y:Int):lst o y≤y∧∀ x,o=some x→lst o y≤x:=by
 cases o with
 | none=>exact⟨Int.le_refl _,fun x hx=>nomatch hx⟩
 | some x =>
   show(if y<x then y else x)≤y∧∀ x',some x=some x'→(if y<x then y else x)≤x'
   by_cases h:y<x
   ·rw[if_pos h]
    exact⟨Int.le_refl _,fun x' hx=>by have:=Option.some.inj hx;(first|lia|omega)⟩
   ·rw[if_neg h]
    exact⟨by(first|lia|omega),fun x' hx=>by have:=Option.some.inj hx;(first|lia|omega)⟩
theorem tf(o:Option Int)(y:Int):lst o y=y∨o=some (lst o y):=by
 cases o with
 | none=>exact .inl rfl
 | some x =>
   show(if y<x then y else x)=y∨some x=some (if y<x then y else x)
   by_cases h:y<x
   ·rw[if_pos h]
    exact .inl rfl
   ·rw[if_neg h]
    exact .inr rfl
theorem Rl.put{F0 F:Nat→Bool→Option Int}{q:Nat}{d:Int}(h:Rl N L m u F0 F q)(hq:q/4<N.n)(hd:F (en N q) (od q)=some d):Rl N L m u F0 (iz F (ot N q) (od q^^m.testBit (q/4)) (lst (F (ot N q) (od q^^m.testBit (q/4))) (d+L (q/4)))) (q+1):=by
 generalize hx:ot N q=x
 generalize hs:(od q^^m.testBit (q/4))=s
 have l1:=sI (F x s) (d+L (q/4))
 have l2:=tf (F x s) (d+L (q/4))
 generalize lst (F x s) (d+L (q/4))=y at l1 l2
 have low:∀ a t d0,F a t=some d0→∃ d',iz F x s y a t=some d'∧d'≤d0:=fun a t d0 ha=>by
  unfold iz
  by_cases e:a=x∧t=s
  ·rw[if_pos e]
   rw[e.1,e.2]at ha
   exact⟨y,rfl,l1.2 _ ha⟩
  ·rw[if_neg e]
   exact⟨d0,ha,Int.le_refl _⟩
 refine⟨fun a t d0 ha=>?_,fun a t d0 ha=>?_,fun j hj d0 ha=>?_⟩
 ·unfold iz at ha
  by_cases e:a=x∧t=s
  ·rw[if_pos e]at ha
   cases ha
   rw[e.1,e.2]
   rcases l2 with l2|l2
   ·rw[l2,← hx,← hs]
    exact(h.snd _ _ _ hd).go hq xO
   ·exact h.snd _ _ _ l2
  ·rw[if_neg e]at ha
   exact h.snd _ _ _ ha
 ·obtain⟨d1,h1,h2⟩:=h.low _ _ _ ha
  obtain⟨d2,h3,h4⟩:=low _ _ _ h1
  exact⟨d2,h3,by(first|lia|omega)⟩
 ·by_cases e:j=q
  ·subst e
   obtain⟨d1,h1,h2⟩:=h.low _ _ _ ha
   rw[hd]at h1
   cases h1
   rw[hx,hs]
   exact⟨y,if_pos ⟨rfl,rfl⟩,by have:=l1.1;(first|lia|omega)⟩
  ·obtain⟨d1,h1,h2⟩:=h.dn j (by(first|lia|omega)) _ ha
   obtain⟨d2,h3,h4⟩:=low _ _ _ h1
   exact⟨d2,h3,by(first|lia|omega)⟩
theorem Rl.cov{F0 F:Nat→Bool→Option Int}{t:Nat}(h:Rl N L m u F0 F (4*N.n))(c:Cov N L m u t F0):Cov N L m u (t+1) F:=by
 intro pre x s z e wl hl
 cases wl with
 | nil =>
   obtain⟨d,hd,hz⟩:=c _ _ _ _ _ .nil (Nat.zero_le _)
   obtain⟨d',hd',hz'⟩:=h.low _ _ _ hd
   exact⟨d',hd',by(first|lia|omega)⟩
 | @go pre v w k e s z wl hk hj =>
   rw[List.length_append]at hl
   obtain⟨d,hd,hz⟩:=c _ _ _ _ _ wl (by have:([cd v s]:List Nat).length=1:=rfl;(first|lia|omega))
   have hsN:s.toNat=if s=true then 1 else 0:=by cases s<;>rfl
   have fin:∀ j,j<4*N.n→j/4=k→en N j=v→ot N j=x→od j=s→∃ d,F x (s^^m.testBit k)=some d∧d≤z+L k:=by
    intro j hj e1 e2 e3 e4
    obtain⟨d',hd',hz'⟩:=h.dn j hj d (by rw[e2,e4];exact hd)
    rw[e3,e4,e1]at hd'
    rw[e1]at hz'
    exact⟨d',hd',by(first|lia|omega)⟩
   have hs1:s.toNat≤1:=by cases s<;>decide
   have hod:∀ q,q%2=s.toNat→od q=s:=fun q hq=>by
    unfold od
    rw[hq]
    cases s<;>rfl
   rcases hj with⟨e1,e2⟩|⟨e1,e2⟩
   ·have hk4:(4*k+s.toNat)/4=k:=by(first|lia|omega)
    have hk2:(4*k+s.toNat)/2%2=0:=by(first|lia|omega)
    refine fin (4*k+s.toNat) (by(first|lia|omega)) hk4 ?_ ?_ (hod _ (by(first|lia|omega)))
    ·unfold en
     rw[if_pos hk2,hk4]
     exact e1
    ·unfold ot
     rw[if_pos hk2,hk4]
     exact e2
   ·have hk4:(4*k+2+s.toNat)/4=k:=by(first|lia|omega)
    have hk2 : ¬(4*k+2+s.toNat)/2%2=0:=by(first|lia|omega)
    refine fin (4*k+2+s.toNat) (by(first|lia|omega)) hk4 ?_ ?_ (hod _ (by(first|lia|omega)))
    ·unfold en
     rw[if_neg hk2,hk4]
     exact e1
    ·unfold ot
     rw[if_neg hk2,hk4]
     exact e2
theorem Cov.start:Cov N L m u 0 (iz (fun _ _=>none) u false 0):=by
 intro pre v s z e w hl
 cases w with
 | nil=>exact⟨0,if_pos ⟨rfl,rfl⟩,Int.le_refl _⟩
 | go=>rw[List.length_append]at hl;have:∀ x:Nat,([x]:List Nat).length=1:=fun _=>rfl;simp at hl
theorem Snd.start:Snd N L m u (iz (fun _ _=>none) u false 0):=by
 intro x s d h
 unfold iz at h
 by_cases e:x=u∧s=false
 ·rw[if_pos e]at h
  cases h
  rw[e.1,e.2]
  exact .nil
 ·rw[if_neg e]at h
  cases h
theorem ud(hL:∀ k,k<N.n→0≤L k)(hu:u<N.p){F:Nat→Bool→Option Int}(c:Cov N L m u (2*N.p) F)(sn:Snd N L m u F)(x:Nat)(s:Bool):lB N L m u x s (F x s):=by
 have all:∀ z,Wy N L m u x s z→∃ d,F x s=some d∧d≤z:=by
  rintro z ⟨pre,e,w⟩
  obtain⟨pre',z',e',w',hz,nd⟩:=uq hL w
  have hl:=tw nd (uH hu w').2
  rw[List.length_append]at hl
  obtain⟨d,hd,hdz⟩:=c _ _ _ _ _ w' (by(first|lia|omega))
  exact⟨d,hd,by(first|lia|omega)⟩
 cases h:F x s with
 | none =>
   intro z hz
   obtain⟨d,hd,_⟩:=all z hz
   rw[h]at hd
   cases hd
 | some d =>
   refine⟨sn _ _ _ h,fun z hz=>?_⟩
   obtain⟨d',hd',hz'⟩:=all z hz
   rw[h]at hd'
   cases hd'
   exact hz'
theorem km(hL:∀ k,k<N.n→0≤L k)(m:Nat){r:Nat}(hr:N.Ring r)(hm:r<2^N.n):∃ x,x<N.p∧Wy N L m x x (N.par r m) (bW L (fun k=>r.testBit k) N.n):=by
 obtain⟨t0,hb⟩:∃ t0,r.testBit t0=true:=by
  apply Classical.byContradiction
  intro h
  exact hr.1 (Nat.eq_of_testBit_eq fun i=>by
   rw[Nat.zero_testBit]
   cases e:r.testBit i with
   | false=>rfl
   | true=>exact absurd ⟨i,e⟩ h)
 have ht0:t0<N.n:=jk hm hb
 obtain⟨acc,v,w⟩:=su hm hr hb
 have key:∀{acc v left},Wk N r t0 acc v left→(∀ k,left.testBit k=true→r.testBit k=true)∧∃ pre s,Wl N L m (N.a t0) pre v s (bW L (fun k=>(r^^^left).testBit k) N.n) (r^^^left):=by
  intro acc v left w
  induction w with
  | start =>
    have e:r^^^(r^^^2^t0)=2^t0:=by rw[← Nat.xor_assoc,Nat.xor_self,Nat.zero_xor]
    refine⟨fun k hk=>?_,[]++[cd (N.a t0) false],false^^m.testBit t0,?_⟩
    ·rw[Nat.testBit_xor,Nat.testBit_two_pow]at hk
     by_cases e:t0=k
     ·rw[← e];exact hb
     ·rw[decide_eq_false e,Bool.xor_false]at hk
      exact hk
    ·rw[e,kE ht0]
     have:=Wl.go (m:=m) (L:=L) (.nil (u:=N.a t0)) ht0 (.inl ⟨rfl,rfl⟩)
     rwa [Int.zero_add,Nat.zero_xor]at this
  | @next acc v left t w h0 ht ih =>
    obtain⟨sub,pre,s,wl⟩:=ih
    have hm2:=aG.mp (List.mem_of_getElem? ht)
    have htr:=sub t hm2.2.1
    have htn:=jk hm htr
    refine⟨fun k hk=>?_,pre++[cd v s],s^^m.testBit t,?_⟩
    ·rw[Nat.testBit_xor,Nat.testBit_two_pow]at hk
     by_cases e:t=k
     ·rw[← e];exact htr
     ·rw[decide_eq_false e,Bool.xor_false]at hk
      exact sub k hk
    ·have e:r^^^(left^^^2^t)=r^^^left^^^2^t:=by rw[Nat.xor_assoc]
     have hs:bW L (fun k=>(r^^^left^^^2^t).testBit k) N.n=bW L (fun k=>(r^^^left).testBit k) N.n+L t:=by
      rw[ig (g:=fun j=>(r^^^left).testBit j^^(2^t).testBit j) fun j _=>Nat.testBit_xor ..,kq,kE htn]
      intro k _ hk
      rw[Nat.testBit_two_pow]
      refine decide_eq_false fun e=>?_
      subst e
      rw[Nat.testBit_xor,htr,hm2.2.1]at hk
      cases hk
     rw[e,hs]
     exact wl.go htn (iT hm2.2.2)
 obtain⟨_,pre,s,wl⟩:=key w
 rw[Nat.xor_zero]at wl
 have f:=ir hL (N.al t0 ht0) wl
 have hv:N.a t0=v:=by
  have:=f.2.2.1 v
  rw[hr.2.1 v f.1,decide_eq_true (rfl:v=v)]at this
  cases h:decide (N.a t0=v) with
  | true=>exact of_decide_eq_true h
  | false=>rw[h]at this;cases this
 refine⟨N.a t0,N.al t0 ht0,pre,r,?_⟩
 have hs:=f.2.2.2.1
 rw[hs]
 rw[← hv]at wl
 exact wl
theorem qk{m:Nat}:∀(c e:Nat),cnt (fun k=>e.testBit k) N.n=c→e<2^N.n→N.Even e→N.par e m=true→∃ r,N.Ring r∧(∀ k,r.testBit k=true→e.testBit k=true)∧N.par r m=true:=by
 intro c
 induction c using Nat.strongRecOn with
 | _ c ih =>
   intro e hc he ev hp
   by_cases hr:N.Ring e
   ·exact⟨e,hr,fun _ h=>h,hp⟩
   have h0:e≠0:=fun z=>by rw[z,iN]at hp;cases hp
   obtain⟨q,hq,evq,q0,qe⟩:∃ q,(∀ k,q.testBit k=true→e.testBit k=true)∧N.Even q∧q≠0∧q≠e:=by
    apply Classical.byContradiction
    intro h
    refine hr ⟨h0,ev,fun q hq evq=>?_⟩
    apply Classical.byContradiction
    intro h2
    exact h ⟨q,hq,evq,fun z=>h2 (.inl z),fun z=>h2 (.inr z)⟩
   have small:∀ q,(∀ k,q.testBit k=true→e.testBit k=true)→q≠e→cnt (fun k=>q.testBit k) N.n<c:=by
    intro q hq qe
    have h1:=ul (f:=fun k=>q.testBit k) (g:=fun k=>e.testBit k) (n:=N.n) fun k _ h=>hq k h
    have h2:cnt (fun k=>q.testBit k) N.n≠cnt (fun k=>e.testBit k) N.n:=fun h=>qe (Nat.eq_of_testBit_eq fun k=>by
     by_cases hk:k<N.n
     ·have:=uu (f:=fun k=>q.testBit k) (g:=fun k=>e.testBit k) (fun k _ h=>hq k h) h k hk
      cases h3:e.testBit k with
      | true=>exact this h3
      | false=>cases h4:q.testBit k with
        | false=>rfl
        | true=>rw[hq k h4]at h3;cases h3
     ·cases h3:e.testBit k with
      | true=>exact absurd (jk he h3) hk
      | false=>cases h4:q.testBit k with
        | false=>rfl
        | true=>rw[hq k h4]at h3;cases h3)
    (first|lia|omega)
   have lt:∀ q,(∀ k,q.testBit k=true→e.testBit k=true)→q<2^N.n:=fun q hq=>cO fun k hk=>jk he (hq k hk)
   have hq2:∀ k,(e^^^q).testBit k=true→e.testBit k=true:=fun k hk=>by
    rw[Nat.testBit_xor]at hk
    cases h3:e.testBit k with
    | true=>rfl
    | false =>
      cases h4:q.testBit k with
      | false=>rw[h3,h4]at hk;cases hk
      | true=>rw[hq k h4]at h3;cases h3
   have fin:∀ q,(∀ k,q.testBit k=true→e.testBit k=true)→q≠e→N.Even q→N.par q m=true→∃ r,N.Ring r∧(∀ k,r.testBit k=true→e.testBit k=true)∧N.par r m=true:=by
    intro q hq qe evq hpq
    obtain⟨r,h1,h2,h3⟩:=ih _ (small q hq qe) q rfl (lt q hq) evq hpq
    exact⟨r,h1,fun k hk=>hq k (h2 k hk),h3⟩
   cases hpq:N.par q m with
   | true=>exact fin q hq qe evq hpq
   | false =>
     refine fin (e^^^q) hq2 (fun z=>q0 ?_) (Even.xor ev evq) (by rw[jS,hp,hpq];rfl)
     have:e^^^(e^^^q)=e^^^e:=by rw[z]
     rwa [← Nat.xor_assoc,Nat.xor_self,Nat.zero_xor]at this
end
end RM
namespace Ring
open PySem L2
def aP(ts:List Tie)(k:Nat):Int:=(cb ts k).2.2
theorem mG(ts:List Tie)(f:Nat→Bool):∀ n,sB ts f n=RM.bW (aP ts) f n
 | 0=>rfl
 | n+1=>by
   show sB ts f n+_=RM.bW (aP ts) f n+_
   rw[mG ts f n]
   rfl
theorem ku{ts:List Tie}{m:Nat}(hm:m<2^ts.length):fk ts m=RM.bW (aP ts) (fun k=>m.testBit k) ts.length:=by
 rw[sv hm,mG]
theorem gR{p:Nat}{ts:List Tie}(g:GoodWeb p ts):∀ k,k<(ad p ts g).n→0≤aP ts k:=fun k hk=>by
 have:=(g.ties _ (cF hk)).l0
 unfold aP
 (first|lia|omega)
structure FarV(H0:Hp)(D:Addr)(es:List Addr)(F:Nat→Bool→Option Int)(H:Hp):Prop where
 same:am H0 H
 nd:es.Nodup
 ne:D∉es
 fr:∀ b∈es,H0 b=none
 Dn:H0 D=none
 lst:H D=some (.lst (es.map V.ref))
 at_:∀ i b,es[i]?=some b→H b=some (.lst [oV (F i false),oV (F i true)])
theorem FarV.go{H0 H H' : Hp}{D:Addr}{es:List Addr}{F:Nat→Bool→Option Int}(h:FarV H0 D es F H)(s:am H H'):FarV H0 D es F H' :=
 ⟨h.same.trans s,h.nd,h.ne,h.fr,h.Dn,s _ _ h.lst,fun i b e=>s _ _ (h.at_ i b e)⟩
theorem qg(F:Nat→Bool→Option Int)(i:Nat)(s:Bool):([oV (F i false),oV (F i true)]:List V)[s.toNat]?=some (oV (F i s)):=by
 cases s<;>rfl
theorem vH(F:Nat→Bool→Option Int)(i:Nat)(s:Bool)(d:Int):([oV (F i false),oV (F i true)]:List V).set s.toNat (.int d)=[oV (RM.iz F i s d i false),oV (RM.iz F i s d i true)]:=by
 unfold RM.iz
 cases s with
 | false =>
   rw[if_pos ⟨rfl,rfl⟩,if_neg (fun z=>by cases z.2)]
   rfl
 | true =>
   rw[if_neg (fun z=>by cases z.2),if_pos ⟨rfl,rfl⟩]
   rfl
theorem qw{F:Nat→Bool→Option Int}{i j:Nat}{s t:Bool}{d:Int}(h:j≠i):RM.iz F i s d j t=F j t:=if_neg fun z=>h z.1
theorem FarV.put{H0 H:Hp}{D b:Addr}{es:List Addr}{F:Nat→Bool→Option Int}{i:Nat}(h:FarV H0 D es F H)(hb:es[i]?=some b)(s:Bool)(d:Int):FarV H0 D es (RM.iz F i s d) (upd H b (.lst (([oV (F i false),oV (F i true)]:List V).set s.toNat (.int d)))):=by
 have hm:=List.mem_of_getElem? hb
 have hne:D≠b:=fun z=>h.ne (z▸hm)
 refine⟨h.same.put (h.fr b hm),h.nd,h.ne,h.fr,h.Dn,by rw[ak hne];exact h.lst,fun j c hc=>?_⟩
 by_cases e:j=i
 ·subst e
  rw[hb]at hc
  cases hc
  rw[ai,vH]
 ·have:c≠b:=fun z=>by
   subst z
   obtain⟨h1,h2⟩:=List.getElem?_eq_some_iff.mp hc
   obtain⟨h3,h4⟩:=List.getElem?_eq_some_iff.mp hb
   exact e ((List.getElem_inj h.nd).mp (h2.trans h4.symm))
  rw[ak this,qw e,qw e]
  exact h.at_ j c hc
theorem FarV.get{H0 H:Hp}{D:Addr}{es:List Addr}{F:Nat→Bool→Option Int}{i:Nat}(h:FarV H0 D es F H)(hi:i<es.length):∃ b,(es.map V.ref)[i]?=some (.ref b)∧es[i]?=some b∧H b=some (.lst [oV (F i false),oV (F i true)]):=by
 have e:es[i]?=some es[i]:=List.getElem?_eq_getElem hi
 exact⟨es[i],by rw[List.getElem?_map,e];rfl,e,h.at_ i _ e⟩
theorem FarV.off{H0 H:Hp}{D L:Addr}{es:List Addr}{F:Nat→Bool→Option Int}(h:FarV H0 D es F H)(hL:H L=none):L∉es:=fun z=>by
 obtain⟨j,hj⟩:=List.getElem?_of_mem z
 have:=h.at_ j L hj
 rw[hL]at this
 cases this
def mT(H0:Hp)(D:Addr)(i:Nat)(acc:List V)(H:Hp):Prop:=∃ es,acc=es.map V.ref∧es.length=i∧FarV H0 D es (fun _ _=>none) H
theorem mT.start{H0:Hp}{D:Addr}(hD:H0 D=none):mT H0 D 0 [] (upd H0 D (.lst [])) :=
 ⟨[],rfl,rfl,am.new hD,List.nodup_nil,List.not_mem_nil,fun _ h=>(List.not_mem_nil h).elim,hD,ai,fun i b e=>by cases e⟩
theorem mT.len{H0 H:Hp}{D:Addr}{i:Nat}{acc:List V}(h:mT H0 D i acc H):H D=some (.lst acc)∧acc.length≤i:=by
 obtain⟨es,rfl,e,r⟩:=h
 exact⟨r.lst,by rw[List.length_map];(first|lia|omega)⟩
theorem mT.next{H0 H:Hp}{D b:Addr}{i:Nat}{acc:List V}(h:mT H0 D i acc H)(hb:H b=none):upd H b (.lst [.non,.non]) D=some (.lst acc)∧mT H0 D (i+1) (acc++[.ref b]) (upd (upd H b (.lst [.non,.non])) D (.lst (acc++[.ref b]))):=by
 obtain⟨es,rfl,e,r⟩:=h
 have hDb:D≠b:=fun z=>by
  have:=r.lst
  rw[z,hb]at this
  cases this
 have hbn:b∉es:=r.off hb
 have hb0:H0 b=none:=r.same.free hb
 refine⟨by rw[ak hDb];exact r.lst,es++[b],by simp,by simp[e],(r.same.put hb0).put r.Dn,?_,?_,fun c hc=>?_,r.Dn,by rw[ai];simp,fun j c hc=>?_⟩
 ·exact List.nodup_append.mpr ⟨r.nd,by simp,fun x hx y hy=>by rw[List.mem_singleton.mp hy];exact fun z=>hbn (z▸hx)⟩
 ·intro hm
  rcases List.mem_append.mp hm with z|z
  ·exact r.ne z
  ·exact hDb (List.mem_singleton.mp z)
 ·rcases List.mem_append.mp hc with z|z
  ·exact r.fr c z
  ·rw[List.mem_singleton.mp z]
   exact hb0
 ·have hcD:c≠D:=fun z=>by
   subst z
   rcases List.mem_append.mp (List.mem_of_getElem? hc) with z|z
   ·exact r.ne z
   ·exact hDb (List.mem_singleton.mp z)
  rw[ak hcD]
  by_cases ec:c=b
  ·rw[ec,ai]
   rfl
  ·rw[ak ec]
   by_cases hj:j<es.length
   ·rw[List.getElem?_append_left hj]at hc
    exact r.at_ j c hc
   ·rw[List.getElem?_append_right (by(first|lia|omega))]at hc
    have:=List.mem_of_getElem? hc
    exact absurd (List.mem_singleton.mp this) ec
def e7(F:Nat→Bool→Option Int)(p:Nat):List Pr:=(List.range p).map fun i=>(F i false,F i true)
theorem uR{F:Nat→Bool→Option Int}{p x:Nat}(h:x<p)(s:Bool):sel (ph (e7 F p) x) s=F x s:=by
 unfold ph e7
 rw[List.getD_eq_getElem?_getD,List.getElem?_map,List.getElem?_range h]
 cases s<;>rfl
theorem o4(F:Nat→Bool→Option Int)(i:Nat):e7 F (i+1)=e7 F i++[(F i false,F i true)]:=by
 unfold e7
 rw[List.range_succ,List.map_append]
 rfl
theorem jZ(F:Nat→Bool→Option Int)(i:Nat):(e7 F i).length=i:=by
 unfold e7
 rw[List.length_map,List.length_range]
end Ring
namespace RM
variable {N:Net}{L:Nat→Int}{m u:Nat}
theorem Rl.put'{F0 F:Nat→Bool→Option Int}{q k x y:Nat}{s:Bool}{d:Int}(h:Rl N L m u F0 F q)(e4:q/4=k)(e1:en N q=x)(e2:ot N q=y)(e3:od q=s)(hk:k<N.n)(hd:F x s=some d):
 Rl N L m u F0 (iz F y (s^^m.testBit k) (lst (F y (s^^m.testBit k)) (d+L k))) (q+1):=by
 subst e4 e1 e2 e3
 exact h.put hk hd
theorem vc{k j n:Nat}(hj:j<2)(hn:n<2):(4*k+2*j+n)/4=k∧od (4*k+2*j+n)=decide (n=1)∧en N (4*k+2*j+n)=(if j=0 then N.a k else N.b k)∧ot N (4*k+2*j+n)=(if j=0 then N.b k else N.a k):=by
 have h1:(4*k+2*j+n)/4=k:=by(first|lia|omega)
 have h2:(4*k+2*j+n)/2%2=j:=by(first|lia|omega)
 refine⟨h1,?_,?_,?_⟩
 ·unfold od
  exact decide_eq_decide.mpr (by(first|lia|omega))
 ·unfold en
  rw[h1,h2]
 ·unfold ot
  rw[h1,h2]
end RM
namespace Ring
open PySem L2
variable {p:Nat}{ts:List Tie}{g:GoodWeb p ts}{m:Nat}{W:List (List Pr)}
def qF(p:Nat)(ts:List Tie)(g:GoodWeb p ts)(m:Nat)(W:List (List Pr)):Prop:=∀ i,i<p→∀ x s,x<p→RM.lB (ad p ts g) (aP ts) m i x s (sel (ph (W.getD i []) x) s)
end Ring
namespace L2
open PySem PySem.Spec PyProof.Rows
def dX(q:Str)(pos:Pos):Array Value:=#[.str q 0,rawInt pos.line,rawInt pos.col]
def ia(pos:Pos)(c:Addr):Array Value:=#[rawInt pos.line,rawInt pos.col,.ref c]
def d9(H:Hp)(P c:Addr)(oc:Obj)(q:Str)(pos:Pos):Hp:=upd (upd H c (.frz oc (.own P))) P (.tbl (dX q pos++ia pos c))
def fH(H:Hp)(P c:Addr)(q:Str)(pos:Pos):Hp:=upd (upd H c (.own P)) P (.tbl (dX q pos))
def fQ(oc:Obj)(q:Str):Prop:=∃ vs t,oc.data = .fields vs∧vs[1]?=some (.str q t)
theorem fQ.rec{h:Heap}{c:Addr}{oc:Obj}{q:Str}(x:fQ oc q)(e:h.get? c=some oc):h.CodeRec (.ref c) q :=
 let⟨vs,t,e1,e2⟩:=x
 ⟨c,oc,vs,t,rfl,e,e1,e2⟩
theorem w4{P:Program}{w:World}{H:Hp}{h:Heap}{a:Addr}{q:Str}{pos:Pos}(x:aV P w H h a (.tbl (dX q pos))):
 h.get? a=some (PySem.W.tabObj #[])∨∃ c oc,h.get? a=some (PySem.W.tabObj (ia pos c))∧H c=some (.own a)∧h.get? c=some oc∧fQ oc q:=by
 obtain⟨ps,e,f⟩:=x
 rcases f with⟨_,f|⟨c,e1,e2,c',oc,vs,tq,hc,ho,hd,hv⟩⟩|⟨q',l,k,f,z⟩
 ·subst f;exact .inl e
 ·cases hc
  subst e1
  exact .inr ⟨c,oc,e,e2,ho,vs,tq,hd,hv⟩
 ·have:=congrArg Array.size f
  rw[Array.size_append,z]at this
  exact absurd this (by simp[dX])
theorem sX{P:Program}{w:World}{H:Hp}{h:Heap}{a c:Addr}{q:Str}{pos:Pos}(x:aV P w H h a (.tbl (dX q pos++ia pos c))):h.get? a=some (PySem.W.tabObj (ia pos c)):=by
 obtain⟨ps,e,f⟩:=x
 rcases f with⟨f,_⟩|⟨q',l,k,f,z⟩
 ·rw[Array.size_append]at f
  exact absurd f (by simp[dX,ia])
 ·have e2:=congrArg (fun a=>a.toList.drop 3) f
  simp only[Array.toList_append,dX,ia,List.cons_append,List.nil_append,List.drop_succ_cons,List.drop_zero]at e2
  have e3:ps=ia pos c:=by
   apply Array.toList_inj.mp
   exact e2.symm
  rw[← e3]
  exact e
abbrev qG(X:Cx)(params:Arguments)(body:Expr)(scope:Scope)(c:Addr)(ctv:Value):FuncData :=
 PySem.W.kla_fn "<lambda>" (X.env.qual ++ "<lambda>") params body scope (bY X.env.cells scope.names []) ((X.mg "__name__").getD .none) (.ref c) ctv
abbrev dH(X:Cx)(params:Arguments)(body:Expr)(scope:Scope)(c:Addr)(ctv:Value):Obj :=
 { cls:=.type "function",data:=.func (qG X params body scope c ctv)}
section
variable {X:Cx}{pins:List (Addr×Obj)}{σ:St}{H H2:Hp}{s:Shared}{params:Arguments}{body:Expr}{scope:Scope}{pos:Pos}{own frees:List Str}{js:List Nat}{c P:Addr}
theorem uP{Q:Value→Shared→Prop}{E:Value→Shared→Prop}
 (I:Inv X pins σ H s) (T:CompText X scope own frees js) (hcode:X.env.code = .ref c) (hK:PySem.W.codeHdIn X.K c P=true) (hP:H P=some (.tbl (dX (X.env.qual ++ "<lambda>") pos)))
 (hdef:defaultsOf params X.env=([],[]))
 (h:∀ f c' oc ctv s',(H c' = none∨H c' = some (.own P))→c'≠P→fQ oc (X.env.qual ++ "<lambda>")→Inv X ((f,dH X params body scope c' ctv)::pins) σ (d9 H P c' oc (X.env.qual ++ "<lambda>") pos) s'→Q (.ref f) s') :
 wpAny (model X.prog X.w) X.A (eval (.Lambda params body scope pos) X.env) Q E s:=by
 have hx0:=w4 (show aV X.prog X.w H s.heap P (.tbl (dX (X.env.qual ++ "<lambda>") pos)) from I.hok P _ hP)
 have C:PySem.W.CodeHd s.heap c P:=PySem.W.codeHd_of_K I.kIn hK
 have hg:=I.mod.glob.keeps I.bk
 have neP:∀ b o,X.base.get? b=some o→b≠P:=fun b o q z=>by
  have:=(I.bs b o q).2
  rw[z,hP]at this;cases this
 have hgP:mainGlobals≠P:=by
  obtain⟨o,es,ep,q,_⟩:=I.mod.glob
  exact neP _ o q
 have hb:s.heap.BuiltinsAt X.mg P:=by
  obtain⟨bm,ob,b1,b2,b3,b4,b5,b6⟩:=I.mod.bmain
  refine⟨bm,ob,b1,b2,fun z=>?_,neP _ _ b3,I.bk _ _ b3,b4,b5,b6⟩
  obtain⟨o,es,ep,q,hd,_⟩:=I.mod.glob
  rw[z,q]at b3;cases b3;rw[hd]at b6;cases b6
 have hcl:=hV (dw I T)
 have fin:∀(f c' : Addr) (oc:Obj) (ctv:Value) (h2:Heap) (tk:Nat),(H c' = none∨H c' = some (.own P))→c'≠P→(H c' = none→s.heap.objs.size≤c')→fQ oc (X.env.qual ++ "<lambda>")→(∀ b o,b≠P→s.heap.get? b=some o→h2.get? b=some o)→
  h2.get? P=some (PySem.W.tabObj (ia pos c'))→h2.get? c' = some oc→s.heap.objs.size≤f→f≠c'→h2.get? f=some (dH X params body scope c' ctv)→
  Inv X ((f,dH X params body scope c' ctv)::pins) σ (d9 H P c' oc (X.env.qual ++ "<lambda>") pos) { s with heap:=h2,toks:=tk}:=by
  intro f c' oc ctv h2 tk hc hcP hnew hoc hx hPt hct hf hfc hft
  have nP:∀ b,H b=none→b≠P:=fun b n z=>by rw[z,hP]at n;cases n
  have atO:∀ b u,H b=some u→(∀ y,u≠.own y)→(∀ qs,u≠.tbl qs)→d9 H P c' oc (X.env.qual ++ "<lambda>") pos b=some u:=fun b u e n1 n2=>by
   unfold d9
   rw[ak (fun z=>by rw[z,hP]at e;exact n2 _ (Option.some.inj e).symm),ak (fun z=>by
    rw[z]at e
    rcases hc with q|q
    ·rw[q]at e;cases e
    ·rw[q]at e;exact n1 _ (Option.some.inj e).symm)]
   exact e
  have atN:∀ b,H b=none→(b<s.heap.objs.size∨b≠c')→d9 H P c' oc (X.env.qual ++ "<lambda>") pos b=none:=fun b n hb=>by
   unfold d9
   rw[ak (nP b n),ak (fun z=>by
    rcases hb with q|q
    ·rw[z]at q n;exact absurd (hnew n) (Nat.not_le.mpr q)
    ·exact q z)]
   exact n
  have un:Un X.fs [] H (d9 H P c' oc (X.env.qual ++ "<lambda>") pos) s.heap h2:=by
   refine⟨fun b o q n _ _=>hx b o (nP b n) q,fun b o q n _ _=>⟨o.slots,hx b o (nP b n) q⟩,fun b o q n _=>atN b n (.inl (Heap.lt_size q)),fun b o q _=>?_,fun b xs q=>atO b _ q (by intro y z;cases z) (by intro y z;cases z),fun b o u q=>atO b _ q (by intro y z;cases z) (by intro y z;cases z),fun b ps q=>?_⟩
   ·by_cases hb:b=P
    ·exact⟨_,by rw[hb];exact hPt⟩
    ·exact⟨o,hx b o hb q⟩
   ·by_cases hb:b=P
    ·subst hb
     rw[hP]at q;cases q
     exact⟨ia pos c',ai⟩
    ·refine⟨#[],?_⟩
     unfold d9
     rw[ak hb,ak (fun z=>by
      rw[z]at q
      rcases hc with r|r<;>(rw[r]at q;cases q)),q]
     simp
  have hok:HOk X.prog X.w (d9 H P c' oc (X.env.qual ++ "<lambda>") pos) h2:=fun b u q=>by
   by_cases hbP:b=P
   ·subst hbP
    unfold d9 at q
    rw[ai]at q;cases q
    exact⟨_,hPt,.inr ⟨_,_,_,rfl,rfl⟩⟩
   ·by_cases hbc:b=c'
    ·subst hbc
     unfold d9 at q
     rw[ak hbP,ai]at q;cases q
     exact⟨hct,oc,hct⟩
    ·have q' : H b=some u:=by
      unfold d9 at q
      rw[ak hbP,ak hbc]at q
      exact q
     have ow:∀ d,H d=some (.own b)→d≠P∧d≠c':=fun d qd=>⟨aQ qd hP (by intro z;cases z),fun z=>by
      rw[z]at qd
      rcases hc with r|r
      ·rw[r]at qd;cases qd
      ·rw[r]at qd;cases qd;exact hbP rfl⟩
     refine(I.hok b u q').stay (fun d v hd qd=>hx d v ?_ qd) (fun d qd=>?_) fun d xs qd=>atO d _ qd (by intro y z;cases z) (by intro y z;cases z)
     ·rcases hd with rfl|hd
      ·exact hbP
      ·exact(ow d hd).1
     ·unfold d9
      rw[ak (ow d qd).1,ak (ow d qd).2]
      exact qd
  have J:=I.un (t':=tk) un hok
  have hfH:H f=none:=I.hok.fresh hf
  refine J.pins_of fun p hp=>?_
  rcases List.mem_cons.mp hp with rfl|hp
  ·exact⟨hft,atN _ hfH (.inr hfc),Nat.ne_of_gt (Nat.lt_of_lt_of_le I.lt hf),I.nofs hf,fun v z=>by cases z⟩
  ·exact J.pin p (List.mem_append_right _ hp)
 refine PySem.W.kla_eval hdef ?_
 rcases hx0 with e|⟨c',oc,e,ho,hct,hoc⟩
 ·refine PySem.W.kla_makeFunction (mg:=X.mg) hcl I.ok.glob hg hcode C e trivial rfl hgP hb fun c' ctv h' tk hx hge hlt hrec htb=>?_
  obtain⟨c2,oc,vs,t,e2,hct,hd,hv⟩:=hrec
  cases e2
  have hf:s.heap.objs.size≤h'.objs.size:=Nat.le_trans hge (Nat.le_of_lt hlt)
  have hcP:c'≠P:=Nat.ne_of_gt (Nat.lt_of_lt_of_le (Heap.lt_size e) hge)
  exact h _ c' oc ctv _ (.inl (I.hok.fresh hge)) hcP ⟨vs,t,hd,hv⟩ (fin _ c' oc ctv _ tk (.inl (I.hok.fresh hge)) hcP (fun _=>hge) ⟨vs,t,hd,hv⟩ (fun b o hb q=>Heap.get?_push_of_some _ (hx b o hb q)) (Heap.get?_push_of_some _ htb) (Heap.get?_push_of_some _ hct) hf (Nat.ne_of_gt hlt) (Heap.get?_push_size _ rfl))
 ·have hf:codeAmong pos (ia pos c').toList=some (.ref c'):=codeAmong_snoc [] trivial rfl
  have tr:TriplesOk (ia pos c').toList:=TriplesOk_snoc pos.line pos.col (.ref c') [] trivial
  refine PySem.W.kla_makeFunctionHit (mg:=X.mg) hcl I.ok.glob hg hcode C e tr hf hb fun ctv h' tk hk hsz=>?_
  have hcP:c'≠P:=aQ ho hP (by intro z;cases z)
  have hk' : ∀ b o,s.heap.get? b=some o→(h'.push (dH X params body scope c' ctv)).get? b=some o:=fun b o q=>Heap.get?_push_of_some _ (hk b o q)
  exact h _ c' oc ctv _ (.inr ho) hcP hoc (fin _ c' oc ctv _ tk (.inr ho) hcP (fun z=>by rw[ho]at z;cases z) hoc (fun b o _ q=>hk' b o q) (hk' _ _ e) (hk' _ _ hct) hsz (Nat.ne_of_gt (Nat.lt_of_lt_of_le (Heap.lt_size hct) hsz)) (Heap.get?_push_size _ rfl))
theorem tS{pins0:List (Addr×Obj)}{σ0:St}{s0:Shared}{q:Str}{oc:Obj}(I0:Inv X pins0 σ0 H s0)(hP:H P=some (.tbl (dX q pos)))(hc:H c=none∨H c=some (.own P))(hcP:c≠P)(hoc:fQ oc q)
 (I:Inv X pins σ H2 s) (e1:H2 P=some (.tbl (dX q pos++ia pos c))) (e2:H2 c=some (.frz oc (.own P))):Inv X pins σ (fH H2 P c q pos) s:=by
 have hPt:=sX (show aV X.prog X.w H2 s.heap P (.tbl (dX q pos++ia pos c)) from I.hok P _ e1)
 obtain⟨hct,_⟩:=(show aV X.prog X.w H2 s.heap c (.frz oc (.own P)) from I.hok c _ e2)
 have atN:∀ b,H2 b=none→fH H2 P c q pos b=none:=fun b n=>by
  unfold fH
  rw[ak (fun z=>by rw[z,e1]at n;cases n),ak (fun z=>by rw[z,e2]at n;cases n)]
  exact n
 have atO:∀ b u,b≠P→b≠c→H2 b=some u→fH H2 P c q pos b=some u:=fun b u n1 n2 e=>by
  unfold fH
  rw[ak n1,ak n2]
  exact e
 refine⟨I.ok,I.os,I.bare,⟨I.base.keep,I.base.slot,fun b o z n hx=>atN b (I.base.free b o z n hx),I.base.there,fun b xs z=>?_,fun b o u z=>?_,fun b ps z=>?_⟩,I.loc,I.cell,atN _ I.free,fun x c' z=>atN _ (I.freeC x c' z),fun p hp=>?_,fun b u z=>?_,I.len⟩
 ·have r:=I.base.tups b xs z
  exact atO b _ (aQ r e1 (by intro z;cases z)) (aQ r e2 (by intro z;cases z)) r
 ·have r:=I.base.frzs b o u z
  refine atO b _ (aQ r e1 (by intro z;cases z)) (fun y=>?_) r
  have r0:=I0.base.frzs b o u z
  rw[y]at r0
  rcases hc with hc|hc<;>(rw[hc]at r0;cases r0)
 ·by_cases hb:b=P
  ·subst hb
   obtain⟨more,r0⟩:=I0.base.tbls b ps z
   rw[hP]at r0
   exact⟨more,by unfold fH;rw[ai];exact r0⟩
  ·obtain⟨more,r⟩:=I.base.tbls b ps z
   exact⟨more,atO b _ hb (aQ r e2 (by intro z;cases z)) r⟩
 ·obtain⟨a1,a2,a3⟩:=I.pin p hp
  exact⟨a1,atN _ a2,a3⟩
 ·by_cases hbP:b=P
  ·subst hbP
   unfold fH at z
   rw[ai]at z;cases z
   refine⟨_,hPt,.inl ⟨rfl,.inr ⟨c,rfl,?_,hoc.rec hct⟩⟩⟩
   unfold fH
   rw[ak hcP,ai]
  ·by_cases hbc:b=c
   ·subst hbc
    unfold fH at z
    rw[ak hbP,ai]at z;cases z
    exact⟨oc,hct⟩
   ·have z' : H2 b=some u:=by
     unfold fH at z
     rw[ak hbP,ak hbc]at z
     exact z
    refine(I.hok b u z').stay (fun _ _ _ r=>r) (fun d r=>atO d _ (aQ r e1 (by intro z;cases z)) (aQ r e2 (by intro z;cases z)) r) fun d xs r=>atO d _ (aQ r e1 (by intro z;cases z)) (aQ r e2 (by intro z;cases z)) r
theorem sQ{q:Str}{oc:Obj}(hP:H P=some (.tbl (dX q pos)))(hc:H c=none∨H c=some (.own P))(hcP:c≠P)(S:am (d9 H P c oc q pos) H2):am H (fH H2 P c q pos):=fun b u e=>by
 unfold fH
 by_cases hbP:b=P
 ·subst hbP;rw[ai,← hP];exact e
 ·rw[ak hbP]
  by_cases hbc:b=c
  ·subst hbc
   rw[ai]
   rcases hc with hc|hc
   ·rw[hc]at e;cases e
   ·rw[← hc];exact e
  ·rw[ak hbc]
   refine S b u ?_
   unfold d9
   rw[ak hbP,ak hbc]
   exact e
theorem qP{q:Str}{oc:Obj}{b:Addr}{u:HO}(hP:H P=some (.tbl (dX q pos)))(hc:H c=none∨H c=some (.own P))(e:H b=some u)(n1:∀ y,u≠.own y)(n2:∀ qs,u≠.tbl qs):d9 H P c oc q pos b=some u:=by
 unfold d9
 rw[ak (fun z=>by rw[z,hP]at e;exact n2 _ (Option.some.inj e).symm),ak (fun z=>by
  rw[z]at e
  rcases hc with q|q
  ·rw[q]at e;cases e
  ·rw[q]at e;exact n1 _ (Option.some.inj e).symm)]
 exact e
def oP(X:Cx)(N:List Str)(scope:Scope)(f c:Addr)(A:Around)(s:Shared)(H:Hp):Cx where
 prog:=X.prog
 w:=X.w
 K:=X.K
 mg:=X.mg
 base:=X.base
 A:=A.deeper (PySem.W.envX (X.env.qual ++ "<lambda>") scope s.heap.objs.size f (.ref c) (bY X.env.cells scope.names []))
 N:=N
 s₀:=s
 H₀:=H
 env:=PySem.W.envX (X.env.qual ++ "<lambda>") scope s.heap.objs.size f (.ref c) (bY X.env.cells scope.names [])
 outer:=X.stack
 stack:=PySem.W.envX (X.env.qual ++ "<lambda>") scope s.heap.objs.size f (.ref c) (bY X.env.cells scope.names [])::X.stack
 ex:=[]
 fn:=fun _=>false
 calm:=X.calm
 pn:=[]
 xe:=fun _ _=>False
theorem u9{f:Addr}{A:Around}{x:Str}{v:V}{u:Value}{h1:Heap}{t1:Nat}(I:Inv X pins σ H s)(T:CompText X scope [x] frees js)(hx:scope.names.lookup x=some .local)
 (hfr:A.frames=some X.stack) (hh:A.handled=X.A.handled) (r:aR v u) (old:∀ b o,s.heap.get? b=some o→h1.get? b=some o) (hn:h1.Ns s.heap.objs.size (fun y=>[(x,u)].reverse.lookup y)) :
 Inv (oP X ([x]++frees) scope f c A s H) [] (some v::cN σ js) H { s with heap:=h1,toks:=t1}:=by
 have cells:∀ x c,(bY X.env.cells scope.names []).lookup x=some c→X.env.cells.lookup x=some c:=fun x c h=>by
  rcases eZ h with q|⟨q1,q2⟩
  ·cases q
  ·obtain⟨c',hc'⟩:=dw I T x .free q1 rfl
   rw[hc']at q2
   rw[hc']
   exact congrArg some q2
 refine⟨⟨I.ok.mod,T.kind,rfl,rfl,Nat.le_refl _,fun x y c a b=>I.ok.inj x y c (cells x c a) (cells y c b),fun y hy=>?_,fun x c z _=>(nomatch z),fun hc=>hh.trans (I.ok.hd hc),Around.frames_deeper hfr,.inr ⟨rfl,rfl⟩,fun b hb=>absurd (show b∈([]:List Addr) from hb) (by simp),
  fun b o e=>I.bs b o e,Nat.le_trans I.ok.bsz I.sz,fun b o _ hb=>absurd (show b∈([]:List Addr) from hb) (by simp),fun b hb=>absurd (show b∈([]:List Addr) from hb) (by simp),I.stack,I.stkFree⟩,
  rfl,I.bare,Un.kept old,⟨_,hn,fun i y v' e1 e2 e3=>?_⟩,fun y c e=>?_,I.hok.fresh (Nat.le_refl _),fun y c e=>I.freeC y c (cells y c e),fun p hp=>absurd (show p∈([]:List (Addr×Obj)) from hp) (by simp),I.hok.kept old,?_⟩
 ·have hy:scope.names.lookup y=some .cell∨scope.names.lookup y=some .free:=hy
  rcases hy with hy|hy
  ·exact absurd rfl (T.nocell _ (PySem.mem_of_lookup hy))
  ·exact eP (.inl (PySem.mem_of_lookup hy))
 ·replace e1:([x]++frees)[i]?=some y:=e1
  cases i with
  | zero =>
    have e1:x=y:=by simpa using e1
    have e2:v=v':=by simpa using e2
    subst e1 e2
    exact⟨u,r,.inl ⟨hx,by simp⟩⟩
  | succ i =>
    have e1:frees[i]?=some y:=by simpa using e1
    have e2:(cN σ js)[i]?=some (some v'):=by simpa using e2
    obtain⟨j,hj,hσ⟩:=kB e2
    have hN:X.N[j]?=some y:=by
     have q:=congrArg (fun l=>l[i]?) T.at_
     simp only[List.getElem?_map,hj,e1,Option.map_some]at q
     exact Option.some.inj q
    have hfx:=T.fr y (List.mem_of_getElem? e1)
    have hm:=PySem.mem_of_lookup hfx
    have hk:=T.free (y,.free) hm rfl
    obtain⟨m0,hn0,hl0⟩:=I.loc
    obtain⟨u',r',l⟩:=hl0 j y v' hN hσ (by rcases hk with k|k;exact .inr (.inl k);exact .inr (.inr k))
    refine⟨u',r',.inr ⟨.inr hfx,?_⟩⟩
    rcases l with⟨hkl,_⟩|⟨_,c1,hc,hcell⟩
    ·have hkl:X.env.scope.names.lookup y=some .local:=hkl
     rcases hk with k|k<;>(rw[hkl]at k;cases k)
    ·obtain⟨c',hc'⟩:=eP (cells:=X.env.cells) (names:=scope.names) (cs:=[]) (x:=y) (.inl hm)
     have q:=cells y c' hc'
     rw[hc]at q
     cases q
     exact⟨c1,hc',hcell.keeps old⟩
 ·obtain⟨v',q⟩:=I.cell y c (cells y c e)
  exact⟨v',q.keeps old⟩
 ·show _=([x]++frees).length
  have q:=congrArg List.length T.at_
  rw[List.length_map,List.length_map]at q
  simp only[List.length_cons,List.length_append,List.length_nil]
  unfold cN
  rw[List.length_map]
  (first|lia|omega)
theorem tT{f:Addr}{ctv:Value}{A:Around}{te:TE}{x:Str}{v:V}{u:Value}{Q:VK}{E:Value→Shared→Prop}(I:Inv X pins σ H s)(T:CompText X scope [x] frees js)(hx:scope.names.lookup x=some .local)
 (hfr:A.frames=some X.stack) (hh:A.handled=X.A.handled) (hroom:A.depth<recursionLimit) (hp:(f,dH X params body scope c ctv)∈pins) (hcd:s.heap.CodeRec (.ref c) (X.env.qual ++ "<lambda>"))
 (hb:bindArgs (qG X params body scope c ctv) ⟨[u],[]⟩=pure [(x,u)]) (hco:scope.isCoroutine=false) (hgen:scope.isGenerator=false)
 (he:PE (oP X ([x]++frees) scope f c A s H) body te) (r:aR v u) (h:te (some v::cN σ js) H Q) :
 wpAny (model X.prog X.w) A (call (.ref f) [u]) (fun u' s'=>∃ v' H',Inv X pins σ H' s'∧aR v' u'∧Q v' H') E s:=by
 have hf:=I.pin _ (List.mem_append_right _ hp)
 refine wpAny_call (PySem.W.kla_callFunE hroom hf.1 rfl hco hgen rfl hcd ?_)
 rw[hb]
 refine wpAny_pure (wpAny_newFunctionEnv (fun y hy=>T.nocell y hy) (by intro y hy;have:=List.mem_singleton.mp hy;subst this;exact hx) (fun h₁ hns hsb=>⟨I.nolimit.fresh _ hsb,?_⟩) T.kind)
 show codeAny _ _ (.expr body (PySem.W.envX (X.env.qual ++ "<lambda>") scope s.heap.objs.size f (.ref c) (bY X.env.cells scope.names []))) _ _
 have old:∀ b o,s.heap.get? b=some o→h₁.get? b=some o:=fun b o e=>hsb.extBut b o (Nat.ne_of_lt (Heap.lt_size e)) (Heap.get?_push_of_some _ e)
 have J:=u9 (f:=f) (c:=c) (A:=A) (t1:=s.toks+[(x,u)].length) I T hx hfr hh r old hns
 refine PySem.W.kla_codeExpr (wpAny_mono (he [] _ _ H Q J h) (fun u' s' hq=>?_) fun _ _ z=>z.elim)
 obtain⟨v',H',J',r',q'⟩:=hq
 exact⟨v',H',I.call' (ch:=[]) J'.os J'.base J'.hok J'.bare (fun b z=>absurd z (by simp)),r',q'⟩
end
end L2
namespace HT
theorem dq:∀ a:List Int,bG a a=false
 | []=>rfl
 | x::xs=>by rw[du,if_pos rfl];exact dq xs
theorem ju:∀{a b c:List Int},bG a b=true→bG b c=true→bG a c=true
 | [],[],_,h,_=>by rw[hG]at h;cases h
 | [],_::_,[],_,h=>by rw[dm]at h;cases h
 | [],_::_,_::_,_,_=>rfl
 | _::_,[],_,h,_=>by rw[dm]at h;cases h
 | _::_,_::_,[],_,h=>by rw[dm]at h;cases h
 | x::xs,y::ys,z::zs,h1,h2=>by
   rw[du]at h1 h2 ⊢
   by_cases e1:x=y
   ·rw[if_pos e1]at h1
    by_cases e2:y=z
    ·rw[if_pos e2]at h2
     rw[if_pos (e1.trans e2)]
     exact ju h1 h2
    ·rw[if_neg e2]at h2
     rw[if_neg (fun q=>e2 (e1.symm.trans q)),e1]
     exact h2
   ·rw[if_neg e1]at h1
    have h1:=of_decide_eq_true h1
    by_cases e2:y=z
    ·subst e2
     rw[if_neg e1]
     exact decide_eq_true h1
    ·rw[if_neg e2]at h2
     have h2:=of_decide_eq_true h2
     rw[if_neg (by(first|lia|omega))]
     exact decide_eq_true (by(first|lia|omega))
theorem j6{a b c:List Int}(h1:bG c b=false)(h2:bG a b=true):bG c a=false:=by
 cases q:bG c a with
 | false=>rfl
 | true=>rw[ju q h2]at h1;cases h1
end HT
namespace L2
open PySem PySem.Spec PyProof.Rows
def DIs(h:Heap)(a:Addr)(es:Array DictEntry)(ep:Nat):Prop:=∃ o,h.get? a=some o∧o.ExactDict∧o.data = .dict es ep
def KIt(o:Obj)(a:Addr)(i n ep:Nat):Prop:=o.cls = .type "dict_keyiterator"∧o.data = .fields #[.ref a,.int i 0,.int n 0,.int ep 0]
section
variable {P:Program}{w:World}{A:Around}{E:Value→Shared→Prop}{s:Shared}{a it:Addr}{es:Array DictEntry}{ep i:Nat}{oi:Obj}
theorem sP{Q:Value→Shared→Prop}(hs:(a==sysModules)=false)(g:DIs s.heap a es ep)
 (q:Q (.ref s.heap.objs.size) { s with heap:=s.heap.push { cls:=.type "dict_keyiterator",data:=.fields #[.ref a,.int 0 0,.int es.size 0,.int ep 0]}}):wpAny (model P w) A (pyIter (.ref a)) Q E s:=by
 obtain⟨o,ho,hc,hd⟩:=g
 have hT:s.TypeIs (.ref a) "dict":=⟨o,ho,hc.1⟩
 refine wpAny_pyIter_slot hT PySem.F.slot_dict_iter (wpAny_call_entry PySem.F.slot_dict_iter hT PySem.F.entry_dict_iter ?_ (PySem.F.args_dict_iter_1 _))
 unfold Builtin.«dict.__iter__» Builtin.Dict.dictSlotNone
 refine wpAny_bind (wpAny_bind (wpAny_notOrdered_dict hT ?_))
 show wpAny _ _ (pure (Value.ref a)) _ _ s
 refine wpAny_pure ?_
 show wpAny _ _ (Builtin.Dict.showsAll a >>= _) _ _ s
 unfold Builtin.Dict.showsAll
 rw[hs]
 refine wpAny_bind (wpAny_pure (wpAny_bind (wpAny_dictEntries ho hd (wpAny_bind (wpAny_dictEpoch ho hd ?_)))))
 exact wpAny_bind (wpAny_newObj_type (wpAny_pure ⟨_,rfl,"dict_keyiterator",_,⟨_,Heap.get?_push_size _ rfl,rfl⟩,PySem.F.slot_dict_keyiterator_next.lookup,q⟩))
theorem lc{Q:Option Value→Shared→Prop}(hi:s.heap.get? it=some oi)(g:KIt oi a i es.size ep)(gd:DIs s.heap a es ep)
 (q:match (es[i]?:Option DictEntry) with
  | some e=>∀ h' oi',h'.get? it=some oi'→KIt oi' a (i+1) es.size ep→Heap.SameBut it s.heap h'→Q (some e.key) { s with heap:=h'}
  | none=>A.handled=none∧∀ h',Heap.ExtBut it s.heap h'→Q none { s with heap:=h'}):wpAny (model P w) A (pyNext (.ref it)) Q E s:=by
 obtain⟨hc,hd⟩:=g
 obtain⟨o,ho,hx,hdd⟩:=gd
 have hT:s.TypeIs (.ref it) "dict_keyiterator":=⟨oi,hi,hc⟩
 unfold pyNext
 refine wpAny_bind (wpAny_attempt (wpAny_callSpecial?_slot (name:=Str.ofString "__next__") hT PySem.F.slot_dict_keyiterator_next (wpAny_call_entry PySem.F.slot_dict_keyiterator_next hT PySem.F.entry_dict_keyiterator_next ?_ (PySem.F.args_dict_keyiterator_next_1 _))))
 refine wpAny_bind (wpAny_pure (wpAny_bind (wpAny_bind ?_)))
 first | refine wpAny_bind (wpAny_typeNameOfWhole_keyiter hT (wpAny_pure ?_)) | refine wpAny_bind (wpAny_typeNameOf_keyiter hT (wpAny_pure ?_))
 refine wpAny_bind (wpAny_fieldsOf hi hd ?_)
 have hown:Builtin.Dict_items.ownsTuple "dict_keyiterator"=false:=by decide
 simp only[hown,Bool.false_eq_true,if_false]
 show wpAny _ _ (if(Value.ref a==Value.none)=true then _ else _) _ _ s
 rw[if_neg (show ¬((Value.ref a==Value.none)=true) from Bool.false_ne_true)]
 refine wpAny_bind (wpAny_pure (wpAny_bind (wpAny_dictEntries ho hdd ?_)))
 rw[if_neg (by simp)]
 refine wpAny_bind (wpAny_pure (wpAny_bind (wpAny_dictEpoch ho hdd ?_)))
 rw[if_neg (by simp)]
 refine wpAny_pure ?_
 simp only[show ¬((i:Int)<0) from by(first|lia|omega),if_false,Int.toNat_natCast]
 cases hei:(es[i]?:Option DictEntry) with
 | some e =>
   rw[hei]at q
   refine wpAny_bind ?_
   first | refine wpAny_bind (wpAny_typeNameOfWhole_keyiter hT (wpAny_pure ?_)) | refine wpAny_bind (wpAny_typeNameOf_keyiter hT (wpAny_pure ?_))
   refine wpAny_bind (wpAny_isOneOf_keyiter hT ?_)
   show wpAny _ _ (setField (.ref it) 1 (rawInt ((i:Int)+1)) >>= _) _ _ s
   refine wpAny_bind (wpAny_setField hi hd (by simp) ?_)
   have d1:=Obj.data_mapFields hd (·.setIfInBounds 1 (rawInt ((i:Int)+1)))
   have g1:=Heap.get?_update_self (Obj.mapFields (·.setIfInBounds 1 (rawInt ((i:Int)+1)))) hi (Obj.isFreed_of_fields d1)
   have c1:(Obj.mapFields (·.setIfInBounds 1 (rawInt ((i:Int)+1))) oi).cls = .type "dict_keyiterator":=(Obj.cls_mapFields ..).trans hc
   refine wpAny_bind (wpAny_holding ?_)
   refine wpAny_bind (wpAny_isOneOf_keyiter (s:={ s with heap:=s.heap.update it (Obj.mapFields (·.setIfInBounds 1 (rawInt ((i:Int)+1))))}) ⟨_,g1,c1⟩ ?_)
   show wpAny _ _ (pure e.key) _ _ _
   exact wpAny_pure (wpAny_pure ⟨_,rfl,wpAny_pure (q _ _ g1 ⟨c1,by rw[d1];simp[rawInt]⟩ (Heap.SameBut.update ..))⟩)
 | none =>
   rw[hei]at q
   obtain⟨hh,q⟩:=q
   refine wpAny_bind ?_
   first | refine wpAny_bind (wpAny_typeNameOfWhole_keyiter hT (wpAny_pure ?_)) | refine wpAny_bind (wpAny_typeNameOf_keyiter hT (wpAny_pure ?_))
   show wpAny _ _ (setField (.ref it) 0 .none >>= _) _ _ s
   refine wpAny_bind (wpAny_setField hi hd (by simp) ?_)
   show wpAny _ _ (newExc (.type "StopIteration") [] >>= _) _ _ _
   refine wpAny_bind ?_
   simp only[newExc,newTuple]
   refine wpAny_bind (wpAny_newObj_type (wpAny_bind (m:=firstArgMember _ _) (wpAny_of_eq (a:=Value.none) (by first | rfl | (simp only[firstArgMember];rfl)) (wpAny_newObj_type ?_ (by size_fits)))) (by size_fits))
   simp only[raiseNew]
   refine wpAny_bind (wpAny_handled ?_)
   rw[show A.in1.handled=none from hh]
   refine wpAny_bind (wpAny_pure (wpAny_throw ?_))
   refine wpAny_bind (wpAny_isInstance (T:="StopIteration") (b:=true) ⟨_,Heap.get?_push_size _ rfl,rfl⟩ isSubtype_stop (wpAny_pure ?_))
   exact q _ (((Heap.SameBut.update ..).extBut.push _).push _)
end
end L2
namespace L2
open PySem PySem.Spec PyProof.Rows
section
variable {X:Cx}{pins:List (Addr×Obj)}{σ:St}{H H2:Hp}{s:Shared}
theorem Inv.freezeT{a:Addr}{kvs:List (List Key×V)}{ob:Obj}(I:Inv X pins σ H s)(e:H a=some (.dT kvs))(ho:s.heap.get? a=some ob):Inv X pins σ (upd H a (.frz ob (.dT kvs))) s:=by
 have ne:∀ b,H b=none→b≠a:=fun b h z=>by rw[z,e]at h;cases h
 refine⟨I.ok,I.os,I.bare,⟨I.base.keep,I.base.slot,fun b o q n hx=>?_,I.base.there,fun b xs q=>?_,fun b o u q=>?_,fun b ps q=>?_⟩,I.loc,I.cell,?_,fun x c q=>?_,fun p hp=>?_,fun b u q=>?_,I.len⟩
 ·have z:=I.base.free b o q n hx
  rw[ak (ne b z)]
  exact z
 ·have z:=I.base.tups b xs q
  rw[ak (aQ z e (by intro z;cases z))]
  exact z
 ·have z:=I.base.frzs b o u q
  rw[ak (aQ z e (by intro z;cases z))]
  exact z
 ·obtain⟨more,z⟩:=I.base.tbls b ps q
  exact⟨more,by rw[ak (aQ z e (by intro z;cases z))];exact z⟩
 ·rw[ak (ne _ I.free)]
  exact I.free
 ·rw[ak (ne _ (I.freeC x c q))]
  exact I.freeC x c q
 ·obtain⟨a1,a2,a3⟩:=I.pin p hp
  exact⟨a1,by rw[ak (ne _ a2)];exact a2,a3⟩
 ·by_cases hb:b=a
  ·subst hb
   rw[ai]at q
   cases q
   exact⟨ho,(I.hok b _ e).stay (fun _ _ _ q=>q) (fun c q=>by rw[ak (aQ q e (by intro z;cases z))];exact q) fun c xs q=>by rw[ak (aQ q e (by intro z;cases z))];exact q⟩
  ·rw[ak hb]at q
   exact(I.hok b u q).stay (fun _ _ _ q=>q) (fun c q=>by rw[ak (aQ q e (by intro z;cases z))];exact q) fun c xs q=>by rw[ak (aQ q e (by intro z;cases z))];exact q
theorem Inv.thawT{pins0:List (Addr×Obj)}{σ0:St}{s0:Shared}{a:Addr}{kvs:List (List Key×V)}{ob:Obj}(I0:Inv X pins0 σ0 H s0)(e0:H a=some (.dT kvs))(I:Inv X pins σ H2 s)(e:H2 a=some (.frz ob (.dT kvs))):
 Inv X pins σ (upd H2 a (.dT kvs)) s:=by
 have ne:∀ b,H2 b=none→b≠a:=fun b h z=>by rw[z,e]at h;cases h
 obtain⟨ho,hd⟩:=(show aV X.prog X.w H2 s.heap a (.frz ob (.dT kvs)) from I.hok a _ e)
 refine⟨I.ok,I.os,I.bare,⟨I.base.keep,I.base.slot,fun b o q n hx=>?_,I.base.there,fun b xs q=>?_,fun b o u q=>?_,fun b ps q=>?_⟩,I.loc,I.cell,?_,fun x c q=>?_,fun p hp=>?_,fun b u q=>?_,I.len⟩
 ·have z:=I.base.free b o q n hx
  rw[ak (ne b z)]
  exact z
 ·have z:=I.base.tups b xs q
  rw[ak (aQ z e (by intro z;cases z))]
  exact z
 ·have z:=I.base.frzs b o u q
  rw[ak (fun y=>by
   have z0:=I0.base.frzs b o u q
   rw[y,e0]at z0
   cases z0)]
  exact z
 ·obtain⟨more,z⟩:=I.base.tbls b ps q
  exact⟨more,by rw[ak (aQ z e (by intro z;cases z))];exact z⟩
 ·rw[ak (ne _ I.free)]
  exact I.free
 ·rw[ak (ne _ (I.freeC x c q))]
  exact I.freeC x c q
 ·obtain⟨a1,a2,a3⟩:=I.pin p hp
  exact⟨a1,by rw[ak (ne _ a2)];exact a2,a3⟩
 ·by_cases hb:b=a
  ·subst hb
   rw[ai]at q
   cases q
   exact hd.stay (fun _ _ _ q=>q) (fun c q=>by rw[ak (aQ q e (by intro z;cases z))];exact q) fun c xs q=>by rw[ak (aQ q e (by intro z;cases z))];exact q
  ·rw[ak hb]at q
   exact(I.hok b u q).stay (fun _ _ _ q=>q) (fun c q=>by rw[ak (aQ q e (by intro z;cases z))];exact q) fun c xs q=>by rw[ak (aQ q e (by intro z;cases z))];exact q
def sC(X:Cx)(b:Addr):Prop:=X.s₀.heap.objs.size≤b∧b≠X.env.locals∧b∉X.fs∧(∀ x c,X.env.cells.lookup x=some c→c≠b)∧∀ p∈X.pn,p.1≠b
theorem Inv.ours(I:Inv X pins σ H s){b:Addr}(hb:s.heap.objs.size≤b):sC X b :=
 let⟨_,f1,f2,_,f4,f5⟩:=I.fpOk hb (I.hok.fresh hb)
 ⟨Nat.le_trans I.sz hb,f1,f2,f4,fun p hp=>f5 p (List.mem_append_left _ hp)⟩
theorem Inv.repin{pa pb:List (Addr×Obj)}{b:Addr}{o:Obj}{h' : Heap}{t' : Nat}(I:Inv X pa σ H s)(hb:sC X b)(hin:(b,o)∈pa)(k:∀ c u,c≠b→s.heap.get? c=some u→h'.get? c=some u)
 (hp:∀ p∈pb,(p.1=b∧h'.get? b=some p.2∧∀ v,p.2.data≠.cell v)∨(p∈pa∧p.1≠b)):Inv X pb σ H { s with heap:=h',toks:=t'}:=by
 obtain⟨b1,b2,b3,b4,b5⟩:=hb
 have n:=(I.pin (b,o) (List.mem_append_right _ hin)).2.1
 have J:=(I.pins_of (pins':=pa.filter fun p=>decide (p.1≠b)) fun p hp=>I.pin p (List.mem_append_right _ (List.mem_filter.mp hp).1)).turned (t':=t') k n b2 (.inr b1) b4 (fun p hp=>by
  rcases List.mem_append.mp hp with hp|hp
  ·exact b5 p hp
  ·exact of_decide_eq_true (List.mem_filter.mp hp).2)
 refine J.pins_of fun p h=>?_
 rcases hp p h with⟨e,g,d⟩|⟨m,ne⟩
 ·refine⟨by rw[e];exact g,by rw[e];exact n,by rw[e];exact b2,by rw[e];exact b3,d⟩
 ·exact J.pin p (List.mem_append_right _ (List.mem_filter.mpr ⟨m,decide_eq_true ne⟩))
end
section
variable {X:Cx}{pins:List (Addr×Obj)}{σ:St}{H2:Hp}{params:Arguments}{body:Expr}{scope:Scope}{frees:List Str}{js:List Nat}{x:Str}{te:TE}{f c a It S:Addr}{oc ob:Obj}{ctv:Value}{q:Str}{kvs:List (List Key×V)}
 {es:Array DictEntry} {ep:Nat} {ka:Nat→Addr} {ks:Nat→List Int} {PZ:Addr} {R:Result→Shared→Prop}
structure MinFix(X:Cx)(σ:St)(H2:Hp)(params:Arguments)(body:Expr)(scope:Scope)(frees:List Str)(js:List Nat)(x:Str)(te:TE)(f c a It S:Addr)(oc ob:Obj)(ctv:Value)(kvs:List (List Key×V))(es:Array DictEntry)(ep:Nat)(ka:Nat→Addr)(ks:Nat→List Int)(PZ:Addr):Prop where
 T:CompText X scope [x] frees js
 hx:scope.names.lookup x=some .local
 hh:X.A.handled=none
 dp:X.A.in1.depth<recursionLimit
 un:X.A.in1.units<cLine
 hb:∀ u,bindArgs (qG X params body scope c ctv) ⟨[u],[]⟩=pure [(x,u)]
 co:scope.isCoroutine=false
 gen:scope.isGenerator=false
 he:∀ s H,PE (oP X ([x]++frees) scope f c X.A.in1 s H) body te
 code:fQ oc (X.env.qual ++ "<lambda>")
 hc:H2 c=some (.frz oc (.own PZ))
 ha:H2 a=some (.frz ob (.dT kvs))
 hob:ob.ExactDict∧ob.data = .dict es ep
 key:∀(i:Nat) (e:DictEntry),(es[i]?:Option DictEntry)=some e→e.key = .ref (ka i)
 turn:∀ i H3,i<es.size→am H2 H3→te (some (.ref (ka i))::cN σ js) H3 fun v H4=>am H3 H4∧∃ d,v = .ref d∧SqT X.K H4 d ((ks i).map V.int)
 oS:sC X S
 oI:sC X It
 SI:S≠It
 fS:f≠S
 fI:f≠It
theorem n8{pa:List (Addr×Obj)}{s:Shared}{H3:Hp}{i:Nat}{E:Value→Shared→Prop}(F:MinFix X σ H2 params body scope frees js x te f c a It S oc ob ctv kvs es ep ka ks PZ)(hi:i<es.size)(hs:am H2 H3)(I:Inv X pa σ H3 s)
 (hf:(f,dH X params body scope c ctv)∈pa) :
 wpAny (model X.prog X.w) X.A.in1 (call (.ref f) [.ref (ka i)]) (fun u s'=>∃ d H4,u = .ref d∧Inv X pa σ H4 s'∧am H2 H4∧am H3 H4∧SqT X.K H4 d ((ks i).map V.int)) E s:=by
 obtain⟨hct,_⟩:=(show aV X.prog X.w H3 s.heap c (.frz oc (.own PZ)) from I.hok c _ (hs _ _ F.hc))
 refine wpAny_mono (tT (v:=.ref (ka i)) I F.T F.hx I.ok.frames rfl F.dp hf (F.code.rec hct) (F.hb _) F.co F.gen (F.he s H3) rfl (F.turn i H3 hi hs)) (fun u s' ⟨v,H4,J,r,q1,d,e,q2⟩=>?_) fun _ _ z=>z
 subst e
 cases r
 exact⟨d,H4,rfl,J,fun b o z=>q1 _ _ (hs _ _ z),q1,q2⟩
theorem tD{pa:List (Addr×Obj)}{s:Shared}{H3:Hp}{d d' : Addr}{ns ms:List Int}{A:Around}{E:Value→Shared→Prop}{Q:Value→Shared→Prop}(I:Inv X pa σ H3 s)(h1:SqT X.K H3 d (ns.map V.int))(h2:SqT X.K H3 d' (ms.map V.int))(hu:A.units<cLine)
 (q:Q (.bool (HT.bG ns ms)) s):wpAny (model X.prog X.w) A (richCompare .Lt (.ref d) (.ref d')) Q E s:=by
 obtain⟨its,r1,p1,_⟩:=I.tuple h1
 obtain⟨its2,r2,p2,_⟩:=I.tuple h2
 exact(HT.p8 p1 p2 (gc r1) (gc r2) hu q:wpAny (model X.prog X.w) A (compareOp .Lt (.ref d) (.ref d')) Q E s)
abbrev gN(pins:List (Addr×Obj))(S It f:Addr)(oS oI lo:Obj):List (Addr×Obj):=(S,oS)::(It,oI)::(f,lo)::pins
theorem uK(F:MinFix X σ H2 params body scope frees js x te f c a It S oc ob ctv kvs es ep ka ks PZ)(pI:∀ p∈pins,p.1≠It)(pS:∀ p∈pins,p.1≠S)
 (hR:∀ i s' H3,i<es.size→(∀ j,j<es.size→HT.bG (ks j) (ks i)=false)→am H2 H3→Inv X pins σ H3 s'→R (.ok (.ret (.ref (ka i)))) s') :
 ∀(r j i:Nat) (s:Shared) (H3:Hp) (d:Addr) (n:Nat) (oI:Obj),es.size-j=r→j≤es.size→i<j→am H2 H3→Inv X (gN pins S It f (seqObj "list" #[.ref (ka i),.ref d] n) oI (dH X params body scope c ctv)) σ H3 s→KIt oI a j es.size ep→
  SqT X.K H3 d ((ks i).map V.int)→(∀ j',j'<j→HT.bG (ks j') (ks i)=false)→codeAny (model X.prog X.w) X.A (.builtin "min.loop" ⟨[.ref It,.ref f,.ref S],[]⟩) R s:=by
 have hname:(toString "min" ++ toString ".loop":String)="min.loop":=by decide
 intro r
 induction r with
 | zero =>
   intro j i s H3 d n oI hr hj hij hs I hk hd hbest
   have hjn:j=es.size:=by(first|lia|omega)
   have pinS:=I.pin (S,_) (List.mem_append_right _ (.head _))
   have pinI:=I.pin (It,oI) (List.mem_append_right _ (.tail _ (.head _)))
   obtain⟨hob,_⟩:=(show aV X.prog X.w H3 s.heap a (.frz ob (.dT kvs)) from I.hok a _ (hs _ _ F.ha))
   refine codeAny_builtin PySem.F.entry_min_loop ?_
   rw[Around.under_plainId PySem.F.plain_min_loop _]
   show wpAny _ X.A.in1 (seqItems? (.ref S) >>= _) _ _ _
   refine wpAny_bind (wpAny_seqItems pinS.1 rfl ?_)
   show wpAny _ X.A.in1 (tryCatch (pyNext (.ref It)) _ >>= _) _ _ _
   refine wpAny_bind (wpAny_tryCatch (lc pinI.1 hk ⟨ob,hob,F.hob⟩ ?_))
   rw[hjn,Array.getElem?_eq_none (Nat.le_refl _)]
   refine⟨F.hh,fun h' eb=>?_⟩
   have I1:=I.repin (t':=s.toks) (h':=h') (pb:=(S,seqObj "list" #[.ref (ka i),.ref d] n)::pins) F.oI (List.Mem.tail _ (.head _)) (fun b u hb e=>eb b u hb e) (fun p hp=>by
    rcases List.mem_cons.mp hp with rfl|hp
    ·exact .inr ⟨.head _,F.SI⟩
    ·exact .inr ⟨.tail _ (.tail _ (.tail _ hp)),pI p hp⟩)
   have pinS1:=I1.pin (S,_) (List.mem_append_right _ (.head _))
   show wpAny _ X.A.in1 (updateSeq S (fun _=>#[]) >>= _) _ _ _
   refine wpAny_bind (wpAny_updateSeq pinS1.1 rfl (wpAny_bind (wpAny_letGo (wpAny_pure ?_))))
   have s1:=Heap.SameBut.update h' S (Obj.mapSeq fun _=>(#[]:Array Value))
   exact hR i _ H3 (by(first|lia|omega)) (fun j' hj'=>hbest j' (by(first|lia|omega))) hs (I1.repin (t':=s.toks) (pb:=pins) F.oS (.head _) (fun b u hb e=>(s1.2 b hb).trans e) fun p hp=>.inr ⟨.tail _ hp,pS p hp⟩)
 | succ r ih =>
   intro j i s H3 d n oI hr hj hij hs I hk hd hbest
   have hjn:j<es.size:=by(first|lia|omega)
   have pinS:=I.pin (S,_) (List.mem_append_right _ (.head _))
   have pinI:=I.pin (It,oI) (List.mem_append_right _ (.tail _ (.head _)))
   obtain⟨hob,_⟩:=(show aV X.prog X.w H3 s.heap a (.frz ob (.dT kvs)) from I.hok a _ (hs _ _ F.ha))
   refine codeAny_builtin PySem.F.entry_min_loop ?_
   rw[Around.under_plainId PySem.F.plain_min_loop _]
   show wpAny _ X.A.in1 (seqItems? (.ref S) >>= _) _ _ _
   refine wpAny_bind (wpAny_seqItems pinS.1 rfl ?_)
   show wpAny _ X.A.in1 (tryCatch (pyNext (.ref It)) _ >>= _) _ _ _
   refine wpAny_bind (wpAny_tryCatch (lc pinI.1 hk ⟨ob,hob,F.hob⟩ ?_))
   have hget:(es[j]?:Option DictEntry)=some es[j]:=Array.getElem?_eq_getElem hjn
   rw[hget]
   intro h' oI' hgi hk' sb
   have I1:=I.repin (t':=s.toks) (h':=h') (pb:=gN pins S It f (seqObj "list" #[.ref (ka i),.ref d] n) oI' (dH X params body scope c ctv)) F.oI (List.Mem.tail _ (.head _)) (fun b u hb e=>(sb.2 b hb).trans e) (fun p hp=>by
    rcases List.mem_cons.mp hp with rfl|hp
    ·exact .inr ⟨.head _,F.SI⟩
    ·rcases List.mem_cons.mp hp with rfl|hp
     ·exact .inl ⟨rfl,hgi,fun v z=>by rw[hk'.2]at z;cases z⟩
     ·rcases List.mem_cons.mp hp with rfl|hp
      ·exact .inr ⟨.tail _ (.tail _ (.head _)),F.fI⟩
      ·exact .inr ⟨.tail _ (.tail _ (.tail _ hp)),pI p hp⟩)
   rw[F.key j _ hget]
   show wpAny _ X.A.in1 (tryCatch (holding [.ref (ka j)] (call (.ref f) [.ref (ka j)])) _ >>= _) _ _ _
   refine wpAny_bind (wpAny_tryCatch (wpAny_holding (wpAny_mono (n8 F hjn hs I1 (List.Mem.tail _ (.tail _ (.head _)))) (fun u s2 hu=>?_) fun _ _ z=>z)))
   obtain⟨d2,H4,rfl,I2,hs4,h34,hd2⟩:=hu
   have hdo:SqT X.K H4 d ((ks i).map V.int):=h34.sqT hd
   show wpAny _ X.A.in1 (tryCatch (holding [.ref (ka j),.ref d2] (richCompare .Lt (.ref d2) (.ref d) >>= _)) _ >>= _) _ _ _
   refine wpAny_bind (wpAny_tryCatch (wpAny_holding (wpAny_bind (tD I2 hd2 hdo F.un ?_))))
   refine wpAny_bind (wpAny_holding (wpAny_truthy_bool (wpAny_bind (wpAny_letGo (wpAny_pure ?_)))))
   have pinS2:=I2.pin (S,_) (List.mem_append_right _ (.head _))
   cases hl:HT.bG (ks j) (ks i) with
   | true =>
     have s1:=Heap.SameBut.update s2.heap S (Obj.mapSeq fun _=>(#[.ref (ka j),.ref d2]:Array Value))
     obtain⟨n2,hn2⟩:∃ n2,(s2.heap.update S (Obj.mapSeq fun _=>(#[.ref (ka j),.ref d2]:Array Value))).get? S=some (seqObj "list" #[.ref (ka j),.ref d2] n2):=⟨_,get?_update_seq pinS2.1 fun _=>#[.ref (ka j),.ref d2]⟩
     simp only[if_true]
     refine wpAny_bind (wpAny_updateSeq pinS2.1 rfl (wpAny_bind (wpAny_letGo ?_)))
     rw[hname]
     have I3:=I2.repin (t':=s2.toks) (pb:=gN pins S It f (seqObj "list" #[.ref (ka j),.ref d2] n2) oI' (dH X params body scope c ctv)) F.oS (.head _) (fun b u hb e=>(s1.2 b hb).trans e) (fun p hp=>by
      rcases List.mem_cons.mp hp with rfl|hp
      ·exact .inl ⟨rfl,hn2,fun v z=>by cases z⟩
      ·rcases List.mem_cons.mp hp with rfl|hp
       ·exact .inr ⟨.tail _ (.head _),F.SI.symm⟩
       ·rcases List.mem_cons.mp hp with rfl|hp
        ·exact .inr ⟨.tail _ (.tail _ (.head _)),F.fS⟩
        ·exact .inr ⟨.tail _ (.tail _ (.tail _ hp)),pS p hp⟩)
     refine wpAny_pure ⟨plainId_quiet PySem.F.plain_min_loop _,ih (j+1) j _ H4 d2 n2 oI' (by(first|lia|omega)) (by(first|lia|omega)) (by(first|lia|omega)) hs4 I3 hk' hd2 fun j' hj'=>?_⟩
     by_cases e:j' = j
     ·rw[e];exact HT.dq _
     ·exact HT.j6 (hbest j' (by(first|lia|omega))) hl
   | false =>
     simp only[Bool.false_eq_true,if_false]
     refine wpAny_bind (wpAny_letGo ?_)
     rw[hname]
     refine wpAny_pure ⟨plainId_quiet PySem.F.plain_min_loop _,ih (j+1) i _ H4 d n oI' (by(first|lia|omega)) (by(first|lia|omega)) (by(first|lia|omega)) hs4 I2 hk' hdo fun j' hj'=>?_⟩
     by_cases e:j' = j
     ·rw[e];exact hl
     ·exact hbest j' (by(first|lia|omega))
end
end L2
namespace L2
open PySem PySem.Spec PyProof.Rows
theorem boot_min:bootBuiltins "min"=some (.builtin "min"):=by kernel_rfl
def xF(K:PySem.W.Frag)(P:Addr)(q:Str)(lp:Pos)(ta:TA)(te:TE)(js:List Nat):TE:=fun σ H Q=>ta σ H fun vs H1=>∃ a kvs,∃ ks:Nat→List Int,vs=[.ref a]∧H1 a=some (.dT kvs)∧0<kvs.length∧H1 P=some (.tbl (dX q lp))∧
 (∀ ob H3,(∀ b u,H1 b=some u→b≠a→(∀ y,u≠.own y)→(∀ qs,u≠.tbl qs)→H3 b=some u)→H3 a=some (.frz ob (.dT kvs))→
  ∀(i:Nat) kv b,kvs[i]?=some kv→H3 b=some (.tup (kv.1.map kV))→te (some (.ref b)::cN σ js) H3 fun v H4=>am H3 H4∧∃ d,v = .ref d∧SqT K H4 d ((ks i).map V.int))∧
 ∀(i:Nat) kv b H4,kvs[i]?=some kv→(∀ j,j<kvs.length→HT.bG (ks j) (ks i)=false)→am H1 H4→H4 b=some (.tup (kv.1.map kV))→Q (.ref b) H4
theorem ja{α β:Type}{R:α→β→Prop}:∀{l₁:List α} {l₂:List β},Paired R l₁ l₂→∀{i:Nat} {a:α} {b:β},l₁[i]?=some a→l₂[i]?=some b→R a b
 | _,_,.nil,i,_,_,h,_=>by simp at h
 | _,_,.cons r t,0,_,_,h1,h2=>by
   simp at h1 h2
   subst h1 h2
   exact r
 | _,_,.cons r t,i+1,_,_,h1,h2=>ja t (by simpa using h1) (by simpa using h2)
section
variable {X:Cx}{params:Arguments}{body e:Expr}{scope:Scope}{lp p pos kp:Pos}{frees:List Str}{js:List Nat}{x:Str}{ta:TA}{te:TE}{c0 P:Addr}{k:Nat}
theorem vz(hr:Room (k+2) X.A)(T:CompText X scope [x] frees js)(hx:scope.names.lookup x=some .local)(hg:Gl X "min")(hm:X.mg "min"=none)(hcode:X.env.code = .ref c0)(hK:PySem.W.codeHdIn X.K c0 P=true)(ha:PA X [e] ta)
 (he:∀ f c s H,Room k (oP X ([x]++frees) scope f c X.A.in1 s H).A→PE (oP X ([x]++frees) scope f c X.A.in1 s H) body te)
 (hb:∀ c ctv u,bindArgs (qG X params body scope c ctv) ⟨[u],[]⟩=pure [(x,u)]:=by intro _ _ _;rfl) (hco:scope.isCoroutine=false:=by rfl) (hgen:scope.isGenerator=false:=by rfl)
 (hdef:defaultsOf params X.env=([],[]):=by rfl)
 (hs:backTo pos (starEach [e] X.env)=(false,eval e X.env)::backTo pos (starEach [] X.env):=by rfl) (hs2:(backTo pos (starEach [e] X.env)).any (·.1)=false:=by rfl) :
 PE X (.Call (.Name "min" p) [e] [⟨some (Str.ofString "key"),.Lambda params body scope lp,kp⟩] pos) (xF X.K P (X.env.qual ++ "<lambda>") lp ta te js):=by
 intro pins s σ H Q I h
 refine wpAny_Call_Name_kw (gr I hg hm boot_min (callWith_kw (thn (ha pos pins s σ H _ I h) fun us s1 hq=>?_) hs hs2 rfl rfl))
 obtain⟨vs,H1,I1,r1,a,kvs,ks,rfl,hda,hne,hP,hturn,hfin⟩:=hq
 obtain⟨u,rfl,rx⟩:=iI r1
 cases rx
 refine kws_cons (uP I1 T hcode hK hP hdef fun f c oc ctv s2 hc hcP hoc J=>kws_nil ?_)
 show wpAny _ X.A (call (.builtin "min") [.ref a] [(Str.ofString "key",.ref f)]) _ _ s2
 have hname:(toString "min" ++ toString ".loop":String)="min.loop":=by decide
 have hla:=qP (oc:=oc) hP hc hda (by intro y z;cases z) (by intro y z;cases z)
 obtain⟨hz,hsys,xs,pr,ob,es,ep,hgo,hex,hdat,hes,hnd⟩:=(show aV X.prog X.w (d9 H1 P c oc (X.env.qual ++ "<lambda>") lp) s2.heap a (.dT kvs) from J.hok a _ hla)
 have J2:=J.freezeT hla hgo
 have hsz:es.size=kvs.length:=by
  have:=congrArg List.length hes
  rw[List.length_map,← pr.length]at this
  simpa using this
 have hxs:xs.length=kvs.length:=pr.length.symm
 have hka:∀ i,i<kvs.length→∃ kv y,kvs[i]?=some kv∧xs[i]?=some y∧d9 H1 P c oc (X.env.qual ++ "<lambda>") lp y.2.1=some (.tup (kv.1.map kV)):=fun i hi=>by
  have e1:kvs[i]?=some kvs[i]:=List.getElem?_eq_getElem hi
  have e2:xs[i]?=some (xs[i]'(by(first|lia|omega))):=List.getElem?_eq_getElem _
  exact⟨_,_,e1,e2,(ja pr e1 e2).2.1⟩
 have hPL:d9 H1 P c oc (X.env.qual ++ "<lambda>") lp P=some (.tbl (dX (X.env.qual ++ "<lambda>") lp++ia lp c)):=ai
 have hcL:d9 H1 P c oc (X.env.qual ++ "<lambda>") lp c=some (.frz oc (.own P)):=by unfold d9;rw[ak hcP,ai]
 have ca:c≠a:=aQ hcL hla (by intro z;cases z)
 have pa:P≠a:=aQ hPL hla (by intro z;cases z)
 generalize hH2:upd (d9 H1 P c oc (X.env.qual ++ "<lambda>") lp) a (.frz ob (.dT kvs))=H2 at J2
 have at2:∀ b u,b≠a→d9 H1 P c oc (X.env.qual ++ "<lambda>") lp b=some u→H2 b=some u:=fun b u n e=>by rw[← hH2,ak n];exact e
 have a2:H2 a=some (.frz ob (.dT kvs)):=by rw[← hH2,ai]
 let ka:Nat→Addr:=fun i=>((xs[i]?).map (·.2.1)).getD 0
 have kaOf:∀{i:Nat} {y:List Key×Addr×Value},xs[i]?=some y→ka i=y.2.1:=fun {i y} e=>by show((xs[i]?).map (·.2.1)).getD 0=_;rw[e];rfl
 refine kmk_tree PySem.F.kind_min PySem.F.plain_min PySem.F.entry_min (kmk_min_key _ _) ?_
 show wpAny _ X.A.in1 (Builtin.Builtins.bindParams "min" ["key","default"] 0 ⟨[],[(Str.ofString "key",.ref f)]⟩ >>= _) _ _ s2
 refine wpAny_bind (wpAny_of_eq (show Builtin.Builtins.bindParams "min" ["key","default"] 0 ⟨[],[(Str.ofString "key",.ref f)]⟩=pure [some (.ref f),none] from rfl) ?_)
 refine wpAny_bind (wpAny_pure (wpAny_bind (sP hsys ⟨ob,hgo,hex,hdat⟩ (wpAny_bind (wpAny_newList ?_ (Nat.zero_le _))))))
 rw[hname]
 refine wpAny_pure ⟨plainId_quiet PySem.F.plain_min_loop _,?_⟩
 generalize hoI:({ cls:=.type "dict_keyiterator",data:=.fields #[.ref a,.int 0 0,.int es.size 0,.int ep 0]}:Obj)=oI
 have hkI:KIt oI a 0 es.size ep:=by rw[← hoI];exact⟨rfl,rfl⟩
 have hS:(s2.heap.push oI).objs.size=s2.heap.objs.size+1:=size_push' ..
 have hk2:∀ b o,s2.heap.get? b=some o→((s2.heap.push oI).push (seqObj "list" #[] 0)).get? b=some o:=fun b o e=>Heap.get?_push_of_some _ (Heap.get?_push_of_some _ e)
 have gI:((s2.heap.push oI).push (seqObj "list" #[] 0)).get? s2.heap.objs.size=some oI:=Heap.get?_push_of_some _ (Heap.get?_push_size _ (by rw[← hoI];rfl))
 have gS:((s2.heap.push oI).push (seqObj "list" #[] 0)).get? (s2.heap.push oI).objs.size=some (seqObj "list" #[] 0):=Heap.get?_push_size _ rfl
 have ltp:∀ p∈(f,dH X params body scope c ctv)::pins,p.1<s2.heap.objs.size:=fun p hp=>Heap.lt_size (J2.pin p (List.mem_append_right _ hp)).1
 have oIt:=J2.ours (Nat.le_refl s2.heap.objs.size)
 have oS:=J2.ours (b:=(s2.heap.push oI).objs.size) (by rw[hS];exact Nat.le_succ _)
 have F:MinFix X σ H2 params body scope frees js x te f c a s2.heap.objs.size (s2.heap.push oI).objs.size oc ob ctv kvs es ep ka ks P:=by
  refine⟨T,hx,hr.hd,(hr.in1).depth,(hr.in1).units0,fun u=>hb c ctv u,hco,hgen,fun s H=>he f c s H ((hr.in1).deeper _),hoc,at2 c _ ca hcL,a2,⟨hex,hdat⟩,fun i e hi=>?_,fun i H3 hi hs3=>?_,oS,oIt,by rw[hS];exact Nat.succ_ne_self _,?_,Nat.ne_of_lt (ltp _ (.head _))⟩
  ·have hi' : i<kvs.length:=by rw[← hsz];exact(Array.getElem?_eq_some_iff.mp hi).1
   obtain⟨kv,y,e1,e2,_⟩:=hka i hi'
   have e3:=congrArg (fun l=>l[i]?) hes
   simp only[List.getElem?_map,e2,Option.map_some,Array.getElem?_toList]at e3
   rw[hi]at e3
   have e4:=Option.some.inj e3
   rw[e4,kaOf e2]
   rfl
  ·obtain⟨kv,y,e1,e2,e3⟩:=hka i (by(first|lia|omega))
   refine hturn ob H3 (fun b u eb nb n1 n2=>hs3 _ _ (at2 b u nb (qP hP hc eb n1 n2))) (hs3 _ _ a2) i kv (ka i) e1 ?_
   rw[kaOf e2]
   exact hs3 _ _ (at2 _ _ (aQ e3 hla (by intro z;cases z)) e3)
  ·rw[hS]
   exact Nat.ne_of_lt (Nat.lt_succ_of_lt (ltp _ (.head _)))
 have pI:∀ p∈pins,p.1≠s2.heap.objs.size:=fun p hp=>Nat.ne_of_lt (ltp p (.tail _ hp))
 have pS:∀ p∈pins,p.1≠(s2.heap.push oI).objs.size:=fun p hp=>by rw[hS];exact Nat.ne_of_lt (Nat.lt_succ_of_lt (ltp p (.tail _ hp)))
 have J3:Inv X (gN pins (s2.heap.push oI).objs.size s2.heap.objs.size f (seqObj "list" #[] 0) oI (dH X params body scope c ctv)) σ H2 { s2 with heap:=(s2.heap.push oI).push (seqObj "list" #[] 0)}:=by
  have K:=J2.kept (t':=s2.toks) hk2
  refine K.pins_of fun p hp=>?_
  rcases List.mem_cons.mp hp with rfl|hp
  ·exact⟨gS,J2.hok.fresh (by rw[hS];exact Nat.le_succ _),oS.2.1,oS.2.2.1,fun v z=>by cases z⟩
  ·rcases List.mem_cons.mp hp with rfl|hp
   ·exact⟨gI,J2.hok.fresh (Nat.le_refl _),oIt.2.1,oIt.2.2.1,fun v z=>by rw[hkI.2]at z;cases z⟩
   ·exact K.pin p (List.mem_append_right _ hp)
 have h0:0<es.size:=by(first|lia|omega)
 have hget:(es[0]?:Option DictEntry)=some es[0]:=Array.getElem?_eq_getElem h0
 have pinS:=J3.pin ((s2.heap.push oI).objs.size,seqObj "list" #[] 0) (List.mem_append_right _ (.head _))
 have pinI:=J3.pin (s2.heap.objs.size,oI) (List.mem_append_right _ (.tail _ (.head _)))
 refine codeAny_builtin PySem.F.entry_min_loop ?_
 rw[Around.under_plainId PySem.F.plain_min_loop _]
 show wpAny _ X.A.in1 (seqItems? (.ref _) >>= _) _ _ _
 refine wpAny_bind (wpAny_seqItems pinS.1 rfl ?_)
 show wpAny _ X.A.in1 (tryCatch (pyNext (.ref s2.heap.objs.size)) _ >>= _) _ _ _
 refine wpAny_bind (wpAny_tryCatch (lc pinI.1 hkI ⟨ob,hk2 _ _ hgo,hex,hdat⟩ ?_))
 rw[hget]
 intro h' oI' hgi hk' sb
 have I4:=J3.repin (t':=s2.toks) (h':=h') (pb:=gN pins (s2.heap.push oI).objs.size s2.heap.objs.size f (seqObj "list" #[] 0) oI' (dH X params body scope c ctv)) F.oI (List.Mem.tail _ (.head _)) (fun b u hb e=>(sb.2 b hb).trans e) (fun p hp=>by
  rcases List.mem_cons.mp hp with rfl|hp
  ·exact .inr ⟨.head _,F.SI⟩
  ·rcases List.mem_cons.mp hp with rfl|hp
   ·exact .inl ⟨rfl,hgi,fun v z=>by rw[hk'.2]at z;cases z⟩
   ·rcases List.mem_cons.mp hp with rfl|hp
    ·exact .inr ⟨.tail _ (.tail _ (.head _)),F.fI⟩
    ·exact .inr ⟨.tail _ (.tail _ (.tail _ hp)),pI p hp⟩)
 rw[F.key 0 _ hget]
 show wpAny _ X.A.in1 (tryCatch (holding [.ref (ka 0)] (call (.ref f) [.ref (ka 0)])) _ >>= _) _ _ _
 refine wpAny_bind (wpAny_tryCatch (wpAny_holding (wpAny_mono (n8 F h0 (am.refl _) I4 (List.Mem.tail _ (.tail _ (.head _)))) (fun u s3 hu=>?_) fun _ _ z=>z)))
 obtain⟨d2,H4,rfl,I5,hs4,_,hd2⟩:=hu
 have pinS2:=I5.pin ((s2.heap.push oI).objs.size,_) (List.mem_append_right _ (.head _))
 have s1':=Heap.SameBut.update s3.heap (s2.heap.push oI).objs.size (Obj.mapSeq fun _=>(#[.ref (ka 0),.ref d2]:Array Value))
 obtain⟨n2,hn2⟩:∃ n2,(s3.heap.update (s2.heap.push oI).objs.size (Obj.mapSeq fun _=>(#[.ref (ka 0),.ref d2]:Array Value))).get? (s2.heap.push oI).objs.size=some (seqObj "list" #[.ref (ka 0),.ref d2] n2):=⟨_,get?_update_seq pinS2.1 fun _=>#[.ref (ka 0),.ref d2]⟩
 show wpAny _ X.A.in1 (updateSeq (s2.heap.push oI).objs.size (fun _=>#[.ref (ka 0),.ref d2]) >>= _) _ _ _
 refine wpAny_bind (wpAny_updateSeq pinS2.1 rfl ?_)
 rw[hname]
 have I6:=I5.repin (t':=s3.toks) (pb:=gN pins (s2.heap.push oI).objs.size s2.heap.objs.size f (seqObj "list" #[.ref (ka 0),.ref d2] n2) oI' (dH X params body scope c ctv)) F.oS (.head _) (fun b u hb e=>(s1'.2 b hb).trans e) (fun p hp=>by
  rcases List.mem_cons.mp hp with rfl|hp
  ·exact .inl ⟨rfl,hn2,fun v z=>by cases z⟩
  ·rcases List.mem_cons.mp hp with rfl|hp
   ·exact .inr ⟨.tail _ (.head _),F.SI.symm⟩
   ·rcases List.mem_cons.mp hp with rfl|hp
    ·exact .inr ⟨.tail _ (.tail _ (.head _)),F.fS⟩
    ·exact .inr ⟨.tail _ (.tail _ (.tail _ hp)),pS p hp⟩)
 refine wpAny_pure ⟨plainId_quiet PySem.F.plain_min_loop _,uK F pI pS (fun i s' H3 hi best hs3 I7=>?_) _ 1 0 _ H4 d2 n2 oI' rfl h0 (Nat.lt_succ_self _) hs4 I6 hk' hd2 fun j hj=>?_⟩
 ·obtain⟨kv,y,e1,e2,e3⟩:=hka i (by(first|lia|omega))
  have i3:=hs3 _ _ a2
  have I8:=Inv.thawT J hla I7 i3
  have p3:upd H3 a (.dT kvs) P=some (.tbl (dX (X.env.qual ++ "<lambda>") lp++ia lp c)):=by rw[ak pa];exact hs3 _ _ (at2 _ _ pa hPL)
  have c3:upd H3 a (.dT kvs) c=some (.frz oc (.own P)):=by rw[ak ca];exact hs3 _ _ (at2 _ _ ca hcL)
  have I9:=tS I1 hP hc hcP hoc I8 p3 c3
  have ya:y.2.1≠a:=aQ e3 hla (by intro z;cases z)
  have y3:upd H3 a (.dT kvs) y.2.1=some (.tup (kv.1.map kV)):=by rw[ak ya];exact hs3 _ _ (at2 _ _ ya e3)
  refine⟨.ref (ka i),_,I9,rfl,hfin i kv (ka i) _ e1 (fun j hj=>best j (by(first|lia|omega))) (sQ hP hc hcP (oc:=oc) fun b u eb=>?_) ?_⟩
  ·by_cases hb:b=a
   ·subst hb
    rw[hla]at eb
    rw[ai]
    exact eb
   ·rw[ak hb]
    exact hs3 _ _ (at2 _ _ hb eb)
  ·rw[kaOf e2]
   unfold fH
   rw[ak (aQ y3 p3 (by intro z;cases z)),ak (aQ y3 c3 (by intro z;cases z))]
   exact y3
 ·have e:j=0:=by(first|lia|omega)
  rw[e];exact HT.dq _
end
end L2
namespace L2
open PySem PySem.Spec PyProof.Rows
section
variable {P:Program}{w:World}{A:Around}{E:Value→Shared→Prop}{s:Shared}{a:Addr}{es:Array DictEntry}{ep:Nat}
theorem xi(hd:(a==sysModules)=false):MeetsIn P w (Builtin.«dict.__len__» ⟨[.ref a],[]⟩) (fun _ R s=>∃ es ep,DIs s.heap a es ep∧R (.ok (.ret (.int es.size s.toks))) { s with toks:=s.toks+1}) :=
 .of_wp fun A R s ⟨es,ep,⟨o,ho,_,hdat⟩,h⟩=>by
  show wpAny _ _ (dictSize a >>= _) _ _ s
  unfold dictSize
  refine wpAny_bind (wpAny_bind (wpAny_dictEntries ho hdat (wpAny_pure ?_)))
  show wpAny _ _ (Builtin.Dict.pendingCount a >>= _) _ _ s
  refine wpAny_bind (wpAny_pendingCount_other hd (wpAny_ret_mkInt ?_))
  rw[Nat.add_zero];exact h
theorem rY{Q:Value→Shared→Prop}(hd:(a==sysModules)=false)(g:DIs s.heap a es ep)(hfit:(es.size:Int)<2^63)(h:Q (.int es.size (s.toks+1)) { s with toks:=s.toks+1+1}):
 wpAny (model P w) A (call (.builtin "len") [.ref a]) Q E s:=by
 have hT:s.TypeIs (.ref a) "dict":=let⟨o,ho,hc,_⟩:=g;⟨o,ho,hc.1⟩
 refine Calls.call_function_entry kind_len plain_len entry_len (args_len1 _) ?_
 unfold Builtin.«len»
 refine wpAny_bind (m:=oneArg "len" _) (wpAny_pure ?_)
 refine wpAny_bind (m:=callSpecial? (.ref a) (Str.ofString "__len__")) (wpAny_callSpecial?_slot (name:=Str.ofString "__len__") hT PySem.F.slot_dict_len
  (call_meetsIn PySem.F.slot_dict_len hT PySem.F.entry_dict_len (PySem.F.args_dict_len_1 _) (xi hd) ⟨es,ep,g,?_⟩))
 show wpAny _ _ _ _ _ { s with toks:=s.toks+1}
 refine wpAny_bind (wpAny_holding (wpAny_pure (wpAny_bind (wpAny_letGo ?_))))
 show wpAny _ _ (if((es.size:Nat):Int)<0 then _ else _) _ _ _
 rw[if_neg (by(first|lia|omega))]
 show wpAny _ _ (if((es.size:Nat):Int) ≥ 2^63 then _ else _) _ _ _
 rw[if_neg (by(first|lia|omega))]
 exact wpAny_bind (wpAny_mkInt (wpAny_pure ⟨_,rfl,h⟩))
end
theorem iF{K α:Type}[DecidableEq K]{k:K}{p:α}:∀{xs:List (K×α)} {j:Nat},(xs.map (·.1)).Nodup→xs[j]?=some (k,p)→xs.eraseIdx j=xs.filter fun x=>decide (x.1≠k)
 | [],j,_,h=>by simp at h
 | x::r,0,nd,h=>by
   simp at h
   subst h
   rw[List.map_cons,List.nodup_cons]at nd
   rw[List.eraseIdx_cons_zero,List.filter_cons,if_neg (by simp)]
   refine(List.filter_eq_self.mpr fun y hy=>?_).symm
   have z:y.1≠k:=fun z=>nd.1 (List.mem_map.mpr ⟨y,hy,z⟩)
   simp[z]
 | x::r,j+1,nd,h=>by
   rw[List.map_cons,List.nodup_cons]at nd
   have h:r[j]?=some (k,p):=by simpa using h
   have hx:x.1≠k:=fun z=>nd.1 (by rw[z];exact List.mem_map_of_mem (f:=(·.1)) (List.mem_of_getElem? h))
   rw[List.eraseIdx_cons_succ,List.filter_cons,if_pos (decide_eq_true hx),iF nd.2 h]
theorem g8{α β:Type}(f:α→β):∀(l:List α) (i:Nat),(l.map f).eraseIdx i=(l.eraseIdx i).map f
 | [],_=>rfl
 | _::_,0=>rfl
 | x::r,i+1=>by rw[List.map_cons,List.eraseIdx_cons_succ,List.eraseIdx_cons_succ,List.map_cons,g8 f r i]
theorem KT.drop{H:Hp}{kvs:List (List Key×V)}{xs:List (List Key×Addr×Value)}(r:KT H kvs xs)(k:List Key):KT H (cn kvs k) (xs.filter fun x=>decide (x.1≠k)):=by
 unfold cn
 induction r with
 | nil=>exact .nil
 | @cons p q ps qs h t ih =>
   rw[List.filter_cons,List.filter_cons]
   by_cases e:p.1=k
   ·rw[if_neg (by simp[e]),if_neg (by simp[h.1.symm.trans e])];exact ih
   ·have e' : ¬ q.1=k:=fun z=>e (h.1.trans z)
    rw[if_pos (by simp[e]),if_pos (by simp[e'])];exact .cons h ih
section
variable {P:Program}{w:World}{A:Around}{E:Value→Shared→Prop}{s:Shared}{K:Type}[DecidableEq K]{knd:HeapKind P w K}{d b:Addr}{xs:List (K×Addr×Value)}{k:K}{j:Nat}{p:Addr×Value}
theorem wB{Q:Option DictEntry→Shared→Prop}(hu:knd.room A)(hkey:knd.is s.heap k b)(hm:s.heap.DictOfH knd d xs)(hj:xs[j]?=some (k,p))(hsz:xs.length≤sizeLine)
 (h:∀ e h' o' es' ep',e.val=p.2→h'.get? d=some o'→o'.ExactDict→o'.data = .dict es' ep'→es'.toList=(xs.eraseIdx j).map (entryOfKey knd)→Heap.SameBut d s.heap h'→Q (some e) { s with heap:=h',toks:=s.toks+knd.draws k}) :
 wpAny (model P w) A (Builtin.Dict.takeOut d (.ref b)) Q E s:=by
 obtain⟨o,es,ep,ho,hc,hd,he,his,hn⟩:=hm
 unfold Builtin.Dict.takeOut
 try with_reducible refine wpAny_holding ?_
 refine wpAny_bind (knd.pyHash hu hkey (wpAny_bind (wpAny_dictFind_heap (s:={ s with toks:=s.toks+knd.draws k}) hu hkey ho hd he his hn (fun hno=>absurd hj (hno j p)) fun j' p' hj'=>?_)))
 have hjj:j' = j:=idxH_unique hn hj' hj
 subst hjj
 refine wpAny_bind (wpAny_dictEntries (s:={ s with toks:=s.toks+knd.draws k}) ho hd ?_)
 rw[entry_at he j',hj]
 refine wpAny_bind (wpAny_updateDictKeys (hz:=by have e:=size_of_entries he;(first|lia|omega)) (s:={ s with toks:=s.toks+knd.draws k}) ho hd (wpAny_pure (h _ _ _ _ (ep+1) rfl (Heap.get?_update_self _ ho (Obj.isFreed_of_dict (Obj.data_mapDictKeys hd _))) (hc.mapDictKeys _) (Obj.data_mapDictKeys hd _) ?_ (Heap.SameBut.update ..))))
 rw[← g8,← he]
 obtain⟨l⟩:=es
 simp
theorem yn{Q:Value→Shared→Prop}(hu:knd.room A.in1)(hkey:knd.is s.heap k b)(hm:s.heap.DictOfH knd d xs)(hj:xs[j]?=some (k,p))(hsz:xs.length≤sizeLine)
 (h:∀ h' o' es' ep',h'.get? d=some o'→o'.ExactDict→o'.data = .dict es' ep'→es'.toList=(xs.eraseIdx j).map (entryOfKey knd)→Heap.SameBut d s.heap h'→Q p.2 { s with heap:=h',toks:=s.toks+knd.draws k}) :
 wpAny (model P w) A (call (.builtin "dict.pop") [.ref d,.ref b]) Q E s:=by
 have hT:=hm.typeIs
 refine wpAny_call_entry PySem.F.slot_dict_pop hT PySem.F.entry_dict_pop ?_ (PySem.F.args_dict_pop_2 _ _)
 unfold Builtin.«dict.pop» Builtin.Dict.keyAndDefault
 refine wpAny_bind (wpAny_bind (wpAny_notOrdered_dict hT ?_))
 show wpAny _ _ (pure (d,Value.ref b,(none:Option Value))) _ _ s
 refine wpAny_pure ?_
 obtain⟨o,es,ep,ho,hc,hd,he,his,hn⟩:=id hm
 have hne:es.isEmpty=false:=by
  have e:=size_of_entries he
  have hl:=(List.getElem?_eq_some_iff.mp hj).1
  rw[Array.isEmpty_eq_false_iff_exists_mem]
  exact⟨es[j]'(by(first|lia|omega)),Array.getElem_mem _⟩
 have hkp:(keyPart (Value.ref b)).isSome=false:=rfl
 simp only[hkp,Bool.false_eq_true,if_false]
 refine wpAny_bind (wpAny_dictEntries ho hd (wpAny_bind (wpAny_pure ?_)))
 rw[hne]
 simp only[Bool.false_eq_true,if_false]
 refine wpAny_bind (wB hu hkey hm hj hsz fun e h' o' es' ep' e1 e2 e3 e4 e5 e6=>?_)
 simp only[Option.isNone_some,Bool.false_eq_true,if_false]
 refine wpAny_bind (wpAny_letGo (wpAny_pure ⟨e.val,rfl,?_⟩))
 rw[e1]
 exact h h' o' es' ep' e2 e3 e4 e5 e6
end
section
variable {X:Cx}{pins:List (Addr×Obj)}{σ:St}{H:Hp}{s:Shared}
theorem yD:dS X (.builtin "len") (fun xs H Q=>∃ a kvs,xs=[.ref a]∧Rd H a (.dT kvs)∧Q (.int kvs.length) H):=by
 intro pins s σ H xs us Q I r h
 obtain⟨a,kvs,rfl,e,q⟩:=h
 obtain⟨u,rfl,rx⟩:=iI r
 cases rx
 obtain⟨z,hsys,ys,pr,ob,es,ep,hgo,hex,hdat,hes,hnd⟩:=(show aV X.prog X.w H s.heap a (.dT kvs) from e.ok I.hok)
 have hsz:es.size=kvs.length:=by
  have:=congrArg List.length hes
  rw[List.length_map,← pr.length]at this
  simpa using this
 refine rY hsys ⟨ob,hgo,hex,hdat⟩ (by rw[hsz];rw[sizeLine_eq]at z;(first|lia|omega)) ?_
 rw[hsz]
 exact⟨.int kvs.length,H,I.tok _,⟨_,rfl⟩,q⟩
def xh(td ty:TE):TE:=fun σ H Q=>td σ H fun x H1=>∃ a,x = .ref a∧IsD H1 a∧ty σ H1 fun y H2=>∃ kvs k b v,H2 a=some (.dT kvs)∧y = .ref b∧H2 b=some (.tup (k.map kV))∧cA kvs k=some v∧Q v (upd H2 a (.dT (cn kvs k)))
theorem wR{A:Around}{E:Value→Shared→Prop}{a b:Addr}{kvs:List (List Key×V)}{k:List Key}{v:V}{Q:Value→Shared→Prop}(hu:A.units+1<cLine)(I:Inv X pins σ H s)(e:H a=some (.dT kvs))(eb:H b=some (.tup (k.map kV)))(l:cA kvs k=some v)
 (h:∀ w' s',Inv X pins σ (upd H a (.dT (cn kvs k))) s'→aR v w'→Q w' s'):wpAny (model X.prog X.w) A (call (.builtin "dict.pop") [.ref a,.ref b]) Q E s:=by
 obtain⟨z,hd,xs,rel,dd⟩:=uQ I.hok e
 have hv:=rel.val k
 rw[l]at hv
 obtain⟨w',hw,rw'⟩:=ix.some_of hv
 obtain⟨p,hp1,hp2⟩:=Option.map_eq_some_iff.mp hw
 obtain⟨j,hj⟩:∃ j,xs[j]?=some (k,p):=by
  unfold atKey at hp1
  obtain⟨y,hy1,hy2⟩:=Option.map_eq_some_iff.mp hp1
  have hk:=List.find?_some hy1
  have hm:=List.mem_of_find?_eq_some hy1
  obtain⟨j,hj⟩:=List.getElem?_of_mem hm
  have hk' : y.1=k:=of_decide_eq_true hk
  exact⟨j,by rw[hj,← hk',← hy2]⟩
 have hnd:(xs.map (·.1)).Nodup:=let⟨_,_,_,_,_,_,_,_,hn⟩:=dd;hn
 refine yn (tupleKind_room_in1 hu) (jn I.hok eb) dd hj (by rw[← rel.length];exact z) fun h' o' es' ep' g1 g2 g3 g4 sb=>?_
 rw[hp2]
 refine h w' _ ?_ rw'
 have hne:∀ b ys,H b=some (.tup ys)→upd H a (.dT (cn kvs k)) b=some (.tup ys):=fun b ys q=>by rw[ak (aQ q e (by intro z;cases z))];exact q
 rw[iF hnd hj]at g4
 refine jR I (by rw[e];exact True.intro) sb ⟨o',g1⟩ ⟨Nat.le_trans (uj kvs k) z,hd,_,(rel.drop k).keeps hne,o',es',ep',g1,g2,g3,g4,?_⟩
 exact hnd.sublist (List.filter_sublist.map _)
variable {o e:Expr}{apos cpos:Pos}{td ty:TE}
theorem sL(hu:X.A.units+1<cLine)(ho:PE X o td)(he:PE X e ty)(m:M1 X o "pop" apos e cpos):PE X (.Call (.Attribute o "pop" apos) [e] [] cpos) (xh td ty):=by
 intro pins s σ H Q I h
 refine wpAny_Call_method m.base m.few m.line PySem.F.plainAttrs_dict PySem.F.slot_dict_pop PySem.F.type_dict_pop (thn (ho pins s σ H _ I h) fun u s1 ⟨x,H1,I1,rx,a,ex,d,q1⟩=>?_)
 subst ex
 obtain rfl:u=Value.ref a:=rx
 obtain⟨t1,t2,_⟩:=tG I1 d
 refine⟨t1,t2,?_⟩
 rw[m.trees]
 refine Calls.callWith_builtin rfl (Calls.evalArgs_plain (Calls.spliced_cons (thn (he pins s1 σ H1 _ I1 q1) fun iv s2 ⟨y,H2,I2,ry,kvs,k,b,v,ea,ey,eb,l,q2⟩=>Calls.spliced_nil ?_)))
 subst ey
 obtain rfl:iv=Value.ref b:=ry
 exact wR hu I2 ea eb l fun w' s3 I3 rw'=>⟨v,_,I3,rw',q2⟩
def wK(tk tv:TE):TE:=fun σ H Q=>∀ p,H p=none→tk σ (upd H p (.dT [])) fun y H1=>tv σ H1 fun v H2=>∃ b k,y = .ref b∧H2 b=some (.tup (k.map kV))∧H2 p=some (.dT [])∧Q (.ref p) (upd H2 p (.dT [(k,v)]))
end
end L2
namespace L2
open PySem PySem.Spec PyProof.Rows
section
variable {X:Cx}{k v:Expr}{pos:Pos}{tk tv:TE}
theorem sO(hu:X.A.units+1<cLine)(hk:PE X k tk)(hv:PE X v tv):PE X (.Dict [some k] [v] pos) (wK tk tv):=by
 intro pins s σ H Q I q
 have hn:=I.hok.fresh (Nat.le_refl s.heap.objs.size)
 have I1:=I.laid (a:=s.heap.objs.size) (o:=.dT []) (h':=s.heap.push { cls:=.type "dict",data:=.dict #[]}) (t':=s.toks) (fun _ _ q=>Heap.get?_push_of_some _ q) (Nat.le_refl _) (sK s.heap I.big)
 rw[arm_eval_Dict,zip_pairTrees [some k] [v] X.env pos rfl rfl,dictDisplay_pairs (pairTrees [some k] [v] X.env pos) (by intro z;cases z) (show 1<17 by decide)]
 refine wpAny_bind (wpAny_standAt (wpAny_bind ?_))
 unfold subDict
 refine wpAny_bind (wpAny_alloc (wpAny_bind (wpAny_holding ?_)))
 rw[if_pos (show(pairTrees [some k] [v] X.env pos).length≤15 from(show 1≤15 by decide))]
 refine wpAny_bind (pairTrees_cons_walk (thn (hk pins _ σ _ _ I1 (q _ hn)) fun u s1 ⟨y,H1,I2,ry,q1⟩=>thn (hv pins s1 σ H1 _ I2 q1) fun u2 s2 ⟨vv,H2,I3,rv,b,ks,ey,eb,ep,q2⟩=>pairTrees_nil_walk ?_))
 subst ey
 obtain rfl:u=Value.ref b:=ry
 obtain⟨z,hd,xs,rel,dd⟩:=uQ I3.hok ep
 cases rel
 refine wpAny_holding (wpAny_bind ?_)
 rw[List.forIn_cons]
 refine wpAny_bind (wpAny_bind (wpAny_dictSet_heap (hsz:=Nat.zero_le _) (show X.A.units<cLine from Nat.lt_of_succ_lt hu) (jn I3.hok eb) dd fun h' dd' hs=>wpAny_pure ?_))
 show wpAny _ _ (forIn [] PUnit.unit _) _ _ _
 rw[List.forIn_nil]
 refine wpAny_pure (wpAny_pure (wpAny_pure (wpAny_pure ?_)))
 obtain⟨o',es',ep',g1,g2,g3,g4,g5,g6⟩:=dd'
 have hb:upd H2 s.heap.objs.size (.dT [(ks,vv)]) b=some (.tup (ks.map kV)):=by
  rw[ak (aQ eb ep (by intro z;cases z))]
  exact eb
 have new:aV X.prog X.w (upd H2 s.heap.objs.size (.dT [(ks,vv)])) h' s.heap.objs.size (.dT [(ks,vv)]):=⟨(show 1≤sizeLine by decide),hd,[(ks,b,u2)],.cons ⟨rfl,hb,rv⟩ .nil,o',es',ep',g1,g2,g3,g4,g6⟩
 exact⟨.ref s.heap.objs.size,_,jR I3 (by rw[ep];exact True.intro) hs ⟨o',g1⟩ new,rfl,q2⟩
end
end L2
namespace HT
open PySem PyProof.Rows
def le2(a b c d:Int):Bool:=if a=c then(if b=d then true else decide (b≤d)) else decide (a≤c)
theorem nh(a b c d:Int):le2 a b c d=true↔a<c∨(a=c∧b≤d):=by
 unfold le2
 by_cases h:a=c
 ·rw[if_pos h]
  by_cases h2:b=d
  ·rw[if_pos h2];simp[h,h2]
  ·rw[if_neg h2];simp only[decide_eq_true_eq];(first|lia|omega)
 ·rw[if_neg h];simp only[decide_eq_true_eq];(first|lia|omega)
theorem uJ(A:Around)(s:Shared)(a:Int)(t:Tok)(c:Int)(u:Tok)(prog:Program)(w:World)(E:Value→Shared→Prop)(Q:Value→Shared→Prop)(h:Q (.bool (decide (a≤c))) s):
 wpAny (model prog w) A (richCompare .LtE (.int a t) (.int c u)) Q E s :=
 (PyProof.Rows.le_int h:wpAny (model prog w) A (compareOp .LtE (.int a t) (.int c u)) Q E s)
section
open PySem.SeqAt
open PySem.AutoSeq1 (wpAny_loadPart')
open PySem.MeetsSeq PySem.MeetsSeq2 PySem.MeetsSeq3
theorem sj(l b:Addr)(items items2:Array Value)(n n2:Nat)(dd dd2:Option Addr)(sl sl2:Array (Option Value))(x1 y1 x2 y2:Int)(t1 u1 t2 u2:Tok)(hi:items.toList=[.int x1 t1,.int y1 u1])(hj:items2.toList=[.int x2 t2,.int y2 u2]):
 Meets (Builtin.«tuple.__le__» ⟨[.ref l,.ref b],[]⟩)
  (fun _ R s=>s.heap.get? l=some { cls:=.type "tuple",dict:=dd,data:=.seq items n,slots:=sl}∧s.heap.get? b=some { cls:=.type "tuple",dict:=dd2,data:=.seq items2 n2,slots:=sl2}∧
   R (.ok (.ret (.bool (le2 x1 y1 x2 y2)))) s) :=
 .of_wp fun prog w A R s h=>by
  obtain⟨hp,g,d,tk,os⟩:=s;obtain⟨hl,hb,h⟩:=h
  have f2:=AutoSeq1.sub_tuple_tuple
  have z1:items.size=2:=by rw[← Array.length_toList,hi];rfl
  have z2:items2.size=2:=by rw[← Array.length_toList,hj];rfl
  wp_walk using wpAny_loadPart' hl,wpAny_loadPart' hb,wpAny_forIn_list _ (fun rest b s'=>b.1=none∧s' = ⟨hp,g,d,tk,os⟩∧
   ((rest=[((Value.int x1 t1:Value),(Value.int x2 t2:Value)),(.int y1 u1,.int y2 u2)]∧R (.ok (.ret (.bool (le2 x1 y1 x2 y2)))) ⟨hp,g,d,tk,os⟩)∨
    (rest=[((Value.int y1 u1:Value),(Value.int y2 u2:Value))]∧R (.ok (.ret (.bool (if y1=y2 then true else decide (y1≤y2))))) ⟨hp,g,d,tk,os⟩)∨(rest=[]∧R (.ok (.ret (.bool true))) ⟨hp,g,d,tk,os⟩))) _
  case turn =>
   rintro⟨y,x⟩ rest b s' ⟨hb',rfl,hh⟩
   obtain⟨a,c,t,u,vv,hy,hx,hR,hN⟩:∃(a c:Int) (t u:Tok) (vv:Bool),y = .int a t∧x = .int c u∧R (.ok (.ret (.bool (if a=c then vv else decide (a≤c))))) ⟨hp,g,d,tk,os⟩∧
    (R (.ok (.ret (.bool vv))) ⟨hp,g,d,tk,os⟩→(rest=[((Value.int y1 u1:Value),(Value.int y2 u2:Value))]∧R (.ok (.ret (.bool (if y1=y2 then true else decide (y1≤y2))))) ⟨hp,g,d,tk,os⟩)∨(rest=[]∧R (.ok (.ret (.bool true))) ⟨hp,g,d,tk,os⟩)):=by
    rcases hh with⟨hz,hR⟩|⟨hz,hR⟩|⟨hz,_⟩
    ·injection hz with ha hr
     obtain⟨hy,hx⟩:=Prod.mk.inj ha
     exact⟨x1,x2,t1,t2,_,hy,hx,hR,fun hR'=>.inl ⟨hr,hR'⟩⟩
    ·injection hz with ha hr
     obtain⟨hy,hx⟩:=Prod.mk.inj ha
     exact⟨y1,y2,u1,u2,true,hy,hx,hR,fun hR'=>.inr ⟨hr,hR'⟩⟩
    ·cases hz
   subst hy hx
   obtain⟨e,he,hiff⟩:=nM A.in1 ⟨hp,g,d,tk,os⟩ a t c u
   refine wpAny_bind (he prog w _ _ ?_)
   cases e with
   | true =>
     rw[if_pos (hiff.mp rfl)]at hR
     wp_walk
     exact⟨rfl,rfl,.inr (hN hR)⟩
   | false =>
     rw[if_neg (fun q=>absurd (hiff.mpr q) Bool.false_ne_true)]at hR
     have hri:=uJ A.in1 ⟨hp,g,d,tk,os⟩ a t c u prog w
     wp_walk using hri
     exact⟨_,rfl,by simpa using hR⟩
  case fin =>
   rintro⟨b1,b2⟩ s' ⟨hb',rfl,hh⟩
   simp only at hb'
   subst hb'
   rcases hh with⟨hz,_⟩|⟨hz,_⟩|⟨_,hR⟩
   ·cases hz
   ·cases hz
   ·wp_walk
    refine⟨_,rfl,?_⟩
    simpa[Builtin.Tuple.tupleCompareSizes,z1,z2]using hR
  case h =>
   refine⟨rfl,rfl,.inl ⟨?_,h⟩⟩
   rw[hi,hj]
   rfl
end
section
variable {prog:Program}{w:World}{A:Around}{E:Value→Shared→Prop}{s:Shared}
theorem uc{l b:Addr}{items items2:Array Value}{x1 y1 x2 y2:Int}{Q:Value→Shared→Prop}(hl:IsTup s.heap l items)(hb:IsTup s.heap b items2)(hi:IntsAre items.toList [x1,y1])(hj:IntsAre items2.toList [x2,y2])
 (hu:A.units<cLine) (h:Q (.bool (le2 x1 y1 x2 y2)) s):wpAny (model prog w) A (compareOp .LtE (.ref l) (.ref b)) Q E s:=by
 obtain⟨⟨cls,dd,data,sl⟩,ho,hc,n,hd⟩:=id hl
 obtain⟨⟨cls2,dd2,data2,sl2⟩,ho2,hc2,n2,hd2⟩:=id hb
 simp only at hc hd hc2 hd2
 subst hc hd hc2 hd2
 have two:∀{vs:List Value} {a c:Int},IntsAre vs [a,c]→∃ t u,vs=[.int a t,.int c u]:=fun {vs a c} q=>by
  cases q with
  | cons n t r=>cases r with
    | cons n' t' r'=>cases r';exact⟨t,t',rfl⟩
 obtain⟨t1,u1,e1⟩:=two hi
 obtain⟨t2,u2,e2⟩:=two hj
 exact richCompare_meets_room (op:=.LtE) ⟨_,ho,rfl⟩ ⟨_,ho2,rfl⟩ PySem.F.slot_tuple_le PySem.F.entry_tuple_le (PySem.F.args_tuple_le_2 _ _) (sj l b items items2 n n2 dd dd2 sl sl2 x1 y1 x2 y2 t1 u1 t2 u2 e1 e2)
  ⟨ho,ho2,show Value.bool (le2 x1 y1 x2 y2)≠Value.notImplemented∧Q (.bool (le2 x1 y1 x2 y2)) s from⟨(fun x=>nomatch x),h⟩⟩ hu
end
end HT
namespace L2
open PySem PySem.Spec PyProof.Rows
section
variable {X:Cx}
def yB(K:PySem.W.Frag):R2:=fun x y H Q=>∃ a b x1 y1 x2 y2,x = .ref a∧y = .ref b∧SqT K H a [.int x1,.int y1]∧SqT K H b [.int x2,.int y2]∧Q (.bl (HT.le2 x1 y1 x2 y2)) H
theorem xj(hu:X.A.units<cLine):OpR X (compareOp .LtE) (yB X.K):=by
 intro pins s σ H x y v u Q I rx ry h
 obtain⟨a,b,x1,y1,x2,y2,rfl,rfl,ha,hb,q⟩:=h
 cases rx
 cases ry
 obtain⟨its,r1,p1,_⟩:=I.tuple ha
 obtain⟨its2,r2,p2,_⟩:=I.tuple hb
 exact HT.uc p1 p2 (gc (ns:=[x1,y1]) r1) (gc (ns:=[x2,y2]) r2) hu ⟨.bl (HT.le2 x1 y1 x2 y2),H,I,rfl,q⟩
end
end L2
namespace L2
open PySem PySem.Spec PyProof.Rows
abbrev jJ:=List (Addr×Str×Pos)
structure TabsOk(K:PySem.W.Frag)(h:Heap)(tb:jJ):Prop where
 nd:(tb.map (·.1)).Nodup
 mt:∀ p∈tb,h.get? p.1=some (PySem.W.tabObj #[])
 code:∀ p∈tb,∃ c,PySem.W.CodeHd h c p.1
 out:∀ p∈tb,K.lookup p.1=none
def ke(tb:jJ)(H:Hp):Prop:=∀ p∈tb,H p.1=some (.tbl (dX p.2.1 p.2.2))
def om(tb:jJ):Hp:=fun b=>(tb.find? fun p=>p.1==b).map fun p=>.tbl (dX p.2.1 p.2.2)
theorem gU{tb:jJ}{b:Addr}{u:HO}(e:om tb b=some u):∃ p∈tb,p.1=b∧u = .tbl (dX p.2.1 p.2.2):=by
 unfold om at e
 obtain⟨p,h1,h2⟩:=Option.map_eq_some_iff.mp e
 have h3:(p.1==b)=true:=List.find?_some (p:=fun p:Addr×Str×Pos=>p.1==b) h1
 exact⟨p,List.mem_of_find?_eq_some h1,eq_of_beq h3,h2.symm⟩
theorem ny:∀{tb:jJ},(tb.map (·.1)).Nodup→ke tb (om tb)
 | [],_=>fun p hp=>nomatch hp
 | q::r,nd=>fun p hp=>by
   rw[List.map_cons,List.nodup_cons]at nd
   rcases List.mem_cons.mp hp with rfl|hp
   ·unfold om;rw[List.find?_cons_of_pos (by simp)];rfl
   ·have ne:(q.1==p.1)=false:=beq_eq_false_iff_ne.mpr fun z=>nd.1 (by rw[z];exact List.mem_map_of_mem hp)
    unfold om
    rw[List.find?_cons_of_neg (by rw[ne];exact Bool.false_ne_true)]
    exact ny nd.2 p hp
theorem sy{P:Program}{w:World}{K:PySem.W.Frag}{mg mb:Str→Option Value}{CX:CXT}{k:Nat}{fa a:Addr}{fd:FuncData}{x:Str}{sp:Sp}{s₁:Shared}{vs:List Value}{ns:List Int}{tb:jJ}
 (KX:K.In s₁.heap) (TB:TabsOk K s₁.heap tb) (hns:s₁.heap.Ns mainGlobals mg) (hb:s₁.heap.Ns builtinsNs mb) (hbb:∀ x:Str,x≠"__name__"→mb x=bootBuiltins x) (hlim:s₁.heap.NoLimit)
 (hbm:∃ bm ob,mg "__builtins__"=some (.ref bm)∧bm≠builtinsNs∧s₁.heap.get? bm=some ob∧ob.cls = .type "module"∧ob.dict=some builtinsNs∧ob.data = .plain) (hg:s₁.gens = #[])
 (ha:s₁.heap.get? a=some { cls:=.type "list",data:=.seq vs.toArray}) (hi:IntsAre vs ns) (hl:ns.length≤sizeLine) (hr:Room k callerA)
 (F:∀ base:Heap,K.In base→base.Ns mainGlobals mg→FnOk P w K mg base CX k fa fd [x] sp) (hbind:∀(s:Shared) (u:Value),BindsTo s fd ⟨[u],[]⟩ [(x,u)])
 (hsp:∀ H:Hp,ke tb H→SqL K H a (ns.map V.int)→sp [.ref a] H (fun v _=>v = .bl true) fun _ _ _=>False)
 (hCX:∀ H e s',CX [] H s₁ (fun _ _ _=>False) e s'→False) :
 codeAny (model P w) callerA (.call (.ref fa) ⟨[.ref a],[]⟩) (fun r s'=>r = .ok (.ret (.bool true))∧OldK s₁.heap s'.heap∧s'.os=s₁.os∧AllBare s'.gens) s₁:=by
 have rv:=lK hi
 have lenV:=hi.length
 have aT:∀ p∈tb,p.1≠a:=fun p hp z=>by
  have:=TB.mt p hp
  rw[z,ha]at this;cases this
 let fz:HO:=.frz { cls:=.type "list",data:=.seq vs.toArray} (.lst (ns.map V.int))
 have core:∀ H:Hp,SqL K H a (ns.map V.int)→ke tb H→HOk P w H s₁.heap→(∀ b u,H b=some u→(b=a∧K.lookup a=none∧u=fz)∨∃ p∈tb,p.1=b∧u = .tbl (dX p.2.1 p.2.2))→
  codeAny (model P w) callerA (.call (.ref fa) ⟨[.ref a],[]⟩) (fun r s'=>r = .ok (.ret (.bool true))∧OldK s₁.heap s'.heap∧s'.os=s₁.os∧AllBare s'.gens) s₁:=by
  intro H hS hT hok hA
  have free:∀{b:Addr} {o:Obj},s₁.heap.get? b=some o→(∀ xs n,o.data≠.seq xs n)→(∀ xs,o.data≠.fields xs)→H b=none:=fun {b o} e n1 n2=>by
   cases q:H b with
   | none=>rfl
   | some u =>
     rcases hA b u q with⟨z,_⟩|⟨p,hp,z,_⟩
     ·rw[z,ha]at e;cases e;exact absurd rfl (n1 _ _)
     ·rw[← z,TB.mt p hp]at e;cases e;exact absurd rfl (n2 _)
  have nsK:∀{b:Addr} {m:Str→Option Value},s₁.heap.Ns b m→(nS s₁.heap H).Ns b m:=fun {b m} ⟨o,es,ep,e,d,r⟩=>⟨o,es,ep,j7 e (free e (by intro _ _ z;rw[d]at z;cases z) (by intro _ z;rw[d]at z;cases z)),d,r⟩
  have hKb:K.In (nS s₁.heap H):=fun b o e=>j7 (KX b o e) (by
   cases q:H b with
   | none=>rfl
   | some u =>
     rcases hA b u q with⟨z,n,_⟩|⟨p,hp,z,_⟩
     ·rw[z,n]at e;cases e
     ·rw[← z,TB.out p hp]at e;cases e)
  have hM:Mod K mg (nS s₁.heap H):=⟨hKb,nsK hns,⟨mb,nsK hb,hbb⟩,(let⟨mc,h1,h2⟩:=hlim;⟨mc,nsK h1,h2⟩),
   let⟨bm,ob,b1,b2,b3,b4,b5,b6⟩:=hbm;⟨bm,ob,b1,b2,j7 b3 (free b3 (by intro _ _ z;rw[b6]at z;cases z) (by intro _ z;rw[b6]at z;cases z)),b4,b5,b6⟩⟩
  have e0:Env0 P w K mg (nS s₁.heap H) callerA [] s₁ H:=⟨rfl,hM,fun b o e=>vN e,Nat.le_of_eq (r6 _ _),trivial,fun b hb=>absurd (show b∈([]:List Addr) from hb) (by simp),hok,.of_eq hg⟩
  refine codeAny_mono ((F _ hKb (nsK hns)).run callerA [] s₁ H ⟨[.ref a],[]⟩ [.ref a] [.ref a] _ _ hr e0 (hbind s₁ (.ref a)) (.cons rfl .nil) (hsp H hT hS)) fun r s' h=>?_
  cases r with
  | error e=>exact(hCX H e s' h).elim
  | ok fl =>
    cases fl with
    | next=>exact False.elim h
    | brk=>exact False.elim h
    | cont=>exact False.elim h
    | ret u =>
      obtain⟨v,H',os,bare,un,hok',r',q⟩:=h
      have q' : v = .bl true:=q
      subst q'
      obtain rfl:u=Value.bool true:=r'
      have all:∀ b o,s₁.heap.get? b=some o→s'.heap.get? b=some o∨∃ p∈tb,p.1=b∧∃ ps,s'.heap.get? b=some (PySem.W.tabObj ps):=fun b o e=>by
       cases q:H b with
       | none=>exact .inl (un.keep b o e q (by intro z;exact absurd (show b∈([]:List Addr) from z) (by simp)) (by simp))
       | some u =>
         rcases hA b u q with⟨z,_,z2⟩|⟨p,hp,z,z2⟩
         ·rw[z2]at q
          obtain⟨e1,_⟩:=hok b _ q
          obtain⟨e2,_⟩:=hok' b _ (un.frzs b _ _ q)
          rw[e]at e1;cases e1
          exact .inl e2
         ·rw[z2]at q
          obtain⟨more,q2⟩:=un.tbls b _ q
          obtain⟨ps,e2,_⟩:=hok' b _ q2
          exact .inr ⟨p,hp,z,ps,e2⟩
      refine⟨rfl,⟨fun b o e=>?_,fun b o e=>?_⟩,os,bare⟩
      ·rcases all b o e with z|⟨p,hp,z,ps,e2⟩
       ·exact .inl z
       ·obtain⟨c,hc⟩:=TB.code p hp
        have e1:=TB.mt p hp
        subst z
        rw[e]at e1;cases e1
        exact .inr (.inl ⟨(hc.tab e).isCodeTable,rfl,#[],ps,rfl,by rw[e2,Array.empty_append]⟩)
      ·rcases all b o e with z|⟨p,hp,z,ps,e2⟩
       ·exact⟨o,z⟩
       ·exact⟨_,e2⟩
 have tok:∀{H:Hp} {b:Addr} {p},p∈tb→p.1=b→aV P w H s₁.heap b (.tbl (dX p.2.1 p.2.2)):=fun {H b p} hp z=>⟨#[],by rw[← z];exact TB.mt p hp,.inl ⟨rfl,.inl rfl⟩⟩
 cases hk:K.lookup a with
 | some o =>
   have e:=KX a o hk
   rw[ha]at e
   cases e
   refine core (om tb) (.inr ⟨_,vs.toArray,_,hk,rfl,rfl,rfl,by rw[List.size_toArray,lenV];exact hl,by simpa using rv⟩) (ny TB.nd) (fun b u e=>?_) fun b u e=>.inr (gU e)
   obtain⟨p,hp,z,rfl⟩:=gU e
   exact tok hp z
 | none =>
   refine core (fun b=>if b=a then some fz else om tb b) (.inl (.inr ⟨{ cls:=.type "list",data:=.seq vs.toArray},if_pos rfl⟩)) (fun p hp=>?_) (fun b u e=>?_) fun b u e=>?_
   ·show(if p.1=a then some fz else om tb p.1)=_
    rw[if_neg (aT p hp)]
    exact ny TB.nd p hp
   ·by_cases hb:b=a
    ·have z:=(if_pos hb).symm.trans e
     cases z
     subst hb
     exact⟨ha,by rw[List.length_map];exact hl,vs,_,rv,ha⟩
    ·have z:=(if_neg hb).symm.trans e
     obtain⟨p,hp,z2,rfl⟩:=gU z
     exact tok hp z2
   ·by_cases hb:b=a
    ·have z:=(if_pos hb).symm.trans e
     exact .inl ⟨hb,hk,(Option.some.inj z).symm⟩
    ·exact .inr (gU ((if_neg hb).symm.trans e))
theorem uv{l:PySem.W.OpenLaw}{n k:Nat}{q:Program}{loose:List Str}{XP:(Str→Option Value)→Heap→Prop}{YP:World→Heap→Prop}{d:DefRec}{K:Params→PySem.W.Frag}{CX:World→CXT}{sp:World→jJ→Sp}{x:Str}{ts:List Addr}
 (hn:l.most=some n) (hn2:n≤sizeLine) (hdf:d.params.defaults=[]) (hr:Room k callerA)
 (hY:∀(w:World) (h:Heap),YP w h→(K w.params).In h∧∀ P∈ts,h.get? P=some (PySem.W.tabObj #[]))
 (F:∀(w:World) (mg:Str→Option Value) (fa:Addr) (h:Heap),(K w.params).In h→h.Ns mainGlobals mg→mg d.name=some (.ref fa)→
  ∃(fd:FuncData) (tb:jJ),((tb.map (·.1)).Nodup∧PySem.W.noTabs (K w.params)=true∧∀ p∈tb,p.1∈ts∧∃ c,PySem.W.codeHdIn (K w.params) c p.1=true)∧(∀(s:Shared) (u:Value),BindsTo s fd ⟨[u],[]⟩ [(x,u)])∧
   ∀ base:Heap,(K w.params).In base→base.Ns mainGlobals mg→FnOk l.prog w (K w.params) mg base (CX w) k fa fd [x] (sp w tb))
 (hsp:∀(w:World) (H:Hp) (a:Addr) (ns:List Int) (tb:jJ),ns.length≤n→ke tb H→SqL (K w.params) H a (ns.map V.int)→sp w tb [.ref a] H (fun v _=>v = .bl true) fun _ _ _=>False)
 (hCX:∀(w:World) (H:Hp) (s:Shared) (e:Value) (s' : Shared),CX w [] H s (fun _ _ _=>False) e s'→False) :
 PySem.W.WalkO q loose XP YP l.row.toRowW d [] (fun f vs=>PySem.call f vs):=by
 refine Att.nW hn hdf fun w s₀ s₁ mg mb fa o pm cd doc a vs ns G Y ho hd hcd hmg hobj hints hlen hg=>?_
 obtain⟨KX,hts⟩:=hY w _ Y
 obtain⟨fd,tb,⟨nd,nt,ht⟩,hb,hF⟩:=F w mg fa _ KX G.T.g hmg
 have TB:TabsOk (K w.params) s₁.heap tb:=⟨nd,fun p hp=>hts _ (ht p hp).1,fun p hp=>let⟨_,c,e⟩:=ht p hp;⟨c,PySem.W.codeHd_of_K KX e⟩,fun p hp=>by
  cases e:(K w.params).lookup p.1 with
  | none=>rfl
  | some ob =>
    have e1:=KX _ _ e
    rw[hts _ (ht p hp).1]at e1
    cases e1
    have z:=List.all_eq_true.mp nt (p.1,PySem.W.tabObj #[]) (PySem.W.mem_of_lookupK e)
    exact absurd (show false=true from z) Bool.false_ne_true⟩
 exact sy KX TB G.T.g G.T.b G.T.builtins G.T.nolimit G.T.bmain hg hobj hints (Nat.le_trans hlen hn2) hr hF hb (fun H hT hS=>hsp w H a ns tb hlen hT hS) fun H e s'=>hCX w H s₁ e s'
end L2
namespace L2
open PySem PySem.Spec PyProof.Rows
def tW(f:Str):Str:=f ++ ".<locals>." ++ "<lambda>"
structure FunL(K:PySem.W.Frag)(x qual:Str)(st:Stmt)(f:Addr)(fd:FuncData)(c0 P:Addr):Prop where
 ex:∃(oc:Value) (od:Option Addr) (kV doc pm:Value) (an:Option Addr) (ct:Value) (osl:Array (Option Value)),
  fd=PySem.W.fnOf x qual (ay st) (ax st) (ag st) .none kV doc pm an (.ref c0) ct∧K.lookup f=some ⟨oc,od,.func fd,osl⟩∧PySem.W.codeIn K (.ref c0) qual=true
 kp:PySem.W.keepIn K (.ref f)=true
 hd:PySem.W.codeHdIn K c0 P=true
section
variable {P:Program}{w:World}{K:PySem.W.Frag}{mg:Str→Option Value}{base:Heap}{x qual:Str}{st:Stmt}{f c0 p0:Addr}{fd:FuncData}
theorem FunL.ok{N ps:List Str}{k:Nat}{sp:Sp}(F:FunL K x qual st f fd c0 p0)(S:FnScope N ps (ag st))(len:∀ vs H Q E,sp vs H Q E→vs.length=ps.length)
 (hbody:∀(A:Around) (outer:List Env) (s:Shared) (H:Hp) (vs:List V) (Q:VK) (E:XK),Room k (A.deeper (envOfC qual (ag st) s.heap.objs.size f (.ref c0)))→sp vs H Q E→
  ∃ t,PSs (mS CX0 P w K mg base N qual (ag st) f (.ref c0) A outer s H E).nox (ax st) t∧t { nx:=fun _ H'=>Q .non H',rt:=Q} (start N vs) H):FnOk P w K mg base CX0 (k+1) f fd ps sp:=by
 obtain⟨oc,od,kV,doc,pm,an,ct,osl,rfl,lk,hcd⟩:=F.ex
 refine tR lk hcd S len fun A outer s H vs Q E hr hsp=>?_
 obtain⟨t,h,q⟩:=hbody A outer s H vs Q E hr hsp
 exact⟨t,h.nox,q⟩
theorem FunL.binds{ps:List Str}(F:FunL K x qual st f fd c0 p0)
 (h:∀(kV doc pm:Value) (an:Option Addr) (cdv ct:Value) (us:List Value),us.length=ps.length→bindArgs (PySem.W.fnOf x qual (ay st) (ax st) (ag st) .none kV doc pm an cdv ct) ⟨us,[]⟩=pure (ps.zip us)):aU K fd ps []:=by
 obtain⟨oc,od,kV,doc,pm,an,ct,osl,rfl,lk,hcd⟩:=F.ex
 exact .all (h kV doc pm an (.ref c0) ct)
theorem vI{oc:Value}{od an:Option Addr}{osl:Array (Option Value)}{kV doc pm ct:Value}(l:K.lookup f=some ⟨oc,od,.func (PySem.W.fnOf x qual (ay st) (ax st) (ag st) .none kV doc pm an (.ref c0) ct),osl⟩)
 (c:PySem.W.codeIn K (.ref c0) qual=true) (k:PySem.W.keepIn K (.ref f)=true) (hd:PySem.W.codeHdIn K c0 p0=true):FunL K x qual st f (PySem.W.fnOf x qual (ay st) (ax st) (ag st) .none kV doc pm an (.ref c0) ct) c0 p0 :=
 ⟨⟨oc,od,kV,doc,pm,an,ct,osl,rfl,l,c⟩,k,hd⟩
end
end L2
namespace RM
abbrev OW:=Nat→Bool→Option (Int×Nat)
def eL(F:OW)(x:Nat)(s:Bool)(d:Int×Nat):OW:=fun y t=>if y=x∧t=s then some d else F y t
def mZ(F:OW)(x:Nat)(s:Bool):OW:=fun y t=>if y=x∧t=s then none else F y t
theorem bg(F:OW)(x:Nat)(s:Bool)(d:Int×Nat):eL F x s d x s=some d:=if_pos ⟨rfl,rfl⟩
theorem aS{F:OW}{x y:Nat}{s t:Bool}{d:Int×Nat}(h : ¬(y=x∧t=s)):eL F x s d y t=F y t:=if_neg h
theorem jQ(F:OW)(x:Nat)(s:Bool):mZ F x s x s=none:=if_pos ⟨rfl,rfl⟩
theorem gL{F:OW}{x y:Nat}{s t:Bool}(h : ¬(y=x∧t=s)):mZ F x s y t=F y t:=if_neg h
def Wz(N:Net)(L:Nat→Int)(m u v:Nat)(s:Bool)(z:Int)(e:Nat):Prop:=∃ pre,Wl N L m u pre v s z e
structure Dj(N:Net)(L:Nat→Int)(m u:Nat)(F W:OW)(now:Option (Nat×Bool))(done:Nat→Nat→Prop):Prop where
 fw:∀ x s d,F x s=some d→Wz N L m u x s d.1 d.2
 ww:∀ x s d,W x s=some d→Wz N L m u x s d.1 d.2
 dj:∀ x s d,W x s=some d→F x s=none
 le:∀ x s d y t d',F x s=some d→W y t=some d'→d.1≤d'.1
 mx:∀ x s d y t d',now=some (x,s)→F x s=some d→F y t=some d'→d'.1≤d.1
 cl:∀ x s d k y,F x s=some d→k<N.n→Jn N k x y→(now=some (x,s)→done k y)→∃ d',(F y (s^^m.testBit k)=some d'∨W y (s^^m.testBit k)=some d')∧d'.1≤d.1+L k
 st:∃ d,(F u false=some d∨W u false=some d)∧d.1≤0
section
variable {N:Net}{L:Nat→Int}{m u:Nat}{F W:OW}
theorem Dj.start:Dj N L m u (fun _ _=>none) (eL (fun _ _=>none) u false (0,0)) none (fun _ _=>False):=by
 refine⟨fun _ _ _ h=>(nomatch h),fun x s d h=>?_,fun _ _ _ _=>rfl,fun _ _ _ _ _ _ h=>(nomatch h),fun _ _ _ _ _ _ h=>(nomatch h),fun _ _ _ _ _ h=>(nomatch h),⟨(0,0),.inr (bg _ _ _ _),Int.le_refl _⟩⟩
 by_cases e:x=u∧s=false
 ·obtain⟨rfl,rfl⟩:=e
  rw[bg]at h
  cases h
  exact⟨[],.nil⟩
 ·rw[aS e]at h
  cases h
theorem Dj.pop(h:Dj N L m u F W none (fun _ _=>False)){x:Nat}{s:Bool}{d:Int×Nat}(e:W x s=some d)(hmin:∀ y t d',W y t=some d'→d.1≤d'.1):Dj N L m u (eL F x s d) (mZ W x s) (some (x,s)) (fun _ _=>False):=by
 have hF:=h.dj x s d e
 have of:∀ y t d',eL F x s d y t=some d'→(y=x∧t=s∧d' = d)∨F y t=some d':=fun y t d' q=>by
  by_cases z:y=x∧t=s
  ·obtain⟨rfl,rfl⟩:=z
   rw[bg]at q
   exact .inl ⟨rfl,rfl,(Option.some.inj q).symm⟩
  ·rw[aS z]at q
   exact .inr q
 have ow:∀ y t d',mZ W x s y t=some d'→¬(y=x∧t=s)∧W y t=some d':=fun y t d' q=>by
  by_cases z:y=x∧t=s
  ·obtain⟨rfl,rfl⟩:=z
   rw[jQ]at q
   cases q
  ·rw[gL z]at q
   exact⟨z,q⟩
 have moved:∀ y t d',F y t=some d'∨W y t=some d'→eL F x s d y t=some d'∨mZ W x s y t=some d':=fun y t d' q=>by
  by_cases z:y=x∧t=s
  ·obtain⟨rfl,rfl⟩:=z
   rcases q with q|q
   ·rw[hF]at q;cases q
   ·rw[e]at q;cases q
    exact .inl (bg _ _ _ _)
  ·rw[aS z,gL z];exact q
 refine⟨fun y t d' q=>?_,fun y t d' q=>h.ww y t d' (ow y t d' q).2,fun y t d' q=>?_,fun y t d' y2 t2 d2 q q2=>?_,fun y t d' y2 t2 d2 hn q q2=>?_,fun y t d' k y2 q hk hj hd=>?_,?_⟩
 ·rcases of y t d' q with⟨rfl,rfl,rfl⟩|q
  ·exact h.ww _ _ _ e
  ·exact h.fw y t d' q
 ·obtain⟨z,q⟩:=ow y t d' q
  rw[aS z]
  exact h.dj y t d' q
 ·obtain⟨_,q2⟩:=ow y2 t2 d2 q2
  rcases of y t d' q with⟨_,_,rfl⟩|q
  ·exact hmin _ _ _ q2
  ·exact h.le _ _ _ _ _ _ q q2
 ·cases hn
  rw[bg]at q
  cases q
  rcases of y2 t2 d2 q2 with⟨_,_,rfl⟩|q2
  ·exact Int.le_refl _
  ·exact h.le _ _ _ _ _ _ q2 e
 ·rcases of y t d' q with⟨rfl,rfl,rfl⟩|q
  ·exact(hd rfl).elim
  ·obtain⟨d2,q2,l2⟩:=h.cl y t d' k y2 q hk hj (fun z=>nomatch z)
   exact⟨d2,moved _ _ _ q2,l2⟩
 ·obtain⟨d2,q2,l2⟩:=h.st
  exact⟨d2,moved _ _ _ q2,l2⟩
theorem Dj.put{done:Nat→Nat→Prop}{x:Nat}{s:Bool}(h:Dj N L m u F W (some (x,s)) done){d:Int×Nat}{k y:Nat}(e:F x s=some d)(hk:k<N.n)(hL:0≤L k)(hj:Jn N k x y)(hF:F y (s^^m.testBit k)=none)
 (hW:∀ d',W y (s^^m.testBit k)=some d'→d.1+L k≤d'.1):Dj N L m u F (eL W y (s^^m.testBit k) (d.1+L k,d.2^^^2^k)) (some (x,s)) (fun k' y'=>done k' y'∨(k' = k∧y' = y)):=by
 have ow:∀ v t d',eL W y (s^^m.testBit k) (d.1+L k,d.2^^^2^k) v t=some d'→(v=y∧t=(s^^m.testBit k)∧d' = (d.1+L k,d.2^^^2^k))∨W v t=some d':=fun v t d' q=>by
  by_cases z:v=y∧t=(s^^m.testBit k)
  ·obtain⟨rfl,rfl⟩:=z
   rw[bg]at q
   exact .inl ⟨rfl,rfl,(Option.some.inj q).symm⟩
  ·rw[aS z]at q
   exact .inr q
 have moved:∀ v t d',F v t=some d'∨W v t=some d'→∃ d2,(F v t=some d2∨eL W y (s^^m.testBit k) (d.1+L k,d.2^^^2^k) v t=some d2)∧d2.1≤d'.1:=fun v t d' q=>by
  rcases q with q|q
  ·exact⟨d',.inl q,Int.le_refl _⟩
  ·by_cases z:v=y∧t=(s^^m.testBit k)
   ·obtain⟨rfl,rfl⟩:=z
    exact⟨_,.inr (bg _ _ _ _),hW d' q⟩
   ·exact⟨d',.inr (by rw[aS z];exact q),Int.le_refl _⟩
 refine⟨h.fw,fun v t d' q=>?_,fun v t d' q=>?_,fun v t d' v2 t2 d2 q q2=>?_,h.mx,fun v t d' k2 y2 q hk2 hj2 hd=>?_,?_⟩
 ·rcases ow v t d' q with⟨rfl,rfl,rfl⟩|q
  ·obtain⟨pre,w⟩:=h.fw x s d e
   exact⟨_,w.go hk hj⟩
  ·exact h.ww v t d' q
 ·rcases ow v t d' q with⟨rfl,rfl,rfl⟩|q
  ·exact hF
  ·exact h.dj v t d' q
 ·rcases ow v2 t2 d2 q2 with⟨rfl,rfl,rfl⟩|q2
  ·have:=h.mx x s d v t d' rfl e q
   show d'.1≤d.1+L k
   (first|lia|omega)
  ·exact h.le _ _ _ _ _ _ q q2
 ·by_cases hd2:some (x,s)=some (v,t)→done k2 y2
  ·obtain⟨d2,q2,l2⟩:=h.cl v t d' k2 y2 q hk2 hj2 hd2
   obtain⟨d3,q3,l3⟩:=moved _ _ _ q2
   exact⟨d3,q3,Int.le_trans l3 l2⟩
  ·have hn:some (x,s)=some (v,t):=Classical.byContradiction fun z=>hd2 fun z2=>absurd z2 z
   rcases hd hn with z|⟨rfl,rfl⟩
   ·exact absurd (fun _=>z) hd2
   ·cases hn
    rw[e]at q
    cases q
    exact⟨_,.inr (bg _ _ _ _),Int.le_refl _⟩
 ·obtain⟨d2,q2,l2⟩:=h.st
  obtain⟨d3,q3,l3⟩:=moved _ _ _ q2
  exact⟨d3,q3,Int.le_trans l3 l2⟩
theorem Dj.skip{done:Nat→Nat→Prop}{x:Nat}{s:Bool}(h:Dj N L m u F W (some (x,s)) done){d d2:Int×Nat}{k y:Nat}(e:F x s=some d)(hL:0≤L k)(q2:F y (s^^m.testBit k)=some d2∨(W y (s^^m.testBit k)=some d2∧d2.1≤d.1+L k)):
 Dj N L m u F W (some (x,s)) (fun k' y'=>done k' y'∨(k' = k∧y' = y)):=by
 refine⟨h.fw,h.ww,h.dj,h.le,h.mx,fun v t d' k2 y2 q hk2 hj2 hd=>?_,h.st⟩
 by_cases hd2:some (x,s)=some (v,t)→done k2 y2
 ·exact h.cl v t d' k2 y2 q hk2 hj2 hd2
 ·have hn:some (x,s)=some (v,t):=Classical.byContradiction fun z=>hd2 fun z2=>absurd z2 z
  rcases hd hn with z|⟨rfl,rfl⟩
  ·exact absurd (fun _=>z) hd2
  ·cases hn
   rw[e]at q
   cases q
   rcases q2 with q2|⟨q2,l2⟩
   ·have:=h.mx x s d _ _ d2 rfl e q2
    exact⟨d2,.inl q2,by(first|lia|omega)⟩
   ·exact⟨d2,.inr q2,l2⟩
theorem Dj.all{done:Nat→Nat→Prop}{x:Nat}{s:Bool}(h:Dj N L m u F W (some (x,s)) done)(ha:∀ k y,k<N.n→Jn N k x y→done k y):Dj N L m u F W none (fun _ _=>False) :=
 ⟨h.fw,h.ww,h.dj,h.le,fun _ _ _ _ _ _ z=>(nomatch z),fun v t d k y q hk hj _=>h.cl v t d k y q hk hj fun z=>by cases z;exact ha k y hk hj,h.st⟩
theorem Dj.best(h:Dj N L m u F W none (fun _ _=>False))(hW:∀ x s,W x s=none)(x:Nat)(s:Bool):lB N L m u x s ((F x s).map (·.1)):=by
 have low:∀{pre:List Nat} {v e:Nat} {t:Bool} {z:Int},Wl N L m u pre v t z e→∃ d,F v t=some d∧d.1≤z:=fun {pre v e t z} w=>by
  induction w with
  | nil =>
    obtain⟨d,q,l⟩:=h.st
    rcases q with q|q
    ·exact⟨d,q,l⟩
    ·rw[hW]at q;cases q
  | @go pre v w k e s z _ hk hj ih =>
    obtain⟨d,q,l⟩:=ih
    obtain⟨d2,q2,l2⟩:=h.cl _ _ d k _ q hk hj (fun z=>nomatch z)
    rcases q2 with q2|q2
    ·exact⟨d2,q2,by(first|lia|omega)⟩
    ·rw[hW]at q2;cases q2
 cases q:F x s with
 | none =>
   intro z ⟨_,_,w⟩
   obtain⟨d,q2,_⟩:=low w
   rw[q]at q2;cases q2
 | some d =>
   obtain⟨pre,w⟩:=h.fw x s d q
   refine⟨⟨_,_,w⟩,fun z ⟨_,_,w2⟩=>?_⟩
   obtain⟨d2,q2,l2⟩:=low w2
   rw[q]at q2;cases q2
   exact l2
end
end RM
namespace L2
open PySem Ring
abbrev ky(x:Nat)(s:Bool):List Key:=[.inl (x:Int),.inl (s.toNat:Int)]
theorem p7{x y:Nat}{s t:Bool}(h:ky x s=ky y t):x=y∧s=t:=by
 injection h with h1 h2
 injection h2 with h2 _
 injection h1 with h1
 injection h2 with h2
 refine⟨by(first|lia|omega),?_⟩
 cases s<;>cases t<;>first | rfl | (simp at h2)
def wV(H:Hp):Option (Int×Nat)→V→Prop
 | none,v=>v = .non
 | some d,v=>∃ c,v = .ref c∧H c=some (.tup [.int d.1,.int (d.2:Int)])
theorem wV.tups{H H' : Hp}{o:Option (Int×Nat)}{v:V}(h:wV H o v)(s:cy H H'):wV H' o v:=by
 cases o with
 | none=>exact h
 | some d=>obtain⟨c,e,q⟩:=h;exact⟨c,e,s _ _ q⟩
structure LwV(p:Nat)(H0:Hp)(D wd:Addr)(es:List Addr)(kvs:List (List Key×V))(F W:RM.OW)(H:Hp):Prop where
 same:am H0 H
 nd:es.Nodup
 ne:D∉es
 fr:∀ b∈es,H0 b=none
 Dn:H0 D=none
 wn:H0 wd=none
 wD:wd≠D
 wE:wd∉es
 lst:H D=some (.lst (es.map V.ref))
 at_:∀ i b,es[i]?=some b→∃ v0 v1,H b=some (.lst [v0,v1])∧wV H (F i false) v0∧wV H (F i true) v1
 dt:H wd=some (.dT kvs)
 kn:(kvs.map (·.1)).Nodup
 keys:∀ kv∈kvs,∃ x s,x<p∧kv.1=ky x s
 out:∀ x s d,W x s=some d→x<p
 val:∀ x s,(W x s=none∧cA kvs (ky x s)=none)∨∃ d c,W x s=some d∧cA kvs (ky x s)=some (.ref c)∧H c=some (.tup [.int d.1,.int (d.2:Int)])
section
variable {p:Nat}{H0 H H' : Hp}{D wd:Addr}{es:List Addr}{kvs:List (List Key×V)}{F W:RM.OW}
theorem LwV.go(h:LwV p H0 D wd es kvs F W H)(s:am H H'):LwV p H0 D wd es kvs F W H' :=
 ⟨h.same.trans s,h.nd,h.ne,h.fr,h.Dn,h.wn,h.wD,h.wE,s _ _ h.lst,fun i b e=>let⟨v0,v1,a,b1,c⟩:=h.at_ i b e;⟨v0,v1,s _ _ a,b1.tups s.tups,c.tups s.tups⟩,s _ _ h.dt,h.kn,h.keys,h.out,
  fun x t=>(h.val x t).imp (fun z=>z) fun⟨d,c,a,b,e⟩=>⟨d,c,a,b,s _ _ e⟩⟩
theorem LwV.len(h:LwV p H0 D wd es kvs F W H):kvs.length≤2*p:=by
 have hn:=h.kn
 have hk:=h.keys
 let code:List Key→Nat:=fun k=>match k with | [.inl x,.inl s]=>2*x.toNat+s.toNat | _=>0
 have inj:∀ a∈kvs.map (·.1),∀ b∈kvs.map (·.1),code a=code b→a=b:=fun a ha b hb e=>by
  obtain⟨u,hu,rfl⟩:=List.mem_map.mp ha
  obtain⟨v,hv,rfl⟩:=List.mem_map.mp hb
  obtain⟨x,s,_,ex⟩:=hk u hu
  obtain⟨y,t,_,ey⟩:=hk v hv
  rw[ex,ey]at e ⊢
  have e:2*((x:Int)).toNat+((s.toNat:Int)).toNat=2*((y:Int)).toNat+((t.toNat:Int)).toNat:=e
  rw[Int.toNat_natCast,Int.toNat_natCast,Int.toNat_natCast,Int.toNat_natCast]at e
  have hs:s.toNat<2:=by cases s<;>decide
  have ht:t.toNat<2:=by cases t<;>decide
  have e1:x=y:=by(first|lia|omega)
  have e2:s.toNat=t.toNat:=by(first|lia|omega)
  have e3:s=t:=by cases s<;>cases t<;>first | rfl | (simp at e2)
  rw[e1,e3]
 have nd:((kvs.map (·.1)).map code).Nodup:=by
  revert inj
  generalize kvs.map (·.1)=l at hn
  intro inj
  induction hn with
  | nil=>exact List.nodup_nil
  | @cons a l h1 h2 ih =>
    rw[List.map_cons,List.nodup_cons]
    refine⟨fun hm=>?_,ih fun a ha b hb e=>inj a (List.mem_cons_of_mem _ ha) b (List.mem_cons_of_mem _ hb) e⟩
    obtain⟨b,hb,e⟩:=List.mem_map.mp hm
    exact h1 b hb (inj a List.mem_cons_self b (List.mem_cons_of_mem _ hb) e.symm)
 have sub:∀ c∈(kvs.map (·.1)).map code,c∈List.range (2*p):=fun c hc=>by
  obtain⟨a,ha,rfl⟩:=List.mem_map.mp hc
  obtain⟨u,hu,rfl⟩:=List.mem_map.mp ha
  obtain⟨x,s,hx,ex⟩:=hk u hu
  rw[ex,List.mem_range]
  show 2*((x:Int)).toNat+((s.toNat:Int)).toNat<2*p
  rw[Int.toNat_natCast,Int.toNat_natCast]
  have hs:s.toNat<2:=by cases s<;>decide
  (first|lia|omega)
 have:=nd.length_le_of_subset sub
 simpa using this
theorem LwV.row(h:LwV p H0 D wd es kvs F W H){i:Nat}(hi:i<es.length):∃ b v0 v1,(es.map V.ref)[i]?=some (.ref b)∧es[i]?=some b∧H b=some (.lst [v0,v1])∧wV H (F i false) v0∧wV H (F i true) v1:=by
 have e:es[i]?=some es[i]:=List.getElem?_eq_getElem hi
 obtain⟨v0,v1,a,b,c⟩:=h.at_ i _ e
 exact⟨es[i],v0,v1,by rw[List.getElem?_map,e];rfl,e,a,b,c⟩
theorem jg{κ:Type}[DecidableEq κ](k j:κ):∀ kvs:List (κ×V),cA (cn kvs k) j=if j=k then none else cA kvs j
 | []=>by rw[show cn ([]:List (κ×V)) k=[] from rfl,kH];split<;>rfl
 | q::r=>by
   by_cases e:q.1=k
   ·rw[mC e,jg k j r]
    by_cases e2:j=k
    ·rw[if_pos e2,if_pos e2]
    ·rw[if_neg e2,if_neg e2,bA (fun z=>e2 (z.symm.trans e))]
   ·rw[lL e]
    by_cases e3:q.1=j
    ·rw[bF e3,if_neg (fun z=>e (e3.trans z)),bF e3]
    ·rw[bA e3,jg k j r,bA e3]
theorem LwV.take(h:LwV p H0 D wd es kvs F W H){x:Nat}{s:Bool}{d:Int×Nat}{b c:Addr}{v0 v1:V}(e:W x s=some d)(hc:H c=some (.tup [.int d.1,.int (d.2:Int)]))(hb:es[x]?=some b)(hv:H b=some (.lst [v0,v1])):
 LwV p H0 D wd es (cn kvs (ky x s)) (RM.eL F x s d) (RM.mZ W x s) (upd (upd H wd (.dT (cn kvs (ky x s)))) b (.lst (([v0,v1]:List V).set s.toNat (.ref c)))):=by
 have hm:=List.mem_of_getElem? hb
 have bw:b≠wd:=fun z=>h.wE (z▸hm)
 have bD:D≠b:=fun z=>h.ne (z▸hm)
 have tp:cy H (upd (upd H wd (.dT (cn kvs (ky x s)))) b (.lst (([v0,v1]:List V).set s.toNat (.ref c)))):=fun a ys q=>by
  rw[ak (aQ q hv (by intro z;cases z)),ak (aQ q h.dt (by intro z;cases z))]
  exact q
 refine⟨(h.same.put h.wn).put (h.fr b hm),h.nd,h.ne,h.fr,h.Dn,h.wn,h.wD,h.wE,by rw[ak bD,ak (Ne.symm h.wD)];exact h.lst,fun i b' hb'=>?_,by rw[ak (Ne.symm bw),ai],li h.kn,fun kv hkv=>h.keys kv (me hkv),fun y t d' q=>?_,fun y t=>?_⟩
 ·by_cases ei:i=x
  ·subst ei
   rw[hb]at hb';cases hb'
   obtain⟨w0,w1,q1,q2,q3⟩:=h.at_ _ _ hb
   rw[hv]at q1
   cases q1
   cases s with
   | false=>exact⟨.ref c,v1,ai,by rw[RM.bg];exact⟨c,rfl,tp _ _ hc⟩,by rw[RM.aS (fun z=>by cases z.2)];exact q3.tups tp⟩
   | true=>exact⟨v0,.ref c,ai,by rw[RM.aS (fun z=>by cases z.2)];exact q2.tups tp,by rw[RM.bg];exact⟨c,rfl,tp _ _ hc⟩⟩
  ·have bb:b'≠b:=fun z=>by
    subst z
    obtain⟨h1,h2⟩:=List.getElem?_eq_some_iff.mp hb'
    obtain⟨h3,h4⟩:=List.getElem?_eq_some_iff.mp hb
    exact ei ((List.getElem_inj h.nd).mp (h2.trans h4.symm))
   obtain⟨w0,w1,q1,q2,q3⟩:=h.at_ _ _ hb'
   exact⟨w0,w1,by rw[ak bb,ak (show b'≠wd from fun z=>h.wE (z▸List.mem_of_getElem? hb'))];exact q1,by rw[RM.aS (fun z=>ei z.1)];exact q2.tups tp,by rw[RM.aS (fun z=>ei z.1)];exact q3.tups tp⟩
 ·by_cases z:y=x∧t=s
  ·obtain⟨rfl,rfl⟩:=z;rw[RM.jQ]at q;cases q
  ·rw[RM.gL z]at q;exact h.out y t d' q
 ·rw[jg]
  by_cases z:y=x∧t=s
  ·obtain⟨rfl,rfl⟩:=z
   exact .inl ⟨RM.jQ _ _ _,if_pos rfl⟩
  ·rw[RM.gL z,if_neg (fun q=>z (p7 q))]
   rcases h.val y t with q|⟨d',c',q1,q2,q3⟩
   ·exact .inl q
   ·exact .inr ⟨d',c',q1,q2,tp _ _ q3⟩
theorem LwV.wait(h:LwV p H0 D wd es kvs F W H){x:Nat}{s:Bool}{d:Int×Nat}{c:Addr}(hx:x<p)(hc:H c=some (.tup [.int d.1,.int (d.2:Int)])):
 LwV p H0 D wd es (d5 kvs (ky x s) (.ref c)) F (RM.eL W x s d) (upd H wd (.dT (d5 kvs (ky x s) (.ref c)))):=by
 have tp:cy H (upd H wd (.dT (d5 kvs (ky x s) (.ref c)))):=fun a ys q=>by
  rw[ak (aQ q h.dt (by intro z;cases z))]
  exact q
 have keysp:(∀ kv∈d5 kvs (ky x s) (.ref c),∃ x s,x<p∧kv.1=ky x s)∧((d5 kvs (ky x s) (.ref c)).map (·.1)).Nodup:=by
  cases q:cA kvs (ky x s) with
  | none =>
    refine⟨fun kv hkv=>?_,vR _ h.kn q⟩
    rw[oy _ q]at hkv
    rcases List.mem_append.mp hkv with z|z
    ·exact h.keys kv z
    ·rw[List.mem_singleton.mp z]
     exact⟨x,s,hx,rfl⟩
  | some v =>
    have hany:(kvs.any fun kv=>decide (kv.1=ky x s))=true:=by rw[dQ,q];rfl
    have e:d5 kvs (ky x s) (.ref c)=kvs.map fun kv=>if kv.1=ky x s then(kv.1,.ref c) else kv:=by unfold d5;rw[if_pos hany]
    have ek:(d5 kvs (ky x s) (.ref c)).map (·.1)=kvs.map (·.1):=by
     rw[e,List.map_map]
     refine List.map_congr_left fun kv _=>?_
     show(if kv.1=ky x s then(kv.1,V.ref c) else kv).1=kv.1
     split<;>rfl
    refine⟨fun kv hkv=>?_,by rw[ek];exact h.kn⟩
    have hm:kv.1∈kvs.map (·.1):=by rw[← ek];exact List.mem_map_of_mem hkv
    obtain⟨kv',h1,h2⟩:=List.mem_map.mp hm
    rw[← h2]
    exact h.keys kv' h1
 refine⟨h.same.put h.wn,h.nd,h.ne,h.fr,h.Dn,h.wn,h.wD,h.wE,by rw[ak (Ne.symm h.wD)];exact h.lst,fun i b hb=>?_,ai,keysp.2,keysp.1,fun y t d' q=>?_,fun y t=>?_⟩
 ·obtain⟨w0,w1,q1,q2,q3⟩:=h.at_ _ _ hb
  exact⟨w0,w1,by rw[ak (show b≠wd from fun z=>h.wE (z▸List.mem_of_getElem? hb))];exact q1,q2.tups tp,q3.tups tp⟩
 ·by_cases z:y=x∧t=s
  ·rw[z.1];exact hx
  ·rw[RM.aS z]at q;exact h.out y t d' q
 ·rw[um]
  by_cases z:y=x∧t=s
  ·obtain⟨rfl,rfl⟩:=z
   exact .inr ⟨d,c,RM.bg _ _ _ _,if_pos rfl,tp _ _ hc⟩
  ·rw[RM.aS z,if_neg (fun q=>z (p7 q))]
   rcases h.val y t with q|⟨d',c',q1,q2,q3⟩
   ·exact .inl q
   ·exact .inr ⟨d',c',q1,q2,tp _ _ q3⟩
end
end L2
namespace L2
open PySem Ring
abbrev eK(m:Nat)(H:Hp)(c:Addr)(kw:Nat×Nat):Prop:=H c=some (.tup [.int (kw.1:Int),.int (kw.2:Int),.int ((m.testBit kw.1).toNat:Int)])
structure StV(m:Nat)(H0:Hp)(D:Addr)(es:List Addr)(S:Nat→List (Nat×Nat))(H:Hp):Prop where
 same:am H0 H
 nd:es.Nodup
 ne:D∉es
 fr:∀ b∈es,H0 b=none
 Dn:H0 D=none
 lst:H D=some (.lst (es.map V.ref))
 at_:∀ i b,es[i]?=some b→∃ cs,H b=some (.lst (cs.map V.ref))∧Paired (eK m H) cs (S i)
section
variable {m:Nat}{H0 H H' : Hp}{D b:Addr}{es:List Addr}{S:Nat→List (Nat×Nat)}{i:Nat}
theorem StV.go(h:StV m H0 D es S H)(s:am H H'):StV m H0 D es S H' :=
 ⟨h.same.trans s,h.nd,h.ne,h.fr,h.Dn,s _ _ h.lst,fun i b e=>let⟨cs,a,q⟩:=h.at_ i b e;⟨cs,s _ _ a,Paired.mapP q fun _ _ z=>s _ _ z⟩⟩
def kJ(S:Nat→List (Nat×Nat))(x:Nat)(kw:Nat×Nat):Nat→List (Nat×Nat):=fun i=>if i=x then S i++[kw] else S i
theorem StV.get(h:StV m H0 D es S H)(hi:i<es.length):∃ b cs,(es.map V.ref)[i]?=some (.ref b)∧es[i]?=some b∧H b=some (.lst (cs.map V.ref))∧Paired (eK m H) cs (S i):=by
 have e:es[i]?=some es[i]:=List.getElem?_eq_getElem hi
 obtain⟨cs,a,q⟩:=h.at_ i _ e
 exact⟨es[i],cs,by rw[List.getElem?_map,e];rfl,e,a,q⟩
theorem StV.put(h:StV m H0 D es S H){cs:List Addr}{c:Addr}{kw:Nat×Nat}(hb:es[i]?=some b)(hcs:H b=some (.lst (cs.map V.ref)))(q:Paired (eK m H) cs (S i))(hc:eK m H c kw):
 StV m H0 D es (kJ S i kw) (upd H b (.lst (cs.map V.ref++[.ref c]))):=by
 have hm:=List.mem_of_getElem? hb
 have hne:D≠b:=fun z=>h.ne (z▸hm)
 have tp:∀ c kw,eK m H c kw→eK m (upd H b (.lst (cs.map V.ref++[.ref c]))) c kw:=fun c kw z=>by
  show upd H b _ c=_
  rw[ak (aQ z hcs (by intro z;cases z))]
  exact z
 have tp' : ∀ x kw,eK m H x kw→eK m (upd H b (.lst (cs.map V.ref++[.ref c]))) x kw:=fun x kw z=>by
  show upd H b _ x=_
  rw[ak (aQ z hcs (by intro z;cases z))]
  exact z
 refine⟨h.same.put (h.fr b hm),h.nd,h.ne,h.fr,h.Dn,by rw[ak hne];exact h.lst,fun j b' hb'=>?_⟩
 by_cases e:j=i
 ·subst e
  rw[hb]at hb';cases hb'
  refine⟨cs++[c],by rw[ai];simp,?_⟩
  unfold kJ
  rw[if_pos rfl]
  exact Paired.snoc (Paired.mapP q fun _ _ z=>tp' _ _ z) (tp' _ _ hc)
 ·have bb:b'≠b:=fun z=>by
   subst z
   obtain⟨h1,h2⟩:=List.getElem?_eq_some_iff.mp hb'
   obtain⟨h3,h4⟩:=List.getElem?_eq_some_iff.mp hb
   exact e ((List.getElem_inj h.nd).mp (h2.trans h4.symm))
  obtain⟨cs',q1,q2⟩:=h.at_ j b' hb'
  refine⟨cs',by rw[ak bb];exact q1,?_⟩
  unfold kJ
  rw[if_neg e]
  exact Paired.mapP q2 fun _ _ z=>tp' _ _ z
theorem StV.off(h:StV m H0 D es S H){L:Addr}(hL:H L=none):L∉es:=fun z=>by
 obtain⟨j,hj⟩:=List.getElem?_of_mem z
 obtain⟨_,q,_⟩:=h.at_ j L hj
 rw[hL]at q
 cases q
def StC(m:Nat)(H0:Hp)(D:Addr)(i:Nat)(acc:List V)(H:Hp):Prop:=∃ es,acc=es.map V.ref∧es.length=i∧StV m H0 D es (fun _=>[]) H
theorem StC.start(hD:H0 D=none):StC m H0 D 0 [] (upd H0 D (.lst [])) :=
 ⟨[],rfl,rfl,am.new hD,List.nodup_nil,List.not_mem_nil,fun _ h=>(List.not_mem_nil h).elim,hD,ai,fun i b e=>by cases e⟩
theorem StC.len{acc:List V}(h:StC m H0 D i acc H):H D=some (.lst acc)∧acc.length≤i:=by
 obtain⟨es,rfl,e,r⟩:=h
 exact⟨r.lst,by rw[List.length_map];(first|lia|omega)⟩
theorem StC.next{acc:List V}(h:StC m H0 D i acc H)(hb:H b=none):upd H b (.lst []) D=some (.lst acc)∧StC m H0 D (i+1) (acc++[.ref b]) (upd (upd H b (.lst [])) D (.lst (acc++[.ref b]))):=by
 obtain⟨es,rfl,e,r⟩:=h
 have hDb:D≠b:=fun z=>by
  have:=r.lst
  rw[z,hb]at this
  cases this
 have hbn:b∉es:=r.off hb
 have hb0:H0 b=none:=r.same.free hb
 refine⟨by rw[ak hDb];exact r.lst,es++[b],by simp,by simp[e],(r.same.put hb0).put r.Dn,?_,?_,fun c hc=>?_,r.Dn,by rw[ai];simp,fun j c hc=>?_⟩
 ·exact List.nodup_append.mpr ⟨r.nd,by simp,fun x hx y hy=>by rw[List.mem_singleton.mp hy];exact fun z=>hbn (z▸hx)⟩
 ·intro hm
  rcases List.mem_append.mp hm with z|z
  ·exact r.ne z
  ·exact hDb (List.mem_singleton.mp z)
 ·rcases List.mem_append.mp hc with z|z
  ·exact r.fr c z
  ·rw[List.mem_singleton.mp z]
   exact hb0
 ·have hcD:c≠D:=fun z=>by
   subst z
   rcases List.mem_append.mp (List.mem_of_getElem? hc) with z|z
   ·exact r.ne z
   ·exact hDb (List.mem_singleton.mp z)
  refine⟨[],?_,.nil⟩
  rw[ak hcD]
  by_cases ec:c=b
  ·rw[ec,ai]
   rfl
  ·rw[ak ec]
   by_cases hj:j<es.length
   ·rw[List.getElem?_append_left hj]at hc
    obtain⟨cs,q1,q2⟩:=r.at_ j c hc
    cases q2
    exact q1
   ·rw[List.getElem?_append_right (by(first|lia|omega))]at hc
    have:=List.mem_of_getElem? hc
    exact absurd (List.mem_singleton.mp this) ec
end
structure StK(N:RM.Net)(k:Nat)(S:Nat→List (Nat×Nat)):Prop where
 mem:∀ i kw,kw∈S i↔(kw.1<k∧RM.Jn N kw.1 i kw.2)
 len:∀ i,(S i).length≤2*k
theorem StK.start{N:RM.Net}:StK N 0 (fun _=>[]):=⟨fun i kw=>⟨fun h=>(nomatch h),fun h=>absurd h.1 (Nat.not_lt_zero _)⟩,fun _=>Nat.zero_le _⟩
theorem StK.next{N:RM.Net}{k:Nat}{S:Nat→List (Nat×Nat)}(h:StK N k S):StK N (k+1) (kJ (kJ S (N.a k) (k,N.b k)) (N.b k) (k,N.a k)):=by
 refine⟨fun i kw=>?_,fun i=>?_⟩
 ·have one:∀(S:Nat→List (Nat×Nat)) (x:Nat) (q:Nat×Nat),kw∈kJ S x q i↔kw∈S i∨(i=x∧kw=q):=fun S x q=>by
   unfold kJ
   by_cases e:i=x
   ·rw[if_pos e,List.mem_append,List.mem_singleton];simp[e]
   ·rw[if_neg e];simp[e]
  rw[one,one,h.mem]
  obtain⟨k',w⟩:=kw
  constructor
  ·rintro((⟨h1,h2⟩|⟨rfl,h2⟩) | ⟨rfl,h2⟩)
   ·exact⟨Nat.lt_succ_of_lt h1,h2⟩
   ·cases h2;exact⟨Nat.lt_succ_self _,.inl ⟨rfl,rfl⟩⟩
   ·cases h2;exact⟨Nat.lt_succ_self _,.inr ⟨rfl,rfl⟩⟩
  ·rintro⟨h1,h2⟩
   by_cases e:k'<k
   ·exact .inl (.inl ⟨e,h2⟩)
   ·have e:k' = k:=by have:k'<k+1:=h1;(first|lia|omega)
    subst e
    rcases h2 with⟨h3,h4⟩|⟨h3,h4⟩
    ·exact .inl (.inr ⟨h3.symm,by have h4:N.b k' = w:=h4;rw[h4]⟩)
    ·exact .inr ⟨h3.symm,by have h4:N.a k' = w:=h4;rw[h4]⟩
 ·have one:∀(S:Nat→List (Nat×Nat)) (x:Nat) (q:Nat×Nat),(kJ S x q i).length≤(S i).length+1:=fun S x q=>by
   unfold kJ
   split
   ·simp
   ·(first|lia|omega)
  have h1:=one (kJ S (N.a k) (k,N.b k)) (N.b k) (k,N.a k)
  have h2:=one S (N.a k) (k,N.b k)
  have h3:=h.len i
  (first|lia|omega)
end L2
namespace RM
def left(F:OW):Nat→Nat
 | 0=>0
 | p+1=>left F p+(if(F p false).isNone then 1 else 0)+(if(F p true).isNone then 1 else 0)
theorem lO{F G:OW}:∀{p:Nat},(∀ x,x<p→∀ s,F x s=G x s)→left F p=left G p
 | 0,_=>rfl
 | p+1,h=>by
   unfold left
   rw[lO fun x hx=>h x (by(first|lia|omega)),h p (by(first|lia|omega)),h p (by(first|lia|omega))]
theorem pe{F:OW}{x:Nat}{s:Bool}{d:Int×Nat}(hn:F x s=none):∀{p:Nat},x<p→left (eL F x s d) p<left F p
 | 0,h=>absurd h (Nat.not_lt_zero _)
 | p+1,h=>by
   unfold left
   by_cases e:x=p
   ·subst e
    rw[lO (F:=eL F x s d) (G:=F) fun y hy t=>aS fun z=>by(first|lia|omega)]
    cases s with
    | false=>rw[bg,aS (fun z=>by cases z.2),hn];simp
    | true=>rw[bg,aS (fun z=>by cases z.2),hn];simp
   ·have ih:=pe (F:=F) (x:=x) (s:=s) (d:=d) hn (p:=p) (by(first|lia|omega))
    rw[aS (fun z=>e z.1.symm),aS (fun z=>e z.1.symm)]
    (first|lia|omega)
end RM
namespace L2
open PySem Ring
def wOf(W:RM.OW)(k:List Key):List Int:=match k with
 | [.inl x,.inl s]=>(match W x.toNat (decide (s=1)) with | some d=>[d.1,(d.2:Int)] | none=>[])
 | _=>[]
theorem ut{W:RM.OW}{x:Nat}{s:Bool}{d:Int×Nat}(h:W x s=some d):wOf W (ky x s)=[d.1,(d.2:Int)]:=by
 have e:(decide (((s.toNat:Nat):Int)=1))=s:=by cases s<;>rfl
 show(match W ((x:Int)).toNat (decide (((s.toNat:Nat):Int)=1)) with | some d=>[d.1,(d.2:Int)] | none=>[])=_
 rw[Int.toNat_natCast,e,h]
def sZ(W:RM.OW)(kvs:List (List Key×V))(i:Nat):List Int:=wOf W ((kvs[i]?.map (·.1)).getD [])
theorem m9{a b c d:Int}(h:HT.bG [a,b] [c,d]=false):c≤a:=by
 rw[HT.du]at h
 by_cases e:a=c
 ·(first|lia|omega)
 ·rw[if_neg e]at h
  have:=of_decide_eq_false h
  (first|lia|omega)
theorem mr{κ:Type}[DecidableEq κ]:∀{kvs:List (κ×V)} {k:κ} {v:V},(kvs.map (·.1)).Nodup→(k,v)∈kvs→cA kvs k=some v
 | [],_,_,_,h=>nomatch h
 | q::r,k,v,nd,h=>by
   rw[List.map_cons,List.nodup_cons]at nd
   rcases List.mem_cons.mp h with e|h
   ·subst e
    exact bF rfl
   ·have ne : ¬ q.1=k:=fun z=>nd.1 (by rw[z];exact List.mem_map_of_mem (f:=(·.1)) h)
    rw[bA ne]
    exact mr nd.2 h
theorem LwV.entry{p:Nat}{H0 H:Hp}{D wd:Addr}{es:List Addr}{kvs:List (List Key×V)}{F W:RM.OW}(h:LwV p H0 D wd es kvs F W H){i:Nat}{kv:List Key×V}(e:kvs[i]?=some kv):
 ∃ x s d c,x<p∧kv.1=ky x s∧W x s=some d∧cA kvs (ky x s)=some (.ref c)∧kv.2 = .ref c∧H c=some (.tup [.int d.1,.int (d.2:Int)])∧sZ W kvs i=[d.1,(d.2:Int)]:=by
 have hm:=List.mem_of_getElem? e
 obtain⟨x,s,hx,ek⟩:=h.keys kv hm
 have hv:cA kvs (ky x s)=some kv.2:=mr h.kn (by rw[← ek];exact hm)
 rcases h.val x s with⟨_,z⟩|⟨d,c,h1,h2,h3⟩
 ·rw[hv]at z;cases z
 ·rw[hv]at h2
  refine⟨x,s,d,c,hx,ek,h1,hv.trans h2,Option.some.inj h2,h3,?_⟩
  unfold sZ
  rw[e]
  show wOf W kv.1=_
  rw[ek]
  exact ut h1
theorem LwV.find{p:Nat}{H0 H:Hp}{D wd:Addr}{es:List Addr}{kvs:List (List Key×V)}{F W:RM.OW}(h:LwV p H0 D wd es kvs F W H){x:Nat}{s:Bool}{d:Int×Nat}(e:W x s=some d):∃(i:Nat) (kv:List Key×V),kvs[i]?=some kv∧kv.1=ky x s∧sZ W kvs i=[d.1,(d.2:Int)]:=by
 rcases h.val x s with⟨z,_⟩|⟨d',c,h1,h2,h3⟩
 ·rw[e]at z;cases z
 ·have hm:=uZ h2
  obtain⟨kv,hkv,ek⟩:=List.mem_map.mp hm
  obtain⟨i,hi⟩:=List.getElem?_of_mem hkv
  refine⟨i,kv,hi,ek,?_⟩
  unfold sZ
  rw[hi]
  show wOf W kv.1=_
  rw[ek]
  exact ut e
theorem LwV.start{p:Nat}{H0 H:Hp}{D wd c:Addr}{es:List Addr}{u:Nat}(f:FarV H0 D es (fun _ _=>none) H)(hu:u<p)(hw:H wd=some (.dT []))(h0:H0 wd=none)(hc:H c=some (.tup [.int 0,.int 0])):
 LwV p H0 D wd es [(ky u false,.ref c)] (fun _ _=>none) (RM.eL (fun _ _=>none) u false (0,0)) (upd H wd (.dT [(ky u false,.ref c)])):=by
 have wD:wd≠D:=fun z=>by rw[z,f.lst]at hw;cases hw
 have wE:wd∉es:=fun z=>by
  obtain⟨j,hj⟩:=List.getElem?_of_mem z
  have:=f.at_ j wd hj
  rw[hw]at this;cases this
 refine⟨f.same.put h0,f.nd,f.ne,f.fr,f.Dn,h0,wD,wE,by rw[ak (Ne.symm wD)];exact f.lst,fun i b hb=>?_,ai,by simp,fun kv hkv=>?_,fun x s d e=>?_,fun x s=>?_⟩
 ·have nb:b≠wd:=fun z=>wE (z▸List.mem_of_getElem? hb)
  exact⟨.non,.non,by rw[ak nb];exact f.at_ i b hb,rfl,rfl⟩
 ·rw[List.mem_singleton.mp hkv]
  exact⟨u,false,hu,rfl⟩
 ·by_cases z:x=u∧s=false
  ·rw[z.1];exact hu
  ·rw[RM.aS z]at e;cases e
 ·by_cases z:x=u∧s=false
  ·obtain⟨rfl,rfl⟩:=z
   exact .inr ⟨(0,0),c,RM.bg _ _ _ _,bF rfl,by rw[ak (aQ hc hw (by intro z;cases z))];exact hc⟩
  ·refine .inl ⟨RM.aS z,?_⟩
   rw[bA (fun q=>z ?_),kH]
   obtain⟨e1,e2⟩:=p7 q
   exact⟨e1.symm,e2.symm⟩
end L2
namespace L2
open PySem PySem.Spec PyProof.Rows
section
variable {P:Program}{w:World}{A:Around}{E:Value→Shared→Prop}{s:Shared}
theorem uO{l:Addr}{u0 u1:Value}{Q:List Value→Shared→Prop}(hh:A.handled=none)(hl:s.heap.IsList l #[u0,u1])
 (hQ:∀ h' tk,(∀ b o,s.heap.get? b=some o→h'.get? b=some o)→Q [u0,u1] { s with heap:=h',toks:=tk}):wpAny (model P w) A (unpackItems (.ref l) 2 none) Q E s:=by
 obtain⟨ol,hol,hcl,nl,hdl⟩:=id hl
 have hT:s.TypeIs (.ref l) "list":=⟨ol,hol,hcl⟩
 have hne:l≠s.heap.objs.size:=Nat.ne_of_lt (Heap.lt_size hol)
 unfold unpackItems
 refine wpAny_bind ?_
 unfold notIterableAtAll
 refine wpAny_bind (wpAny_specialOf hT PySem.F.slot_list_iter.lookup (wpAny_pure ?_))
 simp only[Bool.false_eq_true,if_false]
 refine wpAny_bind (wpAny_holding (wpAny_pyIter_list hl ?_))
 have W:=Walks.list (prog:=P) (w:=w) (A:=A) hh s.heap.objs.size l hne #[u0,u1]
 generalize hg:s.heap.push { cls:=.type "list_iterator",data:=.fields #[.ref l,.int 0 0]}=g0
 have g0k:∀ b o,s.heap.get? b=some o→g0.get? b=some o:=fun b o e=>by rw[← hg];exact Heap.get?_push_of_some _ e
 have g0i:g0.IsListIter s.heap.objs.size l 0:=by rw[← hg];exact⟨_,Heap.get?_push_size _ rfl,rfl,rfl⟩
 have g0l:g0.IsList l #[u0,u1]:=by rw[← hg];exact⟨ol,Heap.get?_push_of_some _ hol,hcl,nl,hdl⟩
 have nI:∀ b o,s.heap.get? b=some o→b∉[s.heap.objs.size]:=fun b o e z=>Nat.ne_of_lt (Heap.lt_size e) (List.mem_singleton.mp z)
 refine wpAny_bind (wpAny_holding ?_)
 show wpAny _ _ (pyNext (.ref s.heap.objs.size) >>= _) _ _ _
 refine wpAny_bind (W.item 0 _ _ _ (by simp) ⟨g0i,g0l⟩ fun v1 h1 tk1 hv1 st1 k1=>?_)
 obtain rfl:u0=v1:=by simpa using hv1
 refine wpAny_bind (wpAny_holding ?_)
 show wpAny _ _ (pyNext (.ref s.heap.objs.size) >>= _) _ _ _
 refine wpAny_bind (W.item 1 _ _ _ (by simp) st1 fun v2 h2 tk2 hv2 st2 k2=>?_)
 obtain rfl:u1=v2:=by simpa using hv2
 refine wpAny_bind (wpAny_holding ?_)
 show wpAny _ _ (pure []) _ _ _
 refine wpAny_pure (wpAny_pure (wpAny_pure ?_))
 rw[if_neg (by simp)]
 refine wpAny_bind (wpAny_holding (W.done _ _ _ st2 fun h3 tk3 k3=>?_))
 simp only[Option.isSome_none,Bool.false_eq_true,if_false]
 exact wpAny_pure (hQ h3 tk3 fun b o e=>k3 b o (nI b o e) (k2 b o (nI b o e) (k1 b o (nI b o e) (g0k b o e))))
theorem ux{env:Env}{elts:List Expr}{x1}{pos:Pos}{l:Addr}{u0 u1:Value}{Q:Unit→Shared→Prop}(hh:A.handled=none)(hl:s.heap.IsList l #[u0,u1])
 (hn:(assignEach elts env).length=2) (hstar:(assignEach elts env).findIdx? (·.1)=none)
 (h:∀ h' tk,(∀ b o,s.heap.get? b=some o→h'.get? b=some o)→wpAny (model P w) A (assignInOrder ((assignEach elts env).map (·.2)) [u0,u1]) Q E { s with heap:=h',toks:=tk}) :
 wpAny (model P w) A (assign (.Tuple elts x1 pos) env (.ref l)) Q E s:=by
 rw[arm_assign_Tuple]
 refine wpAny_bind (wpAny_standAt ?_)
 unfold unpack
 rw[hn,hstar]
 exact wpAny_bind (wpAny_holding (uO hh hl h))
end
section
variable {X:Cx}{es:List Expr}{pos:Pos}
def xP(K:PySem.W.Frag)(t:TGs):TG:=fun v σ H Q=>∃ a x y,v = .ref a∧SqL K H a [x,y]∧t [x,y] σ H Q
theorem yQ(K:PySem.W.Frag){k:Nat}{t:TGs}(hc:X.calm=true)(h:PGs X es t)
 (hn:(assignEach es X.env).length=2:=by rfl) (hst:(assignEach es X.env).findIdx? (·.1)=none:=by rfl) (hK:X.K=K:=by rfl):PG X (.Tuple es k pos) (xP K t):=by
 subst hK
 intro pins s σ H v u Q I r hw
 obtain⟨a,x,y,e1,hq,hw⟩:=hw
 subst e1
 cases r
 obtain⟨its,rv,ht,hz⟩:=I.list hq
 cases rv with
 | cons r1 rr=>cases rr with
   | cons r2 rr2 =>
     cases rr2
     refine ux (I.ok.hd hc) ht.isList hn hst fun h' tk hx=>?_
     exact h pins _ σ H [x,y] _ Q (I.kept (t':=tk) hx) (.cons r1 (.cons r2 .nil)) hw
end
end L2
namespace RM
section
variable {N:Net}{L:Nat→Int}{m u:Nat}
theorem jE{f g:Nat→Bool}:∀{n:Nat},(∀ k,k<n→0<L k)→(∀ k,k<n→f k=true→g k=true)→∀ k,k<n→f k=false→g k=true→bW L f n<bW L g n
 | 0,_,_,k,hk,_,_=>absurd hk (Nat.not_lt_zero _)
 | n+1,hL,h,k,hk,hf,hg=>by
   unfold bW
   have hn:=h n (by(first|lia|omega))
   have h0:=hL n (by(first|lia|omega))
   by_cases e:k=n
   ·subst e
    have:=je (L:=L) (f:=f) (g:=g) (n:=k) (fun j hj=>Int.le_of_lt (hL j (by(first|lia|omega)))) fun j hj=>h j (by(first|lia|omega))
    rw[hf,hg]
    simp only[Bool.false_eq_true,if_false,if_true]
    (first|lia|omega)
   ·have ih:=jE (n:=n) (fun j hj=>hL j (by(first|lia|omega))) (fun j hj=>h j (by(first|lia|omega))) k (by(first|lia|omega)) hf hg
    cases hfn:f n with
    | false=>cases g n<;>simp<;>(first|lia|omega)
    | true=>rw[hn hfn];simp;(first|lia|omega)
theorem py(hL:∀ k,k<N.n→0<L k)(hu:u<N.p){z:Int}{e:Nat}(h:Wz N L m u u true z e)(hmin:∀ x z',x<N.p→Wy N L m x x true z'→z≤z'):
 N.Ring e∧e<2^N.n∧N.par e m=true∧bW L (fun k=>e.testBit k) N.n=z:=by
 have hL0:∀ k,k<N.n→0≤L k:=fun k hk=>Int.le_of_lt (hL k hk)
 obtain⟨pre,h⟩:=h
 obtain⟨_,h2,h3,h4,h5,_⟩:=ir hL0 hu h
 obtain⟨r,r1,r2,r3⟩:=qk _ e rfl h2 (fun x _=>by rw[h3,Bool.xor_self]) h4
 have rlt:r<2^N.n:=cO fun k hk=>jk h2 (r2 k hk)
 obtain⟨x,hx,hw⟩:=km hL0 m r1 rlt
 rw[r3]at hw
 have hz:=hmin x _ hx hw
 have hle:=je (L:=L) (f:=fun k=>r.testBit k) (g:=fun k=>e.testBit k) hL0 fun k _ hk=>r2 k hk
 have er:e=r:=Nat.eq_of_testBit_eq fun k=>by
  cases hr:r.testBit k with
  | true=>exact r2 k hr
  | false =>
    cases he:e.testBit k with
    | false=>rfl
    | true =>
      have:=jE (L:=L) (f:=fun k=>r.testBit k) (g:=fun k=>e.testBit k) hL (fun k _ hk=>r2 k hk) k (jk h2 he) hr he
      (first|lia|omega)
 rw[er]
 exact⟨r1,rlt,r3,by(first|lia|omega)⟩
theorem tU(hL:∀ k,k<N.n→0≤L k)(hno:∀ x z',x<N.p→¬ Wy N L m x x true z'){r:Nat}(hr:N.Ring r)(hm:r<2^N.n):N.par r m=false:=by
 cases hp:N.par r m with
 | false=>rfl
 | true =>
   obtain⟨x,hx,hw⟩:=km hL m hr hm
   rw[hp]at hw
   exact absurd hw (hno x _ hx)
end
end RM
namespace L2
open PySem PySem.Spec PyProof.Rows
section
variable {X:Cx}{pins:List (Addr×Obj)}{σ:St}{H:Hp}{l It S:Addr}{cs:List Addr}{ks:Nat→List Int}{R:Result→Shared→Prop}
theorem gi{pa:List (Addr×Obj)}{s:Shared}(I:Inv X pa σ H s)(hl:SqL X.K H l (cs.map V.ref)):s.heap.IsList l (cs.map Value.ref).toArray:=by
 obtain⟨its,rv,p,hz⟩:=I.list hl
 have e:its=cs.map Value.ref:=by
  clear hl p hz
  induction cs generalizing its with
  | nil=>cases rv;rfl
  | cons c r ih =>
    rw[List.map_cons]at rv
    cases rv with
    | cons h t=>cases h;rw[ih _ t];rfl
 rw[e]at p
 exact p.isList
theorem sh(hh:X.A.handled=none)(un:X.A.in1.units<cLine)(hl:SqL X.K H l (cs.map V.ref))(hk:∀(i:Nat) c,cs[i]?=some c→SqT X.K H c ((ks i).map V.int))(oS:sC X S)(oI:sC X It)(SI:S≠It)(lI:l≠It)
 (pI:∀ p∈pins,p.1≠It) (pS:∀ p∈pins,p.1≠S)
 (hR:∀(i:Nat) c s',cs[i]?=some c→(∀ j,j<cs.length→HT.bG (ks j) (ks i)=false)→Inv X pins σ H s'→R (.ok (.ret (.ref c))) s') :
 ∀(r j i:Nat) (c:Addr) (s:Shared) (n:Nat) (oI' : Obj),cs.length-j=r→j≤cs.length→i<j→cs[i]?=some c→Inv X ((S,seqObj "list" #[.ref c,.ref c] n)::(It,oI')::pins) σ H s→s.heap.IsListIter It l j→
  (∀ j',j'<j→HT.bG (ks j') (ks i)=false)→codeAny (model X.prog X.w) X.A (.builtin "min.loop" ⟨[.ref It,.none,.ref S],[]⟩) R s:=by
 have hname:(toString "min" ++ toString ".loop":String)="min.loop":=by decide
 have W:=Walks.list (prog:=X.prog) (w:=X.w) (A:=X.A.in1) hh It l lI (cs.map Value.ref).toArray
 have hsz:(cs.map Value.ref).toArray.size=cs.length:=by simp
 intro r
 induction r with
 | zero =>
   intro j i c s n oI' hr hj hij hc I hit hbest
   have hjn:j=cs.length:=by(first|lia|omega)
   have pinS:=I.pin (S,_) (List.mem_append_right _ (.head _))
   refine codeAny_builtin PySem.F.entry_min_loop ?_
   rw[Around.under_plainId PySem.F.plain_min_loop _]
   show wpAny _ X.A.in1 (seqItems? (.ref S) >>= _) _ _ _
   refine wpAny_bind (wpAny_seqItems pinS.1 rfl ?_)
   show wpAny _ X.A.in1 (tryCatch (pyNext (.ref It)) _ >>= _) _ _ _
   refine wpAny_bind (wpAny_tryCatch (W.done _ _ _ ⟨by rw[hsz,← hjn];exact hit,gi I hl⟩ fun h' tk' hk'=>?_))
   have I1:=I.repin (t':=tk') (h':=h') (pb:=(S,seqObj "list" #[.ref c,.ref c] n)::pins) oI (List.Mem.tail _ (.head _)) (fun b u hb e=>hk' b u (by simpa using hb) e) (fun p hp=>by
    rcases List.mem_cons.mp hp with rfl|hp
    ·exact .inr ⟨.head _,SI⟩
    ·exact .inr ⟨.tail _ (.tail _ hp),pI p hp⟩)
   have pinS1:=I1.pin (S,_) (List.mem_append_right _ (.head _))
   show wpAny _ X.A.in1 (updateSeq S (fun _=>#[]) >>= _) _ _ _
   refine wpAny_bind (wpAny_updateSeq pinS1.1 rfl (wpAny_bind (wpAny_letGo (wpAny_pure ?_))))
   have s1:=Heap.SameBut.update h' S (Obj.mapSeq fun _=>(#[]:Array Value))
   exact hR i c _ hc (fun j' hj'=>hbest j' (by(first|lia|omega))) (I1.repin (t':=tk') (pb:=pins) oS (.head _) (fun b u hb e=>(s1.2 b hb).trans e) fun p hp=>.inr ⟨.tail _ hp,pS p hp⟩)
 | succ r ih =>
   intro j i c s n oI' hr hj hij hc I hit hbest
   have hjn:j<cs.length:=by(first|lia|omega)
   have pinS:=I.pin (S,_) (List.mem_append_right _ (.head _))
   refine codeAny_builtin PySem.F.entry_min_loop ?_
   rw[Around.under_plainId PySem.F.plain_min_loop _]
   show wpAny _ X.A.in1 (seqItems? (.ref S) >>= _) _ _ _
   refine wpAny_bind (wpAny_seqItems pinS.1 rfl ?_)
   show wpAny _ X.A.in1 (tryCatch (pyNext (.ref It)) _ >>= _) _ _ _
   refine wpAny_bind (wpAny_tryCatch (W.item j _ _ _ (by rw[hsz];exact hjn) ⟨hit,gi I hl⟩ fun v h' tk' hv st' hk'=>?_))
   have hcj:cs[j]?=some cs[j]:=List.getElem?_eq_getElem hjn
   obtain rfl:v = .ref cs[j]:=by
    have:(cs.map Value.ref)[j]?=some v:=by simpa using hv
    rw[List.getElem?_map,hcj]at this
    exact(Option.some.inj this).symm
   obtain⟨oI2,hoI2,hoc,hod⟩:=id st'.1
   have I1:=I.repin (t':=tk') (h':=h') (pb:=(S,seqObj "list" #[.ref c,.ref c] n)::(It,oI2)::pins) oI (List.Mem.tail _ (.head _)) (fun b u hb e=>hk' b u (by simpa using hb) e) (fun p hp=>by
    rcases List.mem_cons.mp hp with rfl|hp
    ·exact .inr ⟨.head _,SI⟩
    ·rcases List.mem_cons.mp hp with rfl|hp
     ·exact .inl ⟨rfl,hoI2,fun v z=>by rw[hod]at z;cases z⟩
     ·exact .inr ⟨.tail _ (.tail _ hp),pI p hp⟩)
   have pinS2:=I1.pin (S,_) (List.mem_append_right _ (.head _))
   show wpAny _ X.A.in1 (tryCatch (holding [.ref cs[j],.ref cs[j]] (richCompare .Lt (.ref cs[j]) (.ref c) >>= _)) _ >>= _) _ _ _
   refine wpAny_bind (wpAny_tryCatch (wpAny_holding (wpAny_bind (tD I1 (hk j _ hcj) (hk i c hc) un ?_))))
   refine wpAny_bind (wpAny_holding (wpAny_truthy_bool (wpAny_bind (wpAny_letGo (wpAny_pure ?_)))))
   cases hlt:HT.bG (ks j) (ks i) with
   | true =>
     have s1:=Heap.SameBut.update h' S (Obj.mapSeq fun _=>(#[.ref cs[j],.ref cs[j]]:Array Value))
     obtain⟨n2,hn2⟩:∃ n2,(h'.update S (Obj.mapSeq fun _=>(#[.ref cs[j],.ref cs[j]]:Array Value))).get? S=some (seqObj "list" #[.ref cs[j],.ref cs[j]] n2):=⟨_,get?_update_seq pinS2.1 fun _=>#[.ref cs[j],.ref cs[j]]⟩
     simp only[if_true]
     refine wpAny_bind (wpAny_updateSeq pinS2.1 rfl (wpAny_bind (wpAny_letGo ?_)))
     rw[hname]
     have I3:=I1.repin (t':=tk') (pb:=(S,seqObj "list" #[.ref cs[j],.ref cs[j]] n2)::(It,oI2)::pins) oS (.head _) (fun b u hb e=>(s1.2 b hb).trans e) (fun p hp=>by
      rcases List.mem_cons.mp hp with rfl|hp
      ·exact .inl ⟨rfl,hn2,fun v z=>by cases z⟩
      ·rcases List.mem_cons.mp hp with rfl|hp
       ·exact .inr ⟨.tail _ (.head _),SI.symm⟩
       ·exact .inr ⟨.tail _ (.tail _ hp),pS p hp⟩)
     refine wpAny_pure ⟨plainId_quiet PySem.F.plain_min_loop _,ih (j+1) j cs[j] _ n2 oI2 (by(first|lia|omega)) (by(first|lia|omega)) (by(first|lia|omega)) hcj I3 ⟨oI2,(s1.2 It SI.symm).trans hoI2,hoc,hod⟩ fun j' hj'=>?_⟩
     by_cases e:j' = j
     ·rw[e];exact HT.dq _
     ·exact HT.j6 (hbest j' (by(first|lia|omega))) hlt
   | false =>
     simp only[Bool.false_eq_true,if_false]
     refine wpAny_bind (wpAny_letGo ?_)
     rw[hname]
     refine wpAny_pure ⟨plainId_quiet PySem.F.plain_min_loop _,ih (j+1) i c _ n oI2 (by(first|lia|omega)) (by(first|lia|omega)) (by(first|lia|omega)) hc I1 st'.1 fun j' hj'=>?_⟩
     by_cases e:j' = j
     ·rw[e];exact hlt
     ·exact hbest j' (by(first|lia|omega))
theorem yM(hr:X.A.handled=none)(un:X.A.in1.units<cLine):dS X (.builtin "min") (fun xs H Q=>∃(l:Addr) (cs:List Addr) (ks:Nat→List Int),xs=[.ref l]∧SqL X.K H l (cs.map V.ref)∧0<cs.length∧(∀(i:Nat) c,cs[i]?=some c→SqT X.K H c ((ks i).map V.int))∧
 ∀(i:Nat) c,cs[i]?=some c→(∀ j,j<cs.length→HT.bG (ks j) (ks i)=false)→Q (.ref c) H):=by
 intro pins s σ H xs us Q I r h
 obtain⟨l,cs,ks,rfl,hl,hne,hk,q⟩:=h
 obtain⟨u,rfl,rx⟩:=iI r
 cases rx
 have hname:(toString "min" ++ toString ".loop":String)="min.loop":=by decide
 have hls:=gi I hl
 obtain⟨ol,hol,_⟩:=id hls
 have hll:l<s.heap.objs.size:=Heap.lt_size hol
 refine call_function_tree PySem.F.kind_min PySem.F.plain_min PySem.F.entry_min (PySem.F.args_min1 _) ?_
 show wpAny _ X.A.in1 (Builtin.Builtins.bindParams "min" ["key","default"] 0 ⟨[],[]⟩ >>= _) _ _ s
 refine wpAny_bind (wpAny_of_eq (show Builtin.Builtins.bindParams "min" ["key","default"] 0 ⟨[],[]⟩=pure [none,none] from rfl) ?_)
 refine wpAny_bind (wpAny_pure (wpAny_bind (wpAny_pyIter_list hls (wpAny_bind (wpAny_newList ?_ (Nat.zero_le _))))))
 rw[hname]
 refine wpAny_pure ⟨plainId_quiet PySem.F.plain_min_loop _,?_⟩
 generalize hoI:({ cls:=.type "list_iterator",data:=.fields #[.ref l,.int 0 0]}:Obj)=oI
 have hS:(s.heap.push oI).objs.size=s.heap.objs.size+1:=size_push' ..
 have hk2:∀ b o,s.heap.get? b=some o→((s.heap.push oI).push (seqObj "list" #[] 0)).get? b=some o:=fun b o e=>Heap.get?_push_of_some _ (Heap.get?_push_of_some _ e)
 have gI:((s.heap.push oI).push (seqObj "list" #[] 0)).get? s.heap.objs.size=some oI:=Heap.get?_push_of_some _ (Heap.get?_push_size _ (by rw[← hoI];rfl))
 have gS:((s.heap.push oI).push (seqObj "list" #[] 0)).get? (s.heap.push oI).objs.size=some (seqObj "list" #[] 0):=Heap.get?_push_size _ rfl
 have ltp:∀ p∈pins,p.1<s.heap.objs.size:=fun p hp=>Heap.lt_size (I.pin p (List.mem_append_right _ hp)).1
 have oIt:=I.ours (Nat.le_refl s.heap.objs.size)
 have oS:=I.ours (b:=(s.heap.push oI).objs.size) (by rw[hS];exact Nat.le_succ _)
 have SI:(s.heap.push oI).objs.size≠s.heap.objs.size:=by rw[hS];exact Nat.succ_ne_self _
 have lI:l≠s.heap.objs.size:=Nat.ne_of_lt hll
 have pI:∀ p∈pins,p.1≠s.heap.objs.size:=fun p hp=>Nat.ne_of_lt (ltp p hp)
 have pS:∀ p∈pins,p.1≠(s.heap.push oI).objs.size:=fun p hp=>by rw[hS];exact Nat.ne_of_lt (Nat.lt_succ_of_lt (ltp p hp))
 have J:Inv X (((s.heap.push oI).objs.size,seqObj "list" #[] 0)::(s.heap.objs.size,oI)::pins) σ H { s with heap:=(s.heap.push oI).push (seqObj "list" #[] 0)}:=by
  have K:=I.kept (t':=s.toks) hk2
  refine K.pins_of fun p hp=>?_
  rcases List.mem_cons.mp hp with rfl|hp
  ·exact⟨gS,I.hok.fresh (by rw[hS];exact Nat.le_succ _),oS.2.1,oS.2.2.1,fun v z=>by cases z⟩
  ·rcases List.mem_cons.mp hp with rfl|hp
   ·exact⟨gI,I.hok.fresh (Nat.le_refl _),oIt.2.1,oIt.2.2.1,fun v z=>by rw[← hoI]at z;cases z⟩
   ·exact K.pin p (List.mem_append_right _ hp)
 have W:=Walks.list (prog:=X.prog) (w:=X.w) (A:=X.A.in1) hr s.heap.objs.size l lI (cs.map Value.ref).toArray
 have pinS:=J.pin ((s.heap.push oI).objs.size,seqObj "list" #[] 0) (List.mem_append_right _ (.head _))
 refine codeAny_builtin PySem.F.entry_min_loop ?_
 rw[Around.under_plainId PySem.F.plain_min_loop _]
 show wpAny _ X.A.in1 (seqItems? (.ref _) >>= _) _ _ _
 refine wpAny_bind (wpAny_seqItems pinS.1 rfl ?_)
 show wpAny _ X.A.in1 (tryCatch (pyNext (.ref s.heap.objs.size)) _ >>= _) _ _ _
 refine wpAny_bind (wpAny_tryCatch (W.item 0 _ _ _ (by simpa using hne) ⟨⟨oI,gI,by rw[← hoI],by rw[← hoI];rfl⟩,gi J hl⟩ fun v h' tk' hv st' hk'=>?_))
 have hcj:cs[0]?=some cs[0]:=List.getElem?_eq_getElem hne
 obtain rfl:v = .ref cs[0]:=by
  have:(cs.map Value.ref)[0]?=some v:=by simpa using hv
  rw[List.getElem?_map,hcj]at this
  exact(Option.some.inj this).symm
 obtain⟨oI2,hoI2,hoc,hod⟩:=id st'.1
 have I1:=J.repin (t':=tk') (h':=h') (pb:=((s.heap.push oI).objs.size,seqObj "list" #[] 0)::(s.heap.objs.size,oI2)::pins) oIt (List.Mem.tail _ (.head _)) (fun b u hb e=>hk' b u (by simpa using hb) e) (fun p hp=>by
  rcases List.mem_cons.mp hp with rfl|hp
  ·exact .inr ⟨.head _,SI⟩
  ·rcases List.mem_cons.mp hp with rfl|hp
   ·exact .inl ⟨rfl,hoI2,fun v z=>by rw[hod]at z;cases z⟩
   ·exact .inr ⟨.tail _ (.tail _ hp),pI p hp⟩)
 have pinS2:=I1.pin ((s.heap.push oI).objs.size,_) (List.mem_append_right _ (.head _))
 have s1:=Heap.SameBut.update h' (s.heap.push oI).objs.size (Obj.mapSeq fun _=>(#[.ref cs[0],.ref cs[0]]:Array Value))
 obtain⟨n2,hn2⟩:∃ n2,(h'.update (s.heap.push oI).objs.size (Obj.mapSeq fun _=>(#[.ref cs[0],.ref cs[0]]:Array Value))).get? (s.heap.push oI).objs.size=some (seqObj "list" #[.ref cs[0],.ref cs[0]] n2):=⟨_,get?_update_seq pinS2.1 fun _=>#[.ref cs[0],.ref cs[0]]⟩
 show wpAny _ X.A.in1 (updateSeq (s.heap.push oI).objs.size (fun _=>#[.ref cs[0],.ref cs[0]]) >>= _) _ _ _
 refine wpAny_bind (wpAny_updateSeq pinS2.1 rfl ?_)
 rw[hname]
 have I3:=I1.repin (t':=tk') (pb:=((s.heap.push oI).objs.size,seqObj "list" #[.ref cs[0],.ref cs[0]] n2)::(s.heap.objs.size,oI2)::pins) oS (.head _) (fun b u hb e=>(s1.2 b hb).trans e) (fun p hp=>by
  rcases List.mem_cons.mp hp with rfl|hp
  ·exact .inl ⟨rfl,hn2,fun v z=>by cases z⟩
  ·rcases List.mem_cons.mp hp with rfl|hp
   ·exact .inr ⟨.tail _ (.head _),SI.symm⟩
   ·exact .inr ⟨.tail _ (.tail _ hp),pS p hp⟩)
 refine wpAny_pure ⟨plainId_quiet PySem.F.plain_min_loop _,sh hr un hl hk oS oIt SI lI pI pS (fun i c s' hc best I7=>⟨.ref c,H,I7,rfl,q i c hc best⟩) _ 1 0 cs[0] _ n2 oI2 rfl hne (Nat.lt_succ_self _) hcj I3 ⟨oI2,(s1.2 _ SI.symm).trans hoI2,hoc,hod⟩ fun j hj=>?_⟩
 have e:j=0:=by(first|lia|omega)
 rw[e];exact HT.dq _
end
end L2
namespace RM
def lx(a b:Int×Nat):Prop:=a.1<b.1∨(a.1=b.1∧a.2≤b.2)
theorem lx.anti{a b:Int×Nat}(h1:lx a b)(h2:lx b a):a=b:=by
 obtain⟨a1,a2⟩:=a
 obtain⟨b1,b2⟩:=b
 unfold lx at h1 h2
 simp only at h1 h2
 have e1:a1=b1:=by(first|lia|omega)
 have e2:a2=b2:=by(first|lia|omega)
 rw[e1,e2]
def stp(L:Nat→Int)(d:Int×Nat)(k:Nat):Int×Nat:=(d.1+L k,d.2^^^2^k)
structure Fx(N:Net)(L:Nat→Int)(m u:Nat)(F:OW):Prop where
 st:F u false=some (0,0)
 cx:∀ x s d k y,F x s=some d→k<N.n→Jn N k x y→∃ d',F y (s^^m.testBit k)=some d'∧lx d' (stp L d k)
 org:∀ y t d,F y t=some d→(y=u∧t=false∧d=(0,0))∨∃ x s d0 k,F x s=some d0∧k<N.n∧Jn N k x y∧t=(s^^m.testBit k)∧d=stp L d0 k
 nn:∀ y t d,F y t=some d→0≤d.1
section
variable {N:Net}{L:Nat→Int}{m u:Nat}{F G:OW}
theorem Fx.part(hL:∀ k,k<N.n→0<L k)(f:Fx N L m u F)(g:Fx N L m u G):∀(n:Nat),(∀ y t d,d.1<(n:Int)→(F y t=some d↔G y t=some d)):=by
 intro n
 induction n with
 | zero =>
   intro y t d hd
   have hd:d.1<0:=hd
   exact⟨fun h=>absurd (f.nn y t d h) (by(first|lia|omega)),fun h=>absurd (g.nn y t d h) (by(first|lia|omega))⟩
 | succ n ih =>
   have one:∀{F G:OW},Fx N L m u F→Fx N L m u G→(∀ y t d,d.1<(n:Int)→(F y t=some d↔G y t=some d))→∀ y t d,d.1<((n+1:Nat):Int)→F y t=some d→∃ d',G y t=some d'∧lx d' d:=fun {F G} f g ih y t d hd h=>by
    rcases f.org y t d h with⟨rfl,rfl,rfl⟩|⟨x,s,d0,k,h0,hk,hj,rfl,rfl⟩
    ·exact⟨_,g.st,.inr ⟨rfl,Nat.le_refl _⟩⟩
    ·have hLk:=hL k hk
     have hd0:d0.1<(n:Int):=by
      have hd:d0.1+L k<((n+1:Nat):Int):=hd
      (first|lia|omega)
     exact g.cx x s d0 k y ((ih x s d0 hd0).mp h0) hk hj
   have tu:∀{F G:OW},Fx N L m u F→Fx N L m u G→(∀ y t d,d.1<(n:Int)→(F y t=some d↔G y t=some d))→∀ y t d,d.1<((n+1:Nat):Int)→F y t=some d→G y t=some d:=fun {F G} f g ih y t d hd h=>by
    obtain⟨d',h',l'⟩:=one f g ih y t d hd h
    have hd' : d'.1<((n+1:Nat):Int):=by
     rcases l' with z|z<;>(first|lia|omega)
    obtain⟨d2,h2,l2⟩:=one g f (fun y t d hd=>(ih y t d hd).symm) y t d' hd' h'
    rw[h]at h2
    cases h2
    rw[l'.anti l2]at h'
    exact h'
   intro y t d hd
   exact⟨tu f g ih y t d hd,tu g f (fun y t d hd=>(ih y t d hd).symm) y t d hd⟩
theorem Fx.uniq(hL:∀ k,k<N.n→0<L k)(f:Fx N L m u F)(g:Fx N L m u G):F=G:=by
 have go:∀{F G:OW},Fx N L m u F→Fx N L m u G→∀ y t d,F y t=some d→G y t=some d:=fun {F G} f g y t d h=>by
  have hn:=f.nn y t d h
  exact(Fx.part hL f g (d.1.toNat+1) y t d (by(first|lia|omega))).mp h
 funext y t
 cases h:F y t with
 | some d=>exact(go f g y t d h).symm
 | none =>
   cases h' : G y t with
   | none=>rfl
   | some d=>rw[go g f y t d h']at h;cases h
end
end RM
namespace RM
def Org(N:Net)(L:Nat→Int)(m u:Nat)(F:OW)(y:Nat)(t:Bool)(d:Int×Nat):Prop:=(y=u∧t=false∧d=(0,0))∨∃ x s d0 k,F x s=some d0∧k<N.n∧Jn N k x y∧t=(s^^m.testBit k)∧d=stp L d0 k
structure Dx(N:Net)(L:Nat→Int)(m u:Nat)(F W:OW)(now:Option (Nat×Bool))(done:Nat→Nat→Prop):Prop where
 dj:Dj N L m u F W now done
 cx:∀ x s d k y,F x s=some d→k<N.n→Jn N k x y→(now=some (x,s)→done k y)→∃ d',(F y (s^^m.testBit k)=some d'∨W y (s^^m.testBit k)=some d')∧lx d' (stp L d k)
 fo:∀ y t d,F y t=some d→Org N L m u F y t d
 wo:∀ y t d,W y t=some d→Org N L m u F y t d
 s0:F u false=some (0,0)∨W u false=some (0,0)
section
variable {N:Net}{L:Nat→Int}{m u:Nat}{F W:OW}
theorem Org.grow{y x:Nat}{t s:Bool}{d e:Int×Nat}(h:Org N L m u F y t d)(hF:F x s=none):Org N L m u (eL F x s e) y t d:=by
 rcases h with h|⟨x',s',d0,k,h0,r⟩
 ·exact .inl h
 ·refine .inr ⟨x',s',d0,k,?_,r⟩
  rw[aS (fun z=>by rw[z.1,z.2,hF]at h0;cases h0)]
  exact h0
theorem Dx.start:Dx N L m u (fun _ _=>none) (eL (fun _ _=>none) u false (0,0)) none (fun _ _=>False):=by
 refine⟨.start,fun _ _ _ _ _ h=>(nomatch h),fun _ _ _ h=>(nomatch h),fun y t d h=>?_,.inr (bg _ _ _ _)⟩
 by_cases e:y=u∧t=false
 ·obtain⟨rfl,rfl⟩:=e
  rw[bg]at h
  exact .inl ⟨rfl,rfl,(Option.some.inj h).symm⟩
 ·rw[aS e]at h
  cases h
theorem Dx.pop(h:Dx N L m u F W none (fun _ _=>False)){x:Nat}{s:Bool}{d:Int×Nat}(e:W x s=some d)(hmin:∀ y t d',W y t=some d'→d.1≤d'.1):Dx N L m u (eL F x s d) (mZ W x s) (some (x,s)) (fun _ _=>False):=by
 have hF:=h.dj.dj x s d e
 have moved:∀ y t d',F y t=some d'∨W y t=some d'→eL F x s d y t=some d'∨mZ W x s y t=some d':=fun y t d' q=>by
  by_cases z:y=x∧t=s
  ·obtain⟨rfl,rfl⟩:=z
   rcases q with q|q
   ·rw[hF]at q;cases q
   ·rw[e]at q;cases q
    exact .inl (bg _ _ _ _)
  ·rw[aS z,gL z];exact q
 refine⟨h.dj.pop e hmin,fun y t d' k y2 q hk hj hd=>?_,fun y t d' q=>?_,fun y t d' q=>?_,moved _ _ _ h.s0⟩
 ·by_cases z:y=x∧t=s
  ·obtain⟨rfl,rfl⟩:=z
   exact(hd rfl).elim
  ·rw[aS z]at q
   obtain⟨d2,q2,l2⟩:=h.cx y t d' k y2 q hk hj (fun z=>nomatch z)
   exact⟨d2,moved _ _ _ q2,l2⟩
 ·by_cases z:y=x∧t=s
  ·obtain⟨rfl,rfl⟩:=z
   rw[bg]at q;cases q
   exact(h.wo _ _ _ e).grow hF
  ·rw[aS z]at q
   exact(h.fo y t d' q).grow hF
 ·by_cases z:y=x∧t=s
  ·obtain⟨rfl,rfl⟩:=z
   rw[jQ]at q;cases q
  ·rw[gL z]at q
   exact(h.wo y t d' q).grow hF
theorem lx.trans{a b c:Int×Nat}(h1:lx a b)(h2:lx b c):lx a c:=by
 unfold lx at *
 (first|lia|omega)
theorem Dx.put{done:Nat→Nat→Prop}{x:Nat}{s:Bool}(h:Dx N L m u F W (some (x,s)) done){d:Int×Nat}{k y:Nat}(e:F x s=some d)(h0:0≤d.1)(hk:k<N.n)(hL:0<L k)(hj:Jn N k x y)(hF:F y (s^^m.testBit k)=none)
 (hW:∀ d',W y (s^^m.testBit k)=some d'→lx (stp L d k) d'):Dx N L m u F (eL W y (s^^m.testBit k) (stp L d k)) (some (x,s)) (fun k' y'=>done k' y'∨(k' = k∧y' = y)):=by
 have moved:∀ v t d',F v t=some d'∨W v t=some d'→∃ d2,(F v t=some d2∨eL W y (s^^m.testBit k) (stp L d k) v t=some d2)∧lx d2 d':=fun v t d' q=>by
  rcases q with q|q
  ·exact⟨d',.inl q,.inr ⟨rfl,Nat.le_refl _⟩⟩
  ·by_cases z:v=y∧t=(s^^m.testBit k)
   ·obtain⟨rfl,rfl⟩:=z
    exact⟨_,.inr (bg _ _ _ _),hW d' q⟩
   ·exact⟨d',.inr (by rw[aS z];exact q),.inr ⟨rfl,Nat.le_refl _⟩⟩
 refine⟨h.dj.put e hk (Int.le_of_lt hL) hj hF fun d' q=>?_,fun v t d' k2 y2 q hk2 hj2 hd=>?_,h.fo,fun v t d' q=>?_,?_⟩
 ·have:=hW d' q
  unfold lx stp at this
  simp only at this
  (first|lia|omega)
 ·by_cases hd2:some (x,s)=some (v,t)→done k2 y2
  ·obtain⟨d2,q2,l2⟩:=h.cx v t d' k2 y2 q hk2 hj2 hd2
   obtain⟨d3,q3,l3⟩:=moved _ _ _ q2
   exact⟨d3,q3,l3.trans l2⟩
  ·have hn:some (x,s)=some (v,t):=Classical.byContradiction fun z=>hd2 fun z2=>absurd z2 z
   rcases hd hn with z|⟨rfl,rfl⟩
   ·exact absurd (fun _=>z) hd2
   ·cases hn
    rw[e]at q
    cases q
    exact⟨_,.inr (bg _ _ _ _),.inr ⟨rfl,Nat.le_refl _⟩⟩
 ·by_cases z:v=y∧t=(s^^m.testBit k)
  ·obtain⟨rfl,rfl⟩:=z
   rw[bg]at q;cases q
   exact .inr ⟨x,s,d,k,e,hk,hj,rfl,rfl⟩
  ·rw[aS z]at q
   exact h.wo v t d' q
 ·rcases h.s0 with q|q
  ·exact .inl q
  ·right
   rw[aS (fun z=>?_)]
   ·exact q
   ·obtain⟨z1,z2⟩:=z
    have q':=q
    rw[z1,z2]at q'
    have:=hW _ q'
    unfold lx stp at this
    simp only at this
    (first|lia|omega)
theorem Dx.skip{done:Nat→Nat→Prop}{x:Nat}{s:Bool}(h:Dx N L m u F W (some (x,s)) done){d d2:Int×Nat}{k y:Nat}(e:F x s=some d)(hL:0<L k)(q2:F y (s^^m.testBit k)=some d2∨(W y (s^^m.testBit k)=some d2∧lx d2 (stp L d k))):
 Dx N L m u F W (some (x,s)) (fun k' y'=>done k' y'∨(k' = k∧y' = y)):=by
 have q3:F y (s^^m.testBit k)=some d2∨(W y (s^^m.testBit k)=some d2∧d2.1≤d.1+L k):=by
  rcases q2 with q2|⟨q2,l2⟩
  ·exact .inl q2
  ·refine .inr ⟨q2,?_⟩
   unfold lx stp at l2
   simp only at l2
   (first|lia|omega)
 refine⟨h.dj.skip e (Int.le_of_lt hL) q3,fun v t d' k2 y2 q hk2 hj2 hd=>?_,h.fo,h.wo,h.s0⟩
 by_cases hd2:some (x,s)=some (v,t)→done k2 y2
 ·exact h.cx v t d' k2 y2 q hk2 hj2 hd2
 ·have hn:some (x,s)=some (v,t):=Classical.byContradiction fun z=>hd2 fun z2=>absurd z2 z
  rcases hd hn with z|⟨rfl,rfl⟩
  ·exact absurd (fun _=>z) hd2
  ·cases hn
   rw[e]at q
   cases q
   rcases q2 with q2|⟨q2,l2⟩
   ·have:=h.dj.mx x s d _ _ d2 rfl e q2
    refine⟨d2,.inl q2,.inl ?_⟩
    show d2.1<d.1+L k2
    (first|lia|omega)
   ·exact⟨d2,.inr q2,l2⟩
theorem Dx.all{done:Nat→Nat→Prop}{x:Nat}{s:Bool}(h:Dx N L m u F W (some (x,s)) done)(ha:∀ k y,k<N.n→Jn N k x y→done k y):Dx N L m u F W none (fun _ _=>False) :=
 ⟨h.dj.all ha,fun v t d k y q hk hj _=>h.cx v t d k y q hk hj fun z=>by cases z;exact ha k y hk hj,h.fo,h.wo,h.s0⟩
theorem Dj.less{now:Option (Nat×Bool)}{done done' : Nat→Nat→Prop}(h:Dj N L m u F W now done)(hd:∀ k y,done' k y→done k y):Dj N L m u F W now done' :=
 ⟨h.fw,h.ww,h.dj,h.le,h.mx,fun v t d k y q hk hj z=>h.cl v t d k y q hk hj fun z2=>hd _ _ (z z2),h.st⟩
theorem Dx.less{now:Option (Nat×Bool)}{done done' : Nat→Nat→Prop}(h:Dx N L m u F W now done)(hd:∀ k y,done' k y→done k y):Dx N L m u F W now done' :=
 ⟨h.dj.less hd,fun v t d k y q hk hj z=>h.cx v t d k y q hk hj fun z2=>hd _ _ (z z2),h.fo,h.wo,h.s0⟩
theorem Dx.fin(hL:∀ k,k<N.n→0<L k)(hu:u<N.p)(h:Dx N L m u F W none (fun _ _=>False))(hW:∀ x s,W x s=none):Fx N L m u F:=by
 refine⟨?_,fun x s d k y e hk hj=>?_,h.fo,fun y t d e=>?_⟩
 ·rcases h.s0 with q|q
  ·exact q
  ·rw[hW]at q;cases q
 ·obtain⟨d',q,l⟩:=h.cx x s d k y e hk hj (fun z=>nomatch z)
  rcases q with q|q
  ·exact⟨d',q,l⟩
  ·rw[hW]at q;cases q
 ·obtain⟨pre,w⟩:=h.dj.fw y t d e
  exact(ir (fun k hk=>Int.le_of_lt (hL k hk)) hu w).2.2.2.2.2
end
end RM
namespace RM
section
variable {N:Net}{L:Nat→Int}{m:Nat}
def Lo(N:Net)(L:Nat→Int)(m:Nat)(z:Int)(e:Nat):Prop:=∃ Fs:Nat→OW,(∀ i,i<N.p→Fx N L m i (Fs i))∧(∃ i,i<N.p∧Fs i i true=some (z,e))∧∀ j d,j<N.p→Fs j j true=some d→lx (z,e) d
theorem Lo.uniq(hL:∀ k,k<N.n→0<L k){z z' : Int}{e e' : Nat}(h:Lo N L m z e)(h' : Lo N L m z' e'):z=z'∧e=e':=by
 obtain⟨F,f1,⟨i,hi,f2⟩,f3⟩:=h
 obtain⟨G,g1,⟨j,hj,g2⟩,g3⟩:=h'
 have e1:F j=G j:=Fx.uniq hL (f1 j hj) (g1 j hj)
 have e2:F i=G i:=Fx.uniq hL (f1 i hi) (g1 i hi)
 have:=(f3 j (z',e') hj (by rw[e1];exact g2)).anti (g3 i (z,e) hi (by rw[← e2];exact f2))
 exact⟨congrArg Prod.fst this,congrArg Prod.snd this⟩
structure LeastOdd(N:Net)(L:Nat→Int)(m:Nat)(z:Int)(e:Nat):Prop where
 ring:N.Ring e
 lt:e<2^N.n
 par:N.par e m=true
 len:bW L (fun k=>e.testBit k) N.n=z
 way:∃ x,x<N.p∧Wy N L m x x true z
 min:∀ x z',x<N.p→Wy N L m x x true z'→z≤z'
theorem LeastOdd.least(hL:∀ k,k<N.n→0≤L k){z:Int}{e r:Nat}(h:LeastOdd N L m z e)(hr:N.Ring r)(lr:r<2^N.n)(pr:N.par r m=true):z≤bW L (fun k=>r.testBit k) N.n:=by
 obtain⟨x,hx,hw⟩:=km hL m hr lr
 rw[pr]at hw
 exact h.min x _ hx hw
end
end RM
namespace RM
abbrev Ap:=Nat→Option Bool
def un(N:Net)(A:Ap):Nat:=cnt (fun x=>(A x).isNone) N.p
def kd(A:Ap)(x:Nat)(b:Bool):Ap:=fun y=>if y=x then some b else A y
def eA(N:Net)(q:Nat):Nat:=if q%2=0 then N.a (q/2) else N.b (q/2)
def oA(N:Net)(q:Nat):Nat:=if q%2=0 then N.b (q/2) else N.a (q/2)
def ClA(N:Net)(A:Ap):Prop:=∀ k,k<N.n→(A (N.a k)).isSome=(A (N.b k)).isSome
section
variable {N:Net}{A A0:Ap}{q x:Nat}{b:Bool}
theorem iO:kd A x b x=some b:=if_pos rfl
theorem iB{y:Nat}(h:y≠x):kd A x b y=A y:=if_neg h
theorem uA(hx:x<N.p)(h:A x=none):un N (kd A x b)<un N A:=by
 have:=iW (f:=fun y=>(kd A x b y).isNone) (g:=fun y=>(A y).isNone) (h:=x) (by rw[h];rfl) hx (fun y _=>by
  by_cases e:y=x
  ·subst e
   rw[iO,decide_eq_true rfl]
   simp
  ·rw[iB e,decide_eq_false e]
   simp)
 unfold un
 (first|lia|omega)
structure Ps(N:Net)(A0 A:Ap)(q:Nat):Prop where
 or:(A=A0∧∀ j,j<q→(A0 (eA N j)).isSome=true→(A0 (oA N j)).isSome=true)∨un N A<un N A0
 st:ClA N A0→A=A0
 low:∀ y,(A0 y).isSome=true→(A y).isSome=true
theorem Ps.start:Ps N A A 0:=⟨.inl ⟨rfl,fun j hj=>by(first|lia|omega)⟩,fun _=>rfl,fun _ h=>h⟩
theorem Ps.skip(h:Ps N A0 A q)(hs:(A (eA N q)).isSome=true→(A (oA N q)).isSome=true):Ps N A0 A (q+1):=⟨by
 rcases h.or with⟨rfl,h2⟩|h1
 ·refine .inl ⟨rfl,fun j hj=>?_⟩
  by_cases e:j=q
  ·subst e;exact hs
  ·exact h2 j (by(first|lia|omega))
 ·exact .inr h1,h.st,h.low⟩
theorem uY(h:ClA N A)(hq:q/2<N.n):(A (eA N q)).isSome=(A (oA N q)).isSome:=by
 unfold eA oA
 by_cases e:q%2=0
 ·rw[if_pos e,if_pos e];exact h _ hq
 ·rw[if_neg e,if_neg e];exact(h _ hq).symm
theorem Ps.put(h:Ps N A0 A q)(hq:q/2<N.n)(he:(A (eA N q)).isSome=true)(ho:A (oA N q)=none)(hp:oA N q<N.p):Ps N A0 (kd A (oA N q) b) (q+1):=by
 have hu:=uA (N:=N) (b:=b) hp ho
 refine⟨.inr ?_,fun hc=>?_,fun y hy=>?_⟩
 ·rcases h.or with⟨rfl,_⟩|h1
  ·exact hu
  ·(first|lia|omega)
 ·have e:=h.st hc
  rw[e]at he ho
  have:=uY hc hq
  rw[he,ho]at this
  cases this
 ·by_cases e:y=oA N q
  ·rw[e,iO];rfl
  ·rw[iB e];exact h.low y hy
theorem Ps.done(h:Ps N A0 A (2*N.n)):ClA N A∨un N A<un N A0:=by
 rcases h.or with⟨rfl,h2⟩|h1
 ·refine .inl fun k hk=>?_
  have e1:=h2 (2*k) (by(first|lia|omega))
  have e2:=h2 (2*k+1) (by(first|lia|omega))
  unfold eA oA at e1 e2
  rw[if_pos (by(first|lia|omega)),if_pos (by(first|lia|omega)),show 2*k/2=k by(first|lia|omega)]at e1
  rw[if_neg (by(first|lia|omega)),if_neg (by(first|lia|omega)),show(2*k+1)/2=k by(first|lia|omega)]at e2
  cases h3:(A (N.a k)).isSome with
  | true=>exact(e1 h3).symm
  | false =>
    cases h4:(A (N.b k)).isSome with
    | false=>rfl
    | true=>rw[e2 h4]at h3;cases h3
 ·exact .inr h1
def Tn(N:Net)(t:Nat)(A:Ap):Prop:=ClA N A∨un N A+t<N.p
theorem Tn.next{t:Nat}(h:Tn N t A0)(p:Ps N A0 A (2*N.n)):Tn N (t+1) A:=by
 rcases h with h|h
 ·rw[p.st h];exact .inl h
 ·rcases p.done with d|d
  ·exact .inl d
  ·exact .inr (by(first|lia|omega))
theorem Tn.start(hx:x<N.p)(h:A x=none):Tn N 0 (kd A x b):=.inr (by
 have h1:=uA (N:=N) (b:=b) hx h
 have h2:un N A≤N.p:=ur _ _
 (first|lia|omega))
theorem Tn.fin(h:Tn N N.p A):ClA N A:=by
 rcases h with h|h
 ·exact h
 ·(first|lia|omega)
theorem vi(hc:ClA N A)(hlow:∀ y,y<x→(A y).isSome=true)(h:A x=none):N.lab N.n x=x:=by
 have e:(A x).isSome=(A (N.lab N.n x)).isSome:=rN (f:=fun y=>(A y).isSome) hc x
 have hle:N.lab N.n x≤x:=jV (S:=fun _=>true) N.n x
 rcases Nat.lt_or_ge (N.lab N.n x) x with h1|h1
 ·rw[hlow _ h1,h]at e
  cases e
 ·(first|lia|omega)
end
end RM
namespace Ring
open PySem L2
def bV:Option Bool→V
 | none=>.non
 | some b=>.int (b.toNat:Int)
def apV(A:RM.Ap)(p:Nat):List V:=(List.range p).map fun x=>bV (A x)
theorem gO(A:RM.Ap)(p:Nat):(apV A p).length=p:=by unfold apV;rw[List.length_map,List.length_range]
theorem gC{A:RM.Ap}{p x:Nat}(h:x<p):(apV A p)[x]?=some (bV (A x)):=by
 unfold apV
 rw[List.getElem?_map,List.getElem?_range h]
 rfl
theorem vQ{A:RM.Ap}{p x:Nat}(b:Bool):(apV A p).set x (.int (b.toNat:Int))=apV (RM.kd A x b) p:=by
 refine List.ext_getElem? fun i=>?_
 by_cases hi:i<p
 ·rw[gC hi,List.getElem?_set]
  by_cases e:x=i
  ·subst e
   rw[if_pos rfl,if_pos (by rw[gO];exact hi),RM.iO]
   rfl
  ·rw[if_neg e,gC hi,RM.iB (Ne.symm e)]
 ·rw[List.getElem?_eq_none (by rw[List.length_set,gO];(first|lia|omega)),List.getElem?_eq_none (by rw[gO];(first|lia|omega))]
theorem uC(p:Nat):apV (fun _=>none) p=List.replicate p .non:=by
 refine List.ext_getElem? fun i=>?_
 by_cases hi:i<p
 ·rw[gC hi,List.getElem?_replicate,if_pos hi]
  rfl
 ·rw[List.getElem?_eq_none (by rw[gO];(first|lia|omega)),List.getElem?_eq_none (by rw[List.length_replicate];(first|lia|omega))]
end Ring
namespace L2
open PySem
theorem bH{lo:Int}{n:Nat}{g:TG}{tb:TS}{D:Ends}{σ:St}{H:Hp}(Pv:Nat→St→Hp→Prop)(h0:Pv 0 σ H)
 (hs:∀ i,let D' : Ends:={ D with nx:=Pv (i+1),ct:=Pv (i+1),bk:=D.nx};∀ σ H,i<n→Pv i σ H→g (.int (lo+i)) σ H fun σ2 H2=>tb D' σ2 H2) (hd:∀ σ H,Pv n σ H→D.nx σ H) :
 ∃ W:Nat→Nat→St→Hp→Prop,(∃ m,W 0 m σ H)∧∀ i m σ H,W i m σ H→
   ((Itr lo n).stop i H∧D.nx σ H)∨((Itr lo n).go i H∧∃ N:St→Hp→Prop,(∀ σ' H',N σ' H'→∃ m',m'<m∧W (i+1) m' σ' H')∧∀ x H',(Itr lo n).yld i H x H'→g x σ H' fun σ2 H2=>tb { D with nx:=N,ct:=N,bk:=D.nx} σ2 H2) :=
 sF Pv h0 (fun i σ H hi p=>hs i σ H hi p) hd
theorem fC{K:PySem.W.Frag}{a:Addr}{xs:List V}{g:TG}{tb:TS}{D:Ends}{σ:St}{H:Hp}(Pv:Nat→St→Hp→Prop)(h0:Pv 0 σ H)(hl:∀ i σ H,i≤xs.length→Pv i σ H→SqL K H a xs)
 (hs:∀ i x,let D' : Ends:={ D with nx:=Pv (i+1),ct:=Pv (i+1),bk:=D.nx};∀ σ H,xs[i]?=some x→Pv i σ H→g x σ H fun σ2 H2=>tb D' σ2 H2) (hd:∀ σ H,Pv xs.length σ H→D.nx σ H) :
 ∃ W:Nat→Nat→St→Hp→Prop,(∃ m,W 0 m σ H)∧∀ i m σ H,W i m σ H→
   ((Itl K a).stop i H∧D.nx σ H)∨((Itl K a).go i H∧∃ N:St→Hp→Prop,(∀ σ' H',N σ' H'→∃ m',m'<m∧W (i+1) m' σ' H')∧∀ x H',(Itl K a).yld i H x H'→g x σ H' fun σ2 H2=>tb { D with nx:=N,ct:=N,bk:=D.nx} σ2 H2) :=
 lh Pv h0 hl (fun i x σ H hi p=>hs i x σ H hi p) hd
theorem bmK{X:Cx}{e:Expr}{T:String}{r:V→List V→Hp→VK→Prop}{to:TE}{t:TA}(K:PySem.W.Frag)(p:PE X e (tBM X.K T r to t))(h:X.K=K:=by rfl):PE X e (tBM K T r to t):=by subst h;exact p
end L2
namespace L2
open PySem
theorem ixq{K:PySem.W.Frag}{H:Hp}{a:Addr}{xs:List V}{k:Int}{v:V}{R:V→Prop}(hs:SqT K H a xs)(ha:atI xs k=some v)(q:R v):∃ p ys k' w,V.ref a = .ref p∧V.int k = .int k'∧SqT K H p ys∧atI ys k' = some w∧R w:=⟨a,xs,k,v,rfl,rfl,hs,ha,q⟩
theorem ixl{K:PySem.W.Frag}{H:Hp}{a:Addr}{xs:List V}{k:Int}{v:V}{R:V→Prop}(hs:SqL K H a xs)(ha:atI xs k=some v)(q:R v):∃ p ys k' w,V.ref a = .ref p∧V.int k = .int k'∧SqL K H p ys∧atI ys k' = some w∧R w:=⟨a,xs,k,v,rfl,rfl,hs,ha,q⟩
theorem ijq{i j:Int}{R:Int→Int→Prop}(h:R i j):∃ i' j',V.int i = .int i'∧V.int j = .int j'∧R i' j':=⟨i,j,rfl,rfl,h⟩
end L2
namespace L2
open PySem
theorem lnq{K:PySem.W.Frag}{H:Hp}{a:Addr}{xs:List V}{E:Addr→Prop}{R:List V→Prop}(e:E a)(h:SqL K H a xs∨SqT K H a xs)(q:R xs):∃ p ys,E p∧(SqL K H p ys∨SqT K H p ys)∧R ys:=⟨a,xs,e,h,q⟩
theorem exq{α:Type}{A R:α→Prop}{x:α}(h:A x)(r:R x):∃ x,A x∧R x:=⟨x,h,r⟩
end L2
namespace L2
open PySem PySem.Spec PyProof.Rows
section
variable {P:Program}{w:World}{K:PySem.W.Frag}{mg:Str→Option Value}{base:Heap}
end
end L2
set_option Elab.async false
set_option maxRecDepth 100000
set_option maxHeartbeats 4000000
namespace K21
open PySem L2 Ring
def top(i:Nat):Stmt:=PySem.Challenge.pw_ringbase_k21_least_odd_rings.main.body.getD i (.Pass ⟨0,0,0,0⟩)
abbrev eD:Stmt:=top 6
theorem pN:FnScope ["tie_set","tie"] ["tie_set","tie"] (ag eD):=⟨rfl,rfl,rfl,by decide +kernel,rfl,by decide +kernel,by decide +kernel⟩
abbrev dF:Stmt:=top 7
theorem qf:FnScope ["tie_set"] ["tie_set"] (ag dF):=⟨rfl,rfl,rfl,by decide +kernel,rfl,by decide +kernel,by decide +kernel⟩
abbrev fE:Stmt:=top 8
theorem gH:FnScope ["web","ties","found","tie"] ["web","ties"] (ag fE):=⟨rfl,rfl,rfl,by decide +kernel,rfl,by decide +kernel,by decide +kernel⟩
theorem sD{sa0 sa1 sa2 sa3:TS}{sc0:TT}{si0:TI}{sg0:TG}{D:Ends}{σ:St}{H:Hp}(h:let zz0:TS:=sa0;let zz1:TS:=sa1;let zz2:TS:=sa2;let zz3:TS:=(aq (be sc0 zz2 aF) zz1);let zz4:TS:=(aq (ci si0 sg0 zz3) zz0);(aq sa3 zz4) D σ H):(aq sa3 (aq (ci si0 sg0 (aq (be sc0 sa2 aF) sa1)) sa0)) D σ H:=h
abbrev dJ:Stmt:=top 9
theorem ou:FnScope ["web"] ["web"] (ag dJ):=⟨rfl,rfl,rfl,by decide +kernel,rfl,by decide +kernel,by decide +kernel⟩
abbrev fq:Stmt:=top 10
theorem rD:FnScope ["web","number"] ["web","number"] (ag fq):=⟨rfl,rfl,rfl,by decide +kernel,rfl,by decide +kernel,by decide +kernel⟩
abbrev cS:Stmt:=top 11
theorem na:FnScope ["web","tie_set"] ["web","tie_set"] (ag cS):=⟨rfl,rfl,rfl,by decide +kernel,rfl,by decide +kernel,by decide +kernel⟩
theorem nJ{sa0:TS}{sc0:TT}{D:Ends}{σ:St}{H:Hp}(h:let zz0:TS:=sa0;(be sc0 zz0 aF) D σ H):(be sc0 sa0 aF) D σ H:=h
abbrev bn:Stmt:=top 12
theorem cY:FnScope ["leasts","one","other","low","high"] ["leasts","one","other"] (ag bn):=⟨rfl,rfl,rfl,by decide +kernel,rfl,by decide +kernel,by decide +kernel⟩
theorem iV{sa0 sa1 sa2:TS}{D:Ends}{σ:St}{H:Hp}(h:let zz0:TS:=sa0;let zz1:TS:=(aq sa1 zz0);(aq sa2 zz1) D σ H):(aq sa2 (aq sa1 sa0)) D σ H:=h
abbrev bx:Stmt:=top 14
theorem aL:FnScope ["web","leasts","trails","tie","one","other","bridge","moved"] ["web"] (ag bx):=⟨rfl,rfl,rfl,by decide +kernel,rfl,by decide +kernel,by decide +kernel⟩
theorem jd{sa0 sa1 sa2 sa3 sa4 sa5 sa6 sa7 sa8:TS}{sc0:TT}{si0:TI}{sg0:TG}{D:Ends}{σ:St}{H:Hp}(h:let zz0:TS:=sa0;let zz1:TS:=sa1;let zz2:TS:=(aq sa2 zz1);let zz3:TS:=(aq sa3 zz2);let zz4:TS:=(aq sa4 zz3);let zz5:TS:=(be sc0 zz4 aF);let zz6:TS:=(aq sa5 zz5);let zz7:TS:=(aq sa6 zz6);let zz8:TS:=(aq (ci si0 sg0 zz7) zz0);let zz9:TS:=(aq sa7 zz8);(aq sa8 zz9) D σ H):(aq sa8 (aq sa7 (aq (ci si0 sg0 (aq sa6 (aq sa5 (be sc0 (aq sa4 (aq sa3 (aq sa2 sa1))) aF)))) sa0))) D σ H:=h
abbrev fB:Stmt:=top 15
theorem gK:FnScope ["web","found","trail"] ["web"] (ag fB):=⟨rfl,rfl,rfl,by decide +kernel,rfl,by decide +kernel,by decide +kernel⟩
theorem rE{sa0 sa1 sa2:TS}{si0:TI}{sg0:TG}{D:Ends}{σ:St}{H:Hp}(h:let zz0:TS:=sa0;let zz1:TS:=sa1;let zz2:TS:=(aq (ci si0 sg0 zz1) zz0);(aq sa2 zz2) D σ H):(aq sa2 (aq (ci si0 sg0 sa1) sa0)) D σ H:=h
abbrev fJ:Stmt:=top 16
theorem r9:FnScope ["web"] ["web"] (ag fJ):=⟨rfl,rfl,rfl,by decide +kernel,rfl,by decide +kernel,by decide +kernel⟩
abbrev cv:Stmt:=top 17
theorem gq:FnScope ["web","trails","chord","tie"] ["web","trails","chord"] (ag cv):=⟨rfl,rfl,rfl,by decide +kernel,rfl,by decide +kernel,by decide +kernel⟩
theorem kc{sa0 sa1:TS}{D:Ends}{σ:St}{H:Hp}(h:let zz0:TS:=sa0;(aq sa1 zz0) D σ H):(aq sa1 sa0) D σ H:=h
abbrev cD:Stmt:=top 18
theorem lA:FnScope ["web","tie"] ["web","tie"] (ag cD):=⟨rfl,rfl,rfl,by decide +kernel,rfl,by decide +kernel,by decide +kernel⟩
theorem lu{sa0 sa1:TS}{sc0:TT}{D:Ends}{σ:St}{H:Hp}(h:let zz0:TS:=sa0;let zz1:TS:=sa1;(aq (be sc0 zz1 aF) zz0) D σ H):(aq (be sc0 sa1 aF) sa0) D σ H:=h
abbrev fM:Stmt:=top 20
theorem sr:FnScope ["one","other"] ["one","other"] (ag fM):=⟨rfl,rfl,rfl,by decide +kernel,rfl,by decide +kernel,by decide +kernel⟩
abbrev cp:Stmt:=top 21
theorem kZ:FnScope ["tie_set","marks"] ["tie_set","marks"] (ag cp):=⟨rfl,rfl,rfl,by decide +kernel,rfl,by decide +kernel,by decide +kernel⟩
abbrev ee:Stmt:=top 22
theorem fZ:FnScope ["web","side","ahead","point"] ["web","side"] (ag ee):=⟨rfl,rfl,rfl,by decide +kernel,rfl,by decide +kernel,by decide +kernel⟩
theorem pG{sa0 sa1 sa2 sa3:TS}{sc0:TT}{si0:TI}{sg0:TG}{D:Ends}{σ:St}{H:Hp}(h:let zz0:TS:=sa0;let zz1:TS:=sa1;let zz2:TS:=sa2;let zz3:TS:=(aq (be sc0 zz2 aF) zz1);let zz4:TS:=(aq (ci si0 sg0 zz3) zz0);(aq sa3 zz4) D σ H):(aq sa3 (aq (ci si0 sg0 (aq (be sc0 sa2 aF) sa1)) sa0)) D σ H:=h
abbrev eM:Stmt:=top 23
theorem ss:FnScope ["web","side"] ["web","side"] (ag eM):=⟨rfl,rfl,rfl,by decide +kernel,rfl,by decide +kernel,by decide +kernel⟩
theorem sk{sa0 sa1:TS}{sc0:TT}{D:Ends}{σ:St}{H:Hp}(h:let zz0:TS:=sa0;let zz1:TS:=sa1;(aq (be sc0 zz1 aF) zz0) D σ H):(aq (be sc0 sa1 aF) sa0) D σ H:=h
abbrev dG:Stmt:=top 24
theorem gh:FnScope ["web","tie_set","trails","side","amiss"] ["web","tie_set"] (ag dG):=⟨rfl,rfl,rfl,by decide +kernel,rfl,by decide +kernel,by decide +kernel⟩
theorem qj{sa0 sa1 sa2 sa3 sa4 sa5:TS}{sc0:TT}{D:Ends}{σ:St}{H:Hp}(h:let zz0:TS:=sa0;let zz1:TS:=sa1;let zz2:TS:=(aq (be sc0 zz1 aF) zz0);let zz3:TS:=(aq sa2 zz2);let zz4:TS:=(aq sa3 zz3);let zz5:TS:=(aq sa4 zz4);(aq sa5 zz5) D σ H):(aq sa5 (aq sa4 (aq sa3 (aq sa2 (aq (be sc0 sa1 aF) sa0))))) D σ H:=h
abbrev bp:Stmt:=top 26
theorem bR:FnScope ["web","marks","steps","tie","ends","turn"] ["web","marks"] (ag bp):=⟨rfl,rfl,rfl,by decide +kernel,rfl,by decide +kernel,by decide +kernel⟩
theorem iR{sa0 sa1 sa2 sa3 sa4:TS}{si0:TI}{sg0:TG}{D:Ends}{σ:St}{H:Hp}(h:let zz0:TS:=sa0;let zz1:TS:=sa1;let zz2:TS:=(aq sa2 zz1);let zz3:TS:=(aq sa3 zz2);let zz4:TS:=(aq (ci si0 sg0 zz3) zz0);(aq sa4 zz4) D σ H):(aq sa4 (aq (ci si0 sg0 (aq sa3 (aq sa2 sa1))) sa0)) D σ H:=h
abbrev bN:Stmt:=top 27
theorem aX:FnScope ["web","marks","start","steps","found","waiting","nearest","way","tie","point","turn","part","further"] ["web","marks","start"] (ag bN):=⟨rfl,rfl,rfl,by decide +kernel,rfl,by decide +kernel,by decide +kernel⟩
theorem lG{sa0 sa1 sa2 sa3 sa4 sa5 sa6 sa7 sa8 sa9:TS}{sc0 sc1:TT}{si0:TI}{sg0:TG}{D:Ends}{σ:St}{H:Hp}(h:let zz0:TS:=sa0;let zz1:TS:=sa1;let zz2:TS:=(be sc1 zz1 aF);let zz3:TS:=(aq sa2 zz2);let zz4:TS:=(aq sa3 zz3);let zz5:TS:=(ci si0 sg0 zz4);let zz6:TS:=(aq sa4 zz5);let zz7:TS:=(aq sa5 zz6);let zz8:TS:=(aq sa6 zz7);let zz9:TS:=(aq (il sc0 zz8) zz0);let zz10:TS:=(aq sa7 zz9);let zz11:TS:=(aq sa8 zz10);(aq sa9 zz11) D σ H):(aq sa9 (aq sa8 (aq sa7 (aq (il sc0 (aq sa6 (aq sa5 (aq sa4 (ci si0 sg0 (aq sa3 (aq sa2 (be sc1 sa1 aF)))))))) sa0)))) D σ H:=h
def bC:Pos:=⟨97,35,97,63⟩
abbrev bK:Stmt:=top 28
theorem jm:FnScope ["way"] ["way"] (ag bK):=⟨rfl,rfl,rfl,by decide +kernel,rfl,by decide +kernel,by decide +kernel⟩
abbrev bi:Stmt:=top 29
theorem iY:FnScope ["ways"] ["ways"] (ag bi):=⟨rfl,rfl,rfl,by decide +kernel,rfl,by decide +kernel,by decide +kernel⟩
abbrev bh:Stmt:=top 31
theorem iL:FnScope ["web","marks"] ["web","marks"] (ag bh):=⟨rfl,rfl,rfl,by decide +kernel,rfl,by decide +kernel,by decide +kernel⟩
abbrev bu:Stmt:=top 32
theorem jh:FnScope ["ways"] ["ways"] (ag bu):=⟨rfl,rfl,rfl,by decide +kernel,rfl,by decide +kernel,by decide +kernel⟩
abbrev cB:Stmt:=top 33
theorem fT:FnScope ["web","marks","ways","rounds"] ["web","marks"] (ag cB):=⟨rfl,rfl,rfl,by decide +kernel,rfl,by decide +kernel,by decide +kernel⟩
theorem nD{sa0 sa1 sa2 sa3 sa4:TS}{sc0:TT}{D:Ends}{σ:St}{H:Hp}(h:let zz0:TS:=sa0;let zz1:TS:=sa1;let zz2:TS:=(aq (be sc0 zz1 aF) zz0);let zz3:TS:=(aq sa2 zz2);let zz4:TS:=(aq sa3 zz3);(aq sa4 zz4) D σ H):(aq sa4 (aq sa3 (aq sa2 (aq (be sc0 sa1 aF) sa0)))) D σ H:=h
abbrev cu:Stmt:=top 35
theorem kR:FnScope ["script","k"] ["script","k"] (ag cu):=⟨rfl,rfl,rfl,by decide +kernel,rfl,by decide +kernel,by decide +kernel⟩
theorem kY{sa0 sa1:TS}{sc0:TT}{D:Ends}{σ:St}{H:Hp}(h:let zz0:TS:=sa0;let zz1:TS:=sa1;(aq (be sc0 zz1 aF) zz0) D σ H):(aq (be sc0 sa1 aF) sa0) D σ H:=h
abbrev dA:Stmt:=top 36
theorem jw:FnScope ["cell","k","way","stir"] ["cell","k","way"] (ag dA):=⟨rfl,rfl,rfl,by decide +kernel,rfl,by decide +kernel,by decide +kernel⟩
theorem oH{sa0 sa1 sa2:TS}{sc0:TT}{D:Ends}{σ:St}{H:Hp}(h:let zz0:TS:=sa0;let zz1:TS:=(aq sa1 zz0);let zz2:TS:=sa2;(aq (be sc0 zz2 aF) zz1) D σ H):(aq (be sc0 sa2 aF) (aq sa1 sa0)) D σ H:=h
abbrev eg:Stmt:=top 37
theorem eU:FnScope ["left","points","mode","one","other"] ["left","points","mode"] (ag eg):=⟨rfl,rfl,rfl,by decide +kernel,rfl,by decide +kernel,by decide +kernel⟩
theorem pK{sa0 sa1 sa2 sa3 sa4:TS}{D:Ends}{σ:St}{H:Hp}(h:let zz0:TS:=sa0;let zz1:TS:=(aq sa1 zz0);let zz2:TS:=(aq sa2 zz1);let zz3:TS:=(aq sa3 zz2);(aq sa4 zz3) D σ H):(aq sa4 (aq sa3 (aq sa2 (aq sa1 sa0)))) D σ H:=h
abbrev eB:Stmt:=top 38
theorem bT:FnScope ["script","most_points","most_ties","way","left","points","mode","cells","k","ties"] ["script","most_points","most_ties"] (ag eB):=⟨rfl,rfl,rfl,by decide +kernel,rfl,by decide +kernel,by decide +kernel⟩
theorem p4{sa0 sa1 sa2 sa3 sa4 sa5 sa6 sa7 sa8 sa9:TS}{sc0:TT}{si0 si1:TI}{sg0 sg1:TG}{D:Ends}{σ:St}{H:Hp}(h:let zz0:TS:=sa0;let zz1:TS:=sa1;let zz2:TS:=(aq (ci si0 sg0 zz1) zz0);let zz3:TS:=(aq sa2 zz2);let zz4:TS:=sa3;let zz5:TS:=(aq (be sc0 zz4 aF) zz3);let zz6:TS:=sa4;let zz7:TS:=(aq (ci si1 sg1 zz6) zz5);let zz8:TS:=(aq sa5 zz7);let zz9:TS:=(aq sa6 zz8);let zz10:TS:=(aq sa7 zz9);let zz11:TS:=(aq sa8 zz10);(aq sa9 zz11) D σ H):(aq sa9 (aq sa8 (aq sa7 (aq sa6 (aq sa5 (aq (ci si1 sg1 sa4) (aq (be sc0 sa3 aF) (aq sa2 (aq (ci si0 sg0 sa1) sa0))))))))) D σ H:=h
abbrev cQ:Stmt:=top 39
theorem mU:FnScope ["found"] ["found"] (ag cQ):=⟨rfl,rfl,rfl,by decide +kernel,rfl,by decide +kernel,by decide +kernel⟩
abbrev cj:Stmt:=top 40
theorem bE:FnScope ["web","some","ends","ties","k","start","at","walk","tie"] ["web","some"] (ag cj):=⟨rfl,rfl,rfl,by decide +kernel,rfl,by decide +kernel,by decide +kernel⟩
theorem nU{sa0 sa1 sa2 sa3 sa4 sa5 sa6 sa7 sa8 sa9 sa10 sa11 sa12 sa13:TS}{sc0 sc1 sc2 sc3:TT}{si0:TI}{sg0:TG}{D:Ends}{σ:St}{H:Hp}(h:let zz0:TS:=sa0;let zz1:TS:=sa1;let zz2:TS:=(aq (be sc0 zz1 aF) zz0);let zz3:TS:=sa2;let zz4:TS:=sa4;let zz5:TS:=(aq sa3 zz3);let zz6:TS:=(aq sa5 zz4);let zz7:TS:=(be sc2 zz5 zz6);let zz8:TS:=(aq sa6 zz7);let zz9:TS:=(aq (il sc1 zz8) zz2);let zz10:TS:=(aq sa7 zz9);let zz11:TS:=(aq sa8 zz10);let zz12:TS:=sa9;let zz13:TS:=(aq (be sc3 zz12 aF) zz11);let zz14:TS:=sa10;let zz15:TS:=(aq sa11 zz14);let zz16:TS:=(aq (ci si0 sg0 zz15) zz13);let zz17:TS:=(aq sa12 zz16);(aq sa13 zz17) D σ H):(aq sa13 (aq sa12 (aq (ci si0 sg0 (aq sa11 sa10)) (aq (be sc3 sa9 aF) (aq sa8 (aq sa7 (aq (il sc1 (aq sa6 (be sc2 (aq sa3 sa2) (aq sa5 sa4)))) (aq (be sc0 sa1 aF) sa0)))))))) D σ H:=h
abbrev cW:Stmt:=top 41
theorem m3:FnScope ["one","more"] ["one","more"] (ag cW):=⟨rfl,rfl,rfl,by decide +kernel,rfl,by decide +kernel,by decide +kernel⟩
theorem mO{sa0 sa1:TS}{sc0:TT}{D:Ends}{σ:St}{H:Hp}(h:let zz0:TS:=sa0;let zz1:TS:=sa1;(aq (be sc0 zz1 aF) zz0) D σ H):(aq (be sc0 sa1 aF) sa0) D σ H:=h
abbrev bM:Stmt:=top 42
theorem aY:FnScope ["web","marks","point","far","turn","k","one","other","length","bit","a","b","s"] ["web","marks","point"] (ag bM):=⟨rfl,rfl,rfl,by decide +kernel,rfl,by decide +kernel,by decide +kernel⟩
theorem ly{sa0 sa1 sa2 sa3 sa4 sa5:TS}{sc0:TT}{si0 si1 si2 si3:TI}{sg0 sg1 sg2 sg3:TG}{D:Ends}{σ:St}{H:Hp}(h:let zz0:TS:=sa0;let zz1:TS:=sa1;let zz2:TS:=(be sc0 zz1 aF);let zz3:TS:=(ci si3 sg3 zz2);let zz4:TS:=(ci si2 sg2 zz3);let zz5:TS:=(aq sa2 zz4);let zz6:TS:=(aq sa3 zz5);let zz7:TS:=(ci si1 sg1 zz6);let zz8:TS:=(aq (ci si0 sg0 zz7) zz0);let zz9:TS:=(aq sa4 zz8);(aq sa5 zz9) D σ H):(aq sa5 (aq sa4 (aq (ci si0 sg0 (ci si1 sg1 (aq sa3 (aq sa2 (ci si2 sg2 (ci si3 sg3 (be sc0 sa1 aF))))))) sa0))) D σ H:=h
abbrev cg:Stmt:=top 43
theorem lF:FnScope ["web","some"] ["web","some"] (ag cg):=⟨rfl,rfl,rfl,by decide +kernel,rfl,by decide +kernel,by decide +kernel⟩
abbrev eo:Stmt:=top 44
theorem fV:FnScope ["number","odd"] ["number"] (ag eo):=⟨rfl,rfl,rfl,by decide +kernel,rfl,by decide +kernel,by decide +kernel⟩
theorem pF{sa0 sa1 sa2 sa3:TS}{sc0:TT}{D:Ends}{σ:St}{H:Hp}(h:let zz0:TS:=sa0;let zz1:TS:=sa1;let zz2:TS:=(aq sa2 zz1);let zz3:TS:=(aq (il sc0 zz2) zz0);(aq sa3 zz3) D σ H):(aq sa3 (aq (il sc0 (aq sa2 sa1)) sa0)) D σ H:=h
abbrev cq:Stmt:=top 45
theorem dc:FnScope ["web","marks","least","some"] ["web","marks"] (ag cq):=⟨rfl,rfl,rfl,by decide +kernel,rfl,by decide +kernel,by decide +kernel⟩
theorem kD{sa0 sa1 sa2:TS}{sc0:TT}{si0:TI}{sg0:TG}{D:Ends}{σ:St}{H:Hp}(h:let zz0:TS:=sa0;let zz1:TS:=sa1;let zz2:TS:=(be sc0 zz1 aF);let zz3:TS:=(aq (ci si0 sg0 zz2) zz0);(aq sa2 zz3) D σ H):(aq sa2 (aq (ci si0 sg0 (be sc0 sa1 aF)) sa0)) D σ H:=h
abbrev eu:Stmt:=top 46
theorem fW:FnScope ["web","side","made","k"] ["web","side"] (ag eu):=⟨rfl,rfl,rfl,by decide +kernel,rfl,by decide +kernel,by decide +kernel⟩
theorem pB{sa0 sa1 sa2:TS}{sc0:TT}{si0:TI}{sg0:TG}{D:Ends}{σ:St}{H:Hp}(h:let zz0:TS:=sa0;let zz1:TS:=sa1;let zz2:TS:=(be sc0 zz1 aF);let zz3:TS:=(aq (ci si0 sg0 zz2) zz0);(aq sa2 zz3) D σ H):(aq sa2 (aq (ci si0 sg0 (be sc0 sa1 aF)) sa0)) D σ H:=h
abbrev cP:Stmt:=top 47
theorem bq:FnScope ["web","marks","apart","least","turn","k","one","other","bit","a","b","side"] ["web","marks"] (ag cP):=⟨rfl,rfl,rfl,by decide +kernel,rfl,by decide +kernel,by decide +kernel⟩
theorem oX{sa0 sa1 sa2 sa3 sa4 sa5 sa6 sa7:TS}{sc0 sc1 sc2:TT}{si0 si1 si2 si3:TI}{sg0 sg1 sg2 sg3:TG}{D:Ends}{σ:St}{H:Hp}(h:let zz0:TS:=sa0;let zz1:TS:=sa1;let zz2:TS:=(aq (be sc0 zz1 aF) zz0);let zz3:TS:=(aq sa2 zz2);let zz4:TS:=sa3;let zz5:TS:=(be sc2 zz4 aF);let zz6:TS:=(ci si3 sg3 zz5);let zz7:TS:=(aq sa4 zz6);let zz8:TS:=(aq sa5 zz7);let zz9:TS:=(ci si2 sg2 zz8);let zz10:TS:=(ci si1 sg1 zz9);let zz11:TS:=(aq sa6 zz10);let zz12:TS:=(be sc1 zz11 aF);let zz13:TS:=(aq (ci si0 sg0 zz12) zz3);(aq sa7 zz13) D σ H):(aq sa7 (aq (ci si0 sg0 (be sc1 (aq sa6 (ci si1 sg1 (ci si2 sg2 (aq sa5 (aq sa4 (ci si3 sg3 (be sc2 sa3 aF))))))) aF)) (aq sa2 (aq (be sc0 sa1 aF) sa0)))) D σ H:=h
abbrev bj:Stmt:=top 48
theorem e8:FnScope ["web","marks","found","due"] ["web","marks","found"] (ag bj):=⟨rfl,rfl,rfl,by decide +kernel,rfl,by decide +kernel,by decide +kernel⟩
theorem iw{sa0 sa1 sa2 sa3 sa4:TS}{sc0 sc1 sc2:TT}{D:Ends}{σ:St}{H:Hp}(h:let zz0:TS:=sa0;let zz1:TS:=(aq sa1 zz0);let zz2:TS:=sa2;let zz3:TS:=(aq (be sc0 zz2 aF) zz1);let zz4:TS:=sa3;let zz5:TS:=(aq (be sc1 zz4 aF) zz3);let zz6:TS:=sa4;(aq (be sc2 zz6 aF) zz5) D σ H):(aq (be sc2 sa4 aF) (aq (be sc1 sa3 aF) (aq (be sc0 sa2 aF) (aq sa1 sa0)))) D σ H:=h
abbrev gw:Stmt:=top 49
theorem ib:FnScope ["script","web","left","marks","found","side"] ["script"] (ag gw):=⟨rfl,rfl,rfl,by decide +kernel,rfl,by decide +kernel,by decide +kernel⟩
theorem wG{sa0 sa1 sa2 sa3 sa4 sa5 sa6 sa7 sa8 sa9 sa10:TS}{sc0 sc1 sc2 sc3 sc4:TT}{D:Ends}{σ:St}{H:Hp}(h:let zz0:TS:=sa0;let zz1:TS:=(aq sa1 zz0);let zz2:TS:=sa2;let zz3:TS:=(aq (be sc0 zz2 aF) zz1);let zz4:TS:=sa3;let zz5:TS:=(aq (be sc1 zz4 aF) zz3);let zz6:TS:=sa4;let zz7:TS:=(aq (be sc2 zz6 aF) zz5);let zz8:TS:=(aq sa5 zz7);let zz9:TS:=sa6;let zz10:TS:=(aq (be sc3 zz9 aF) zz8);let zz11:TS:=(aq sa7 zz10);let zz12:TS:=sa8;let zz13:TS:=(aq (be sc4 zz12 aF) zz11);let zz14:TS:=(aq sa9 zz13);(aq sa10 zz14) D σ H):(aq sa10 (aq sa9 (aq (be sc4 sa8 aF) (aq sa7 (aq (be sc3 sa6 aF) (aq sa5 (aq (be sc2 sa4 aF) (aq (be sc1 sa3 aF) (aq (be sc0 sa2 aF) (aq sa1 sa0)))))))))) D σ H:=h
set_option genInjectivity false
set_option genSizeOf false
structure Adr where
 f_has_tie:Addr
 d_has_tie:FuncData
 f_ties_in:Addr
 d_ties_in:FuncData
 f_set_of:Addr
 d_set_of:FuncData
 f_all_ties:Addr
 d_all_ties:FuncData
 f_is_set:Addr
 d_is_set:FuncData
 f_check_set:Addr
 d_check_set:FuncData
 f_drawn_together:Addr
 d_drawn_together:FuncData
 f_forest_trails:Addr
 d_forest_trails:FuncData
 f_forest:Addr
 d_forest:FuncData
 f_chords:Addr
 d_chords:FuncData
 f_ring_closed:Addr
 d_ring_closed:FuncData
 f_chord_ring:Addr
 d_chord_ring:FuncData
 f_common:Addr
 d_common:FuncData
 f_bears_oddly:Addr
 d_bears_oddly:FuncData
 f_is_side:Addr
 d_is_side:FuncData
 f_cut_of:Addr
 d_cut_of:FuncData
 f_side_of:Addr
 d_side_of:FuncData
 f_steps_by_point:Addr
 d_steps_by_point:FuncData
 f_least_ways:Addr
 d_least_ways:FuncData
 f_length_of_way:Addr
 d_length_of_way:FuncData
 f_worths_of_ways:Addr
 d_worths_of_ways:FuncData
 f_all_least_ways:Addr
 d_all_least_ways:FuncData
 f_worths_of_all:Addr
 d_worths_of_all:FuncData
 f_least_odd:Addr
 d_least_odd:FuncData
 f_law_cell_at:Addr
 d_law_cell_at:FuncData
 f_law_left:Addr
 d_law_left:FuncData
 f_law_tie:Addr
 d_law_tie:FuncData
 f_law_web:Addr
 d_law_web:FuncData
 f_law_whole:Addr
 d_law_whole:FuncData
 f_law_walk:Addr
 d_law_walk:FuncData
 f_law_least:Addr
 d_law_least:FuncData
 f_law_worths:Addr
 d_law_worths:FuncData
 f_law_length:Addr
 d_law_length:FuncData
 f_law_odd:Addr
 d_law_odd:FuncData
 f_law_nearest:Addr
 d_law_nearest:FuncData
 f_law_cut:Addr
 d_law_cut:FuncData
 f_law_side:Addr
 d_law_side:FuncData
 f_law_ring_right:Addr
 d_law_ring_right:FuncData
 f_law:Addr
 d_law:FuncData
 c_BadSet:Addr
 c_BadPoint:Addr
 c_NoChord:Addr
 k_least_ways:Addr
 p_least_ways:Addr
structure Txt(K:PySem.W.Frag)(mg:Str→Option Value)(a:Adr):Prop where
 F_has_tie:Fun K "has_tie" "has_tie" eD a.f_has_tie a.d_has_tie
 m_has_tie:mg "has_tie"=some (.ref a.f_has_tie)
 b_has_tie:aU K a.d_has_tie ["tie_set","tie"] []
 F_ties_in:Fun K "ties_in" "ties_in" dF a.f_ties_in a.d_ties_in
 m_ties_in:mg "ties_in"=some (.ref a.f_ties_in)
 b_ties_in:aU K a.d_ties_in ["tie_set"] []
 F_set_of:Fun K "set_of" "set_of" fE a.f_set_of a.d_set_of
 m_set_of:mg "set_of"=some (.ref a.f_set_of)
 b_set_of:aU K a.d_set_of ["web","ties"] []
 F_all_ties:Fun K "all_ties" "all_ties" dJ a.f_all_ties a.d_all_ties
 m_all_ties:mg "all_ties"=some (.ref a.f_all_ties)
 b_all_ties:aU K a.d_all_ties ["web"] []
 F_is_set:Fun K "is_set" "is_set" fq a.f_is_set a.d_is_set
 m_is_set:mg "is_set"=some (.ref a.f_is_set)
 b_is_set:aU K a.d_is_set ["web","number"] []
 F_check_set:Fun K "check_set" "check_set" cS a.f_check_set a.d_check_set
 m_check_set:mg "check_set"=some (.ref a.f_check_set)
 b_check_set:aU K a.d_check_set ["web","tie_set"] []
 F_drawn_together:Fun K "drawn_together" "drawn_together" bn a.f_drawn_together a.d_drawn_together
 m_drawn_together:mg "drawn_together"=some (.ref a.f_drawn_together)
 b_drawn_together:aU K a.d_drawn_together ["leasts","one","other"] []
 F_forest_trails:Fun K "forest_trails" "forest_trails" bx a.f_forest_trails a.d_forest_trails
 m_forest_trails:mg "forest_trails"=some (.ref a.f_forest_trails)
 b_forest_trails:aU K a.d_forest_trails ["web"] []
 F_forest:Fun K "forest" "forest" fB a.f_forest a.d_forest
 m_forest:mg "forest"=some (.ref a.f_forest)
 b_forest:aU K a.d_forest ["web"] []
 F_chords:Fun K "chords" "chords" fJ a.f_chords a.d_chords
 m_chords:mg "chords"=some (.ref a.f_chords)
 b_chords:aU K a.d_chords ["web"] []
 F_ring_closed:Fun K "ring_closed" "ring_closed" cv a.f_ring_closed a.d_ring_closed
 m_ring_closed:mg "ring_closed"=some (.ref a.f_ring_closed)
 b_ring_closed:aU K a.d_ring_closed ["web","trails","chord"] []
 F_chord_ring:Fun K "chord_ring" "chord_ring" cD a.f_chord_ring a.d_chord_ring
 m_chord_ring:mg "chord_ring"=some (.ref a.f_chord_ring)
 b_chord_ring:aU K a.d_chord_ring ["web","tie"] []
 F_common:Fun K "common" "common" fM a.f_common a.d_common
 m_common:mg "common"=some (.ref a.f_common)
 b_common:aU K a.d_common ["one","other"] []
 F_bears_oddly:Fun K "bears_oddly" "bears_oddly" cp a.f_bears_oddly a.d_bears_oddly
 m_bears_oddly:mg "bears_oddly"=some (.ref a.f_bears_oddly)
 b_bears_oddly:aU K a.d_bears_oddly ["tie_set","marks"] []
 F_is_side:Fun K "is_side" "is_side" ee a.f_is_side a.d_is_side
 m_is_side:mg "is_side"=some (.ref a.f_is_side)
 b_is_side:aU K a.d_is_side ["web","side"] []
 F_cut_of:Fun K "cut_of" "cut_of" eM a.f_cut_of a.d_cut_of
 m_cut_of:mg "cut_of"=some (.ref a.f_cut_of)
 b_cut_of:aU K a.d_cut_of ["web","side"] []
 F_side_of:Fun K "side_of" "side_of" dG a.f_side_of a.d_side_of
 m_side_of:mg "side_of"=some (.ref a.f_side_of)
 b_side_of:aU K a.d_side_of ["web","tie_set"] []
 F_steps_by_point:Fun K "steps_by_point" "steps_by_point" bp a.f_steps_by_point a.d_steps_by_point
 m_steps_by_point:mg "steps_by_point"=some (.ref a.f_steps_by_point)
 b_steps_by_point:aU K a.d_steps_by_point ["web","marks"] []
 F_least_ways:FunL K "least_ways" "least_ways" bN a.f_least_ways a.d_least_ways a.k_least_ways a.p_least_ways
 m_least_ways:mg "least_ways"=some (.ref a.f_least_ways)
 b_least_ways:aU K a.d_least_ways ["web","marks","start"] []
 F_length_of_way:Fun K "length_of_way" "length_of_way" bK a.f_length_of_way a.d_length_of_way
 m_length_of_way:mg "length_of_way"=some (.ref a.f_length_of_way)
 b_length_of_way:aU K a.d_length_of_way ["way"] []
 F_worths_of_ways:Fun K "worths_of_ways" "worths_of_ways" bi a.f_worths_of_ways a.d_worths_of_ways
 m_worths_of_ways:mg "worths_of_ways"=some (.ref a.f_worths_of_ways)
 b_worths_of_ways:aU K a.d_worths_of_ways ["ways"] []
 F_all_least_ways:Fun K "all_least_ways" "all_least_ways" bh a.f_all_least_ways a.d_all_least_ways
 m_all_least_ways:mg "all_least_ways"=some (.ref a.f_all_least_ways)
 b_all_least_ways:aU K a.d_all_least_ways ["web","marks"] []
 F_worths_of_all:Fun K "worths_of_all" "worths_of_all" bu a.f_worths_of_all a.d_worths_of_all
 m_worths_of_all:mg "worths_of_all"=some (.ref a.f_worths_of_all)
 b_worths_of_all:aU K a.d_worths_of_all ["ways"] []
 F_least_odd:Fun K "least_odd" "least_odd" cB a.f_least_odd a.d_least_odd
 m_least_odd:mg "least_odd"=some (.ref a.f_least_odd)
 b_least_odd:aU K a.d_least_odd ["web","marks"] []
 F_law_cell_at:Fun K "_law_cell_at" "_law_cell_at" cu a.f_law_cell_at a.d_law_cell_at
 m_law_cell_at:mg "_law_cell_at"=some (.ref a.f_law_cell_at)
 b_law_cell_at:aU K a.d_law_cell_at ["script","k"] []
 F_law_left:Fun K "_law_left" "_law_left" dA a.f_law_left a.d_law_left
 m_law_left:mg "_law_left"=some (.ref a.f_law_left)
 b_law_left:aU K a.d_law_left ["cell","k","way"] []
 F_law_tie:Fun K "_law_tie" "_law_tie" eg a.f_law_tie a.d_law_tie
 m_law_tie:mg "_law_tie"=some (.ref a.f_law_tie)
 b_law_tie:aU K a.d_law_tie ["left","points","mode"] []
 F_law_web:Fun K "_law_web" "_law_web" eB a.f_law_web a.d_law_web
 m_law_web:mg "_law_web"=some (.ref a.f_law_web)
 b_law_web:aU K a.d_law_web ["script","most_points","most_ties"] []
 F_law_whole:Fun K "_law_whole" "_law_whole" cQ a.f_law_whole a.d_law_whole
 m_law_whole:mg "_law_whole"=some (.ref a.f_law_whole)
 b_law_whole:aU K a.d_law_whole ["found"] []
 F_law_walk:Fun K "_law_walk" "_law_walk" cj a.f_law_walk a.d_law_walk
 m_law_walk:mg "_law_walk"=some (.ref a.f_law_walk)
 b_law_walk:aU K a.d_law_walk ["web","some"] []
 F_law_least:Fun K "_law_least" "_law_least" cW a.f_law_least a.d_law_least
 m_law_least:mg "_law_least"=some (.ref a.f_law_least)
 b_law_least:aU K a.d_law_least ["one","more"] []
 F_law_worths:Fun K "_law_worths" "_law_worths" bM a.f_law_worths a.d_law_worths
 m_law_worths:mg "_law_worths"=some (.ref a.f_law_worths)
 b_law_worths:aU K a.d_law_worths ["web","marks","point"] []
 F_law_length:Fun K "_law_length" "_law_length" cg a.f_law_length a.d_law_length
 m_law_length:mg "_law_length"=some (.ref a.f_law_length)
 b_law_length:aU K a.d_law_length ["web","some"] []
 F_law_odd:Fun K "_law_odd" "_law_odd" eo a.f_law_odd a.d_law_odd
 m_law_odd:mg "_law_odd"=some (.ref a.f_law_odd)
 b_law_odd:aU K a.d_law_odd ["number"] []
 F_law_nearest:Fun K "_law_nearest" "_law_nearest" cq a.f_law_nearest a.d_law_nearest
 m_law_nearest:mg "_law_nearest"=some (.ref a.f_law_nearest)
 b_law_nearest:aU K a.d_law_nearest ["web","marks"] []
 F_law_cut:Fun K "_law_cut" "_law_cut" eu a.f_law_cut a.d_law_cut
 m_law_cut:mg "_law_cut"=some (.ref a.f_law_cut)
 b_law_cut:aU K a.d_law_cut ["web","side"] []
 F_law_side:Fun K "_law_side" "_law_side" cP a.f_law_side a.d_law_side
 m_law_side:mg "_law_side"=some (.ref a.f_law_side)
 b_law_side:aU K a.d_law_side ["web","marks"] []
 F_law_ring_right:Fun K "_law_ring_right" "_law_ring_right" bj a.f_law_ring_right a.d_law_ring_right
 m_law_ring_right:mg "_law_ring_right"=some (.ref a.f_law_ring_right)
 b_law_ring_right:aU K a.d_law_ring_right ["web","marks","found"] []
 F_law:Fun K "law" "law" gw a.f_law a.d_law
 m_law:mg "law"=some (.ref a.f_law)
 b_law:aU K a.d_law ["script"] []
 n_ValueError:mg "ValueError"=none
 n_bool:mg "bool"=none
 n_enumerate:mg "enumerate"=none
 n_int:mg "int"=none
 n_isinstance:mg "isinstance"=none
 n_len:mg "len"=none
 n_list:mg "list"=none
 n_max:mg "max"=none
 n_min:mg "min"=none
 n_range:mg "range"=none
 n_sum:mg "sum"=none
 n_tuple:mg "tuple"=none
 n_zip:mg "zip"=none
 g_BadSet:mg "BadSet"=some (.ref a.c_BadSet)
 g_BadPoint:mg "BadPoint"=some (.ref a.c_BadPoint)
 g_NoChord:mg "NoChord"=some (.ref a.c_NoChord)
 x_BadSet:∀ h:Heap,K.In h→h.Ns mainGlobals mg→PyProof.Rows.OwnCls "BadSet" a.c_BadSet [.type "ValueError",.type "Exception",.type "BaseException",.type "object"] "ValueError.__new__" mg h
 x_NoChord:∀ h:Heap,K.In h→h.Ns mainGlobals mg→PyProof.Rows.OwnCls "NoChord" a.c_NoChord [.type "ValueError",.type "Exception",.type "BaseException",.type "object"] "ValueError.__new__" mg h
section
variable {K:PySem.W.Frag}{mg:Str→Option Value}{a:Adr}
theorem Txt.k_has_tie(T:Txt K mg a):PySem.W.keepIn K (.ref a.f_has_tie)=true:=T.F_has_tie.kp
theorem Txt.k_ties_in(T:Txt K mg a):PySem.W.keepIn K (.ref a.f_ties_in)=true:=T.F_ties_in.kp
theorem Txt.k_set_of(T:Txt K mg a):PySem.W.keepIn K (.ref a.f_set_of)=true:=T.F_set_of.kp
theorem Txt.k_all_ties(T:Txt K mg a):PySem.W.keepIn K (.ref a.f_all_ties)=true:=T.F_all_ties.kp
theorem Txt.k_is_set(T:Txt K mg a):PySem.W.keepIn K (.ref a.f_is_set)=true:=T.F_is_set.kp
theorem Txt.k_check_set(T:Txt K mg a):PySem.W.keepIn K (.ref a.f_check_set)=true:=T.F_check_set.kp
theorem Txt.k_drawn_together(T:Txt K mg a):PySem.W.keepIn K (.ref a.f_drawn_together)=true:=T.F_drawn_together.kp
theorem Txt.k_forest_trails(T:Txt K mg a):PySem.W.keepIn K (.ref a.f_forest_trails)=true:=T.F_forest_trails.kp
theorem Txt.k_forest(T:Txt K mg a):PySem.W.keepIn K (.ref a.f_forest)=true:=T.F_forest.kp
theorem Txt.k_chords(T:Txt K mg a):PySem.W.keepIn K (.ref a.f_chords)=true:=T.F_chords.kp
theorem Txt.k_ring_closed(T:Txt K mg a):PySem.W.keepIn K (.ref a.f_ring_closed)=true:=T.F_ring_closed.kp
theorem Txt.k_chord_ring(T:Txt K mg a):PySem.W.keepIn K (.ref a.f_chord_ring)=true:=T.F_chord_ring.kp
theorem Txt.k_common(T:Txt K mg a):PySem.W.keepIn K (.ref a.f_common)=true:=T.F_common.kp
theorem Txt.k_bears_oddly(T:Txt K mg a):PySem.W.keepIn K (.ref a.f_bears_oddly)=true:=T.F_bears_oddly.kp
theorem Txt.k_is_side(T:Txt K mg a):PySem.W.keepIn K (.ref a.f_is_side)=true:=T.F_is_side.kp
theorem Txt.k_cut_of(T:Txt K mg a):PySem.W.keepIn K (.ref a.f_cut_of)=true:=T.F_cut_of.kp
theorem Txt.k_side_of(T:Txt K mg a):PySem.W.keepIn K (.ref a.f_side_of)=true:=T.F_side_of.kp
theorem Txt.k_steps_by_point(T:Txt K mg a):PySem.W.keepIn K (.ref a.f_steps_by_point)=true:=T.F_steps_by_point.kp
theorem Txt.k_least_ways(T:Txt K mg a):PySem.W.keepIn K (.ref a.f_least_ways)=true:=T.F_least_ways.kp
theorem Txt.k_length_of_way(T:Txt K mg a):PySem.W.keepIn K (.ref a.f_length_of_way)=true:=T.F_length_of_way.kp
theorem Txt.k_worths_of_ways(T:Txt K mg a):PySem.W.keepIn K (.ref a.f_worths_of_ways)=true:=T.F_worths_of_ways.kp
theorem Txt.k_all_least_ways(T:Txt K mg a):PySem.W.keepIn K (.ref a.f_all_least_ways)=true:=T.F_all_least_ways.kp
theorem Txt.k_worths_of_all(T:Txt K mg a):PySem.W.keepIn K (.ref a.f_worths_of_all)=true:=T.F_worths_of_all.kp
theorem Txt.k_least_odd(T:Txt K mg a):PySem.W.keepIn K (.ref a.f_least_odd)=true:=T.F_least_odd.kp
theorem Txt.k_law_cell_at(T:Txt K mg a):PySem.W.keepIn K (.ref a.f_law_cell_at)=true:=T.F_law_cell_at.kp
theorem Txt.k_law_left(T:Txt K mg a):PySem.W.keepIn K (.ref a.f_law_left)=true:=T.F_law_left.kp
theorem Txt.k_law_tie(T:Txt K mg a):PySem.W.keepIn K (.ref a.f_law_tie)=true:=T.F_law_tie.kp
theorem Txt.k_law_web(T:Txt K mg a):PySem.W.keepIn K (.ref a.f_law_web)=true:=T.F_law_web.kp
theorem Txt.k_law_whole(T:Txt K mg a):PySem.W.keepIn K (.ref a.f_law_whole)=true:=T.F_law_whole.kp
theorem Txt.k_law_walk(T:Txt K mg a):PySem.W.keepIn K (.ref a.f_law_walk)=true:=T.F_law_walk.kp
theorem Txt.k_law_least(T:Txt K mg a):PySem.W.keepIn K (.ref a.f_law_least)=true:=T.F_law_least.kp
theorem Txt.k_law_worths(T:Txt K mg a):PySem.W.keepIn K (.ref a.f_law_worths)=true:=T.F_law_worths.kp
theorem Txt.k_law_length(T:Txt K mg a):PySem.W.keepIn K (.ref a.f_law_length)=true:=T.F_law_length.kp
theorem Txt.k_law_odd(T:Txt K mg a):PySem.W.keepIn K (.ref a.f_law_odd)=true:=T.F_law_odd.kp
theorem Txt.k_law_nearest(T:Txt K mg a):PySem.W.keepIn K (.ref a.f_law_nearest)=true:=T.F_law_nearest.kp
theorem Txt.k_law_cut(T:Txt K mg a):PySem.W.keepIn K (.ref a.f_law_cut)=true:=T.F_law_cut.kp
theorem Txt.k_law_side(T:Txt K mg a):PySem.W.keepIn K (.ref a.f_law_side)=true:=T.F_law_side.kp
theorem Txt.k_law_ring_right(T:Txt K mg a):PySem.W.keepIn K (.ref a.f_law_ring_right)=true:=T.F_law_ring_right.kp
end
def h8:Sp:=fun vs H Q _=>∃(S:Int) (k:Nat),vs=[.int S,.int (k:Int)]∧Q (.bl (bit S k)) H
def gm:Sp:=fun vs H Q _=>∃ m:Nat,vs=[.int (m:Int)]∧Builtin.Int.intBits (m:Int)≤1000∧∀ D H',H D=none→am H H'→H' D=some (.lst (aJ (aI (m:Int))))→Q (.ref D) H'
def gB:Sp:=fun vs H Q _=>∃ w p ts,vs=[.ref w]∧WebAt H w p ts∧Web p ts∧Q (.int (2^ts.length-1)) H
def mf:Sp:=fun vs H Q _=>∃ w p ts S,vs=[.ref w,.int S]∧WebAt H w p ts∧Web p ts∧Q (.bl (decide (0≤S∧S<2^ts.length))) H
def uG(ts:List Tie)(S:Int)(bad:Prop)(R:Nat→Prop):Prop:=(∃ m:Nat,S=(m:Int)∧m<2^ts.length∧R m)∨((S<0∨2^ts.length≤S)∧bad)
def fY(C:Addr):Sp:=fun vs H Q E=>∃ w p ts S,vs=[.ref w,.int S]∧WebAt H w p ts∧Web p ts∧uG ts S (E (.ref C) none H) fun _=>Q .non H
section
variable {P:Program}{w:World}{K:PySem.W.Frag}{mg:Str→Option Value}{base:Heap}{a:Adr}
theorem eC(T:Txt K mg a):FnOk P w K mg base CX0 1 a.f_has_tie a.d_has_tie ["tie_set","tie"] h8:=by
 refine T.F_has_tie.ok pN (fun vs H Q E h=>?_) (fun cdv A outer s H vs Q E hr h=>?_)
 ·obtain⟨S,k,rfl,_⟩:=h
  rfl
 ·obtain⟨S,k,rfl,q⟩:=h
  refine⟨_,(@ap _ _ _ (@aC _ _ _ _ (@cw _ _ _ _ _ _ _ _ dZ (@av _ _ _ _ _ _ _ _ gs (@av _ _ _ _ _ _ _ _ i8 (pv 0) (pv 1)) ae) ae (aA _)))),?_⟩
  refine(exq rfl (exq rfl (ijq ⟨(by(first|lia|omega)),ijq ⟨rfl,?_⟩⟩)))
  rw[Int.toNat_natCast,pW]
  exact q
theorem cG(T:Txt K mg a):FnOk P w K mg base CX0 2 a.f_ties_in a.d_ties_in ["tie_set"] gm:=by
 have eC:FnOk P w K mg base CX0 1 a.f_has_tie a.d_has_tie ["tie_set","tie"] h8:=eC T
 refine T.F_ties_in.ok qf (fun vs H Q E h=>?_) (fun cdv A outer s H vs Q E hr h=>?_)
 ·obtain⟨m,rfl,_⟩:=h
  rfl
 ·obtain⟨m,rfl,hm,k⟩:=h
  refine⟨_,(@ap _ _ _ (@aC _ _ _ _ (@cK _ _ _ _ _ _ _ ["tie"] ["tie_set"] [0] _ _ _ _ (aE (ag dF) ["tie_set"]) rfl (@aH _ _ _ _ _ _ (by rfl) T.n_range (@aa _ _ _ _ _ (@wJ _ _ _ _ _ _ _ _ _ PySem.F.plainAttrs_int PyProof.Rows.slot_int_bit_length PyProof.Rows.type_int_bit_length vw (pv 0) (by rfl) (by rfl)) ah (by rfl)) (by rfl)) (fun _ _ _ _=>(au (i:=0) (show(["tie","tie_set"]:List Str).Nodup by decide +kernel) rfl (Or.inl rfl))) (fun _ _ _ _=>(dL (eO (aw eC (hr.mono (by decide)) (by rfl) T.m_has_tie T.k_has_tie T.b_has_tie .nil aM (aa (pv 1) (aa (pv 0) ah)))))) (fun _ _ _ _=>(pv 0)) (by intro _;rfl)))),?_⟩
  refine(exq rfl ⟨rfl,exq rfl ⟨rfl,exq rfl ⟨(by(first|lia|omega)),(by(first|lia|omega)),fun D hD=>bo (lo:=0) (m:=Builtin.Int.intBits (m:Int)) (gX (bit (m:Int)) H D) (.start hD) (fun i acc H2 _ p=>p.len) (dl (Nat.ble_eq.mpr hm)) ?_ ?_⟩⟩⟩)
  ·intro i acc H2 hi p
   rw[Int.zero_add]
   refine⟨rfl,exq rfl (exq rfl ⟨(m:Int),i,rfl,exq rfl (?_)⟩)⟩
   cases hb:bit (m:Int) i with
   | true=>exact(exq rfl (p.yes hD (am.refl _) hb))
   | false=>exact p.no (am.refl _) hb
  ·intro acc H2 p
   exact k D H2 hD p.1 (by rw[p.2.1,p.2.2];rfl)
theorem dB(T:Txt K mg a):FnOk P w K mg base CX0 1 a.f_all_ties a.d_all_ties ["web"] gB:=by
 refine T.F_all_ties.ok ou (fun vs H Q E h=>?_) (fun cdv A outer s H vs Q E hr h=>?_)
 ·obtain⟨w,p,ts,rfl,_⟩:=h
  rfl
 ·obtain⟨wb,p,ts,rfl,hw,W,q⟩:=h
  refine⟨_,(@ap _ _ _ (@aC _ _ _ _ (@av _ _ _ _ _ _ _ _ nk (@av _ _ _ _ _ _ _ _ ff ae (@aD _ _ _ _ _ _ _ _ _ (eV K) (by rfl) T.n_len PySem.boot_len (@aa _ _ _ _ _ (@ao _ _ _ _ _ _ _ (ixT K) (pv 0) ae (fun _ _=>rfl)) ah (by rfl)) (by decide) (by decide) (by rfl) (by rfl))) ae))),?_⟩
  obtain⟨b,xs,h1,h2,h3⟩:=hw.ex
  have hl:=h3.length
  have wl:=W.len
  refine(exq rfl (ixq (SqT.of h1) (af (j:=1) rfl) (lnq rfl (.inr (SqT.of h2)) (ijq ⟨⟨by(first|lia|omega),by(first|lia|omega),by decide⟩,ijq (?_)⟩))))
  rw[Int.toNat_natCast,hl,Int.one_mul]
  exact q
theorem kS(T:Txt K mg a):FnOk P w K mg base CX0 2 a.f_is_set a.d_is_set ["web","number"] mf:=by
 have dB:FnOk P w K mg base CX0 1 a.f_all_ties a.d_all_ties ["web"] gB:=dB T
 refine T.F_is_set.ok rD (fun vs H Q E h=>?_) (fun cdv A outer s H vs Q E hr h=>?_)
 ·obtain⟨w,p,ts,S,rfl,_⟩:=h
  rfl
 ·obtain⟨wb,p,ts,S,rfl,hw,W,q⟩:=h
  refine⟨_,(@ap _ _ _ (@aC _ _ _ _ (@lg _ _ _ _ _ _ _ (@cw _ _ _ _ _ _ _ _ qy (pv 1) ae (aA _)) (@ng _ _ _ _ _ (@cw _ _ _ _ _ _ _ _ we (pv 1) (@aw _ _ _ _ _ _ _ _ _ _ _ _ _ _ _ _ dB (hr.mono (by decide)) (by rfl) T.m_all_ties T.k_all_ties T.b_all_ties .nil aM (@aa _ _ _ _ _ (pv 0) ah (by rfl)) (by decide) (by rfl) (by rfl)) (aA _)))))),?_⟩
  refine(exq rfl (ijq (exq rfl (jL (fun hlt=>?_) (fun hlt=>?_)))))
  ·have hlt:0≤S:=of_decide_eq_true hlt
   refine(exq rfl (exq rfl ⟨wb,p,ts,rfl,hw,W,_,_,rfl,rfl,?_⟩))
   have e:decide (S≤2^ts.length-1)=decide (0≤S∧S<2^ts.length):=decide_eq_decide.mpr ⟨fun z=>⟨hlt,by(first|lia|omega)⟩,fun z=>by(first|lia|omega)⟩
   rw[← e]at q
   exact q
  ·have hlt : ¬ 0≤S:=fun z=>hlt (decide_eq_true z)
   rw[decide_eq_false (fun z=>hlt z.1)]at q
   exact q
theorem cT(T:Txt K mg a):FnOk P w K mg base (CX1 P w) 3 a.f_check_set a.d_check_set ["web","tie_set"] (fY a.c_BadSet):=by
 have kS:FnOk P w K mg base CX0 2 a.f_is_set a.d_is_set ["web","number"] mf:=kS T
 refine T.F_check_set.ok1 na (fun vs H Q E h=>?_) (fun cdv A outer s H vs Q E hr h=>?_)
 ·obtain⟨w,p,ts,S,rfl,_⟩:=h
  rfl
 ·obtain⟨wb,p,ts,S,rfl,hw,W,q⟩:=h
  refine⟨_,(@ap _ _ _ (@bI _ _ _ _ _ _ _ _ (@ie _ _ _ _ (@eO _ _ _ (@aw _ _ _ _ _ _ _ _ _ _ _ _ _ _ _ _ kS (hr.mono (by decide)) (by rfl) T.m_is_set T.k_is_set T.b_is_set .nil aM (@aa _ _ _ _ _ (pv 0) (@aa _ _ _ _ _ (pv 1) ah (by rfl)) (by rfl)) (by decide) (by rfl) (by rfl)) (by intro _;rfl))) (@ap _ _ _ (@nX _ _ _ _ _ _ _ _ _ _ _ _ _ _ jf.thr rfl (by rfl) T.x_BadSet PySem.F.excBase_ValueError (@aa _ _ _ _ _ gE ah (by rfl)) (by rfl) (by rfl) (by decide))) aO)),?_⟩
  refine nJ ?_
  intro zz0
  refine(exq rfl (exq rfl ⟨wb,p,ts,S,rfl,hw,W,?_⟩))
  have h2:((2:Int)^ts.length)=((2^ts.length:Nat):Int):=by simp
  rcases q with⟨m,rfl,hm,q⟩|⟨hS,q⟩
  ·rw[decide_eq_true ⟨by(first|lia|omega),by(first|lia|omega)⟩]
   exact(exq rfl (dr q))
  ·rw[decide_eq_false (by(first|lia|omega))]
   exact(exq rfl (d6 ⟨dl rfl,q⟩))
end
section
variable {P:Program}{w:World}{K:PySem.W.Frag}{mg:Str→Option Value}{base:Heap}{a:Adr}
end
section
variable {P:Program}{w:World}{K:PySem.W.Frag}{mg:Str→Option Value}{base:Heap}{a:Adr}
end
def nV:Sp:=fun vs H Q _=>∃(l:Addr) (L:Nat→Nat) (p u v:Nat),vs=[.ref l,.int (u:Int),.int (v:Int)]∧H l=some (.lst (eQ L p))∧p≤10∧u<p∧v<p∧
 ∀ D H',H D=none→am H H'→H' D=some (.lst (eQ (RM.cM L u v) p))→Q (.ref D) H'
section
variable {P:Program}{w:World}{K:PySem.W.Frag}{mg:Str→Option Value}{base:Heap}{a:Adr}
theorem dz(T:Txt K mg a):FnOk P w K mg base CX0 1 a.f_drawn_together a.d_drawn_together ["leasts","one","other"] nV:=by
 refine T.F_drawn_together.ok cY (fun vs H Q E h=>?_) (fun cdv A outer s H vs Q E hr h=>?_)
 ·obtain⟨l,L,p,u,v,rfl,_⟩:=h
  rfl
 ·obtain⟨l,L,p,u,v,rfl,hl,hp,hu,hv,q⟩:=h
  refine⟨_,(@aj _ _ _ _ _ (@aB _ _ 3 _ _ _ _ cY.nd rfl (Or.inr rfl) (@aD _ _ _ _ _ _ _ _ _ (rL rfl) (by rfl) T.n_min PyProof.Rows.boot_min (@aa _ _ _ _ _ (@ao _ _ _ _ _ _ _ (ixL K) (pv 0) (pv 1) (fun _ _=>rfl)) (@aa _ _ _ _ _ (@ao _ _ _ _ _ _ _ (ixL K) (pv 0) (pv 2) (fun _ _=>rfl)) ah (by rfl)) (by rfl)) (by decide) (by decide) (by rfl) (by rfl)) (by rfl) (by first | exact .inl rfl | exact .inr rfl | assumption)) (@aj _ _ _ _ _ (@aB _ _ 4 _ _ _ _ cY.nd rfl (Or.inr rfl) (@aD _ _ _ _ _ _ _ _ _ (mE rfl) (by rfl) T.n_max PyProof.Rows.boot_max (@aa _ _ _ _ _ (@ao _ _ _ _ _ _ _ (ixL K) (pv 0) (pv 1) (fun _ _=>rfl)) (@aa _ _ _ _ _ (@ao _ _ _ _ _ _ _ (ixL K) (pv 0) (pv 2) (fun _ _=>rfl)) ah (by rfl)) (by rfl)) (by decide) (by decide) (by rfl) (by rfl)) (by rfl) (by first | exact .inl rfl | exact .inr rfl | assumption)) (@ap _ _ _ (@aC _ _ _ _ (@cK _ _ _ _ _ _ _ ["least"] ["low","high"] [3,4] _ _ _ _ (aE (ag bn) ["leasts","one","other","low","high"]) rfl (@piL _ _ _ _ K (pv 0) (by rfl)) (fun _ _ _ _=>(au (i:=0) (show(["least","low","high"]:List Str).Nodup by decide +kernel) rfl (Or.inl rfl))) (fun _ _ _ _=>db) (fun _ _ _ _=>(iK (az dZ (pv 0) (pv 2) (aA _)) (pv 1) (pv 0))) (by intro _;rfl)))))),?_⟩
  refine iV ?_
  intro zz0 zz1
  refine(exq rfl (exq rfl (ixl (SqL.of hl) (af (j:=u) (bP hu)) (exq rfl (exq rfl (ixl (SqL.of hl) (af (j:=v) (bP hv)) ⟨_,_,rfl,?_⟩))))))
  refine(exq rfl (exq rfl (ixl (SqL.of hl) (af (j:=u) (bP hu)) (exq rfl (exq rfl (ixl (SqL.of hl) (af (j:=v) (bP hv)) ⟨_,_,rfl,?_⟩))))))
  refine(exq rfl ⟨l,rfl,⟨_,SqL.of hl⟩,fun D hD=>ez (xs:=eQ L p) (m8 (RM.cM L u v) H D) (.start hD) (fun i acc H2 _ pd=>⟨SqL.of (pd.1 _ _ hl),pd.len⟩) (by rw[df];exact dl (Nat.ble_eq.mpr (by(first|lia|omega)))) ?_ ?_⟩)
  ·intro i x acc H2 hx pd
   obtain⟨hi,rfl⟩:=jT hx
   refine⟨rfl,exq rfl (exq rfl ⟨rfl,exq rfl (?_)⟩)⟩
   rw[qJ,gJ]
   by_cases hm:L i=max (L u) (L v)
   ·rw[decide_eq_true hm]
    refine d6 (exq rfl (pd.next hD (am.refl _) ?_))
    rw[uX]
    unfold RM.cM
    rw[if_pos hm]
   ·rw[decide_eq_false hm]
    refine dr (exq rfl (pd.next hD (am.refl _) ?_))
    unfold RM.cM
    rw[if_neg hm]
  ·intro acc H2 pd
   rw[df]at pd
   exact q D H2 hD pd.1 (by rw[pd.2.1,pd.2.2])
end
section
variable {P:Program}{w:World}{K:PySem.W.Frag}{mg:Str→Option Value}{base:Heap}{a:Adr}
end
def gQ:Sp:=fun vs H Q _=>∃ w p ts,∃ g:GoodWeb p ts,vs=[.ref w]∧WebAt H w p ts∧∀ D H',H D=none→am H H'→H' D=some (.lst (eQ ((ad p ts g).trail ts.length) p))→Q (.ref D) H'
def lM:Sp:=fun vs H Q _=>∃ w p ts,∃ g:GoodWeb p ts,vs=[.ref w]∧WebAt H w p ts∧∀ H',am H H'→Q (.int ((eX p ts g:Nat):Int)) H'
def mB:Sp:=fun vs H Q _=>∃ w p ts,∃ g:GoodWeb p ts,vs=[.ref w]∧WebAt H w p ts∧∀ D H',H D=none→am H H'→H' D=some (.lst (aJ (ad p ts g).chords))→Q (.ref D) H'
def gx:Sp:=fun vs H Q _=>∃ w p ts,∃ g:GoodWeb p ts,∃(D:Addr) (c:Nat),vs=[.ref w,.ref D,.int (c:Int)]∧WebAt H w p ts∧H D=some (.lst (eQ ((ad p ts g).trail ts.length) p))∧c<ts.length∧Q (.int (((ad p ts g).ring c:Nat):Int)) H
section
variable {P:Program}{w:World}{K:PySem.W.Frag}{mg:Str→Option Value}{base:Heap}{a:Adr}
theorem pV{H:Hp}{xs:List V}{p:Nat}{ts:List Tie}{g:GoodWeb p ts}{k:Nat}(h3:Paired (lm H) xs ts)(hk:k<ts.length):∃ c,xs[k]?=some (.ref c)∧H c=some (.tup [.int (((ad p ts g).a k:Nat):Int),.int (((ad p ts g).b k:Nat):Int),.int (cb ts k).2.2]):=by
 have hkx:k<xs.length:=by rw[h3.length];exact hk
 obtain⟨t,ht,c,hc,hct⟩:=Paired.getP h3 (i:=k) (x:=xs[k]) (by simp[hkx])
 have htt:t=cb ts k:=by
  have z:=lR hk
  rw[ht]at z
  exact Option.some.inj z
 refine⟨c,by rw[← hc];simp[hkx],?_⟩
 rw[hct,← wj hk,← vW hk,htt]
 rfl
theorem bc(T:Txt K mg a):FnOk P w K mg base CX0 2 a.f_forest_trails a.d_forest_trails ["web"] gQ:=by
 have dz:FnOk P w K mg base CX0 1 a.f_drawn_together a.d_drawn_together ["leasts","one","other"] nV:=dz T
 refine T.F_forest_trails.ok aL (fun vs H Q E h=>?_) (fun cdv A outer s H vs Q E hr h=>?_)
 ·obtain⟨w,p,ts,g,rfl,_⟩:=h
  rfl
 ·obtain⟨wb,p,ts,g,rfl,hw,q⟩:=h
  refine⟨_,(@aj _ _ _ _ _ (@aB _ _ 1 _ _ _ _ aL.nd rfl (Or.inl rfl) (@cH _ _ _ _ _ _ _ _ _ (x6 rfl) (by rfl) T.n_list PyProof.Rows.boot_list (@aa _ _ _ _ _ (@cH _ _ _ _ _ _ _ _ _ uN (by rfl) T.n_range PyProof.Rows.boot_range (@aa _ _ _ _ _ (@ao _ _ _ _ _ _ _ (ixT K) (pv 0) ae (fun _ _=>rfl)) ah (by rfl)) (by decide) (by decide) (by rfl) (by rfl)) ah (by rfl)) (by decide) (by decide) (by rfl) (by rfl)) (by rfl) (by first | exact .inl rfl | exact .inr rfl | assumption)) (@aj _ _ _ _ _ (@aB _ _ 2 _ _ _ _ aL.nd rfl (Or.inl rfl) (@av _ _ _ _ _ _ _ _ uS (@da _ _ _ _ (@aa _ _ _ _ _ ae ah (by rfl))) (@ao _ _ _ _ _ _ _ (ixT K) (pv 0) ae (fun _ _=>rfl))) (by rfl) (by first | exact .inl rfl | exact .inr rfl | assumption)) (@aj _ _ _ _ _ (@ck _ _ _ _ _ _ _ _ PassesOwn.never rfl (@aH _ _ _ _ _ _ (by rfl) T.n_range (@aa _ _ _ _ _ (@aD _ _ _ _ _ _ _ _ _ (eV K) (by rfl) T.n_len PySem.boot_len (@aa _ _ _ _ _ (@ao _ _ _ _ _ _ _ (ixT K) (pv 0) ae (fun _ _=>rfl)) ah (by rfl)) (by decide) (by decide) (by rfl) (by rfl)) ah (by rfl)) (by rfl)) (au (i:=3) aL.nd rfl (Or.inl rfl)) (@aj _ _ _ _ _ (@aB _ _ 4 _ _ _ _ aL.nd rfl (Or.inl rfl) (@ao _ _ _ _ _ _ _ (ixT K) (@ao _ _ _ _ _ _ _ (ixT K) (@ao _ _ _ _ _ _ _ (ixT K) (pv 0) ae (fun _ _=>rfl)) (pv 3) (fun _ _=>rfl)) ae (fun _ _=>rfl)) (by rfl) (by first | exact .inl rfl | exact .inr rfl | assumption)) (@aj _ _ _ _ _ (@aB _ _ 5 _ _ _ _ aL.nd rfl (Or.inl rfl) (@ao _ _ _ _ _ _ _ (ixT K) (@ao _ _ _ _ _ _ _ (ixT K) (@ao _ _ _ _ _ _ _ (ixT K) (pv 0) ae (fun _ _=>rfl)) (pv 3) (fun _ _=>rfl)) ae (fun _ _=>rfl)) (by rfl) (by first | exact .inl rfl | exact .inr rfl | assumption)) (@ap _ _ _ (@bI _ _ _ _ _ _ _ _ (@az _ _ _ _ _ _ _ _ jy (@ao _ _ _ _ _ _ _ (ixL K) (pv 1) (pv 4) (fun _ _=>rfl)) (@ao _ _ _ _ _ _ _ (ixL K) (pv 1) (pv 5) (fun _ _=>rfl)) (aA _)) (@aj _ _ _ _ _ (@aB _ _ 6 _ _ _ _ aL.nd rfl (Or.inr rfl) (@av _ _ _ _ _ _ _ _ dW (@av _ _ _ _ _ _ _ _ dW (@ao _ _ _ _ _ _ _ (ixL K) (pv 2) (pv 4) (fun _ _=>rfl)) (@ao _ _ _ _ _ _ _ (ixL K) (pv 2) (pv 5) (fun _ _=>rfl))) (@av _ _ _ _ _ _ _ _ ff ae (pv 3))) (by rfl) (by first | exact .inl rfl | exact .inr rfl | assumption)) (@aj _ _ _ _ _ (@aB _ _ 7 _ _ _ _ aL.nd rfl (Or.inr rfl) (@aD _ _ _ _ _ _ _ _ _ (mE rfl) (by rfl) T.n_max PyProof.Rows.boot_max (@aa _ _ _ _ _ (@ao _ _ _ _ _ _ _ (ixL K) (pv 1) (pv 4) (fun _ _=>rfl)) (@aa _ _ _ _ _ (@ao _ _ _ _ _ _ _ (ixL K) (pv 1) (pv 5) (fun _ _=>rfl)) ah (by rfl)) (by rfl)) (by decide) (by decide) (by rfl) (by rfl)) (by rfl) (by first | exact .inl rfl | exact .inr rfl | assumption)) (@aj _ _ _ _ _ (@d7 _ _ _ _ _ _ _ ["trail","least"] ["bridge","moved"] [6,7] _ _ _ _ 2 _ _ _ aL.nd rfl rfl (aE (ag bx) ["web","leasts","trails","tie","one","other","bridge","moved"]) rfl (@xa _ _ _ _ K _ _ _ _ _ (by rfl) T.n_zip (@aa _ _ _ _ _ (pv 2) (@aa _ _ _ _ _ (pv 1) ah (by rfl)) (by rfl)) (by rfl) (by rfl) (by rfl)) (fun _ _ _ _=>(pgT K (n:=2) rfl (aN (au (i:=0) (show(["trail","least","bridge","moved"]:List Str).Nodup by decide +kernel) rfl (Or.inl rfl)) (aN (au (i:=1) (show(["trail","least","bridge","moved"]:List Str).Nodup by decide +kernel) rfl (Or.inl rfl)) dh)))) (fun _ _ _ _=>db) (fun _ _ _ _=>(iK (az dZ (pv 1) (pv 3) (aA _)) (av dW (pv 0) (pv 2)) (pv 0))) (by rfl) (by intro _;rfl)) (@ap _ _ _ (@aB _ _ 1 _ _ _ _ aL.nd rfl (Or.inl rfl) (@aw _ _ _ _ _ _ _ _ _ _ _ _ _ _ _ _ dz (hr.mono (by decide)) (by rfl) T.m_drawn_together T.k_drawn_together T.b_drawn_together .nil aM (@aa _ _ _ _ _ (pv 1) (@aa _ _ _ _ _ (pv 4) (@aa _ _ _ _ _ (pv 5) ah (by rfl)) (by rfl)) (by rfl)) (by decide) (by rfl) (by rfl)) (by rfl) (by first | exact .inl rfl | exact .inr rfl | assumption)))))) aO)))) (by intro _;rfl)) (@ap _ _ _ (@aC _ _ _ _ (pv 2)))))),?_⟩
  refine jd ?_
  intro zz0 zz1 zz2 zz3 zz4 zz5 zz6 zz7 zz8 zz9
  obtain⟨bt,xs,h1,h2,h3⟩:=id hw.ex
  have wp:=g.p2
  have wl:=g.len
  have hxl:=h3.length
  refine(exq rfl (ixq (SqT.of h1) (af (j:=0) rfl) (exq rfl (fun r hr=>⟨r,p,rfl,ai,by(first|lia|omega),fun l hl=>?_⟩))))
  have s1:am H (upd (upd H r (.rng 0 (p:Int))) l (.lst (ql p))):=(am.new hr).trans (am.new hl)
  have hl1:upd (upd H r (.rng 0 (p:Int))) l (.lst (ql p)) l=some (.lst (eQ ((ad p ts g).lab 0) p)):=ai
  generalize upd (upd H r (.rng 0 (p:Int))) l (.lst (ql p))=H1 at s1 hl1
  refine⟨dl rfl,fun l0 hl0=>?_⟩
  have s0:am H1 (upd H1 l0 (.lst [.int 0])):=am.new hl0
  refine(exq rfl (ixq (SqT.of (s0 _ _ (s1 _ _ h1))) (af (j:=0) rfl) ⟨l0,(p:Int),exq rfl ⟨rfl,ai,by(first|lia|omega),by(first|lia|omega),(by rw[Int.toNat_natCast];show 1*p≤sizeLine;exact dl (Nat.ble_eq.mpr (by(first|lia|omega)))),fun e he=>?_⟩⟩))
  have s2:=s0.trans (am.new (o:=.lst (List.replicate (p:Int).toNat [V.int 0]).flatten) he)
  have he2:upd (upd H1 l0 (.lst [.int 0])) e (.lst (List.replicate (p:Int).toNat [V.int 0]).flatten) e=some (.lst (eQ ((ad p ts g).trail 0) p)):=by
   rw[ai,Int.toNat_natCast,sU]
   rfl
  generalize upd (upd H1 l0 (.lst [.int 0])) e (.lst (List.replicate (p:Int).toNat [V.int 0]).flatten)=H2 at s2 he2
  refine(exq rfl (ixq (SqT.of ((s1.trans s2) _ _ h1)) (af (j:=1) rfl) (lnq rfl (.inr (SqT.of ((s1.trans s2) _ _ h2))) (exq rfl ⟨(by(first|lia|omega)),(by(first|lia|omega)),?_⟩))))
  refine bH (lo:=0) (n:=(xs.length:Int).toNat) (fun k σ H3=>∃ la ta v3 v4 v5 v6 v7,σ=[some (.ref wb),some (.ref la),some (.ref ta),v3,v4,v5,v6,v7]∧am H H3∧H3 la=some (.lst (eQ ((ad p ts g).lab k) p))∧H3 ta=some (.lst (eQ ((ad p ts g).trail k) p))∧H ta=none)
   ⟨l,e,none,none,none,none,none,rfl,s1.trans s2,s2 _ _ hl1,he2,s1.free (s0.free he)⟩ ?_ ?_
  ·rintro k D' σ H3 hk ⟨la,ta,v3,v4,v5,v6,v7,rfl,s3,hla,hta,htn⟩
   rw[Int.toNat_natCast,hxl]at hk
   rw[Int.zero_add]
   obtain⟨c,hxc,hct⟩:=pV (g:=g) h3 hk
   have hA:=(ad p ts g).al k hk
   have hB:=(ad p ts g).bl k hk
   have hls:=RM.n6 (N:=ad p ts g) k
   have hinF:(ad p ts g).inF k = !decide ((ad p ts g).lab k ((ad p ts g).a k)=(ad p ts g).lab k ((ad p ts g).b k)):=rfl
   have htr:(ad p ts g).trail (k+1)=if(ad p ts g).inF k=true then fun v=>if(ad p ts g).lab k v=max ((ad p ts g).lab k ((ad p ts g).a k)) ((ad p ts g).lab k ((ad p ts g).b k)) then(ad p ts g).trail k v^^^((ad p ts g).trail k ((ad p ts g).a k)^^^(ad p ts g).trail k ((ad p ts g).b k)^^^2^k) else(ad p ts g).trail k v else(ad p ts g).trail k:=rfl
   generalize (ad p ts g).a k=A0 at *
   generalize (ad p ts g).b k=B0 at *
   refine(exq rfl (ixq (SqT.of (s3 _ _ h1)) (af (j:=1) rfl) (exq rfl (ixq (SqT.of (s3 _ _ h2)) (af (j:=k) hxc) (ixq (SqT.of (s3 _ _ hct)) (af (j:=0) rfl) (?_))))))
   refine(exq rfl (ixq (SqT.of (s3 _ _ h1)) (af (j:=1) rfl) (exq rfl (ixq (SqT.of (s3 _ _ h2)) (af (j:=k) hxc) (ixq (SqT.of (s3 _ _ hct)) (af (j:=1) rfl) (?_))))))
   refine(exq rfl (exq rfl (ixl (SqL.of hla) (af (j:=A0) (bP hA)) (exq rfl (exq rfl (ixl (SqL.of hla) (af (j:=B0) (bP hB)) ⟨rfl,exq rfl (?_)⟩))))))
   rw[gJ]
   by_cases he:(ad p ts g).lab k A0=(ad p ts g).lab k B0
   ·rw[decide_eq_true he]at hinF
    rw[hinF,if_neg (by decide)]at hls htr
    rw[decide_eq_true he]
    exact dr ⟨la,ta,_,_,_,_,_,rfl,s3,by rw[hls];exact hla,by rw[htr];exact hta,htn⟩
   ·rw[decide_eq_false he]at hinF
    rw[hinF,if_pos (by rfl)]at hls htr
    rw[decide_eq_false he]
    have hbr:Builtin.bitXor (Builtin.bitXor (((ad p ts g).trail k A0:Nat):Int) (((ad p ts g).trail k B0:Nat):Int)) (1*2^(k:Int).toNat)=(((ad p ts g).trail k A0^^^(ad p ts g).trail k B0^^^2^k:Nat):Int):=by
     rw[gP,xor_int,xor_int]
    refine d6 (exq rfl (exq rfl (ixl (SqL.of hta) (af (j:=A0) (bP hA)) (exq rfl (exq rfl (ixl (SqL.of hta) (af (j:=B0) (bP hB)) (ijq (exq rfl (ijq ⟨⟨by(first|lia|omega),by(first|lia|omega),by decide⟩,ijq (?_)⟩)))))))))
    refine(exq rfl (exq rfl (ixl (SqL.of hla) (af (j:=A0) (bP hA)) (exq rfl (exq rfl (ixl (SqL.of hla) (af (j:=B0) (bP hB)) ⟨_,_,rfl,?_⟩))))))
    refine(exq rfl (exq rfl ⟨ta,la,rfl,⟨_,SqL.of hta⟩,⟨_,SqL.of hla⟩,fun D hD=>tN (xs:=eQ ((ad p ts g).trail k) p) (ys:=eQ ((ad p ts g).lab k) p) (by rw[df,df]) (m8 ((ad p ts g).trail (k+1)) H3 D) (.start hD) (fun i acc H4 _ pd=>⟨SqL.of (pd.1 _ _ hta),SqL.of (pd.1 _ _ hla),pd.len⟩) (by rw[df];exact dl (Nat.ble_eq.mpr (by(first|lia|omega)))) ?_ ?_⟩))
    ·intro i x y T0 acc H4 hx hy pd hT
     obtain⟨hi,rfl⟩:=jT hx
     obtain⟨_,rfl⟩:=jT hy
     refine⟨T0,_,rfl,SqT.of ai,rfl,_,_,rfl,_,_,rfl,rfl,rfl,exq rfl (exq rfl ⟨rfl,exq rfl (?_)⟩)⟩
     rw[qJ,gJ]
     by_cases hm:(ad p ts g).lab k i=max ((ad p ts g).lab k A0) ((ad p ts g).lab k B0)
     ·rw[decide_eq_true hm]
      refine d6 (exq rfl (exq rfl (ijq (pd.next hD (am.new hT) ?_))))
      show V.int (Builtin.bitXor _ (Builtin.bitXor (Builtin.bitXor _ _) _))=_
      rw[hbr,xor_int,htr]
      show _=V.int (((if _ then _ else _:Nat)):Int)
      rw[if_pos hm]
     ·rw[decide_eq_false hm]
      refine dr (exq rfl (pd.next hD (am.new hT) ?_))
      rw[htr]
      show _=V.int (((if _ then _ else _:Nat)):Int)
      rw[if_neg hm]
    ·intro acc H4 pd
     rw[df]at pd
     have hD4:H4 D=some (.lst (eQ ((ad p ts g).trail (k+1)) p)):=by rw[pd.2.1,pd.2.2]
     refine(exq rfl (exq rfl (exq rfl ⟨la,(ad p ts g).lab k,p,A0,B0,rfl,pd.1 _ _ hla,wp,hA,hB,fun D2 H5 hn5 s5 hD2=>?_⟩)))
     exact⟨D2,D,_,_,_,_,_,rfl,(s3.trans pd.1).trans s5,by rw[hls];exact hD2,s5 _ _ hD4,s3.free hD⟩
  ·rintro σ H3 ⟨la,ta,v3,v4,v5,v6,v7,rfl,s3,hla,hta,htn⟩
   rw[Int.toNat_natCast,hxl]at hta
   exact(exq rfl (q ta H3 htn s3 hta))
theorem kL(T:Txt K mg a):FnOk P w K mg base CX0 3 a.f_forest a.d_forest ["web"] lM:=by
 have bc:FnOk P w K mg base CX0 2 a.f_forest_trails a.d_forest_trails ["web"] gQ:=bc T
 refine T.F_forest.ok gK (fun vs H Q E h=>?_) (fun cdv A outer s H vs Q E hr h=>?_)
 ·obtain⟨w,p,ts,g,rfl,_⟩:=h
  rfl
 ·obtain⟨wb,p,ts,g,rfl,hw,q⟩:=h
  refine⟨_,(@aj _ _ _ _ _ (@aB _ _ 1 _ _ _ _ gK.nd rfl (Or.inl rfl) ae (by rfl) (by first | exact .inl rfl | exact .inr rfl | assumption)) (@aj _ _ _ _ _ (@ck _ _ _ _ _ _ _ _ PassesOwn.never rfl (@piL _ _ _ _ K (@aw _ _ _ _ _ _ _ _ _ _ _ _ _ _ _ _ bc (hr.mono (by decide)) (by rfl) T.m_forest_trails T.k_forest_trails T.b_forest_trails .nil aM (@aa _ _ _ _ _ (pv 0) ah (by rfl)) (by decide) (by rfl) (by rfl)) (by rfl)) (au (i:=2) gK.nd rfl (Or.inl rfl)) (@ap _ _ _ (@ui _ _ 1 _ _ _ _ _ _ gK.nd rfl (Or.inl rfl) (pv 2) tF (by first | exact .inl rfl | exact .inr rfl | assumption))) (by intro _;rfl)) (@ap _ _ _ (@aC _ _ _ _ (pv 1))))),?_⟩
  refine rE ?_
  intro zz0 zz1 zz2
  refine(exq rfl ⟨wb,p,ts,g,rfl,hw,fun D H1 hDn s1 hD=>⟨D,rfl,⟨_,SqL.of hD⟩,?_⟩⟩)
  refine fC (K:=K) (a:=D) (xs:=eQ ((ad p ts g).trail ts.length) p) (fun i σ H2=>∃ v2,σ=[some (.ref wb),some (.int ((orT ((ad p ts g).trail ts.length) i:Nat):Int)),v2]∧H2=H1) ⟨none,rfl,rfl⟩ (fun i σ H2 _ ⟨_,_,z⟩=>by rw[z];exact SqL.of hD) ?_ ?_
  ·rintro i x D' σ H2 hx ⟨v2,rfl,rfl⟩
   obtain⟨hi,rfl⟩:=jT hx
   refine(exq rfl (exq rfl (ijq ⟨some (.int (((ad p ts g).trail ts.length i:Nat):Int)),?_,rfl⟩)))
   show[_,some (V.int (Builtin.bitOr _ _)),_]=_
   rw[uy]
   rfl
  ·rintro σ H2 ⟨v2,rfl,rfl⟩
   rw[df,pJ]
   exact(exq rfl (q _ s1))
theorem kA(T:Txt K mg a):FnOk P w K mg base CX0 4 a.f_chords a.d_chords ["web"] mB:=by
 have kL:FnOk P w K mg base CX0 3 a.f_forest a.d_forest ["web"] lM:=kL T
 have dB:FnOk P w K mg base CX0 1 a.f_all_ties a.d_all_ties ["web"] gB:=dB T
 have cG:FnOk P w K mg base CX0 2 a.f_ties_in a.d_ties_in ["tie_set"] gm:=cG T
 refine T.F_chords.ok r9 (fun vs H Q E h=>?_) (fun cdv A outer s H vs Q E hr h=>?_)
 ·obtain⟨w,p,ts,g,rfl,_⟩:=h
  rfl
 ·obtain⟨wb,p,ts,g,rfl,hw,q⟩:=h
  refine⟨_,(@ap _ _ _ (@aC _ _ _ _ (@aw _ _ _ _ _ _ _ _ _ _ _ _ _ _ _ _ cG (hr.mono (by decide)) (by rfl) T.m_ties_in T.k_ties_in T.b_ties_in .nil aM (@aa _ _ _ _ _ (@av _ _ _ _ _ _ _ _ dW (@aw _ _ _ _ _ _ _ _ _ _ _ _ _ _ _ _ dB (hr.mono (by decide)) (by rfl) T.m_all_ties T.k_all_ties T.b_all_ties .nil aM (@aa _ _ _ _ _ (pv 0) ah (by rfl)) (by decide) (by rfl) (by rfl)) (@aw _ _ _ _ _ _ _ _ _ _ _ _ _ _ _ _ kL (hr.mono (by decide)) (by rfl) T.m_forest T.k_forest T.b_forest .nil aM (@aa _ _ _ _ _ (pv 0) ah (by rfl)) (by decide) (by rfl) (by rfl))) ah (by rfl)) (by decide) (by rfl) (by rfl)))),?_⟩
  have wl:=g.len
  refine(exq rfl ⟨wb,p,ts,rfl,hw,g.web,_,rfl,wb,p,ts,g,rfl,hw,fun H1 s1=>(ijq ⟨(2^ts.length-1)^^^eX p ts g,?_,?_,fun D H2 hDn s2 hD=>?_⟩)⟩)
  ·show[V.int (Builtin.bitXor _ _)]=_
   rw[vd,xor_int]
  ·exact Nat.le_trans (jY lW) (by(first|lia|omega))
  ·rw[oG]at hD
   exact q D H2 (s1.free hDn) (s1.trans s2) hD
theorem fj(T:Txt K mg a):FnOk P w K mg base CX0 1 a.f_ring_closed a.d_ring_closed ["web","trails","chord"] gx:=by
 refine T.F_ring_closed.ok gq (fun vs H Q E h=>?_) (fun cdv A outer s H vs Q E hr h=>?_)
 ·obtain⟨w,p,ts,g,D,c,rfl,_⟩:=h
  rfl
 ·obtain⟨wb,p,ts,g,D,c,rfl,hw,hD,hc,q⟩:=h
  refine⟨_,(@aj _ _ _ _ _ (@aB _ _ 3 _ _ _ _ gq.nd rfl (Or.inl rfl) (@ao _ _ _ _ _ _ _ (ixT K) (@ao _ _ _ _ _ _ _ (ixT K) (pv 0) ae (fun _ _=>rfl)) (pv 2) (fun _ _=>rfl)) (by rfl) (by first | exact .inl rfl | exact .inr rfl | assumption)) (@ap _ _ _ (@aC _ _ _ _ (@av _ _ _ _ _ _ _ _ dW (@av _ _ _ _ _ _ _ _ dW (@ao _ _ _ _ _ _ _ (ixL K) (pv 1) (@ao _ _ _ _ _ _ _ (ixT K) (pv 3) ae (fun _ _=>rfl)) (fun _ _=>rfl)) (@ao _ _ _ _ _ _ _ (ixL K) (pv 1) (@ao _ _ _ _ _ _ _ (ixT K) (pv 3) ae (fun _ _=>rfl)) (fun _ _=>rfl))) (@av _ _ _ _ _ _ _ _ ff ae (pv 2)))))),?_⟩
  refine kc ?_
  intro zz0
  obtain⟨bt,xs,h1,h2,h3⟩:=id hw.ex
  have wl:=g.len
  obtain⟨b,hxc,hct⟩:=pV (g:=g) h3 hc
  have hA:=(ad p ts g).al c hc
  have hB:=(ad p ts g).bl c hc
  refine(exq rfl (ixq (SqT.of h1) (af (j:=1) rfl) (exq rfl (ixq (SqT.of h2) (af (j:=c) hxc) (?_)))))
  refine(exq rfl (exq rfl (ixq (SqT.of hct) (af (j:=0) rfl) (ixl (SqL.of hD) (af (j:=(ad p ts g).a c) (bP hA)) (exq rfl (exq rfl (ixq (SqT.of hct) (af (j:=1) rfl) (ixl (SqL.of hD) (af (j:=(ad p ts g).b c) (bP hB)) (ijq (exq rfl (ijq ⟨⟨by(first|lia|omega),by(first|lia|omega),by decide⟩,ijq (?_)⟩)))))))))))
  show Q (V.int (Builtin.bitXor (Builtin.bitXor _ _) _)) H
  rw[gP,xor_int,xor_int]
  exact q
end
def g7(C:Addr):Sp:=fun vs H Q E=>∃ w p ts,∃ g:GoodWeb p ts,∃ S,vs=[.ref w,.int S]∧WebAt H w p ts∧
 ((∃ c:Nat,S=(c:Int)∧c∈(ad p ts g).chords∧∀ H',am H H'→Q (.int (((ad p ts g).ring c:Nat):Int)) H')∨((∀ c∈(ad p ts g).chords,S≠((c:Nat):Int))∧∀ H',am H H'→E (.ref C) none H'))
section
variable {P:Program}{w:World}{K:PySem.W.Frag}{mg:Str→Option Value}{base:Heap}{a:Adr}
theorem fR(T:Txt K mg a):FnOk P w K mg base (CX1 P w) 5 a.f_chord_ring a.d_chord_ring ["web","tie"] (g7 a.c_NoChord):=by
 have kA:FnOk P w K mg base CX0 4 a.f_chords a.d_chords ["web"] mB:=kA T
 have bc:FnOk P w K mg base CX0 2 a.f_forest_trails a.d_forest_trails ["web"] gQ:=bc T
 have fj:FnOk P w K mg base CX0 1 a.f_ring_closed a.d_ring_closed ["web","trails","chord"] gx:=fj T
 refine T.F_chord_ring.ok1 lA (fun vs H Q E h=>?_) (fun cdv A outer s H vs Q E hr h=>?_)
 ·obtain⟨w,p,ts,g,S,rfl,_⟩:=h
  rfl
 ·obtain⟨wb,p,ts,g,S,rfl,hw,q⟩:=h
  refine⟨_,(@aj _ _ _ _ _ (@bI _ _ _ _ _ _ _ _ (@az _ _ _ _ _ _ _ _ (uw K) (pv 1) (@aw _ _ _ _ _ _ _ _ _ _ _ _ _ _ _ _ kA (hr.mono (by decide)) (by rfl) T.m_chords T.k_chords T.b_chords .nil aM (@aa _ _ _ _ _ (pv 0) ah (by rfl)) (by decide) (by rfl) (by rfl)) (by with_unfolding_all rfl)) (@ap _ _ _ (@nX _ _ _ _ _ _ _ _ _ _ _ _ _ _ jf.thr rfl (by rfl) T.x_NoChord PySem.F.excBase_ValueError (@aa _ _ _ _ _ gE ah (by rfl)) (by rfl) (by rfl) (by decide))) aO) (@ap _ _ _ (@aC _ _ _ _ (@aw _ _ _ _ _ _ _ _ _ _ _ _ _ _ _ _ fj (hr.mono (by decide)) (by rfl) T.m_ring_closed T.k_ring_closed T.b_ring_closed .nil aM (@aa _ _ _ _ _ (pv 0) (@aa _ _ _ _ _ (@aw _ _ _ _ _ _ _ _ _ _ _ _ _ _ _ _ bc (hr.mono (by decide)) (by rfl) T.m_forest_trails T.k_forest_trails T.b_forest_trails .nil aM (@aa _ _ _ _ _ (pv 0) ah (by rfl)) (by decide) (by rfl) (by rfl)) (@aa _ _ _ _ _ (pv 1) ah (by rfl)) (by rfl)) (by rfl)) (by decide) (by rfl) (by rfl))))),?_⟩
  refine lu ?_
  intro zz0 zz1
  refine(exq rfl (exq rfl ⟨wb,p,ts,g,rfl,hw,fun D H1 hDn s1 hD=>(lnq rfl (.inl (SqL.of hD)) ⟨rfl,fu _,_,rfl,?_⟩)⟩))
  rcases q with⟨c,rfl,hc,q⟩|⟨hS,q⟩
  ·rw[fA,decide_eq_true hc]
   refine dr (exq rfl (exq rfl ⟨wb,p,ts,g,rfl,hw.same s1,fun D2 H2 hn2 s2 hD2=>(exq rfl ⟨wb,p,ts,g,D2,c,rfl,hw.same (s1.trans s2),hD2,(RM.gn.mp hc).1,q _ (s1.trans s2)⟩)⟩))
  ·rw[wH hS]
   exact d6 ⟨dl rfl,q _ s1⟩
end
def lN:Sp:=fun vs H Q _=>∃ S1 S2,∃ a b:Nat,vs=[.int S1,.int S2]∧S1=(a:Int)∧S2=(b:Int)∧Builtin.Int.intBits ((a&&&b:Nat):Int)≤1000∧∀ H',am H H'→Q (.int (((aI ((a&&&b:Nat):Int)).length:Nat):Int)) H'
def oY:Sp:=fun vs H Q _=>∃ S1 S2,∃ a b:Nat,vs=[.int S1,.int S2]∧S1=(a:Int)∧S2=(b:Int)∧Builtin.Int.intBits ((a&&&b:Nat):Int)≤1000∧∀ H',am H H'→Q (.bl (decide ((aI ((a&&&b:Nat):Int)).length%2=1))) H'
structure Side(p:Nat)(xs:List Nat):Prop where
 up:xs.Pairwise (· < ·)
 lt:∀ x∈xs,x<p
def j9:Sp:=fun vs H Q _=>∃ w p ts,∃(l:Addr) (xs:List Nat),vs=[.ref w,.ref l]∧WebAt H w p ts∧H l=some (.lst (aJ xs))∧Side p xs∧Q (.bl true) H
def lZ:Sp:=fun vs H Q _=>∃ w p ts,∃(l:Addr) (ks:List Nat),vs=[.ref w,.ref l]∧WebAt H w p ts∧Web p ts∧H l=some (.lst (aJ ks))∧(∀ k∈ks,k<ts.length)∧Q (.int ((orM ks:Nat):Int)) H
def lV:Sp:=fun vs H Q _=>∃ w p ts,∃ g:GoodWeb p ts,∃(l:Addr) (xs:List Nat),vs=[.ref w,.ref l]∧WebAt H w p ts∧H l=some (.lst (aJ xs))∧Side p xs∧
 ∀ H',am H H'→Q (.int (((ad p ts g).cut (fun x=>decide (x∈xs)):Nat):Int)) H'
theorem oO(p:Nat)(f:Nat→Bool):Side p ((List.range p).filter f):=⟨qi,fun x hx=>List.mem_range.mp (List.mem_filter.mp hx).1⟩
theorem qL(n:Nat):decide (V.int (((n:Nat):Int)%2)=V.int 1)=decide (n%2=1):=decide_eq_decide.mpr ⟨fun z=>by have:=V.int.inj z;(first|lia|omega),fun z=>congrArg V.int (by(first|lia|omega))⟩
section
variable {P:Program}{w:World}{K:PySem.W.Frag}{mg:Str→Option Value}{base:Heap}{a:Adr}
theorem kP(T:Txt K mg a):FnOk P w K mg base CX0 3 a.f_common a.d_common ["one","other"] lN:=by
 have cG:FnOk P w K mg base CX0 2 a.f_ties_in a.d_ties_in ["tie_set"] gm:=cG T
 refine T.F_common.ok sr (fun vs H Q E h=>?_) (fun cdv A outer s H vs Q E hr h=>?_)
 ·obtain⟨S1,S2,u,v,rfl,_⟩:=h
  rfl
 ·obtain⟨S1,S2,u,v,rfl,rfl,rfl,hb,q⟩:=h
  refine⟨_,(@ap _ _ _ (@aC _ _ _ _ (@aD _ _ _ _ _ _ _ _ _ (eV K) (by rfl) T.n_len PySem.boot_len (@aa _ _ _ _ _ (@aw _ _ _ _ _ _ _ _ _ _ _ _ _ _ _ _ cG (hr.mono (by decide)) (by rfl) T.m_ties_in T.k_ties_in T.b_ties_in .nil aM (@aa _ _ _ _ _ (@av _ _ _ _ _ _ _ _ gs (pv 0) (pv 1)) ah (by rfl)) (by decide) (by rfl) (by rfl)) ah (by rfl)) (by decide) (by decide) (by rfl) (by rfl)))),?_⟩
  refine(exq rfl (exq rfl (ijq ⟨u&&&v,?_,hb,fun D H1 hn s1 hD=>(lnq rfl (.inl (SqL.of hD)) (?_))⟩)))
  ·show[V.int (Builtin.bitAnd _ _)]=_
   rw[and_int]
  ·rw[cr]
   exact q H1 s1
theorem fb(T:Txt K mg a):FnOk P w K mg base CX0 4 a.f_bears_oddly a.d_bears_oddly ["tie_set","marks"] oY:=by
 have kP:FnOk P w K mg base CX0 3 a.f_common a.d_common ["one","other"] lN:=kP T
 refine T.F_bears_oddly.ok kZ (fun vs H Q E h=>?_) (fun cdv A outer s H vs Q E hr h=>?_)
 ·obtain⟨S1,S2,u,v,rfl,_⟩:=h
  rfl
 ·obtain⟨S1,S2,u,v,rfl,rfl,rfl,hb,q⟩:=h
  refine⟨_,(@ap _ _ _ (@aC _ _ _ _ (@cw _ _ _ _ _ _ _ _ dZ (@av _ _ _ _ _ _ _ _ ce (@aw _ _ _ _ _ _ _ _ _ _ _ _ _ _ _ _ kP (hr.mono (by decide)) (by rfl) T.m_common T.k_common T.b_common .nil aM (@aa _ _ _ _ _ (pv 0) (@aa _ _ _ _ _ (pv 1) ah (by rfl)) (by rfl)) (by decide) (by rfl) (by rfl)) ae) ae (aA _)))),?_⟩
  refine(exq rfl (exq rfl ⟨_,_,u,v,rfl,rfl,rfl,hb,fun H1 s1=>(ijq ⟨(kj rfl),rfl,?_⟩)⟩))
  rw[qL]
  exact q H1 s1
theorem jc(T:Txt K mg a):FnOk P w K mg base CX0 1 a.f_is_side a.d_is_side ["web","side"] j9:=by
 refine T.F_is_side.ok fZ (fun vs H Q E h=>?_) (fun cdv A outer s H vs Q E hr h=>?_)
 ·obtain⟨w,p,ts,l,xs,rfl,_⟩:=h
  rfl
 ·obtain⟨wb,p,ts,l,zs,rfl,hw,hl,sd,q⟩:=h
  refine⟨_,(@aj _ _ _ _ _ (@aB _ _ 2 _ _ _ _ fZ.nd rfl (Or.inl rfl) (@rk _ _ _ _ _ _ m7 ae) (by rfl) (by first | exact .inl rfl | exact .inr rfl | assumption)) (@aj _ _ _ _ _ (@ck _ _ _ _ _ _ _ _ PassesOwn.never rfl (@piL _ _ _ _ K (pv 1) (by rfl)) (au (i:=3) fZ.nd rfl (Or.inl rfl)) (@aj _ _ _ _ _ (@bI _ _ _ _ _ _ _ _ (PW.pt (@iM _ _ _ _ _ _ _ (@az _ _ _ _ _ _ _ _ we (pv 3) (pv 2) (aA _)) (@hU _ _ _ _ (@az _ _ _ _ _ _ _ _ qy (pv 3) (@ao _ _ _ _ _ _ _ (ixT K) (pv 0) ae (fun _ _=>rfl)) (aA _))))) (@ap _ _ _ (@aC _ _ _ _ im)) aO) (@ap _ _ _ (@aB _ _ 2 _ _ _ _ fZ.nd rfl (Or.inl rfl) (pv 3) (by rfl) (by first | exact .inl rfl | exact .inr rfl | assumption)))) (by intro _;rfl)) (@ap _ _ _ (@aC _ _ _ _ im)))),?_⟩
  refine pG ?_
  intro zz0 zz1 zz2 zz3 zz4
  obtain⟨bt,xs,h1,h2,h3⟩:=id hw.ex
  refine(exq rfl (exq rfl ⟨l,rfl,⟨_,SqL.of hl⟩,lh (K:=K) (a:=l) (xs:=aJ zs) (fun i σ H2=>∃ z v3,σ=[some (.ref wb),some (.ref l),some (.int z),v3]∧H2=H∧∀ x∈zs.drop i,z<(x:Int)) ⟨_,none,rfl,rfl,fun x _=>by show(-1:Int)<_;(first|lia|omega)⟩ (fun i σ H2 _ ⟨_,_,_,z,_⟩=>by rw[z];exact SqL.of hl) ?_ ?_⟩))
  ·rintro i y σ H2 hy ⟨z,v3,rfl,rfl,hz⟩
   obtain⟨x,hx,rfl⟩:=jr hy
   have hdr:zs.drop i=x::zs.drop (i+1):=by
    obtain⟨hi,e⟩:=List.getElem?_eq_some_iff.mp hx
    rw[List.drop_eq_getElem_cons hi,e]
   have hzx:=hz x (by rw[hdr];exact List.mem_cons_self)
   have hxp:=sd.lt x (List.mem_of_getElem? hx)
   refine(exq rfl (exq rfl (ijq (exq rfl (jN (by(first|lia|omega)) (exq rfl (exq rfl (ixq (SqT.of h1) (af (j:=0) rfl) (ijq (exq rfl (jN (by(first|lia|omega)) ?_)))))))))))
   refine(exq rfl ⟨(x:Int),exq rfl ⟨rfl,fun y hy=>?_⟩⟩)
   have pw:(zs.drop i).Pairwise (· < ·):=sd.up.sublist (List.drop_sublist _ _)
   rw[hdr]at pw
   have:=(List.pairwise_cons.mp pw).1 y hy
   (first|lia|omega)
  ·rintro σ H2 ⟨z,v3,rfl,rfl,_⟩
   exact q
theorem kC(T:Txt K mg a):FnOk P w K mg base CX0 1 a.f_set_of a.d_set_of ["web","ties"] lZ:=by
 refine T.F_set_of.ok gH (fun vs H Q E h=>?_) (fun cdv A outer s H vs Q E hr h=>?_)
 ·obtain⟨w,p,ts,l,ks,rfl,_⟩:=h
  rfl
 ·obtain⟨wb,p,ts,l,ks,rfl,hw,W,hl,hk,q⟩:=h
  refine⟨_,(@aj _ _ _ _ _ (@aB _ _ 2 _ _ _ _ gH.nd rfl (Or.inl rfl) ae (by rfl) (by first | exact .inl rfl | exact .inr rfl | assumption)) (@aj _ _ _ _ _ (@ck _ _ _ _ _ _ _ _ PassesOwn.never rfl (@piL _ _ _ _ K (pv 1) (by rfl)) (au (i:=3) gH.nd rfl (Or.inl rfl)) (@aj _ _ _ _ _ (@bI _ _ _ _ _ _ _ _ (PW.pt (@iM _ _ _ _ _ _ _ (@az _ _ _ _ _ _ _ _ qH (pv 3) ae (aA _)) (@hU _ _ _ _ (@az _ _ _ _ _ _ _ _ qy (pv 3) (@aD _ _ _ _ _ _ _ _ _ (eV K) (by rfl) T.n_len PySem.boot_len (@aa _ _ _ _ _ (@ao _ _ _ _ _ _ _ (ixT K) (pv 0) ae (fun _ _=>rfl)) ah (by rfl)) (by decide) (by decide) (by rfl) (by rfl)) (aA _))))) lY aO) (@ap _ _ _ (@ui _ _ 2 _ _ _ _ _ _ gH.nd rfl (Or.inl rfl) (@av _ _ _ _ _ _ _ _ ff ae (pv 3)) tF (by first | exact .inl rfl | exact .inr rfl | assumption)))) (by intro _;rfl)) (@ap _ _ _ (@aC _ _ _ _ (pv 2))))),?_⟩
  refine sD ?_
  intro zz0 zz1 zz2 zz3 zz4
  obtain⟨bt,xs,h1,h2,h3⟩:=id hw.ex
  have hxl:=h3.length
  have wl:=W.len
  refine(exq rfl ⟨l,rfl,⟨_,SqL.of hl⟩,lh (K:=K) (a:=l) (xs:=aJ ks) (fun i σ H2=>∃ v3,σ=[some (.ref wb),some (.ref l),some (.int ((orM (ks.take i):Nat):Int)),v3]∧H2=H) ⟨none,rfl,rfl⟩ (fun i σ H2 _ ⟨_,_,z⟩=>by rw[z];exact SqL.of hl) ?_ ?_⟩)
  ·rintro i x σ H2 hx ⟨v3,rfl,rfl⟩
   obtain⟨k,hki,rfl⟩:=jr hx
   have hkn:=hk k (List.mem_of_getElem? hki)
   refine(exq rfl (ijq (exq rfl (jN (by(first|lia|omega)) (exq rfl (exq rfl (ixq (SqT.of h1) (af (j:=1) rfl) (lnq rfl (.inr (SqT.of h2)) (ijq (exq rfl (jN (by(first|lia|omega)) ?_)))))))))))
   refine(exq rfl (exq rfl (ijq ⟨⟨by(first|lia|omega),by(first|lia|omega),by decide⟩,ijq ⟨some (.int (k:Int)),?_,rfl⟩⟩)))
   show[_,_,some (V.int (Builtin.bitOr _ (1*2^(k:Int).toNat))),_]=_
   rw[gP,uy,List.take_add_one,hki]
   unfold Ring.orM
   rw[List.foldl_append]
   rfl
  ·rintro σ H2 ⟨v3,rfl,rfl⟩
   rw[cr,List.take_length]
   exact(exq rfl (q))
theorem kb(T:Txt K mg a):FnOk P w K mg base CX0 2 a.f_cut_of a.d_cut_of ["web","side"] lV:=by
 have jc:FnOk P w K mg base CX0 1 a.f_is_side a.d_is_side ["web","side"] j9:=jc T
 have kC:FnOk P w K mg base CX0 1 a.f_set_of a.d_set_of ["web","ties"] lZ:=kC T
 refine T.F_cut_of.ok ss (fun vs H Q E h=>?_) (fun cdv A outer s H vs Q E hr h=>?_)
 ·obtain⟨w,p,ts,g,l,xs,rfl,_⟩:=h
  rfl
 ·obtain⟨wb,p,ts,g,l,zs,rfl,hw,hl,sd,q⟩:=h
  refine⟨_,(@aj _ _ _ _ _ (@bI _ _ _ _ _ _ _ _ (@ie _ _ _ _ (@eO _ _ _ (@aw _ _ _ _ _ _ _ _ _ _ _ _ _ _ _ _ jc (hr.mono (by decide)) (by rfl) T.m_is_side T.k_is_side T.b_is_side .nil aM (@aa _ _ _ _ _ (pv 0) (@aa _ _ _ _ _ (pv 1) ah (by rfl)) (by rfl)) (by decide) (by rfl) (by rfl)) (by intro _;rfl))) lY aO) (@ap _ _ _ (@aC _ _ _ _ (@aw _ _ _ _ _ _ _ _ _ _ _ _ _ _ _ _ kC (hr.mono (by decide)) (by rfl) T.m_set_of T.k_set_of T.b_set_of .nil aM (@aa _ _ _ _ _ (pv 0) (@aa _ _ _ _ _ (@cK _ _ _ _ _ _ _ ["k","tie"] ["side"] [1] _ _ _ _ (aE (ag eM) ["web","side"]) rfl (@oz _ _ _ _ K _ _ _ _ (by rfl) T.n_enumerate (@aa _ _ _ _ _ (@ao _ _ _ _ _ _ _ (ixT K) (pv 0) ae (fun _ _=>rfl)) ah (by rfl)) (by rfl) (by rfl)) (fun _ _ _ _=>(pgT K (n:=2) rfl (aN (au (i:=0) (show(["k","tie","side"]:List Str).Nodup by decide +kernel) rfl (Or.inl rfl)) (aN (au (i:=1) (show(["k","tie","side"]:List Str).Nodup by decide +kernel) rfl (Or.inl rfl)) dh)))) (fun _ _ _ _=>(dL (az jy (cw (inK K) (ao (ixT K) (pv 1) ae (fun _ _=>rfl)) (pv 2) (by with_unfolding_all rfl)) (cw (inK K) (ao (ixT K) (pv 1) ae (fun _ _=>rfl)) (pv 2) (by with_unfolding_all rfl)) (aA _)))) (fun _ _ _ _=>(pv 0)) (by intro _;rfl)) ah (by rfl)) (by rfl)) (by decide) (by rfl) (by rfl))))),?_⟩
  refine sk ?_
  intro zz0 zz1
  obtain⟨bt,xs,h1,h2,h3⟩:=id hw.ex
  have hxl:=h3.length
  have wl:=g.len
  refine(exq rfl (exq rfl ⟨wb,p,ts,l,zs,rfl,hw,hl,sd,_,rfl,dr ?_⟩))
  refine(exq rfl (exq rfl (ixq (SqT.of h1) (af (j:=1) rfl) ⟨bt,rfl,⟨_,SqT.of h2⟩,fun D hD=>pP (xs:=xs) (gX (fun k=>decide ((ad p ts g).a k∈zs)^^decide ((ad p ts g).b k∈zs)) H D) (.start hD) (fun i acc H2 _ pk=>⟨SqT.of (pk.1 _ _ h2),pk.len⟩) (dN (by(first|lia|omega))) ?_ ?_⟩)))
  ·intro i x T0 acc H2 hx pk hT
   have hi:i<ts.length:=by have:=(List.getElem?_eq_some_iff.mp hx).1;(first|lia|omega)
   obtain⟨b,hxb,hct⟩:=pV (g:=g) h3 hi
   rw[hx]at hxb
   cases hxb
   have hct2:upd H2 T0 (.tup [.int (i:Int),.ref b]) b=some _:=am.new hT _ _ (pk.1 _ _ hct)
   have hl2:upd H2 T0 (.tup [.int (i:Int),.ref b]) l=some _:=am.new hT _ _ (pk.1 _ _ hl)
   refine⟨T0,_,rfl,SqT.of ai,rfl,_,_,rfl,_,_,rfl,rfl,rfl,?_⟩
   refine(exq rfl (ixq (SqT.of hct2) (af (j:=0) rfl) (exq rfl (lnq rfl (.inl (SqL.of hl2)) ⟨rfl,fu _,_,rfl,ixq (SqT.of hct2) (af (j:=1) rfl) (exq rfl (lnq rfl (.inl (SqL.of hl2)) ⟨rfl,fu _,rfl,exq rfl (?_)⟩))⟩))))
   rw[fA,fA]
   cases e1:decide ((ad p ts g).a i∈zs)<;>cases e2:decide ((ad p ts g).b i∈zs)
   ·exact pk.no (am.new hT) (by rw[e1,e2];rfl)
   ·exact(exq rfl (pk.yes hD (am.new hT) (by rw[e1,e2];rfl)))
   ·exact(exq rfl (pk.yes hD (am.new hT) (by rw[e1,e2];rfl)))
   ·exact pk.no (am.new hT) (by rw[e1,e2];rfl)
  ·intro acc H2 pk
   refine⟨wb,p,ts,D,_,rfl,hw.same pk.1,g.web,by rw[pk.2.1,pk.2.2],fun k hk=>?_,?_⟩
   ·have:=List.mem_range.mp (List.mem_filter.mp hk).1
    (first|lia|omega)
   ·rw[pM,hxl]
    exact q H2 pk.1
end
def bO(p:Nat)(ts:List Tie)(g:GoodWeb p ts)(m:Nat):List Nat:=(List.range p).filter fun x=>(ad p ts g).par ((ad p ts g).trail ts.length x) m
def yw(p:Nat)(ts:List Tie)(g:GoodWeb p ts)(m:Nat)(H H' : Hp)(t:Addr):Prop :=
 (m=(ad p ts g).cut (fun x=>decide (x∈bO p ts g m))∧∃ l,H l=none∧H' t=some (.tup [.str "side",.ref l])∧H' l=some (.lst (aJ (bO p ts g m))))∨
 (∃ c,c∈(ad p ts g).chords∧(ad p ts g).par ((ad p ts g).ring c) m=true∧H' t=some (.tup [.str "ring",.int (((ad p ts g).ring c:Nat):Int)]))
def kX(C:Addr):Sp:=fun vs H Q E=>∃ w p ts,∃ g:GoodWeb p ts,∃ S,vs=[.ref w,.int S]∧WebAt H w p ts∧uG ts S (E (.ref C) none H) fun m=>∀ t H',H t=none→am H H'→yw p ts g m H H' t→Q (.ref t) H'
theorem o6{p:Nat}{ts:List Tie}{g:GoodWeb p ts}{m:Nat}:(ad p ts g).cut (fun x=>decide (x∈bO p ts g m))=(ad p ts g).cut fun x=>(ad p ts g).par ((ad p ts g).trail (ad p ts g).n x) m:=RM.rq fun x hx=>by
 unfold bO
 rw[Bool.eq_iff_iff,decide_eq_true_eq,List.mem_filter,List.mem_range]
 exact⟨fun z=>z.2,fun z=>⟨hx,z⟩⟩
theorem qh{m:Nat}(h:m≠0):∃ c,(aI (m:Int))[0]?=some c∧m.testBit c=true:=by
 obtain⟨k,hk⟩:=Nat.exists_testBit_of_ne_zero h
 have hm:k∈aI (m:Int):=by
  unfold aI
  refine List.mem_filter.mpr ⟨List.mem_range.mpr (Nat.lt_of_not_le fun z=>?_),by rw[cJ];exact hk⟩
  have:=kO z
  rw[cJ,hk]at this
  cases this
 cases e:aI (m:Int) with
 | nil =>
   rw[e]at hm
   cases hm
 | cons c r =>
   have hc:c∈aI (m:Int):=by rw[e];exact List.mem_cons_self
   unfold aI at hc
   have:=(List.mem_filter.mp hc).2
   rw[cJ]at this
   exact⟨c,rfl,this⟩
theorem oh{u v:Nat}(h:u^^^v=0):u=v:=by
 have:=congrArg (fun x=>x^^^v) h
 simpa[Nat.xor_assoc]using this
theorem uh(n:Nat):decide (V.int ((n:Nat):Int)=V.int 0)=decide (n=0):=decide_eq_decide.mpr ⟨fun z=>by have:=V.int.inj z;(first|lia|omega),fun z=>by rw[z];rfl⟩
section
variable {P:Program}{w:World}{K:PySem.W.Frag}{mg:Str→Option Value}{base:Heap}{a:Adr}
theorem i0(T:Txt K mg a):FnOk P w K mg base (CX1 P w) 6 a.f_side_of a.d_side_of ["web","tie_set"] (kX a.c_BadSet):=by
 have cT:FnOk P w K mg base (CX1 P w) 3 a.f_check_set a.d_check_set ["web","tie_set"] (fY a.c_BadSet):=cT T
 have bc:FnOk P w K mg base CX0 2 a.f_forest_trails a.d_forest_trails ["web"] gQ:=bc T
 have fb:FnOk P w K mg base CX0 4 a.f_bears_oddly a.d_bears_oddly ["tie_set","marks"] oY:=fb T
 have kb:FnOk P w K mg base CX0 2 a.f_cut_of a.d_cut_of ["web","side"] lV:=kb T
 have cG:FnOk P w K mg base CX0 2 a.f_ties_in a.d_ties_in ["tie_set"] gm:=cG T
 have fR:FnOk P w K mg base (CX1 P w) 5 a.f_chord_ring a.d_chord_ring ["web","tie"] (g7 a.c_NoChord):=fR T
 refine T.F_side_of.ok1 gh (fun vs H Q E h=>?_) (fun cdv A outer s H vs Q E hr h=>?_)
 ·obtain⟨w,p,ts,g,S,rfl,_⟩:=h
  rfl
 ·obtain⟨wb,p,ts,g,S,rfl,hw,q⟩:=h
  refine⟨_,(@aj _ _ _ _ _ (@dM _ _ _ _ (@aw _ _ _ _ _ _ _ _ _ _ _ _ _ _ _ _ cT (hr.mono (by decide)) (by rfl) T.m_check_set T.k_check_set T.b_check_set .nil jf.passes (@aa _ _ _ _ _ (pv 0) (@aa _ _ _ _ _ (pv 1) ah (by rfl)) (by rfl)) (by decide) (by rfl) (by rfl)) (by rfl)) (@aj _ _ _ _ _ (@aB _ _ 2 _ _ _ _ gh.nd rfl (Or.inr rfl) (@aw _ _ _ _ _ _ _ _ _ _ _ _ _ _ _ _ bc (hr.mono (by decide)) (by rfl) T.m_forest_trails T.k_forest_trails T.b_forest_trails .nil aM (@aa _ _ _ _ _ (pv 0) ah (by rfl)) (by decide) (by rfl) (by rfl)) (by rfl) (by first | exact .inl rfl | exact .inr rfl | assumption)) (@aj _ _ _ _ _ (@d7 _ _ _ _ _ _ _ ["point"] ["tie_set","trails"] [1,2] _ _ _ _ 3 _ _ _ gh.nd rfl rfl (aE (ag dG) ["web","tie_set","trails","side","amiss"]) rfl (@aH _ _ _ _ _ _ (by rfl) T.n_range (@aa _ _ _ _ _ (@ao _ _ _ _ _ _ _ (ixT K) (pv 0) ae (fun _ _=>rfl)) ah (by rfl)) (by rfl)) (fun _ _ _ _=>(au (i:=0) (show(["point","tie_set","trails"]:List Str).Nodup by decide +kernel) rfl (Or.inl rfl))) (fun _ _ _ _=>(dL (eO (aw fb (hr.mono (by decide)) (by rfl) T.m_bears_oddly T.k_bears_oddly T.b_bears_oddly .nil aM (aa (ao (ixL K) (pv 2) (pv 0) (fun _ _=>rfl)) (aa (pv 1) ah)))))) (fun _ _ _ _=>(pv 0)) (by rfl) (by intro _;rfl)) (@aj _ _ _ _ _ (@aB _ _ 4 _ _ _ _ gh.nd rfl (Or.inl rfl) (@av _ _ _ _ _ _ _ _ dW (pv 1) (@aw _ _ _ _ _ _ _ _ _ _ _ _ _ _ _ _ kb (hr.mono (by decide)) (by rfl) T.m_cut_of T.k_cut_of T.b_cut_of .nil aM (@aa _ _ _ _ _ (pv 0) (@aa _ _ _ _ _ (pv 3) ah (by rfl)) (by rfl)) (by decide) (by rfl) (by rfl))) (by rfl) (by first | exact .inl rfl | exact .inr rfl | assumption)) (@aj _ _ _ _ _ (@bI _ _ _ _ _ _ _ _ (@az _ _ _ _ _ _ _ _ dZ (pv 4) ae (aA _)) (@ap _ _ _ (@aC _ _ _ _ (@bB _ _ _ _ _ (@aa _ _ _ _ _ gE (@aa _ _ _ _ _ (pv 3) ah (by rfl)) (by rfl))))) aO) (@ap _ _ _ (@aC _ _ _ _ (@bB _ _ _ _ _ (@aa _ _ _ _ _ gE (@aa _ _ _ _ _ (@aw _ _ _ _ _ _ _ _ _ _ _ _ _ _ _ _ fR (hr.mono (by decide)) (by rfl) T.m_chord_ring T.k_chord_ring T.b_chord_ring .nil jf.passes (@aa _ _ _ _ _ (pv 0) (@aa _ _ _ _ _ (@ao _ _ _ _ _ _ _ (ixL K) (@aw _ _ _ _ _ _ _ _ _ _ _ _ _ _ _ _ cG (hr.mono (by decide)) (by rfl) T.m_ties_in T.k_ties_in T.b_ties_in .nil aM (@aa _ _ _ _ _ (pv 4) ah (by rfl)) (by decide) (by rfl) (by rfl)) ae (fun _ _=>rfl)) ah (by rfl)) (by rfl)) (by decide) (by rfl) (by rfl)) ah (by rfl)) (by rfl)))))))))),?_⟩
  refine qj ?_
  intro zz0 zz1 zz2 zz3 zz4 zz5
  obtain⟨bt,xs,h1,h2,h3⟩:=id hw.ex
  have wl:=g.len
  have wp:=g.p2
  have W:=g.web
  rcases q with⟨m,rfl,hm,q⟩|⟨hS,q⟩
  case inr=>exact(exq rfl (exq rfl ⟨wb,p,ts,_,rfl,hw,W,.inr ⟨hS,q⟩⟩))
  refine(exq rfl (exq rfl ⟨wb,p,ts,_,rfl,hw,W,.inl ⟨m,rfl,hm,?_⟩⟩))
  refine(exq rfl ⟨wb,p,ts,g,rfl,hw,fun D H1 hn1 s1 hD=>?_⟩)
  refine(exq rfl (ixq (SqT.of (s1 _ _ h1)) (af (j:=0) rfl) (exq rfl ⟨(by(first|lia|omega)),(by(first|lia|omega)),fun C hC=>bo (lo:=0) (m:=(p:Int).toNat) (gX (fun x=>(ad p ts g).par ((ad p ts g).trail ts.length x) m) H1 C) (.start hC) (fun i acc H2 _ pk=>pk.len) (dN (by(first|lia|omega))) ?_ ?_⟩)))
  ·intro i acc H2 hi pk
   rw[Int.toNat_natCast]at hi
   rw[Int.zero_add]
   have hbits:Builtin.Int.intBits (((ad p ts g).trail ts.length i&&&m:Nat):Int)≤1000:=Nat.le_trans (jY (Nat.and_lt_two_pow _ hm)) (by(first|lia|omega))
   refine⟨rfl,exq rfl (exq rfl (ixl (SqL.of (pk.1 _ _ hD)) (af (j:=i) (bP hi)) (exq rfl ⟨_,_,(ad p ts g).trail ts.length i,m,rfl,rfl,rfl,hbits,fun H3 s3=>(exq rfl (?_))⟩)))⟩
   rw[vo (g:=g) hm]
   cases hb:(ad p ts g).par ((ad p ts g).trail ts.length i) m with
   | true=>exact(exq rfl (pk.yes hC s3 hb))
   | false=>exact pk.no s3 hb
  ·intro acc H2 pk
   have hC2:H2 C=some (.lst (aJ (bO p ts g m))):=by rw[pk.2.1,pk.2.2,Int.toNat_natCast];rfl
   have s12:=s1.trans pk.1
   refine(exq rfl (exq rfl (exq rfl ⟨wb,p,ts,g,C,_,rfl,hw.same s12,hC2,oO p _,fun H3 s3=>(ijq (?_))⟩)))
   have s13:=s12.trans s3
   dsimp only
   rw[xor_int,o6]
   have ac:=fun k=>RM.o9 (N:=ad p ts g) (m:=m) (k:=k) hm
   have hlt:(m^^^(ad p ts g).cut fun x=>(ad p ts g).par ((ad p ts g).trail (ad p ts g).n x) m)<2^ts.length:=Nat.xor_lt_two_pow hm (RM.tY _)
   have hz:(m^^^(ad p ts g).cut fun x=>(ad p ts g).par ((ad p ts g).trail (ad p ts g).n x) m)=0→m=(ad p ts g).cut (fun x=>decide (x∈bO p ts g m)):=fun z=>by rw[o6];exact oh z
   generalize (m^^^(ad p ts g).cut fun x=>(ad p ts g).par ((ad p ts g).trail (ad p ts g).n x) m)=A at ac hlt hz
   refine(exq rfl ⟨rfl,exq rfl (?_)⟩)
   rw[uh]
   by_cases hA:A=0
   ·rw[decide_eq_true hA]
    refine d6 (exq rfl ⟨dl rfl,fun t ht=>q t _ (s13.free ht) (s13.trans (am.new ht)) (.inl ⟨hz hA,C,s1.free hC,ai,am.new ht _ _ (s3 _ _ hC2)⟩)⟩)
   ·rw[decide_eq_false hA]
    obtain⟨c,hc0,hcb⟩:=qh hA
    obtain⟨hcn,hcf,hcp⟩:=ac c hcb
    refine dr (exq rfl (exq rfl ⟨A,rfl,Nat.le_trans (jY hlt) (by(first|lia|omega)),fun D4 H4 hn4 s4 hD4=>(ixl (SqL.of hD4) (af (j:=0) (mV hc0)) ⟨wb,p,ts,g,_,rfl,hw.same (s13.trans s4),.inl ⟨c,rfl,RM.gn.mpr ⟨hcn,hcf⟩,fun H5 s5=>⟨dl rfl,fun t ht=>?_⟩⟩⟩)⟩))
    have s15:=(s13.trans s4).trans s5
    exact q t _ (s15.free ht) (s15.trans (am.new ht)) (.inr ⟨c,RM.gn.mpr ⟨hcn,hcf⟩,hcp,ai⟩)
end
def nO:Sp:=fun vs H Q _=>∃ w p ts,∃ g:GoodWeb p ts,∃ m:Nat,vs=[.ref w,.int (m:Int)]∧WebAt H w p ts∧m<2^ts.length∧
 ∀ D es S H',es.length=p→StV m H D es S H'→StK (ad p ts g) ts.length S→Q (.ref D) H'
theorem wS{b:Bool}{σ:St}{f:VK}{H:Hp}(h:f (.int (b.toNat:Int)) H):if b=true then tC (.int 1) σ H f else tC (.int 0) σ H f:=by
 cases b<;>exact h
section
variable {P:Program}{w:World}{K:PySem.W.Frag}{mg:Str→Option Value}{base:Heap}{a:Adr}
theorem dI(T:Txt K mg a):FnOk P w K mg base CX0 2 a.f_steps_by_point a.d_steps_by_point ["web","marks"] nO:=by
 have eC:FnOk P w K mg base CX0 1 a.f_has_tie a.d_has_tie ["tie_set","tie"] h8:=eC T
 refine T.F_steps_by_point.ok bR (fun vs H Q E h=>?_) (fun cdv A outer s H vs Q E hr h=>?_)
 ·obtain⟨w,p,ts,g,m,rfl,_⟩:=h
  rfl
 ·obtain⟨wb,p,ts,g,m,rfl,hw,hm,q⟩:=h
  refine⟨_,(@aj _ _ _ _ _ (@d7 _ _ _ _ _ _ _ ["point"] [] [] _ _ _ _ 2 _ _ _ bR.nd rfl rfl (aE (ag bp) ["web","marks","steps","tie","ends","turn"]) rfl (@aH _ _ _ _ _ _ (by rfl) T.n_range (@aa _ _ _ _ _ (@ao _ _ _ _ _ _ _ (ixT K) (pv 0) ae (fun _ _=>rfl)) ah (by rfl)) (by rfl)) (fun _ _ _ _=>(au (i:=0) (show(["point"]:List Str).Nodup by decide +kernel) rfl (Or.inl rfl))) (fun _ _ _ _=>db) (fun _ _ _ _=>(da ah)) (by rfl) (by intro _;rfl)) (@aj _ _ _ _ _ (@ck _ _ _ _ _ _ _ _ PassesOwn.never rfl (@oz _ _ _ _ K _ _ _ _ (by rfl) T.n_enumerate (@aa _ _ _ _ _ (@ao _ _ _ _ _ _ _ (ixT K) (pv 0) ae (fun _ _=>rfl)) ah (by rfl)) (by rfl) (by rfl)) (@pgT _ _ K _ _ 2 _ rfl (@aN _ _ _ _ _ (au (i:=3) bR.nd rfl (Or.inl rfl)) (@aN _ _ _ _ _ (au (i:=4) bR.nd rfl (Or.inl rfl)) dh (by rfl)) (by rfl)) (by rfl) (by rfl) (by rfl)) (@aj _ _ _ _ _ (@aB _ _ 5 _ _ _ _ bR.nd rfl (Or.inl rfl) (@iK _ _ _ _ _ _ _ _ (@eO _ _ _ (@aw _ _ _ _ _ _ _ _ _ _ _ _ _ _ _ _ eC (hr.mono (by decide)) (by rfl) T.m_has_tie T.k_has_tie T.b_has_tie .nil aM (@aa _ _ _ _ _ (pv 1) (@aa _ _ _ _ _ (pv 3) ah (by rfl)) (by rfl)) (by decide) (by rfl) (by rfl)) (by intro _;rfl)) ae ae) (by rfl) (by first | exact .inl rfl | exact .inr rfl | assumption)) (@aj _ _ _ _ _ (@dM _ _ _ _ (@bmK _ _ _ _ _ _ K (@jF _ _ _ _ _ _ _ _ _ _ _ _ PySem.F.plainAttrs_list PySem.F.slot_list_append PySem.F.type_list_append cC (@ao _ _ _ _ _ _ _ (ixL K) (pv 2) (@ao _ _ _ _ _ _ _ (ixT K) (pv 4) ae (fun _ _=>rfl)) (fun _ _=>rfl)) (@aa _ _ _ _ _ (@bB _ _ _ _ _ (@aa _ _ _ _ _ (pv 3) (@aa _ _ _ _ _ (@ao _ _ _ _ _ _ _ (ixT K) (pv 4) ae (fun _ _=>rfl)) (@aa _ _ _ _ _ (pv 5) ah (by rfl)) (by rfl)) (by rfl))) ah (by rfl)) (by rfl) (by rfl) (by rfl) (by rfl) (by rfl)) (by rfl)) (by rfl)) (@ap _ _ _ (@dM _ _ _ _ (@bmK _ _ _ _ _ _ K (@jF _ _ _ _ _ _ _ _ _ _ _ _ PySem.F.plainAttrs_list PySem.F.slot_list_append PySem.F.type_list_append cC (@ao _ _ _ _ _ _ _ (ixL K) (pv 2) (@ao _ _ _ _ _ _ _ (ixT K) (pv 4) ae (fun _ _=>rfl)) (fun _ _=>rfl)) (@aa _ _ _ _ _ (@bB _ _ _ _ _ (@aa _ _ _ _ _ (pv 3) (@aa _ _ _ _ _ (@ao _ _ _ _ _ _ _ (ixT K) (pv 4) ae (fun _ _=>rfl)) (@aa _ _ _ _ _ (pv 5) ah (by rfl)) (by rfl)) (by rfl))) ah (by rfl)) (by rfl) (by rfl) (by rfl) (by rfl) (by rfl)) (by rfl)) (by rfl))))) (by intro _;rfl)) (@ap _ _ _ (@aC _ _ _ _ (pv 2))))),?_⟩
  refine iR ?_
  intro zz0 zz1 zz2 zz3 zz4
  obtain⟨bt,xs,h1,h2,h3⟩:=id hw.ex
  have hxl:=h3.length
  have wp:=g.p2
  have wl:=g.len
  refine(exq rfl (ixq (SqT.of h1) (af (j:=0) rfl) (exq rfl ⟨(by(first|lia|omega)),(by(first|lia|omega)),fun D hD=>bo (lo:=0) (m:=p) (StC m H D) (.start hD) (fun i acc H2 _ z=>z.len) (dl (Nat.ble_eq.mpr (by(first|lia|omega)))) ?_ ?_⟩)))
  ·rintro i acc H2 hi f2
   exact⟨rfl,dl rfl,fun l hl=>f2.next hl⟩
  rintro acc H2 ⟨es,rfl,hel,f2⟩
  refine(exq rfl (ixq (SqT.of (f2.same _ _ h1)) (af (j:=1) rfl) ⟨bt,rfl,⟨_,SqT.of (f2.same _ _ h2)⟩,?_⟩))
  refine sg (K:=K) (a:=bt) (xs:=xs) (fun k σ H3=>∃ v3 v4 v5,σ=[some (.ref wb),some (.int (m:Int)),some (.ref D),v3,v4,v5]∧∃ S,StV m H D es S H3∧StK (ad p ts g) k S) ⟨none,none,none,rfl,_,f2,StK.start⟩ (fun k σ H3 _ ⟨_,_,_,_,_,z,_⟩=>SqT.of (z.same _ _ h2)) ?_ ?_
  ·rintro k x T0 σ H3 hk ⟨v3,v4,v5,rfl,S,f3,k3⟩ hT
   have hkx:k<xs.length:=(List.getElem?_eq_some_iff.mp hk).1
   have hkl:k<ts.length:=by(first|lia|omega)
   obtain⟨ct,ex,hct⟩:=gj (g:=g) h3 hkl
   rw[hk]at ex
   cases ex
   have s4:am H3 (upd H3 T0 (.tup [.int (k:Int),.ref ct])):=am.new hT
   have hT4:upd H3 T0 (.tup [.int (k:Int),.ref ct]) T0=some (.tup [.int (k:Int),.ref ct]):=ai
   have f4:=f3.go s4
   generalize upd H3 T0 (.tup [.int (k:Int),.ref ct])=H4 at f4 hT4
   refine⟨T0,_,rfl,SqT.of hT4,rfl,_,_,rfl,_,_,rfl,rfl,?_⟩
   refine(exq rfl (exq rfl ⟨(m:Int),k,rfl,exq rfl (?_)⟩))
   rw[cJ]
   have ha:(ad p ts g).a k<p:=(ad p ts g).al k hkl
   have hb:(ad p ts g).b k<p:=(ad p ts g).bl k hkl
   have hct4:=f4.same _ _ hct
   refine wS ?_
   obtain⟨b1,cs1,e1,e1',hb1,q1⟩:=f4.get (i:=(ad p ts g).a k) (by(first|lia|omega))
   refine(exq rfl (exq rfl (ixq (SqT.of hct4) (af (j:=0) rfl) (ixl (SqL.of f4.lst) (af e1) (?_)))))
   have l1:cs1.length≤2*k:=by rw[q1.length];exact k3.len _
   refine⟨.inl ⟨rfl,_,SqL.of hb1⟩,exq rfl (exq rfl (ixq (SqT.of hct4) (af (j:=1) rfl) (exq rfl ⟨dl rfl,fun t1 ht1=>?_⟩)))⟩
   have s5:am H4 (upd H4 t1 (.tup [.int (k:Int),.int ((ad p ts g).b k:Int),.int ((m.testBit k).toNat:Int)])):=am.new ht1
   have u5:eK m (upd H4 t1 (.tup [.int (k:Int),.int ((ad p ts g).b k:Int),.int ((m.testBit k).toNat:Int)])) t1 (k,(ad p ts g).b k):=ai
   have f5:=f4.go s5
   have hb5:=s5 _ _ hb1
   have hct5:=s5 _ _ hct4
   have q5:Paired (eK m (upd H4 t1 (.tup [.int (k:Int),.int ((ad p ts g).b k:Int),.int ((m.testBit k).toNat:Int)]))) cs1 (S ((ad p ts g).a k)):=Paired.mapP q1 fun _ _ z=>s5 _ _ z
   refine⟨b1,_,_,rfl,rfl,hb5,i9 (by rw[List.length_map];(first|lia|omega)),?_⟩
   have f6:=f5.put e1' hb5 q5 u5
   have hct6:=f6.same _ _ hct
   generalize upd (upd H4 t1 (.tup [.int (k:Int),.int ((ad p ts g).b k:Int),.int ((m.testBit k).toNat:Int)])) b1 (.lst (cs1.map V.ref++[.ref t1]))=H6 at f6 hct6
   obtain⟨b2,cs2,e2,e2',hb2,q2⟩:=f6.get (i:=(ad p ts g).b k) (by(first|lia|omega))
   refine(exq rfl (exq rfl (ixq (SqT.of hct6) (af (j:=1) rfl) (ixl (SqL.of f6.lst) (af e2) (?_)))))
   have l2:cs2.length≤2*k+1:=by
    rw[q2.length]
    unfold kJ
    have:=k3.len ((ad p ts g).b k)
    split
    ·rw[List.length_append,List.length_singleton];(first|lia|omega)
    ·(first|lia|omega)
   refine⟨.inl ⟨rfl,_,SqL.of hb2⟩,exq rfl (exq rfl (ixq (SqT.of hct6) (af (j:=0) rfl) (exq rfl ⟨dl rfl,fun t2 ht2=>?_⟩)))⟩
   have s7:am H6 (upd H6 t2 (.tup [.int (k:Int),.int ((ad p ts g).a k:Int),.int ((m.testBit k).toNat:Int)])):=am.new ht2
   have u7:eK m (upd H6 t2 (.tup [.int (k:Int),.int ((ad p ts g).a k:Int),.int ((m.testBit k).toNat:Int)])) t2 (k,(ad p ts g).a k):=ai
   have f7:=f6.go s7
   have hb7:=s7 _ _ hb2
   refine⟨b2,_,_,rfl,rfl,hb7,i9 (by rw[List.length_map];(first|lia|omega)),?_⟩
   exact⟨_,_,_,rfl,_,f7.put e2' hb7 (Paired.mapP q2 fun _ _ z=>s7 _ _ z) u7,k3.next⟩
  ·rintro σ H3 ⟨v3,v4,v5,rfl,S,f3,k3⟩
   refine(exq rfl (q D es S H3 hel f3 ?_))
   rw[← hxl]
   exact k3
end
def fg(p:Nat)(N:RM.Net)(L:Nat→Int)(m u:Nat)(D:Addr)(F:RM.OW)(H0 H:Hp):Prop:=∃ es:List Addr,es.length=p∧H D=some (.lst (es.map V.ref))∧
 (∀(i:Nat) b,es[i]?=some b→∃ v0 v1,H b=some (.lst [v0,v1])∧wV H (F i false) v0∧wV H (F i true) v1)∧(∀ x s,RM.lB N L m u x s ((F x s).map (·.1)))∧(∀ x s d,F x s=some d→RM.Wz N L m u x s d.1 d.2)∧(∀ b∈es,H0 b=none)∧RM.Fx N L m u F
theorem vK(a b:Bool):Builtin.bitXor ((a.toNat:Nat):Int) ((b.toNat:Nat):Int)=(((a^^b).toNat:Nat):Int):=by
 cases a<;>cases b<;>decide
def g9(t:Addr)(lp:Pos):Sp:=fun vs H Q _=>∃ w p ts,∃ g:GoodWeb p ts,∃(m u:Nat),vs=[.ref w,.int (m:Int),.int (u:Int)]∧WebAt H w p ts∧m<2^ts.length∧u<p∧H t=some (.tbl (dX (tW "least_ways") lp))∧
 ∀ D F H',H D=none→am H H'→fg p (ad p ts g) (aP ts) m u D F H H'→Q (.ref D) H'
section
variable {P:Program}{w:World}{K:PySem.W.Frag}{mg:Str→Option Value}{base:Heap}{a:Adr}
theorem gk(T:Txt K mg a):FnOk P w K mg base CX0 5 a.f_least_ways a.d_least_ways ["web","marks","start"] (g9 a.p_least_ways bC):=by
 have dI:FnOk P w K mg base CX0 2 a.f_steps_by_point a.d_steps_by_point ["web","marks"] nO:=dI T
 refine T.F_least_ways.ok aX (fun vs H Q E h=>?_) (fun A outer s H vs Q E hr h=>?_)
 ·obtain⟨w,p,ts,g,m,u,rfl,_⟩:=h
  rfl
 ·obtain⟨wb,p,ts,g,m,u,rfl,hw,hm,hu,htb,q⟩:=h
  refine⟨_,(@aj _ _ _ _ _ (@aB _ _ 3 _ _ _ _ aX.nd rfl (Or.inl rfl) (@aw _ _ _ _ _ _ _ _ _ _ _ _ _ _ _ _ dI (hr.mono (by decide)) (by rfl) T.m_steps_by_point T.k_steps_by_point T.b_steps_by_point .nil aM (@aa _ _ _ _ _ (pv 0) (@aa _ _ _ _ _ (pv 1) ah (by rfl)) (by rfl)) (by decide) (by rfl) (by rfl)) (by rfl) (by first | exact .inl rfl | exact .inr rfl | assumption)) (@aj _ _ _ _ _ (@d7 _ _ _ _ _ _ _ ["point"] [] [] _ _ _ _ 4 _ _ _ aX.nd rfl rfl (aE (ag bN) ["web","marks","start","steps","found","waiting","nearest","way","tie","point","turn","part","further"]) rfl (@aH _ _ _ _ _ _ (by rfl) T.n_range (@aa _ _ _ _ _ (@ao _ _ _ _ _ _ _ (ixT K) (pv 0) ae (fun _ _=>rfl)) ah (by rfl)) (by rfl)) (fun _ _ _ _=>(au (i:=0) (show(["point"]:List Str).Nodup by decide +kernel) rfl (Or.inl rfl))) (fun _ _ _ _=>db) (fun _ _ _ _=>(da (aa bU (aa bU ah)))) (by rfl) (by intro _;rfl)) (@aj _ _ _ _ _ (@aB _ _ 5 _ _ _ _ aX.nd rfl (Or.inr rfl) (sO (by exact o8 hr) (@bB _ _ _ _ _ (@aa _ _ _ _ _ (pv 2) (@aa _ _ _ _ _ ae ah (by rfl)) (by rfl))) (@bB _ _ _ _ _ (@aa _ _ _ _ _ ae (@aa _ _ _ _ _ ae ah (by rfl)) (by rfl)))) (by rfl) (by first | exact .inl rfl | exact .inr rfl | assumption)) (@aj _ _ _ _ _ (@kM _ _ _ _ _ _ PassesOwn.never (@az _ _ _ _ _ _ _ _ qY (@aD _ _ _ _ _ _ _ _ _ yD (by rfl) T.n_len PySem.boot_len (@aa _ _ _ _ _ (pv 5) ah (by rfl)) (by decide) (by decide) (by rfl) (by rfl)) ae (aA _)) (@aj _ _ _ _ _ (@aB _ _ 6 _ _ _ _ aX.nd rfl (Or.inl rfl) (vz (x:="place") (frees:=["waiting"]) (js:=[5]) hr (aE (ag bN) ["web","marks","start","steps","found","waiting","nearest","way","tie","point","turn","part","further"]) rfl (by rfl) T.n_min rfl T.F_least_ways.hd (@aa _ _ _ _ _ (pv 5) ah (by rfl)) (fun _ _ _ _ hr=>(vg (by exact o8 hr) (pv 1) (pv 0) (fun _ _=>rfl)))) (by rfl) (by first | exact .inl rfl | exact .inr rfl | assumption)) (@aj _ _ _ _ _ (@aB _ _ 7 _ _ _ _ aX.nd rfl (Or.inl rfl) (sL (by exact o8 hr) (pv 5) (pv 6) ⟨rfl,rfl,rfl,rfl⟩) (by rfl) (by first | exact .inl rfl | exact .inr rfl | assumption)) (@aj _ _ _ _ _ (@fi _ _ _ _ _ _ (pv 7) (@i7 _ _ _ _ _ _ _ (@ao _ _ _ _ _ _ _ (ixL K) (pv 4) (@ao _ _ _ _ _ _ _ (ixT K) (pv 6) ae (fun _ _=>rfl)) (fun _ _=>rfl)) (@ao _ _ _ _ _ _ _ (ixT K) (pv 6) ae (fun _ _=>rfl)) fD (by intro _;rfl)) (by rfl) (by rfl) (by rfl)) (@ap _ _ _ (@ck _ _ _ _ _ _ _ _ PassesOwn.never rfl (@piL _ _ _ _ K (@ao _ _ _ _ _ _ _ (ixL K) (pv 3) (@ao _ _ _ _ _ _ _ (ixT K) (pv 6) ae (fun _ _=>rfl)) (fun _ _=>rfl)) (by rfl)) (@pgT _ _ K _ _ 3 _ rfl (@aN _ _ _ _ _ (au (i:=8) aX.nd rfl (Or.inl rfl)) (@aN _ _ _ _ _ (au (i:=9) aX.nd rfl (Or.inl rfl)) (@aN _ _ _ _ _ (au (i:=10) aX.nd rfl (Or.inl rfl)) dh (by rfl)) (by rfl)) (by rfl)) (by rfl) (by rfl) (by rfl)) (@aj _ _ _ _ _ (@aB _ _ 11 _ _ _ _ aX.nd rfl (Or.inl rfl) (@av _ _ _ _ _ _ _ _ dW (@ao _ _ _ _ _ _ _ (ixT K) (pv 6) ae (fun _ _=>rfl)) (pv 10)) (by rfl) (by first | exact .inl rfl | exact .inr rfl | assumption)) (@aj _ _ _ _ _ (@aB _ _ 12 _ _ _ _ aX.nd rfl (Or.inl rfl) (@bB _ _ _ _ _ (@aa _ _ _ _ _ (@av _ _ _ _ _ _ _ _ cz (@ao _ _ _ _ _ _ _ (ixT K) (pv 7) ae (fun _ _=>rfl)) (@ao _ _ _ _ _ _ _ (ixT K) (@ao _ _ _ _ _ _ _ (ixT K) (@ao _ _ _ _ _ _ _ (ixT K) (pv 0) ae (fun _ _=>rfl)) (pv 8) (fun _ _=>rfl)) ae (fun _ _=>rfl))) (@aa _ _ _ _ _ (@av _ _ _ _ _ _ _ _ dW (@ao _ _ _ _ _ _ _ (ixT K) (pv 7) ae (fun _ _=>rfl)) (@av _ _ _ _ _ _ _ _ ff ae (pv 8))) ah (by rfl)) (by rfl))) (by rfl) (by first | exact .inl rfl | exact .inr rfl | assumption)) (@ap _ _ _ (@bI _ _ _ _ _ _ _ _ (PW.pt (@pE _ _ _ _ _ _ _ (@az _ _ _ _ _ _ _ _ ik (@ao _ _ _ _ _ _ _ (ixL K) (@ao _ _ _ _ _ _ _ (ixL K) (pv 4) (pv 9) (fun _ _=>rfl)) (pv 11) (fun _ _=>rfl)) bU (aA _)) (@nH _ _ _ _ (@az _ _ _ _ _ _ _ _ (xj hr.units0) (pv 12) (@uL _ _ _ _ _ _ _ _ _ (by exact o8 hr) (pv 5) (@bB _ _ _ _ _ (@aa _ _ _ _ _ (pv 9) (@aa _ _ _ _ _ (pv 11) ah (by rfl)) (by rfl))) (pv 12) ⟨rfl,rfl,rfl,rfl⟩) (aA _))))) (@ap _ _ _ (@vE _ _ _ _ _ _ _ _ _ (by exact o8 hr) (pv 5) (@bB _ _ _ _ _ (@aa _ _ _ _ _ (pv 9) (@aa _ _ _ _ _ (pv 11) ah (by rfl)) (by rfl))) (pv 12) rfl)) aO)))) (by intro _;rfl))))))) (@ap _ _ _ (@aC _ _ _ _ (pv 4))))))),?_⟩
  refine lG ?_
  intro zz0 zz1 zz2 zz3 zz4 zz5 zz6 zz7 zz8 zz9 zz10 zz11
  obtain⟨bt,xs,h1,h2,h3⟩:=id hw.ex
  have hxl:=h3.length
  have wp:=g.p2
  have wl:=g.len
  refine(exq rfl (exq rfl ⟨wb,p,ts,g,m,rfl,hw,hm,fun Ds ess S H1 hel1 f1 k1=>?_⟩))
  have s1:=f1.same
  refine(exq rfl (ixq (SqT.of (s1 _ _ h1)) (af (j:=0) rfl) (exq rfl ⟨(by(first|lia|omega)),(by(first|lia|omega)),fun D hD=>bo (lo:=0) (m:=p) (mT H1 D) (.start hD) (fun i acc H2 _ z=>z.len) (dl (Nat.ble_eq.mpr (by(first|lia|omega)))) ?_ ?_⟩)))
  ·rintro i acc H2 hi f2
   exact⟨rfl,dl rfl,fun l hl=>f2.next hl⟩
  rintro acc H2 ⟨es,rfl,hel,f2⟩
  refine fun wd hwd=>(exq rfl ⟨dl rfl,fun t1 ht1=>⟨dl rfl,fun t2 ht2=>?_⟩⟩)
  have s2a:am (upd H2 wd (.dT [])) (upd (upd H2 wd (.dT [])) t1 (.tup [.int (u:Int),.int 0])):=am.new ht1
  have s2b:am (upd (upd H2 wd (.dT [])) t1 (.tup [.int (u:Int),.int 0])) (upd (upd (upd H2 wd (.dT [])) t1 (.tup [.int (u:Int),.int 0])) t2 (.tup [.int 0,.int 0])):=am.new ht2
  have f3:=((f2.go (am.new hwd (o:=.dT []))).go s2a).go s2b
  have w3:=s2b _ _ (s2a _ _ (ai (H:=H2) (a:=wd) (o:=.dT [])))
  have u3:=s2b _ _ (ai (H:=upd H2 wd (.dT [])) (a:=t1) (o:=.tup [.int (u:Int),.int 0]))
  have v3:(upd (upd (upd H2 wd (.dT [])) t1 (.tup [.int (u:Int),.int 0])) t2 (.tup [.int 0,.int 0])) t2=some (.tup [.int 0,.int 0]):=ai
  generalize upd (upd (upd H2 wd (.dT [])) t1 (.tup [.int (u:Int),.int 0])) t2 (.tup [.int 0,.int 0])=H3 at f3 w3 u3 v3
  refine⟨t1,ky u false,rfl,u3,w3,?_⟩
  have lw3:=LwV.start f3 hu w3 (f2.same.free hwd) v3
  have htb1:=s1 _ _ htb
  have hL:∀ k,k<(ad p ts g).n→0≤aP ts k:=gR g
  have hL1:∀ k,k<(ad p ts g).n→0<aP ts k:=fun k hk=>by
   have:=(g.ties _ (cF hk)).l0
   unfold aP
   (first|lia|omega)
  refine⟨fun n σ H4=>∃ v6 v7 v8 v9 v10 v11 v12,σ=[some (.ref wb),some (.int (m:Int)),some (.int (u:Int)),some (.ref Ds),some (.ref D),some (.ref wd),v6,v7,v8,v9,v10,v11,v12]∧∃ kvs F W,LwV p H1 D wd es kvs F W H4∧RM.Dx (ad p ts g) (aP ts) m u F W none (fun _ _=>False)∧n=RM.left F p,⟨_,none,none,none,none,none,none,none,rfl,_,_,_,lw3,RM.Dx.start,rfl⟩,?_⟩
  rintro n σ H4 ⟨v6,v7,v8,v9,v10,v11,v12,rfl,kvs,F,W,lw,dj,rfl⟩
  refine(exq rfl ⟨wd,kvs,rfl,.inl lw.dt,_,_,rfl,rfl,exq rfl (jL (fun hlen=>?_) (fun hlen=>?_))⟩)
  case refine_2 =>
   have hl : ¬(0:Int)<(kvs.length:Int):=fun z=>hlen (decide_eq_true z)
   have e:kvs=[]:=List.eq_nil_of_length_eq_zero (by(first|lia|omega))
   subst e
   have hW:∀ x s,W x s=none:=fun x s=>by
    rcases lw.val x s with⟨z,_⟩|⟨_,_,_,z,_⟩
    ·exact z
    ·rw[kH]at z;cases z
   exact(exq rfl (q D F H4 (s1.free lw.Dn) (s1.trans lw.same) ⟨es,hel,lw.lst,lw.at_,dj.dj.best hW,dj.dj.fw,fun b hb=>s1.free (lw.fr b hb),dj.fin hL1 hu hW⟩))
  have hlen:(0:Int)<(kvs.length:Int):=of_decide_eq_true hlen
  refine⟨fun σ' H'=>∃ v6 v7 v8 v9 v10 v11 v12,σ' = [some (.ref wb),some (.int (m:Int)),some (.int (u:Int)),some (.ref Ds),some (.ref D),some (.ref wd),v6,v7,v8,v9,v10,v11,v12]∧∃ kvs' F' W',LwV p H1 D wd es kvs' F' W' H'∧RM.Dx (ad p ts g) (aP ts) m u F' W' none (fun _ _=>False)∧RM.left F' p<RM.left F p,fun σ' H' ⟨a6,a7,a8,a9,a10,a11,a12,e,kvs',F',W',b1,b2,b3⟩=>⟨_,b3,a6,a7,a8,a9,a10,a11,a12,e,kvs',F',W',b1,b2,rfl⟩,?_⟩
  refine(exq rfl ⟨wd,kvs,sZ W kvs,rfl,lw.dt,(by(first|lia|omega)),lw.same _ _ htb1,fun ob H5 oth hfz i kv b hkv hb=>?_,fun i kv b H5 hkv hmin s5 hb=>?_⟩)
  ·obtain⟨x,t,d,c,hx,ek,hWx,hvx,_,hc,ews⟩:=lw.entry hkv
   have hcw:c≠wd:=aQ hc lw.dt (by intro z;cases z)
   refine(exq rfl (exq rfl ⟨wd,.ref c,rfl,.inr ⟨kvs,ky x t,b,.inr ⟨ob,hfz⟩,rfl,by rw[← ek];exact hb,hvx.symm⟩,am.refl _,c,rfl,?_⟩))
   rw[ews]
   exact SqT.of (oth c _ hc hcw (by intro y z;cases z) (by intro y z;cases z))
  obtain⟨x,t,d,c,hx,ek,hWx,hvx,_,hc,ews⟩:=lw.entry hkv
  rw[ek]at hb
  have hmn:∀ y t' d',W y t' = some d'→d.1≤d'.1:=fun y t' d' hW'=>by
   obtain⟨j,kv',hj,_,ej⟩:=lw.find hW'
   have:=hmin j (List.getElem?_eq_some_iff.mp hj).1
   rw[ej,ews]at this
   exact m9 this
  have lw5:=lw.go s5
  have hc5:=s5 _ _ hc
  have hF:F x t=none:=dj.dj.dj x t d hWx
  refine(exq rfl ⟨wd,rfl,.inr ⟨kvs,.inl lw5.dt⟩,exq rfl ⟨kvs,ky x t,b,.ref c,lw5.dt,rfl,hb,hvx,?_⟩⟩)
  obtain⟨rb,r0,r1,er,er',hrb,hr0,hr1⟩:=lw5.row (i:=x) (by(first|lia|omega))
  have bw:b≠wd:=aQ hb lw5.dt (by intro z;cases z)
  have rw_:rb≠wd:=aQ hrb lw5.dt (by intro z;cases z)
  have hb6:upd H5 wd (.dT (cn kvs (ky x t))) b=some (.tup [.int (x:Int),.int (t.toNat:Int)]):=by rw[ak bw];exact hb
  have hD6:upd H5 wd (.dT (cn kvs (ky x t))) D=some (.lst (es.map V.ref)):=by rw[ak (Ne.symm lw5.wD)];exact lw5.lst
  have hr6:upd H5 wd (.dT (cn kvs (ky x t))) rb=some (.lst [r0,r1]):=by rw[ak rw_];exact hrb
  refine(exq rfl (exq rfl (exq rfl (ixq (SqT.of hb6) (af (j:=0) rfl) (ixl (SqL.of hD6) (af er) (exq rfl (ixq (SqT.of hb6) (af (j:=1) rfl) ⟨rb,_,_,t.toNat,rfl,rfl,hr6,gF (n:=2) (j:=t.toNat) (by cases t<;>decide),?_⟩)))))))
  have lw7:=lw5.take hWx hc5 er' hrb
  have dj7:=dj.pop hWx hmn
  have hd0:0≤d.1:=by
   obtain⟨pre,w0⟩:=dj.dj.ww x t d hWx
   exact(RM.ir hL hu w0).2.2.2.2.2
  have hlt:RM.left (RM.eL F x t d) p<RM.left F p:=RM.pe hF hx
  have tp7:cy H5 (upd (upd H5 wd (.dT (cn kvs (ky x t)))) rb (.lst (([r0,r1]:List V).set t.toNat (.ref c)))):=fun z ys e=>by
   rw[ak (aQ e hrb (by intro z;cases z)),ak (aQ e lw5.dt (by intro z;cases z))]
   exact e
  have hb7:=tp7 _ _ hb
  have hc7:=tp7 _ _ hc5
  generalize upd (upd H5 wd (.dT (cn kvs (ky x t)))) rb (.lst (([r0,r1]:List V).set t.toNat (.ref c)))=H7 at lw7 hb7 hc7
  generalize RM.mZ W x t=W7 at lw7 dj7
  have hFx:RM.eL F x t d x t=some d:=RM.bg _ _ _ _
  generalize RM.eL F x t d=F7 at lw7 dj7 hlt hFx
  obtain⟨sb,cs,esb,esb',hsb,qsb⟩:=f1.get (i:=x) (by(first|lia|omega))
  have hlS:=k1.len x
  refine(exq rfl (exq rfl (ixq (SqT.of hb7) (af (j:=0) rfl) (ixl (SqL.of (lw7.same _ _ f1.lst)) (af esb) ⟨sb,rfl,⟨_,SqL.of (lw7.same _ _ hsb)⟩,?_⟩))))
  refine fC (K:=K) (a:=sb) (xs:=cs.map V.ref) (fun j σ H8=>∃ v8 v9 v10 v11 v12,σ=[some (.ref wb),some (.int (m:Int)),some (.int (u:Int)),some (.ref Ds),some (.ref D),some (.ref wd),some (.ref b),some (.ref c),v8,v9,v10,v11,v12]∧cy H7 H8∧∃ kvs8 W8,LwV p H1 D wd es kvs8 F7 W8 H8∧RM.Dx (ad p ts g) (aP ts) m u F7 W8 (some (x,t)) (fun k y=>∃ j',j'<j∧(S x)[j']?=some (k,y)))
   ⟨_,_,_,_,_,rfl,(am.refl _).tups,_,_,lw7,?_⟩ (fun j σ H8 _ ⟨_,_,_,_,_,_,_,_,_,z,_⟩=>SqL.of (z.same _ _ hsb)) ?_ ?_
  ·exact dj7.less fun k y ⟨j',h0,_⟩=>absurd h0 (Nat.not_lt_zero _)
  ·rintro j y D3' σ H8 hj ⟨v8,v9,v10,v11,v12,rfl,tp8,kvs8,W8,lw8,dj8⟩
   obtain⟨cc,hcc,rfl⟩:∃ cc,cs[j]?=some cc∧y = .ref cc:=by
    rw[List.getElem?_map]at hj
    obtain⟨cc,h1,h2⟩:=Option.map_eq_some_iff.mp hj
    exact⟨cc,h1,h2.symm⟩
   have hjl:j<(S x).length:=by rw[← qsb.length];exact(List.getElem?_eq_some_iff.mp hcc).1
   have eS:(S x)[j]?=some (S x)[j]:=List.getElem?_eq_getElem hjl
   have tr1:=L2.ja qsb hcc eS
   generalize hkw:(S x)[j]=kw at eS tr1
   obtain⟨k,y⟩:=kw
   have hmem:=(k1.mem x (k,y)).mp (List.mem_of_getElem? eS)
   obtain⟨hk,hjn⟩:=hmem
   have hk:k<ts.length:=hk
   have hjn:RM.Jn (ad p ts g) k x y:=hjn
   have hy:y<p:=hjn.lt hk
   have tr8:=lw8.same _ _ tr1
   have tr8:H8 cc=some (.tup [.int (k:Int),.int (y:Int),.int ((m.testBit k).toNat:Int)]):=tr8
   refine⟨cc,_,rfl,SqT.of tr8,rfl,_,_,rfl,_,_,rfl,_,_,rfl,rfl,?_⟩
   have hb8:=tp8 _ _ hb7
   have hc8:=tp8 _ _ hc7
   refine(exq rfl (ixq (SqT.of hb8) (af (j:=1) rfl) (exq rfl (ijq (?_)))))
   dsimp only
   rw[vK]
   obtain⟨ct,ex,hct⟩:=gj (g:=g) h3 hk
   have hw8:=lw8.same _ _ (s1 _ _ h1)
   have ht8:=lw8.same _ _ (s1 _ _ h2)
   have hct8:=lw8.same _ _ (s1 _ _ hct)
   refine(exq rfl (ixq (SqT.of hc8) (af (j:=0) rfl) (exq rfl (ixq (SqT.of hw8) (af (j:=1) rfl) (exq rfl (ixq (SqT.of ht8) (af (j:=k) ex) (ixq (SqT.of hct8) (af (j:=2) rfl) (?_))))))))
   refine(ijq (exq rfl (ixq (SqT.of hc8) (af (j:=1) rfl) (exq rfl (ijq ⟨⟨by(first|lia|omega),by(first|lia|omega),by decide⟩,ijq ⟨dl rfl,fun f hf=>?_⟩⟩)))))
   have ef:Builtin.bitXor ((d.2:Nat):Int) (1*2^((k:Nat):Int).toNat)=((d.2^^^2^k:Nat):Int):=by
    rw[Int.toNat_natCast,Int.one_mul,show((2:Int)^k)=((2^k:Nat):Int) by simp]
    exact xor_int _ _
   dsimp only
   rw[ef]
   have s9:am H8 (upd H8 f (.tup [.int (d.1+(cb ts k).2.2),.int ((d.2^^^2^k:Nat):Int)])):=am.new hf
   have hf9:upd H8 f (.tup [.int (d.1+(cb ts k).2.2),.int ((d.2^^^2^k:Nat):Int)]) f=some (.tup [.int (d.1+aP ts k),.int ((d.2^^^2^k:Nat):Int)]):=ai
   have lw9:=lw8.go s9
   have tp9:cy H7 (upd H8 f (.tup [.int (d.1+(cb ts k).2.2),.int ((d.2^^^2^k:Nat):Int)])):=fun z ys e=>s9 _ _ (tp8 _ _ e)
   generalize upd H8 f (.tup [.int (d.1+(cb ts k).2.2),.int ((d.2^^^2^k:Nat):Int)])=H9 at lw9 hf9 tp9
   obtain⟨rb2,q0,q1,er2,er2',hrb2,hq0,hq1⟩:=lw9.row (i:=y) (by(first|lia|omega))
   obtain⟨vv,hvv,hwv⟩:∃ vv,([q0,q1]:List V)[(t^^m.testBit k).toNat]?=some vv∧wV H9 (F7 y (t^^m.testBit k)) vv:=by
    cases(t^^m.testBit k) with
    | false=>exact⟨q0,rfl,hq0⟩
    | true=>exact⟨q1,rfl,hq1⟩
   have Lk:=hL k hk
   refine(exq rfl (exq rfl (ixl (SqL.of lw9.lst) (af er2) (exq rfl (ixl (SqL.of hrb2) (af hvv) (?_))))))
   refine⟨rfl,exq rfl (?_)⟩
   have dn:∀{done1:Nat→Nat→Prop} {Wx:RM.OW},RM.Dx (ad p ts g) (aP ts) m u F7 Wx (some (x,t)) (fun k' y'=>(∃ j',j'<j∧(S x)[j']?=some (k',y'))∨(k' = k∧y' = y))→
    RM.Dx (ad p ts g) (aP ts) m u F7 Wx (some (x,t)) (fun k' y'=>∃ j',j'<j+1∧(S x)[j']?=some (k',y')):=fun {done1 Wx} h =>
    h.less fun k' y' ⟨j',h0,h5⟩=>by
     by_cases ej:j' = j
     ·subst ej
      rw[eS]at h5
      cases h5
      exact .inr ⟨rfl,rfl⟩
     ·exact .inl ⟨j',by(first|lia|omega),h5⟩
   cases hFy:F7 y (t^^m.testBit k) with
   | some d2 =>
     rw[hFy]at hwv
     obtain⟨c2,rfl,hc2⟩:=hwv
     refine jN (fun z=>nomatch z) ?_
     exact⟨_,_,_,_,_,rfl,tp9,kvs8,W8,lw9,dn (done1:=fun _ _=>False) (dj8.skip hFx (hL1 k hk) (.inl hFy))⟩
   | none =>
     rw[hFy]at hwv
     have hwv:vv = .non:=hwv
     subst hwv
     refine qb rfl ?_
     refine(exq rfl (exq rfl ⟨wd,rfl,.inr ⟨kvs8,.inl lw9.dt⟩,exq rfl (exq rfl ⟨dl rfl,fun t3 ht3=>?_⟩)⟩))
     have s10:am H9 (upd H9 t3 (.tup [.int (y:Int),.int ((t^^m.testBit k).toNat:Int)])):=am.new ht3
     have ht10:upd H9 t3 (.tup [.int (y:Int),.int ((t^^m.testBit k).toNat:Int)]) t3=some (.tup ((ky y (t^^m.testBit k)).map kV)):=ai
     have lw10:=lw9.go s10
     have hf10:=s10 _ _ hf9
     have tp10:cy H7 (upd H9 t3 (.tup [.int (y:Int),.int ((t^^m.testBit k).toNat:Int)])):=fun z ys e=>s10 _ _ (tp9 _ _ e)
     generalize upd H9 t3 (.tup [.int (y:Int),.int ((t^^m.testBit k).toNat:Int)])=H10 at lw10 hf10 ht10 tp10
     refine(exq rfl ⟨cA kvs8 (ky y (t^^m.testBit k)),.inr ⟨kvs8,ky y (t^^m.testBit k),t3,.inl lw10.dt,rfl,ht10,rfl⟩,?_⟩)
     have hlen8:=lw10.len
     have put:(∀ d',W8 y (t^^m.testBit k)=some d'→RM.lx (RM.stp (aP ts) d k) d')→zz1 D3' [some (.ref wb),some (.int (m:Int)),some (.int (u:Int)),some (.ref Ds),some (.ref D),some (.ref wd),some (.ref b),some (.ref c),some (.int (k:Int)),some (.int (y:Int)),some (.int ((m.testBit k).toNat:Int)),some (.int ((t^^m.testBit k).toNat:Int)),some (.ref f)] H10:=fun hle=>by
      refine(exq rfl (exq rfl (exq rfl (exq rfl ⟨dl rfl,fun t4 ht4=>?_⟩))))
      have s11:am H10 (upd H10 t4 (.tup [.int (y:Int),.int ((t^^m.testBit k).toNat:Int)])):=am.new ht4
      have ht11:upd H10 t4 (.tup [.int (y:Int),.int ((t^^m.testBit k).toNat:Int)]) t4=some (.tup ((ky y (t^^m.testBit k)).map kV)):=ai
      have lw11:=lw10.go s11
      have hf11:=s11 _ _ hf10
      refine⟨wd,_,rfl,uU.t lw11.dt ht11 (fG (by(first|lia|omega))),?_⟩
      have lw12:=lw11.wait (x:=y) (s:=(t^^m.testBit k)) (d:=(d.1+aP ts k,d.2^^^2^k)) hy hf11
      refine⟨_,_,_,_,_,rfl,fun z ys e=>?_,_,_,lw12,dn (done1:=fun _ _=>False) (dj8.put hFx hd0 hk (hL1 k hk) hjn hFy hle)⟩
      have e11:=s11 _ _ (tp10 _ _ e)
      rw[ak (aQ e11 lw11.dt (by intro z;cases z))]
      exact e11
     rcases lw10.val y (t^^m.testBit k) with⟨hWn,hvn⟩|⟨d2,c2,hWs,hvs,hc2⟩
     ·rw[hvn]
      refine⟨f,f,_,_,_,_,rfl,rfl,SqT.of hf10,SqT.of hf10,_,rfl,jL (fun _=>put fun d' e=>by rw[hWn]at e;cases e) fun z=>absurd ((HT.nh _ _ _ _).mpr (.inr ⟨rfl,Int.le_refl _⟩)) z⟩
     ·rw[hvs]
      refine⟨f,c2,_,_,_,_,rfl,rfl,SqT.of hf10,SqT.of hc2,_,rfl,jL (fun hl=>?_) (fun hl=>?_)⟩
      ·have hl:=(HT.nh _ _ _ _).mp hl
       refine put fun d' e=>?_
       rw[hWs]at e;cases e
       unfold RM.lx RM.stp
       simp only
       (first|lia|omega)
      ·have hl:=fun z=>hl ((HT.nh _ _ _ _).mpr z)
       refine⟨_,_,_,_,_,rfl,tp10,kvs8,W8,lw10,dn (done1:=fun _ _=>False) (dj8.skip hFx (hL1 k hk) (.inr ⟨hWs,?_⟩))⟩
       have h6 : ¬ d.1+aP ts k<d2.1:=fun z=>hl (.inl z)
       have h7 : ¬(d.1+aP ts k=d2.1∧((d.2^^^2^k:Nat):Int)≤(d2.2:Int)):=fun z=>hl (.inr z)
       unfold RM.lx RM.stp
       simp only
       (first|lia|omega)
  ·rintro σ H8 ⟨v8,v9,v10,v11,v12,rfl,tp8,kvs8,W8,lw8,dj8⟩
   refine⟨_,_,_,_,_,_,_,rfl,kvs8,F7,W8,lw8,dj8.all fun k y hk hjn=>?_,hlt⟩
   have hm':=(k1.mem x (k,y)).mpr ⟨hk,hjn⟩
   obtain⟨j',hj'⟩:=List.getElem?_of_mem hm'
   have hlt':=(List.getElem?_eq_some_iff.mp hj').1
   exact⟨j',by rw[List.length_map,qsb.length];exact hlt',hj'⟩
end
def mH:Sp:=fun vs H Q _=>∃ v o,vs=[v]∧wV H o v∧Q (oV (o.map (·.1))) H
abbrev mW(F:RM.OW):Nat→Bool→Option Int:=fun x s=>(F x s).map (·.1)
def jH:Sp:=fun vs H Q _=>∃(D:Addr) (es:List Addr) (F:RM.OW),vs=[.ref D]∧H D=some (.lst (es.map V.ref))∧es.length≤900∧(∀(i:Nat) b,es[i]?=some b→∃ v0 v1,H b=some (.lst [v0,v1])∧wV H (F i false) v0∧wV H (F i true) v1)∧
 ∀ b ys H',am H H'→H' b=some (.tup ys)→Paired (cX H') ys (e7 (mW F) es.length)→Q (.ref b) H'
section
variable {P:Program}{w:World}{K:PySem.W.Frag}{mg:Str→Option Value}{base:Heap}{a:Adr}
theorem cL(T:Txt K mg a):FnOk P w K mg base CX0 1 a.f_length_of_way a.d_length_of_way ["way"] mH:=by
 refine T.F_length_of_way.ok jm (fun vs H Q E h=>?_) (fun cdv A outer s H vs Q E hr h=>?_)
 ·obtain⟨v,o,rfl,_⟩:=h
  rfl
 ·obtain⟨v,o,rfl,hv,q⟩:=h
  refine⟨_,(@ap _ _ _ (@aC _ _ _ _ (@iK _ _ _ _ _ _ _ _ (@az _ _ _ _ _ _ _ _ ik (pv 0) bU (aA _)) bU (@ao _ _ _ _ _ _ _ (ixT K) (pv 0) ae (fun _ _=>rfl))))),?_⟩
  cases o with
  | none =>
    have hv:v = .non:=hv
    subst hv
    exact(exq rfl ⟨rfl,exq rfl (qb rfl q)⟩)
  | some d =>
    obtain⟨c,rfl,hc⟩:=hv
    exact(exq rfl ⟨rfl,exq rfl (jN (fun z=>nomatch z) (exq rfl (ixq (SqT.of hc) (af (j:=0) rfl) (q))))⟩)
theorem dE(T:Txt K mg a):FnOk P w K mg base CX0 2 a.f_worths_of_ways a.d_worths_of_ways ["ways"] jH:=by
 have cL:FnOk P w K mg base CX0 1 a.f_length_of_way a.d_length_of_way ["way"] mH:=cL T
 refine T.F_worths_of_ways.ok iY (fun vs H Q E h=>?_) (fun cdv A outer s H vs Q E hr h=>?_)
 ·obtain⟨D,es,F,rfl,_⟩:=h
  rfl
 ·obtain⟨D,es,F,rfl,hD,hl,hrow,q⟩:=h
  refine⟨_,(@ap _ _ _ (@aC _ _ _ _ (@cH _ _ _ _ _ _ _ _ _ (mD K) (by rfl) T.n_tuple PyProof.Rows.boot_tuple (@aa _ _ _ _ _ (@cK _ _ _ _ _ _ _ ["even","odd"] [] [] _ _ _ _ (aE (ag bi) ["ways"]) rfl (@piL _ _ _ _ K (pv 0) (by rfl)) (fun _ _ _ _=>(yQ K rfl (aN (au (i:=0) (show(["even","odd"]:List Str).Nodup by decide +kernel) rfl (Or.inl rfl)) (aN (au (i:=1) (show(["even","odd"]:List Str).Nodup by decide +kernel) rfl (Or.inl rfl)) dh)))) (fun _ _ _ _=>db) (fun _ _ _ _=>(bB (aa (aw cL (hr.mono (by decide)) (by rfl) T.m_length_of_way T.k_length_of_way T.b_length_of_way .nil aM (aa (pv 0) ah)) (aa (aw cL (hr.mono (by decide)) (by rfl) T.m_length_of_way T.k_length_of_way T.b_length_of_way .nil aM (aa (pv 1) ah)) ah)))) (by intro _;rfl)) ah (by rfl)) (by decide) (by decide) (by rfl) (by rfl)))),?_⟩
  refine(exq rfl ⟨D,rfl,⟨_,SqL.of hD⟩,fun L hL=>ez (K:=K) (a:=D) (xs:=es.map V.ref) (fun i acc H2=>am H H2∧H2 L=some (.lst acc)∧Paired (cX H2) acc (e7 (mW F) i)) ⟨am.new hL,ai,.nil⟩ (fun i acc H2 _ z=>⟨SqL.of (z.1 _ _ hD),z.2.1,by rw[z.2.2.length,jZ];exact Nat.le_refl _⟩) (dl (Nat.ble_eq.mpr (by rw[List.length_map];(first|lia|omega)))) ?_ ?_⟩)
  ·rintro i x acc H2 hx ⟨s2,hL2,pr⟩
   obtain⟨b,hb,rfl⟩:∃ b,es[i]?=some b∧x = .ref b:=by
    rw[List.getElem?_map]at hx
    obtain⟨b,h1,h2⟩:=Option.map_eq_some_iff.mp hx
    exact⟨b,h1,h2.symm⟩
   obtain⟨v0,v1,hv,w0,w1⟩:=hrow i b hb
   refine⟨b,v0,v1,rfl,SqL.of (s2 _ _ hv),_,_,rfl,_,_,rfl,rfl,rfl,exq rfl ⟨v0,_,rfl,w0.tups s2.tups,_,rfl,v1,_,rfl,w1.tups s2.tups,dl rfl,fun t ht=>?_⟩⟩
   have s3:am H2 (upd H2 t (.tup [oV (mW F i false),oV (mW F i true)])):=am.new ht
   have tL:t≠L:=fun z=>by rw[z,hL2]at ht;cases ht
   have hL0:H L=none:=hL
   refine⟨s3 _ _ hL2,(s2.trans s3).put hL0,ai,?_⟩
   rw[o4]
   have keep:∀ z pr,cX H2 z pr→cX (upd (upd H2 t (.tup [oV (mW F i false),oV (mW F i true)])) L (.lst (acc++[.ref t]))) z pr:=fun z pr ⟨b,e,hb⟩=>⟨b,e,by rw[ak (aQ hb hL2 (by intro z;cases z))];exact s3 _ _ hb⟩
   exact Paired.snoc (Paired.imp' (fun _ _ z=>keep _ _ z) pr) ⟨t,rfl,by rw[ak tL,ai]⟩
  ·rintro acc H2 ⟨s2,hL2,pr⟩
   rw[List.length_map]at pr
   refine⟨L,_,rfl,.inl ⟨SqL.of hL2,fun l hl=>?_⟩⟩
   exact q l acc _ (s2.trans (am.new hl)) ai (Paired.imp' (fun _ _ ⟨b,e,hb⟩=>⟨b,e,am.new hl _ _ hb⟩) pr)
end
theorem fg.same{p:Nat}{N:RM.Net}{L:Nat→Int}{m u:Nat}{D:Addr}{F:RM.OW}{H0 H H' : Hp}(h:fg p N L m u D F H0 H)(s:am H H'):fg p N L m u D F H0 H':=by
 obtain⟨es,e1,e2,e3,e4,e5,e6⟩:=h
 exact⟨es,e1,s _ _ e2,fun i b hb=>let⟨v0,v1,q1,q2,q3⟩:=e3 i b hb;⟨v0,v1,s _ _ q1,q2.tups s.tups,q3.tups s.tups⟩,e4,e5,e6⟩
theorem fg.put{p:Nat}{N:RM.Net}{L:Nat→Int}{m u:Nat}{D X:Addr}{F:RM.OW}{H0 H:Hp}{xs ys:List V}(h:fg p N L m u D F H0 H)(hD:H0 D=none)(hX:H X=some (.lst xs))(hX0:∃ o,H0 X=some o):fg p N L m u D F H0 (upd H X (.lst ys)):=by
 obtain⟨es,e1,e2,e3,e4,e5,e6⟩:=h
 obtain⟨o,ho⟩:=hX0
 have ne:∀ b,H0 b=none→b≠X:=fun b hb z=>by rw[z,ho]at hb;cases hb
 have tp:cy H (upd H X (.lst ys)):=cy.put hX
 refine⟨es,e1,by rw[ak (ne D hD)];exact e2,fun i b hb=>?_,e4,e5,e6⟩
 obtain⟨v0,v1,q1,q2,q3⟩:=e3 i b hb
 exact⟨v0,v1,by rw[ak (ne b (e6.1 b (List.mem_of_getElem? hb)))];exact q1,q2.tups tp,q3.tups tp⟩
def qA(p:Nat)(N:RM.Net)(L:Nat→Int)(m i:Nat)(ds:List Addr)(Fs:Nat→RM.OW)(H:Hp):Prop:=ds.length=i∧∀(j:Nat) d,ds[j]?=some d→∃ H0,fg p N L m j d (Fs j) H0 H
def jB(t:Addr)(lp:Pos):Sp:=fun vs H Q _=>∃ w p ts,∃ g:GoodWeb p ts,∃ m:Nat,vs=[.ref w,.int (m:Int)]∧WebAt H w p ts∧m<2^ts.length∧H t=some (.tbl (dX (tW "least_ways") lp))∧
 ∀ D ds Fs H',H D=none→am H H'→H' D=some (.lst (ds.map V.ref))→qA p (ad p ts g) (aP ts) m p ds Fs H'→Q (.ref D) H'
section
variable {P:Program}{w:World}{K:PySem.W.Frag}{mg:Str→Option Value}{base:Heap}{a:Adr}
theorem dv(T:Txt K mg a):FnOk P w K mg base CX0 6 a.f_all_least_ways a.d_all_least_ways ["web","marks"] (jB a.p_least_ways bC):=by
 have gk:FnOk P w K mg base CX0 5 a.f_least_ways a.d_least_ways ["web","marks","start"] (g9 a.p_least_ways bC):=gk T
 refine T.F_all_least_ways.ok iL (fun vs H Q E h=>?_) (fun cdv A outer s H vs Q E hr h=>?_)
 ·obtain⟨w,p,ts,g,m,rfl,_⟩:=h
  rfl
 ·obtain⟨wb,p,ts,g,m,rfl,hw,hm,htb,q⟩:=h
  refine⟨_,(@ap _ _ _ (@aC _ _ _ _ (@cK _ _ _ _ _ _ _ ["start"] ["web","marks"] [0,1] _ _ _ _ (aE (ag bh) ["web","marks"]) rfl (@aH _ _ _ _ _ _ (by rfl) T.n_range (@aa _ _ _ _ _ (@ao _ _ _ _ _ _ _ (ixT K) (pv 0) ae (fun _ _=>rfl)) ah (by rfl)) (by rfl)) (fun _ _ _ _=>(au (i:=0) (show(["start","web","marks"]:List Str).Nodup by decide +kernel) rfl (Or.inl rfl))) (fun _ _ _ _=>db) (fun _ _ _ _=>(aw gk (hr.mono (by decide)) (by rfl) T.m_least_ways T.k_least_ways T.b_least_ways .nil aM (aa (pv 1) (aa (pv 2) (aa (pv 0) ah))))) (by intro _;rfl)))),?_⟩
  obtain⟨bt,xs,h1,h2,h3⟩:=id hw.ex
  have wp:=g.p2
  refine(exq rfl (ixq (SqT.of h1) (af (j:=0) rfl) (exq rfl ⟨(by(first|lia|omega)),(by(first|lia|omega)),fun D hD=>bo (lo:=0) (m:=(p:Int).toNat) (fun i acc H2=>am H H2∧H2 D=some (.lst acc)∧∃ ds Fs,acc=ds.map V.ref∧ds.length=i∧∀(j:Nat) d,ds[j]?=some d→∃ H0,fg p (ad p ts g) (aP ts) m j d (Fs j) H0 H2∧H0 d=none∧∃ o,H0 D=some o) ⟨am.new hD,ai,[],fun _ _ _=>none,rfl,rfl,fun j d e=>by cases e⟩ (fun i acc H2 _ ⟨_,z,ds,_,e,l,_⟩=>⟨z,by rw[e,List.length_map];(first|lia|omega)⟩) (dl (Nat.ble_eq.mpr (by(first|lia|omega)))) ?_ ?_⟩)))
  ·rintro i acc H2 hi ⟨s2,hD2,ds,Fs,rfl,hl,all⟩
   rw[Int.toNat_natCast]at hi
   rw[Int.zero_add]
   refine⟨rfl,exq rfl (exq rfl (exq rfl ⟨wb,p,ts,g,m,i,rfl,hw.same s2,hm,hi,s2 _ _ htb,fun d F H3 hd s3 wa=>?_⟩))⟩
   have hD3:=s3 _ _ hD2
   refine⟨hD3,(s2.trans s3).put hD,ai,ds++[d],fun j=>if j=i then F else Fs j,by simp,by simp[hl],fun j d' e=>?_⟩
   by_cases ej:j<ds.length
   ·rw[List.getElem?_append_left ej]at e
    obtain⟨H0,w0,n0,o0⟩:=all j d' e
    dsimp only
    rw[if_neg (show ¬ j=i by(first|lia|omega))]
    exact⟨H0,(w0.same s3).put n0 hD3 o0,n0,o0⟩
   ·rw[List.getElem?_append_right (by(first|lia|omega))]at e
    have hj:j=i:=by
     have:=(List.getElem?_eq_some_iff.mp e).1
     simp at this
     (first|lia|omega)
    subst hj
    rw[hl,Nat.sub_self]at e
    have e:d=d':=by simpa using e
    subst e
    dsimp only
    rw[if_pos rfl]
    exact⟨H2,wa.put hd hD3 ⟨_,hD2⟩,hd,_,hD2⟩
  ·rintro acc H2 ⟨s2,hD2,ds,Fs,rfl,hl,all⟩
   rw[Int.toNat_natCast]at hl
   exact q D ds Fs H2 hD s2 hD2 ⟨hl,fun j d e=>let⟨H0,w0,_⟩:=all j d e;⟨H0,w0⟩⟩
end
def iE:Sp:=fun vs H Q _=>∃(D:Addr) (ds:List Addr) (Fs:Nat→RM.OW),∃ p N L m,vs=[.ref D]∧H D=some (.lst (ds.map V.ref))∧p≤900∧qA p N L m p ds Fs H∧
 ∀ b H',am H H'→cI H' b ((List.range p).map fun i=>e7 (mW (Fs i)) p)→Q (.ref b) H'
section
variable {P:Program}{w:World}{K:PySem.W.Frag}{mg:Str→Option Value}{base:Heap}{a:Adr}
theorem dY(T:Txt K mg a):FnOk P w K mg base CX0 3 a.f_worths_of_all a.d_worths_of_all ["ways"] iE:=by
 have dE:FnOk P w K mg base CX0 2 a.f_worths_of_ways a.d_worths_of_ways ["ways"] jH:=dE T
 refine T.F_worths_of_all.ok jh (fun vs H Q E h=>?_) (fun cdv A outer s H vs Q E hr h=>?_)
 ·obtain⟨D,ds,Fs,p,N,L,m,rfl,_⟩:=h
  rfl
 ·obtain⟨D,ds,Fs,p,N,L,m,rfl,hD,hp,⟨hl,all⟩,q⟩:=h
  refine⟨_,(@ap _ _ _ (@aC _ _ _ _ (@cH _ _ _ _ _ _ _ _ _ (mD K) (by rfl) T.n_tuple PyProof.Rows.boot_tuple (@aa _ _ _ _ _ (@cK _ _ _ _ _ _ _ ["from_point"] [] [] _ _ _ _ (aE (ag bu) ["ways"]) rfl (@piL _ _ _ _ K (pv 0) (by rfl)) (fun _ _ _ _=>(au (i:=0) (show(["from_point"]:List Str).Nodup by decide +kernel) rfl (Or.inl rfl))) (fun _ _ _ _=>db) (fun _ _ _ _=>(aw dE (hr.mono (by decide)) (by rfl) T.m_worths_of_ways T.k_worths_of_ways T.b_worths_of_ways .nil aM (aa (pv 0) ah))) (by intro _;rfl)) ah (by rfl)) (by decide) (by decide) (by rfl) (by rfl)))),?_⟩
  refine(exq rfl ⟨D,rfl,⟨_,SqL.of hD⟩,fun X hX=>ez (K:=K) (a:=D) (xs:=ds.map V.ref) (fun i acc H2=>am H H2∧H2 X=some (.lst acc)∧Paired (jM H2) acc ((List.range i).map fun i=>e7 (mW (Fs i)) p)) ⟨am.new hX,ai,.nil⟩ (fun i acc H2 _ z=>⟨SqL.of (z.1 _ _ hD),z.2.1,by rw[z.2.2.length,List.length_map,List.length_range];exact Nat.le_refl _⟩) (dl (Nat.ble_eq.mpr (by rw[List.length_map];(first|lia|omega)))) ?_ ?_⟩)
  ·rintro i x acc H2 hx ⟨s2,hX2,pr⟩
   obtain⟨d,hd,rfl⟩:∃ d,ds[i]?=some d∧x = .ref d:=by
    rw[List.getElem?_map]at hx
    obtain⟨b,h1,h2⟩:=Option.map_eq_some_iff.mp hx
    exact⟨b,h1,h2.symm⟩
   obtain⟨H0,wa⟩:=all i d hd
   obtain⟨es,e1,e2,e3,_⟩:=wa.same s2
   refine⟨rfl,exq rfl ⟨d,es,Fs i,rfl,e2,(by(first|lia|omega)),e3,fun b ys H3 s3 hb pr3=>?_⟩⟩
   have hX3:=s3 _ _ hX2
   refine⟨hX3,(s2.trans s3).put hX,ai,?_⟩
   rw[List.range_succ,List.map_append,e1]at *
   exact Paired.snoc (Paired.imp' (fun _ _ z=>z.tups (s3.tups.trans (cy.put hX3))) pr) (jM.tups (cy.put hX3) ⟨b,ys,rfl,hb,pr3⟩)
  ·rintro acc H2 ⟨s2,hX2,pr⟩
   rw[List.length_map,hl]at pr
   refine⟨X,_,rfl,.inl ⟨SqL.of hX2,fun l hl=>?_⟩⟩
   exact q l _ (s2.trans (am.new hl)) ⟨acc,ai,Paired.imp' (fun _ _ z=>z.same (am.new hl)) pr⟩
end
theorem qM{x y:V}{A B:Prop}(h:x≠y)(ha:A):if(!decide (x=y))=true then A else B:=by
 rw[decide_eq_false h]
 exact d6 ha
def nu(p:Nat)(ts:List Tie)(g:GoodWeb p ts)(m:Nat)(H H' : Hp)(t:Addr):Prop :=
 ((∀ x z,x<p→¬ RM.Wy (ad p ts g) (aP ts) m x x true z)∧m=(ad p ts g).cut (fun x=>decide (x∈bO p ts g m))∧∃ l,H l=none∧H' t=some (.tup [.str "side",.ref l])∧H' l=some (.lst (aJ (bO p ts g m))))∨
 ∃(z:Int) (e:Nat) (b:Addr) (W:List (List Pr)),RM.Lo (ad p ts g) (aP ts) m z e∧RM.LeastOdd (ad p ts g) (aP ts) m z e∧H' t=some (.tup [.str "ring",.int (e:Int),.ref b])∧cI H' b W∧W.length=p∧(∀ R∈W,R.length=p)∧qF p ts g m W
def iD(C t:Addr)(lp:Pos):Sp:=fun vs H Q E=>∃ w p ts,∃ g:GoodWeb p ts,∃ S,vs=[.ref w,.int S]∧WebAt H w p ts∧H t=some (.tbl (dX (tW "least_ways") lp))∧uG ts S (E (.ref C) none H) fun m=>∀ r H',H r=none→am H H'→nu p ts g m H H' r→Q (.ref r) H'
def kT(H:Hp)(v:V)(d:Int×Nat):Prop:=∃ c,v = .ref c∧H c=some (.tup [.int d.1,.int (d.2:Int)])
theorem kT.tups{H H' : Hp}{v:V}{d:Int×Nat}(h:kT H v d)(s:cy H H'):kT H' v d:=let⟨c,e,q⟩:=h;⟨c,e,s _ _ q⟩
def ic(d:Int×Nat):PyData:=.tuple [.int d.1,.int (d.2:Int)]
theorem pf{K:PySem.W.Frag}{H:Hp}:∀{ys:List V} {R:List (Int×Nat)},Paired (kT H) ys R→DatVs K H ys (R.map ic)
 | _,_,.nil=>.nil
 | _,_,.cons h r=>by
   obtain⟨b,rfl,hb⟩:=h
   exact .cons (.tup (SqT.of hb) (.cons (.int _) (.cons (.int _) .nil))) (pf r)
theorem tJ:∀ l:List (Int×Nat),PyData.eqv (.list (l.map ic)) (.list [])=decide (l=[])
 | []=>rfl
 | _::_=>rfl
theorem ox:∀ R:List (Int×Nat),PyData.canLayAll0 (R.map ic)=true
 | []=>rfl
 | q::r=>by
   have ih:=ox r
   have e:(ic q).canLay0=true:=by simp[ic,PyData.canLay0,PyData.canLayAll0]
   simp only[List.map_cons,PyData.canLayAll0,ih,Bool.and_true,e]
theorem mj:∀ R:List (Int×Nat),PyData.depthAll (R.map ic)≤1
 | []=>Nat.zero_le _
 | q::r=>by
   have ih:=mj r
   show max (PyData.depth (ic q)) (PyData.depthAll (r.map ic))≤1
   have e:PyData.depth (ic q)=1:=by simp[ic,PyData.depth,PyData.depthAll]
   (first|lia|omega)
theorem mz{H:Hp}:∀{ys:List V} {R:List (Int×Nat)},Paired (kT H) ys R→∃ cs:List Addr,ys=cs.map V.ref∧Paired (fun(c:Addr) (d:Int×Nat)=>H c=some (.tup [.int d.1,.int (d.2:Int)])) cs R
 | _,_,.nil=>⟨[],rfl,.nil⟩
 | _,_,.cons h r=>by
   obtain⟨b,rfl,hb⟩:=h
   obtain⟨cs,rfl,pr⟩:=mz r
   exact⟨b::cs,rfl,.cons hb pr⟩
theorem nY(R:List (Int×Nat)):SeqAt.shaped (.list (R.map ic))=true:=by
 unfold SeqAt.shaped
 have e:(PyData.list (R.map ic)).canLay0=PyData.canLayAll0 (R.map ic):=by simp[PyData.canLay0]
 rw[e,ox,Bool.true_and]
 refine decide_eq_true ?_
 have h:=mj R
 have e2:PyData.depth (PyData.list (R.map ic))=PyData.depthAll (R.map ic)+1:=by simp[PyData.depth]
 rw[e2]
 (first|lia|omega)
theorem m9{a b:Int×Nat}(h:HT.bG [a.1,(a.2:Int)] [b.1,(b.2:Int)]=false):RM.lx b a:=by
 rw[HT.du]at h
 unfold RM.lx
 by_cases e:a.1=b.1
 ·rw[if_pos e,HT.du]at h
  refine .inr ⟨e.symm,?_⟩
  by_cases e2:(a.2:Int)=(b.2:Int)
  ·(first|lia|omega)
  ·rw[if_neg e2]at h
   have:=of_decide_eq_false h
   (first|lia|omega)
 ·rw[if_neg e]at h
  have:=of_decide_eq_false h
  exact .inl (by(first|lia|omega))
section
variable {P:Program}{w:World}{K:PySem.W.Frag}{mg:Str→Option Value}{base:Heap}{a:Adr}
theorem dU(T:Txt K mg a):FnOk P w K mg base (CX1 P w) 7 a.f_least_odd a.d_least_odd ["web","marks"] (iD a.c_BadSet a.p_least_ways bC):=by
 have cT:FnOk P w K mg base (CX1 P w) 3 a.f_check_set a.d_check_set ["web","tie_set"] (fY a.c_BadSet):=cT T
 have dv:FnOk P w K mg base CX0 6 a.f_all_least_ways a.d_all_least_ways ["web","marks"] (jB a.p_least_ways bC):=dv T
 have dY:FnOk P w K mg base CX0 3 a.f_worths_of_all a.d_worths_of_all ["ways"] iE:=dY T
 have i0:FnOk P w K mg base (CX1 P w) 6 a.f_side_of a.d_side_of ["web","tie_set"] (kX a.c_BadSet):=i0 T
 refine T.F_least_odd.ok1 fT (fun vs H Q E h=>?_) (fun cdv A outer s H vs Q E hr h=>?_)
 ·obtain⟨w,p,ts,g,S,rfl,_⟩:=h
  rfl
 ·obtain⟨wb,p,ts,g,S,rfl,hw,htb,q⟩:=h
  refine⟨_,(@aj _ _ _ _ _ (@dM _ _ _ _ (@aw _ _ _ _ _ _ _ _ _ _ _ _ _ _ _ _ cT (hr.mono (by decide)) (by rfl) T.m_check_set T.k_check_set T.b_check_set .nil jf.passes (@aa _ _ _ _ _ (pv 0) (@aa _ _ _ _ _ (pv 1) ah (by rfl)) (by rfl)) (by decide) (by rfl) (by rfl)) (by rfl)) (@aj _ _ _ _ _ (@aB _ _ 2 _ _ _ _ fT.nd rfl (Or.inr rfl) (@aw _ _ _ _ _ _ _ _ _ _ _ _ _ _ _ _ dv (hr.mono (by decide)) (by rfl) T.m_all_least_ways T.k_all_least_ways T.b_all_least_ways .nil aM (@aa _ _ _ _ _ (pv 0) (@aa _ _ _ _ _ (pv 1) ah (by rfl)) (by rfl)) (by decide) (by rfl) (by rfl)) (by rfl) (by first | exact .inl rfl | exact .inr rfl | assumption)) (@aj _ _ _ _ _ (@d7 _ _ _ _ _ _ _ ["point"] ["ways"] [2] _ _ _ _ 3 _ _ _ fT.nd rfl rfl (aE (ag cB) ["web","marks","ways","rounds"]) rfl (@aH _ _ _ _ _ _ (by rfl) T.n_range (@aa _ _ _ _ _ (@ao _ _ _ _ _ _ _ (ixT K) (pv 0) ae (fun _ _=>rfl)) ah (by rfl)) (by rfl)) (fun _ _ _ _=>(au (i:=0) (show(["point","ways"]:List Str).Nodup by decide +kernel) rfl (Or.inl rfl))) (fun _ _ _ _=>(dL (az jU (ao (ixL K) (ao (ixL K) (ao (ixL K) (pv 1) (pv 0) (fun _ _=>rfl)) (pv 0) (fun _ _=>rfl)) ae (fun _ _=>rfl)) bU (aA _)))) (fun _ _ _ _=>(ao (ixL K) (ao (ixL K) (ao (ixL K) (pv 1) (pv 0) (fun _ _=>rfl)) (pv 0) (fun _ _=>rfl)) ae (fun _ _=>rfl))) (by rfl) (by intro _;rfl)) (@aj _ _ _ _ _ (@bI _ _ _ _ _ _ _ _ (@az _ _ _ _ _ _ _ _ (ll K hr.units) (pv 3) (@da _ _ _ _ ah) (aA _)) (@ap _ _ _ (@aC _ _ _ _ (@aw _ _ _ _ _ _ _ _ _ _ _ _ _ _ _ _ i0 (hr.mono (by decide)) (by rfl) T.m_side_of T.k_side_of T.b_side_of .nil jf.passes (@aa _ _ _ _ _ (pv 0) (@aa _ _ _ _ _ (pv 1) ah (by rfl)) (by rfl)) (by decide) (by rfl) (by rfl)))) aO) (@ap _ _ _ (@aC _ _ _ _ (@bB _ _ _ _ _ (@aa _ _ _ _ _ gE (@aa _ _ _ _ _ (@ao _ _ _ _ _ _ _ (ixT K) (@aD _ _ _ _ _ _ _ _ _ (yM hr.hd hr.in1.units0) (by rfl) T.n_min PyProof.Rows.boot_min (@aa _ _ _ _ _ (pv 3) ah (by rfl)) (by decide) (by decide) (by rfl) (by rfl)) ae (fun _ _=>rfl)) (@aa _ _ _ _ _ (@aw _ _ _ _ _ _ _ _ _ _ _ _ _ _ _ _ dY (hr.mono (by decide)) (by rfl) T.m_worths_of_all T.k_worths_of_all T.b_worths_of_all .nil aM (@aa _ _ _ _ _ (pv 2) ah (by rfl)) (by decide) (by rfl) (by rfl)) ah (by rfl)) (by rfl)) (by rfl))))))))),?_⟩
  refine nD ?_
  intro zz0 zz1 zz2 zz3 zz4
  obtain⟨bt,xs,h1,h2,h3⟩:=id hw.ex
  have wp:=g.p2
  have W:=g.web
  rcases q with⟨m,rfl,hm,q⟩|⟨hS,q⟩
  case inr=>exact(exq rfl (exq rfl ⟨wb,p,ts,_,rfl,hw,W,.inr ⟨hS,q⟩⟩))
  refine(exq rfl (exq rfl ⟨wb,p,ts,_,rfl,hw,W,.inl ⟨m,rfl,hm,?_⟩⟩))
  refine(exq rfl (exq rfl ⟨wb,p,ts,g,m,rfl,hw,hm,htb,fun D ds Fs H1 hD s1 hD1 al=>?_⟩))
  obtain⟨hl,all⟩:=id al
  have hrow:∀ i,i<p→∃ d H0,ds[i]?=some d∧fg p (ad p ts g) (aP ts) m i d (Fs i) H0 H1:=fun i hi=>by
   have e:ds[i]?=some ds[i]:=List.getElem?_eq_getElem (by(first|lia|omega))
   obtain⟨H0,h0⟩:=all i _ e
   exact⟨_,H0,e,h0⟩
  refine(exq rfl (ixq (SqT.of (s1 _ _ h1)) (af (j:=0) rfl) (exq rfl ⟨(by(first|lia|omega)),(by(first|lia|omega)),fun X hX=>bo (lo:=0) (m:=(p:Int).toNat) (fun i acc H2=>am H1 H2∧H2 X=some (.lst acc)∧Paired (kT H2) acc ((List.range i).filterMap fun j=>Fs j j true)) ⟨am.new hX,ai,.nil⟩ (fun i acc H2 _ z=>⟨z.2.1,by rw[z.2.2.length];exact Nat.le_trans (List.length_filterMap_le ..) (by simp)⟩) (dl (Nat.ble_eq.mpr (by(first|lia|omega)))) ?_ ?_⟩)))
  ·rintro i acc H2 hi ⟨s2,hX2,pr⟩
   rw[Int.toNat_natCast]at hi
   rw[Int.zero_add]
   obtain⟨d,H0,hd,es,e1,e2,e3,_⟩:=hrow i hi
   have hei:es[i]?=some es[i]:=List.getElem?_eq_getElem (by(first|lia|omega))
   obtain⟨v0,v1,hv,w0,w1⟩:=e3 i _ hei
   have fm:(List.range (i+1)).filterMap (fun j=>Fs j j true)=(List.range i).filterMap (fun j=>Fs j j true)++(Fs i i true).toList:=by
    rw[List.range_succ,List.filterMap_append]
    cases hF:Fs i i true<;>simp[hF]
   rw[fm]
   have hDi:(ds.map V.ref)[i]?=some (.ref d):=by rw[List.getElem?_map,hd];rfl
   have hdi:(es.map V.ref)[i]?=some (.ref es[i]):=by rw[List.getElem?_map,hei];rfl
   refine⟨rfl,exq rfl (exq rfl (ixl (SqL.of (s2 _ _ hD1)) (af (j:=i) hDi) (exq rfl (ixl (SqL.of (s2 _ _ e2)) (af (j:=i) hdi) (ixl (SqL.of (s2 _ _ hv)) (af (j:=1) rfl) ⟨rfl,exq rfl (?_)⟩)))))⟩
   cases hF:Fs i i true with
   | none =>
     rw[hF]at w1
     have w1:v1 = .non:=w1
     subst w1
     refine qD rfl ⟨s2,hX2,?_⟩
     rw[show(none:Option (Int×Nat)).toList=[] from rfl,List.append_nil]
     exact pr
   | some dd =>
     rw[hF]at w1
     obtain⟨c,rfl,hc⟩:=w1
     refine qM (fun z=>nomatch z) (exq rfl (exq rfl (ixl (SqL.of (s2 _ _ hD1)) (af (j:=i) hDi) (exq rfl (ixl (SqL.of (s2 _ _ e2)) (af (j:=i) hdi) (ixl (SqL.of (s2 _ _ hv)) (af (j:=1) rfl) ⟨hX2,s2.put hX,ai,?_⟩))))))
     have tp:cy H2 (upd H2 X (.lst (acc++[.ref c]))):=cy.put hX2
     exact Paired.snoc (Paired.imp' (fun _ _ z=>z.tups tp) pr) ⟨c,rfl,tp _ _ (s2 _ _ hc)⟩
  ·rintro acc H2 ⟨s2,hX2,pr⟩
   rw[Int.toNat_natCast]at pr
   generalize hR:(List.range p).filterMap (fun j=>Fs j j true)=R at pr
   have s12:=s1.trans s2
   have hL1:∀ k,k<(ad p ts g).n→0<aP ts k:=fun k hk=>by
    have:=(g.ties _ (cF hk)).l0
    unfold aP
    (first|lia|omega)
   have inR:∀ j d,j<p→Fs j j true=some d→d∈R:=fun j d hj hd=>by
    rw[← hR]
    exact List.mem_filterMap.mpr ⟨j,List.mem_range.mpr hj,hd⟩
   have ofR:∀ d,d∈R→∃ j,j<p∧Fs j j true=some d:=fun d hd=>by
    rw[← hR]at hd
    obtain⟨j,hj,e⟩:=List.mem_filterMap.mp hd
    exact⟨j,List.mem_range.mp hj,e⟩
   have best:∀ i,i<p→∀ x s,RM.lB (ad p ts g) (aP ts) m i x s ((Fs i x s).map (·.1)):=fun i hi=>by
    obtain⟨d,H0,hd,es,e1,e2,e3,e4,_⟩:=hrow i hi
    exact e4
   refine(exq rfl ⟨dl rfl,fun l0 hl0=>⟨_,_,.lst (SqL.of (am.new hl0 _ _ hX2)) (pf (Paired.imp' (fun _ _ z=>z.tups (am.new hl0).tups) pr)),.lst (SqL.of ai) .nil,nY _,rfl,exq rfl (?_)⟩⟩)
   rw[tJ]
   have s3:=s12.trans (am.new (o:=.lst []) hl0)
   have s23:=s2.trans (am.new (o:=.lst []) hl0)
   have hX3:=am.new (o:=.lst []) hl0 _ _ hX2
   have pr3:=Paired.imp' (fun _ _ z=>kT.tups z (am.new (o:=.lst []) hl0).tups) pr
   clear hX2 pr
   generalize upd H2 l0 (.lst [])=H3 at s3 s23 hX3 pr3
   by_cases hne:R=[]
   ·rw[decide_eq_true hne]
    have no:∀ x z,x<p→¬ RM.Wy (ad p ts g) (aP ts) m x x true z:=fun x z hx hw=>by
     have b:=best x hx x true
     cases hF:Fs x x true with
     | none=>rw[hF]at b;exact b z hw
     | some d=>have:=inR x d hx hF;rw[hne]at this;cases this
    refine d6 (exq rfl (exq rfl ⟨wb,p,ts,g,_,rfl,hw.same s3,.inl ⟨m,rfl,hm,fun t H4 ht s4 told=>?_⟩⟩))
    refine q t H4 (s3.free ht) (s3.trans s4) (.inl ⟨no,?_⟩)
    rcases told with⟨h0,l,hl,ht4,hl4⟩|⟨c,hc,hp,_⟩
    ·exact⟨h0,l,s3.free hl,ht4,hl4⟩
    ·obtain⟨c1,c2⟩:=RM.gn.mp hc
     rw[RM.tU (fun k hk=>Int.le_of_lt (hL1 k hk)) no (RM.rQ c1 c2) (RM.nz c1)]at hp
     cases hp
   ·rw[decide_eq_false hne]
    obtain⟨cs,rfl,prc⟩:=mz pr3
    have csl:=prc.length
    have hpos:0<cs.length:=by
     have:=List.length_pos_iff.mpr hne
     (first|lia|omega)
    have hcs:∀(i:Nat) c,cs[i]?=some c→∃ d,R[i]?=some d∧H3 c=some (.tup [.int d.1,.int (d.2:Int)]):=fun i c hc=>Paired.getP prc hc
    refine dr (exq rfl ⟨X,cs,fun i=>[(R.getD i (0,0)).1,((R.getD i (0,0)).2:Int)],rfl,SqL.of hX3,hpos,fun i c hc=>?_,fun i c hc hmin=>?_⟩)
    ·obtain⟨d,hd,h⟩:=hcs i c hc
     have e:R.getD i (0,0)=d:=by rw[List.getD_eq_getElem?_getD,hd];rfl
     dsimp only
     rw[e]
     exact SqT.of h
    obtain⟨d,hd,hcd⟩:=hcs i c hc
    obtain⟨u,hu,hFu⟩:=ofR d (List.mem_of_getElem? hd)
    have hlx:∀ j d',j<p→Fs j j true=some d'→RM.lx d d':=fun j d' hj hF=>by
     obtain⟨i',hi'⟩:=List.getElem?_of_mem (inR j d' hj hF)
     have hlt:i'<cs.length:=by
      have:=(List.getElem?_eq_some_iff.mp hi').1
      (first|lia|omega)
     have hm2:=hmin i' hlt
     have e:R.getD i (0,0)=d:=by rw[List.getD_eq_getElem?_getD,hd];rfl
     have e' : R.getD i' (0,0)=d':=by rw[List.getD_eq_getElem?_getD,hi'];rfl
     dsimp only at hm2
     rw[e,e']at hm2
     exact m9 hm2
    have hmn:∀ x z',x<p→RM.Wy (ad p ts g) (aP ts) m x x true z'→d.1≤z':=fun x z' hx hw=>by
     have b:=best x hx x true
     cases hF:Fs x x true with
     | none=>rw[hF]at b;exact absurd hw (b z')
     | some d' =>
       rw[hF]at b
       have h1:d'.1≤z':=b.2 z' hw
       have h2:=hlx x d' hx hF
       unfold RM.lx at h2
       (first|lia|omega)
    obtain⟨_,_,_,es,_,_,_,_,wz,_,_⟩:=hrow u hu
    have wzu:=wz u true d hFu
    obtain⟨r1,r2,r3,r4⟩:=RM.py hL1 (show u<(ad p ts g).p from hu) wzu hmn
    refine(ixq (SqT.of hcd) (af (j:=1) rfl) (exq rfl ⟨D,ds,Fs,p,ad p ts g,aP ts,m,rfl,s23 _ _ hD1,(by(first|lia|omega)),⟨hl,fun j d e=>let⟨H0,w0⟩:=all j d e;⟨H0,w0.same s23⟩⟩,fun b H4 s4 hW=>⟨dl rfl,fun t ht=>?_⟩⟩))
    have s5:am H4 (upd H4 t (.tup [.str "ring",.int (d.2:Int),.ref b])):=am.new ht
    refine q t _ ((s3.trans s4).free ht) ((s3.trans s4).trans s5) (.inr ⟨d.1,d.2,b,_,⟨Fs,fun i hi=>?_,⟨u,hu,hFu⟩,hlx⟩,⟨r1,r2,r3,r4,⟨u,hu,?_⟩,hmn⟩,ai,hW.same s5,by rw[List.length_map,List.length_range],fun R hR=>?_,fun i hi x s hx=>?_⟩)
    ·obtain⟨_,_,_,_,_,_,_,_,_,_,fx⟩:=hrow i hi
     exact fx
    ·obtain⟨pre,w0⟩:=wzu
     exact⟨pre,_,w0⟩
    ·obtain⟨i,_,rfl⟩:=List.mem_map.mp hR
     exact jZ _ _
    ·rw[List.getD_eq_getElem?_getD,List.getElem?_map,List.getElem?_range hi]
     show RM.lB _ _ m i x s (sel (ph (e7 (mW (Fs i)) p) x) s)
     rw[uR hx]
     exact best i hi x s
end
def qX(K:PySem.W.Frag):Sp:=fun vs H Q _=>∃(a:Addr) (ns:List Int) (k:Int),vs=[.ref a,.int k]∧0≤k∧SqL K H a (ns.map V.int)∧∀ z,Q (.int z) H
def q9:Sp:=fun vs H Q _=>∃ c k y,vs=[.int c,.int k,.int y]∧∀ z,Q (.int z) H
def uf:Sp:=fun vs H Q _=>∃(c:Int) (p m:Nat),vs=[.int c,.int (p:Int),.int (m:Int)]∧2≤p∧p≤10∧m<4∧∀ t b H',am H H'→GoodTie (p:Int) t→H' b=some (.tup (xk t))→Q (.ref b) H'
def tQ(K:PySem.W.Frag):Sp:=fun vs H Q _=>∃(a:Addr) (ns:List Int) (mp mt:Nat),vs=[.ref a,.int (mp:Int),.int (mt:Int)]∧SqL K H a (ns.map V.int)∧ns.length≤63∧1≤mp∧mp≤10∧1≤mt∧mt≤24∧
 ∀ r w p ts z H',am H H'→GoodWeb p ts→p≤mp→ts.length≤mt→WebAt H' w p ts→H' r=some (.tup [.ref w,.int z])→Q (.ref r) H'
theorem x8(l:Int){m:Nat}(hm:m<4):∃ v,atI [V.int (1+l%9),.int 1,.int (1+l%10^(30:Int).toNat),.int (1+l%2)] (m:Int)=some (.int v)∧1≤v∧v≤1000000000000000000000000000000:=by
 have h9:=eI l 9 (by decide)
 have h30:=eI l (10^(30:Int).toNat) (by decide)
 have h2:=eI l 2 (by decide)
 have e:(10:Int)^(30:Int).toNat=1000000000000000000000000000000:=by decide
 match m,hm with
 | 0,_=>exact⟨_,af (j:=0) rfl,by(first|lia|omega),by(first|lia|omega)⟩
 | 1,_=>exact⟨_,af (j:=1) rfl,by decide,by decide⟩
 | 2,_=>exact⟨_,af (j:=2) rfl,by(first|lia|omega),by(first|lia|omega)⟩
 | 3,_=>exact⟨_,af (j:=3) rfl,by(first|lia|omega),by(first|lia|omega)⟩
section
variable {P:Program}{w:World}{K:PySem.W.Frag}{mg:Str→Option Value}{base:Heap}{a:Adr}
theorem dO(T:Txt K mg a):FnOk P w K mg base CX0 1 a.f_law_cell_at a.d_law_cell_at ["script","k"] (qX K):=by
 refine T.F_law_cell_at.ok kR (fun vs H Q E h=>?_) (fun cdv A outer s H vs Q E hr h=>?_)
 ·obtain⟨b,ns,k,rfl,_⟩:=h
  rfl
 ·obtain⟨b,ns,k,rfl,hk0,hS,q⟩:=h
  refine⟨_,(@aj _ _ _ _ _ (@bI _ _ _ _ _ _ _ _ (@az _ _ _ _ _ _ _ _ qH (pv 1) (@aD _ _ _ _ _ _ _ _ _ (eV K) (by rfl) T.n_len PySem.boot_len (@aa _ _ _ _ _ (pv 0) ah (by rfl)) (by decide) (by decide) (by rfl) (by rfl)) (aA _)) (@ap _ _ _ (@aC _ _ _ _ (@ao _ _ _ _ _ _ _ (ixL K) (pv 0) (pv 1) (fun _ _=>rfl)))) aO) (@ap _ _ _ (@aC _ _ _ _ ae))),?_⟩
  refine kY ?_
  intro zz0 zz1
  refine(exq rfl (exq rfl ⟨b,_,rfl,.inl hS,_,_,rfl,rfl,exq rfl (jL (fun hlt=>?_) (fun _=>q 0))⟩))
  have hlt:=of_decide_eq_true hlt
  rw[List.length_map]at hlt
  obtain⟨k,rfl⟩:=Int.eq_ofNat_of_zero_le hk0
  exact(exq rfl (exq rfl ⟨b,_,_,_,rfl,rfl,hS,af (j:=k) (jX (by(first|lia|omega))),q _⟩))
theorem gl(T:Txt K mg a):FnOk P w K mg base CX0 1 a.f_law_left a.d_law_left ["cell","k","way"] q9:=by
 refine T.F_law_left.ok jw (fun vs H Q E h=>?_) (fun cdv A outer s H vs Q E hr h=>?_)
 ·obtain⟨c,k,y,rfl,_⟩:=h
  rfl
 ·obtain⟨c,k,y,rfl,q⟩:=h
  refine⟨_,(@aj _ _ _ _ _ (@bI _ _ _ _ _ _ _ _ (@az _ _ _ _ _ _ _ _ dZ (pv 2) ae (aA _)) (@ap _ _ _ (@aC _ _ _ _ (pv 0))) aO) (@aj _ _ _ _ _ (@aB _ _ 3 _ _ _ _ jw.nd rfl (Or.inl rfl) (@av _ _ _ _ _ _ _ _ ce (@av _ _ _ _ _ _ _ _ ii (@av _ _ _ _ _ _ _ _ cz (@av _ _ _ _ _ _ _ _ cz (@av _ _ _ _ _ _ _ _ ce (pv 0) ae) (@av _ _ _ _ _ _ _ _ ii ae (pv 1))) ae) ae) ae) (by rfl) (by first | exact .inl rfl | exact .inr rfl | assumption)) (@ap _ _ _ (@aC _ _ _ _ (@av _ _ _ _ _ _ _ _ ce (@av _ _ _ _ _ _ _ _ ii (@av _ _ _ _ _ _ _ _ ii (pv 3) (pv 3)) (@av _ _ _ _ _ _ _ _ cz (pv 3) ae)) (@av _ _ _ _ _ _ _ _ cz (@av _ _ _ _ _ _ _ _ sJ ae ae) ae)))))),?_⟩
  refine oH ?_
  intro zz0 zz1 zz2
  refine(exq rfl ⟨rfl,exq rfl (jL (fun _=>(exq rfl (q _))) (fun _=>?_))⟩)
  refine(exq rfl (ijq ⟨(kj rfl),exq rfl (ijq ⟨.inl ⟨by decide,by decide⟩,ijq (ijq (ijq ⟨.inr ⟨by decide,by decide⟩,ijq ⟨(kj rfl),?_⟩⟩))⟩)⟩))
  have h1:=eI ((c%998244353+7919*k+1)*69621) 2147483647 (by decide)
  dsimp only
  generalize (c%998244353+7919*k+1)*69621%2147483647=n at h1
  exact(exq rfl (exq rfl (ijq ⟨.inl ⟨by(first|lia|omega),by(first|lia|omega)⟩,exq rfl (ijq (ijq ⟨.inr ⟨by(first|lia|omega),by(first|lia|omega)⟩,ijq ⟨⟨by decide,by decide,by decide⟩,ijq (ijq ⟨(show(0:Int)<10^(18:Int).toNat+9 by decide),q _⟩)⟩⟩))⟩)))
theorem ji(T:Txt K mg a):FnOk P w K mg base CX0 1 a.f_law_tie a.d_law_tie ["left","points","mode"] uf:=by
 refine T.F_law_tie.ok eU (fun vs H Q E h=>?_) (fun cdv A outer s H vs Q E hr h=>?_)
 ·obtain⟨c,p,m,rfl,_⟩:=h
  rfl
 ·obtain⟨c,p,m,rfl,hp1,hp2,hm,q⟩:=h
  refine⟨_,(@aj _ _ _ _ _ (@aB _ _ 3 _ _ _ _ eU.nd rfl (Or.inl rfl) (@av _ _ _ _ _ _ _ _ ce (pv 0) (pv 1)) (by rfl) (by first | exact .inl rfl | exact .inr rfl | assumption)) (@aj _ _ _ _ _ (@aB _ _ 0 _ _ _ _ eU.nd rfl (Or.inl rfl) (@av _ _ _ _ _ _ _ _ fO (pv 0) (pv 1)) (by rfl) (by first | exact .inl rfl | exact .inr rfl | assumption)) (@aj _ _ _ _ _ (@aB _ _ 4 _ _ _ _ eU.nd rfl (Or.inl rfl) (@av _ _ _ _ _ _ _ _ ce (@av _ _ _ _ _ _ _ _ cz (@av _ _ _ _ _ _ _ _ cz (pv 3) ae) (@av _ _ _ _ _ _ _ _ ce (pv 0) (@av _ _ _ _ _ _ _ _ nk (pv 1) ae))) (pv 1)) (by rfl) (by first | exact .inl rfl | exact .inr rfl | assumption)) (@aj _ _ _ _ _ (@aB _ _ 0 _ _ _ _ eU.nd rfl (Or.inl rfl) (@av _ _ _ _ _ _ _ _ fO (pv 0) (@av _ _ _ _ _ _ _ _ nk (pv 1) ae)) (by rfl) (by first | exact .inl rfl | exact .inr rfl | assumption)) (@ap _ _ _ (@aC _ _ _ _ (@bB _ _ _ _ _ (@aa _ _ _ _ _ (pv 3) (@aa _ _ _ _ _ (pv 4) (@aa _ _ _ _ _ (@ao _ _ _ _ _ _ _ (ixL K) (@da _ _ _ _ (@aa _ _ _ _ _ (@av _ _ _ _ _ _ _ _ cz ae (@av _ _ _ _ _ _ _ _ ce (pv 0) ae)) (@aa _ _ _ _ _ ae (@aa _ _ _ _ _ (@av _ _ _ _ _ _ _ _ cz ae (@av _ _ _ _ _ _ _ _ ce (pv 0) (@av _ _ _ _ _ _ _ _ sJ ae ae))) (@aa _ _ _ _ _ (@av _ _ _ _ _ _ _ _ cz ae (@av _ _ _ _ _ _ _ _ ce (pv 0) ae)) ah (by rfl)) (by rfl)) (by rfl)) (by rfl))) (pv 2) (fun _ _=>rfl)) ah (by rfl)) (by rfl)) (by rfl))))))))),?_⟩
  refine pK ?_
  intro zz0 zz1 zz2 zz3
  have p0:(0:Int)<(p:Int):=by(first|lia|omega)
  have p9:(0:Int)<(p:Int)-1:=by(first|lia|omega)
  have hd:∀ i,vG i (p:Int):=fun i=>⟨by(first|lia|omega),by(first|lia|omega)⟩
  have hd1:∀ i,vG i ((p:Int)-1):=fun i=>⟨by(first|lia|omega),by(first|lia|omega)⟩
  refine(exq rfl (exq rfl (ijq ⟨p0,?_⟩)))
  refine(exq rfl (exq rfl (ijq ⟨hd _,?_⟩)))
  refine(exq rfl (ijq (exq rfl (exq rfl (ijq (ijq ⟨p9,_,_,rfl,rfl,exq rfl (ijq ⟨p0,?_⟩)⟩))))))
  refine(exq rfl (exq rfl (ijq (ijq ⟨hd1 _,?_⟩))))
  obtain⟨v,hv,v1,v2⟩:=x8 (c/p/(p-1)) hm
  refine(exq rfl (exq rfl (exq rfl (ijq ⟨(kj rfl),ijq (exq rfl (ijq ⟨⟨by decide,by decide,by decide⟩,ijq ⟨(kj rfl),ijq (exq rfl (ijq ⟨(kj rfl),ijq ⟨dl rfl,fun l hl=>(exq rfl (ixl (SqL.of ai) (hv) ⟨dl rfl,fun b hb=>?_⟩))⟩⟩))⟩⟩))⟩))))
  obtain⟨o1,o2,o3⟩:=sM (p:=p) (o:=c%p) (r:=c/p%(p-1)) (eI _ _ p0).1 (eI _ _ p0).2 (eI _ _ p9).1 (eI _ _ p9).2
  exact q (c%p,(c%p+1+c/p%(p-1))%p,v) b _ ((am.new hl).trans (am.new hb)) ⟨(eI _ _ p0).1,(eI _ _ p0).2,o1,o2,o3,v1,v2⟩ ai
theorem iZ(T:Txt K mg a):FnOk P w K mg base CX0 2 a.f_law_web a.d_law_web ["script","most_points","most_ties"] (tQ K):=by
 have dO:FnOk P w K mg base CX0 1 a.f_law_cell_at a.d_law_cell_at ["script","k"] (qX K):=dO T
 have gl:FnOk P w K mg base CX0 1 a.f_law_left a.d_law_left ["cell","k","way"] q9:=gl T
 have ji:FnOk P w K mg base CX0 1 a.f_law_tie a.d_law_tie ["left","points","mode"] uf:=ji T
 refine T.F_law_web.ok bT (fun vs H Q E h=>?_) (fun cdv A outer s H vs Q E hr h=>?_)
 ·obtain⟨b,ns,mp,mt,rfl,_⟩:=h
  rfl
 ·obtain⟨b,ns,mp,mt,rfl,hS,hn,mp1,mp10,mt1,mt24,q⟩:=h
  refine⟨_,(@aj _ _ _ _ _ (@aB _ _ 3 _ _ _ _ bT.nd rfl (Or.inl rfl) (@av _ _ _ _ _ _ _ _ ce (@aw _ _ _ _ _ _ _ _ _ _ _ _ _ _ _ _ dO (hr.mono (by decide)) (by rfl) T.m_law_cell_at T.k_law_cell_at T.b_law_cell_at .nil aM (@aa _ _ _ _ _ (pv 0) (@aa _ _ _ _ _ ae ah (by rfl)) (by rfl)) (by decide) (by rfl) (by rfl)) ae) (by rfl) (by first | exact .inl rfl | exact .inr rfl | assumption)) (@aj _ _ _ _ _ (@aB _ _ 4 _ _ _ _ bT.nd rfl (Or.inl rfl) (@aw _ _ _ _ _ _ _ _ _ _ _ _ _ _ _ _ gl (hr.mono (by decide)) (by rfl) T.m_law_left T.k_law_left T.b_law_left .nil aM (@aa _ _ _ _ _ (@av _ _ _ _ _ _ _ _ fO (@aw _ _ _ _ _ _ _ _ _ _ _ _ _ _ _ _ dO (hr.mono (by decide)) (by rfl) T.m_law_cell_at T.k_law_cell_at T.b_law_cell_at .nil aM (@aa _ _ _ _ _ (pv 0) (@aa _ _ _ _ _ ae ah (by rfl)) (by rfl)) (by decide) (by rfl) (by rfl)) ae) (@aa _ _ _ _ _ ae (@aa _ _ _ _ _ (pv 3) ah (by rfl)) (by rfl)) (by rfl)) (by decide) (by rfl) (by rfl)) (by rfl) (by first | exact .inl rfl | exact .inr rfl | assumption)) (@aj _ _ _ _ _ (@aB _ _ 5 _ _ _ _ bT.nd rfl (Or.inl rfl) (@av _ _ _ _ _ _ _ _ cz ae (@av _ _ _ _ _ _ _ _ ce (pv 4) (pv 1))) (by rfl) (by first | exact .inl rfl | exact .inr rfl | assumption)) (@aj _ _ _ _ _ (@aB _ _ 6 _ _ _ _ bT.nd rfl (Or.inl rfl) (@av _ _ _ _ _ _ _ _ ce (@av _ _ _ _ _ _ _ _ fO (pv 4) (pv 1)) ae) (by rfl) (by first | exact .inl rfl | exact .inr rfl | assumption)) (@aj _ _ _ _ _ (@aB _ _ 7 _ _ _ _ bT.nd rfl (Or.inl rfl) (@cH _ _ _ _ _ _ _ _ _ (xX K) (by rfl) T.n_list PyProof.Rows.boot_list (@aa _ _ _ _ _ (@kI _ _ _ _ _ _ _ _ _ _ (slL K) (pv 0) (@jW _ _ _ ae) (@jW _ _ _ (@av _ _ _ _ _ _ _ _ cz ae (pv 2)))) ah (by rfl)) (by decide) (by decide) (by rfl) (by rfl)) (by rfl) (by first | exact .inl rfl | exact .inr rfl | assumption)) (@aj _ _ _ _ _ (@ck _ _ _ _ _ _ _ _ PassesOwn.never rfl (@mJ _ _ _ _ _ _ _ (by rfl) T.n_range (@aa _ _ _ _ _ (@av _ _ _ _ _ _ _ _ cz ae (pv 2)) (@aa _ _ _ _ _ (@aD _ _ _ _ _ _ _ _ _ (eV K) (by rfl) T.n_len PySem.boot_len (@aa _ _ _ _ _ (pv 0) ah (by rfl)) (by decide) (by decide) (by rfl) (by rfl)) ah (by rfl)) (by rfl)) (by rfl) (by rfl)) (au (i:=8) bT.nd rfl (Or.inl rfl)) (@ap _ _ _ (@fi _ _ _ _ _ _ (@av _ _ _ _ _ _ _ _ cz (@av _ _ _ _ _ _ _ _ ii (@ao _ _ _ _ _ _ _ (ixL K) (pv 7) (@av _ _ _ _ _ _ _ _ ce (pv 8) (pv 2)) (fun _ _=>rfl)) ae) (@ao _ _ _ _ _ _ _ (ixL K) (pv 0) (pv 8) (fun _ _=>rfl))) (@i7 _ _ _ _ _ _ _ (pv 7) (@av _ _ _ _ _ _ _ _ ce (pv 8) (pv 2)) fD (by intro _;rfl)) (by rfl) (by rfl) (by rfl))) (by intro _;rfl)) (@aj _ _ _ _ _ (@bI _ _ _ _ _ _ _ _ (@az _ _ _ _ _ _ _ _ dZ (pv 5) ae (aA _)) (@ap _ _ _ (@aB _ _ 7 _ _ _ _ bT.nd rfl (Or.inl rfl) (@da _ _ _ _ ah) (by rfl) (by first | exact .inl rfl | exact .inr rfl | assumption))) aO) (@aj _ _ _ _ _ (@aB _ _ 9 _ _ _ _ bT.nd rfl (Or.inl rfl) (@da _ _ _ _ ah) (by rfl) (by first | exact .inl rfl | exact .inr rfl | assumption)) (@aj _ _ _ _ _ (@ck _ _ _ _ _ _ _ _ PassesOwn.never rfl (@aH _ _ _ _ _ _ (by rfl) T.n_range (@aa _ _ _ _ _ (@aD _ _ _ _ _ _ _ _ _ (eV K) (by rfl) T.n_len PySem.boot_len (@aa _ _ _ _ _ (pv 7) ah (by rfl)) (by decide) (by decide) (by rfl) (by rfl)) ah (by rfl)) (by rfl)) (au (i:=8) bT.nd rfl (Or.inl rfl)) (@ap _ _ _ (@dM _ _ _ _ (@bmK _ _ _ _ _ _ K (@jF _ _ _ _ _ _ _ _ _ _ _ _ PySem.F.plainAttrs_list PySem.F.slot_list_append PySem.F.type_list_append cC (pv 9) (@aa _ _ _ _ _ (@aw _ _ _ _ _ _ _ _ _ _ _ _ _ _ _ _ ji (hr.mono (by decide)) (by rfl) T.m_law_tie T.k_law_tie T.b_law_tie .nil aM (@aa _ _ _ _ _ (@aw _ _ _ _ _ _ _ _ _ _ _ _ _ _ _ _ gl (hr.mono (by decide)) (by rfl) T.m_law_left T.k_law_left T.b_law_left .nil aM (@aa _ _ _ _ _ (@ao _ _ _ _ _ _ _ (ixL K) (pv 7) (pv 8) (fun _ _=>rfl)) (@aa _ _ _ _ _ (@av _ _ _ _ _ _ _ _ cz (pv 8) ae) (@aa _ _ _ _ _ (pv 3) ah (by rfl)) (by rfl)) (by rfl)) (by decide) (by rfl) (by rfl)) (@aa _ _ _ _ _ (pv 5) (@aa _ _ _ _ _ (pv 6) ah (by rfl)) (by rfl)) (by rfl)) (by decide) (by rfl) (by rfl)) ah (by rfl)) (by rfl) (by rfl) (by rfl) (by rfl) (by rfl)) (by rfl)) (by rfl))) (by intro _;rfl)) (@ap _ _ _ (@aC _ _ _ _ (@bB _ _ _ _ _ (@aa _ _ _ _ _ (@bB _ _ _ _ _ (@aa _ _ _ _ _ (pv 5) (@aa _ _ _ _ _ (@cH _ _ _ _ _ _ _ _ _ (mD K) (by rfl) T.n_tuple PyProof.Rows.boot_tuple (@aa _ _ _ _ _ (pv 9) ah (by rfl)) (by decide) (by decide) (by rfl) (by rfl)) ah (by rfl)) (by rfl))) (@aa _ _ _ _ _ (@av _ _ _ _ _ _ _ _ fO (pv 4) (@av _ _ _ _ _ _ _ _ ii ae (pv 1))) ah (by rfl)) (by rfl)))))))))))))),?_⟩
  refine p4 ?_
  intro zz0 zz1 zz2 zz3 zz4 zz5 zz6 zz7 zz8 zz9 zz10 zz11
  refine(exq rfl ⟨b,ns,0,rfl,(by decide),hS,fun z=>(ijq ⟨(kj rfl),?_⟩)⟩)
  refine(exq rfl ⟨b,ns,0,rfl,(by decide),hS,fun z1=>(ijq ⟨⟨by decide,by decide⟩,exq rfl ⟨_,_,_,rfl,fun lf=>?_⟩⟩)⟩)
  refine(exq rfl (exq rfl (ijq ⟨(by(first|lia|omega)),ijq (?_)⟩)))
  obtain⟨p,hp,p1,p2⟩:∃ p:Nat,1+lf%(mp:Int)=(p:Int)∧1≤p∧p≤mp:=by
   obtain⟨h1,h2⟩:=eI lf (mp:Int) (by(first|lia|omega))
   exact⟨(1+lf%(mp:Int)).toNat,by(first|lia|omega),by(first|lia|omega),by(first|lia|omega)⟩
  dsimp only
  rw[hp]
  refine(exq rfl (exq rfl (ijq ⟨⟨by(first|lia|omega),by(first|lia|omega)⟩,ijq ⟨(kj rfl),?_⟩⟩)))
  obtain⟨m,hm,m4⟩:∃ m:Nat,lf/(mp:Int)%4=(m:Int)∧m<4:=by
   obtain⟨h1,h2⟩:=eI (lf/(mp:Int)) 4 (by decide)
   exact⟨(lf/(mp:Int)%4).toNat,by(first|lia|omega),by(first|lia|omega)⟩
  dsimp only
  rw[hm]
  refine(exq rfl (exq rfl (exq rfl (ijq (exq rfl ⟨b,_,rfl,hS,fun c hc=>(lnq rfl (.inl (SqL.of ai)) (fun c2 hc2=>?_))⟩)))))
  have hcut:=ug ns (some 1) (some (1+(mt:Int)))
  have hsx1:HT.sIx ns.length 0 (some (1:Int))=min 1 ns.length:=HT.qv ns.length 0 1
  have hsx2:HT.sIx ns.length ns.length (some (1+(mt:Int)))=min (1+mt) ns.length:=by
   rw[show(1+(mt:Int))=((1+mt:Nat):Int) from by(first|lia|omega)]
   exact HT.qv ns.length ns.length (1+mt)
  have hml:((ns.drop (HT.sIx ns.length 0 (some 1))).take (HT.sIx ns.length ns.length (some (1+(mt:Int)))-HT.sIx ns.length 0 (some 1))).length=min (1+mt) ns.length-min 1 ns.length:=by
   rw[List.length_take,List.length_drop,hsx1,hsx2]
   (first|lia|omega)
  generalize (ns.drop (HT.sIx ns.length 0 (some 1))).take (HT.sIx ns.length ns.length (some (1+(mt:Int)))-HT.sIx ns.length 0 (some 1))=ms at hcut hml
  rw[hcut]at hc2 ⊢
  have s1:am H (upd (upd H c (.lst (ms.map V.int))) c2 (.lst (ms.map V.int))):=(am.new hc).trans (am.new hc2)
  have hH1:upd (upd H c (.lst (ms.map V.int))) c2 (.lst (ms.map V.int)) c2=some (.lst (ms.map V.int)):=ai
  have hc20:H c2=none:=(am.new hc).free hc2
  generalize upd (upd H c (.lst (ms.map V.int))) c2 (.lst (ms.map V.int))=H1 at s1 hH1
  refine(exq rfl (ijq (exq rfl ⟨b,_,rfl,.inl (s1.seq hS),_,_,rfl,⟨by(first|lia|omega),by(first|lia|omega),by rw[List.length_map];(first|lia|omega),by rw[List.length_map];(first|lia|omega)⟩,?_⟩)))
  have hnl:(ns.map V.int).length=ns.length:=List.length_map ..
  refine bH (lo:=1+(mt:Int)) (n:=_) (fun i σ H2=>∃ v8,σ=[some (.ref b),some (.int (mp:Int)),some (.int (mt:Int)),some (.int (z%2)),some (.int lf),some (.int (p:Int)),some (.int (m:Int)),some (.ref c2),v8,none]∧am H H2∧∃ ms',H2 c2=some (.lst (ms'.map V.int))∧ms'.length=ms.length) ⟨none,rfl,s1,ms,hH1,rfl⟩ ?_ ?_
  ·rintro i D' σ H2 hi ⟨v8,rfl,s2,ms',h2,hl2⟩
   rw[hnl]at hi
   obtain⟨j,hj,hjm⟩:∃ j:Nat,(1+(mt:Int)+(i:Int))%(mt:Int)=(j:Int)∧j<mt:=by
    obtain⟨h1,h2⟩:=eI (1+(mt:Int)+(i:Int)) (mt:Int) (by(first|lia|omega))
    exact⟨((1+(mt:Int)+(i:Int))%(mt:Int)).toNat,by(first|lia|omega),by(first|lia|omega)⟩
   have hjl:j<ms'.length:=by(first|lia|omega)
   refine(exq rfl (exq rfl (exq rfl (ijq ⟨(by(first|lia|omega)),ixl (SqL.of h2) ((by rw[hj];exact af (jX hjl))) (ijq ⟨.inr ⟨by decide,by decide⟩,exq rfl (exq rfl ⟨b,_,_,_,rfl,rfl,s2.seq hS,(by rw[show(1+(mt:Int)+(i:Int))=((1+mt+i:Nat):Int) from by(first|lia|omega)];exact af (jX (by(first|lia|omega)))),ijq (?_)⟩)⟩)⟩))))
   refine(exq rfl (exq rfl (exq rfl (ijq ⟨(by(first|lia|omega)),c2,_,_,j,rfl,rfl,h2,(by rw[hj,List.length_map];exact gF hjl),?_⟩))))
   refine(exq rfl ⟨s2.put hc20,ms'.set j (ms'.getD j 0*31+ns.getD (1+mt+i) 0),?_,by rw[List.length_set,hl2]⟩)
   rw[ai,List.map_set]
  ·rintro σ H2 ⟨v8,rfl,s2,ms',h2,hl2⟩
   have fin:∀(n:Nat) (H1:Hp) (D:Addr) (H2:Hp),am H H1→kF (p:Int) H1 D n H2→n≤mt→∃ acc,H2 D=some (.lst acc)∧∀ l',H2 l' = none→([V.int (p:Int),.ref l']:List V).length≤sizeLine∧∀ w',upd H2 l' (.tup acc) w' = none→∀ zz r,upd (upd H2 l' (.tup acc)) w' (.tup [.int (p:Int),.ref l']) r=none→Q (.ref r) (upd (upd (upd H2 l' (.tup acc)) w' (.tup [.int (p:Int),.ref l'])) r (.tup [.ref w',.int zz])):=by
    intro n H1 D H2 s1 ht hnm
    obtain⟨acc,ts,hd,hl,gt,z⟩:=ht.fin
    refine⟨acc,hd,fun l' hl'=>⟨dl rfl,fun w' hw zz r hr=>?_⟩⟩
    obtain⟨z1,z2⟩:=z l' hl' w' hw
    exact q r w' p ts zz _ ((s1.trans z1).trans (am.new hr)) ⟨p1,by(first|lia|omega),by(first|lia|omega),gt⟩ p2 (by(first|lia|omega)) (z2.same (am.new hr)) ai
   refine(exq rfl ⟨rfl,exq rfl (?_)⟩)
   by_cases hp1:p=1
   case' pos =>
    refine qb (by rw[hp1];rfl) ⟨dl rfl,fun cc hcc=>?_⟩
    have s3:am H (upd H2 cc (.lst [])):=s2.trans (am.new hcc)
    have h3:upd H2 cc (.lst []) cc=some (.lst (([]:List Int).map V.int)):=ai
    have hx:([]:List Int).length≤mt∧(([]:List Int).length≠0→2≤p):=⟨Nat.zero_le _,fun z=>absurd rfl z⟩
    generalize upd H2 cc (.lst [])=H3 at s3 h3
    generalize ([]:List Int)=mx at h3 hx
   case' neg =>
    refine jN (fun z=>hp1 (by have:=V.int.inj z;(first|lia|omega))) ?_
    have s3:=s2
    have h3:=h2
    have hx:ms'.length≤mt∧(ms'.length≠0→2≤p):=⟨by(first|lia|omega),fun _=>by(first|lia|omega)⟩
    generalize H2=H3 at s3 h3
    generalize ms' = mx at h3 hx
    generalize c2=cc at h3
   all_goals (
    refine⟨dl rfl,fun D hD=>?_⟩
    have t0:kF (p:Int) H3 D 0 (upd H3 D (.lst [])):=kF.start hD
    have h4:=t0.1 _ _ h3
    generalize upd H3 D (.lst [])=H4 at t0 h4
    refine(exq rfl (lnq rfl (.inl (SqL.of h4)) (exq rfl ⟨(by rw[List.length_map];(first|lia|omega)),(by rw[List.length_map];(first|lia|omega)),?_⟩)))
    refine bH (lo:=0) (n:=(((mx.map V.int).length:Nat):Int).toNat) (fun i σ H5=>∃ v8,σ=[some (.ref b),some (.int (mp:Int)),some (.int (mt:Int)),some (.int (z%2)),some (.int lf),some (.int (p:Int)),some (.int (m:Int)),some (.ref cc),v8,some (.ref D)]∧kF (p:Int) H3 D i H5) (exq rfl (t0)) ?_ ?_
    ·rintro i D' σ H5 hi ⟨v8,rfl,t5⟩
     rw[Int.toNat_natCast,List.length_map]at hi
     rw[Int.zero_add]
     have hp2' : 2≤p:=hx.2 (by(first|lia|omega))
     have hD5:∃ acc,H5 D=some (.lst acc):=let⟨_,acc,_,z,_⟩:=t5;⟨acc,z⟩
     obtain⟨acc0,hD5⟩:=hD5
     refine(exq rfl ⟨.inl ⟨rfl,_,SqL.of hD5⟩,exq rfl (exq rfl (ixl (SqL.of (t5.1 _ _ h3)) (af (j:=i) (jX hi)) (exq rfl (ijq (exq rfl ⟨_,_,_,rfl,fun zl=>?_⟩)))))⟩)
     refine(exq rfl (exq rfl ⟨zl,p,m,rfl,hp2',by(first|lia|omega),m4,fun t bb H6 s6 gt hb=>?_⟩))
     obtain⟨acc,hD6,hac,t7⟩:=t5.push hD s6 gt hb
     exact⟨D,acc,_,rfl,rfl,hD6,i9 (by(first|lia|omega)),exq rfl (t7)⟩
    ·rintro σ H5 ⟨v8,rfl,t5⟩
     rw[Int.toNat_natCast,List.length_map]at t5
     obtain⟨acc,hD5,zf⟩:=fin _ H3 D H5 s3 t5 hx.1
     refine(exq rfl (exq rfl ⟨D,acc,rfl,.inl ⟨SqL.of hD5,fun l' hl'=>⟨(zf l' hl').1,fun w' hw'=>?_⟩⟩⟩))
     exact(exq rfl (exq rfl (ijq ⟨.inl ⟨by decide,by decide⟩,ijq ⟨⟨by show(0:Int)<4*(mp:Int);(first|lia|omega),by show 4*(mp:Int)<_;(first|lia|omega)⟩,dl rfl,fun r hr=>(zf l' hl').2 w' hw' _ r hr⟩⟩))))
end
theorem rS{p:Nat}{ts:List Tie}{g:GoodWeb p ts}{m x:Nat}(hm:m<2^ts.length):(aI (m:Int)).filter (fun t=>decide ((ad p ts g).a t=x∨(ad p ts g).b t=x))=(ad p ts g).tiesAt m x:=by
 rw[dP hm,List.filter_filter]
 unfold RM.Net.tiesAt
 refine List.filter_congr fun k _=>?_
 rw[Bool.and_comm,Bool.decide_or]
theorem wA(x u v:Nat):inV (.int (x:Int)) [.int (u:Int),.int (v:Int)]=decide (u=x∨v=x):=by
 have e:([.int (u:Int),.int (v:Int)]:List V)=aJ [u,v]:=rfl
 rw[e,fA]
 refine decide_eq_decide.mpr ?_
 simp[eq_comm]
theorem rj(u v z:V):lC [u,v,z] none (some 2)=[u,v]:=rfl
def gA:Sp:=fun vs H Q _=>∃ w p ts,∃ g:GoodWeb p ts,∃ S,∃ m:Nat,vs=[.ref w,.int S]∧S=(m:Int)∧WebAt H w p ts∧m<2^ts.length∧
 ((ad p ts g).Ring m→∀ D H' t0 acc v,H D=none→am H H'→m.testBit t0=true→(aI (m:Int))[0]?=some t0→RM.Wk (ad p ts g) m t0 acc v 0→gy H' D acc→Q (.ref D) H')∧(¬(ad p ts g).Ring m→∀ H',am H H'→Q .non H')
theorem wY(l:List V)(v:V):atI (l++[v]) (-1)=some v:=by
 unfold atI ixN
 have hl:(l++[v]).length=l.length+1:=by rw[List.length_append];rfl
 rw[if_neg (by decide),hl,if_pos (by(first|lia|omega))]
 have e:((-1:Int)+((l.length+1:Nat):Int)).toNat=l.length:=by(first|lia|omega)
 show(l++[v])[((-1:Int)+((l.length+1:Nat):Int)).toNat]?=_
 rw[e,List.getElem?_append_right (Nat.le_refl _)]
 simp
theorem jG{α β:Type}{F:α→β→Prop}{y:β}:∀{l:List α} {r:List β},Paired F l (r++[y])→∃ l' x,l=l'++[x]∧F x y
 | _,[],.cons h .nil=>⟨[],_,rfl,h⟩
 | _,_::r,.cons _ h=>by
   obtain⟨l',x,e,hx⟩:=jG (r:=r) h
   exact⟨_::l',x,by rw[e];rfl,hx⟩
theorem rK{p:Nat}{ts:List Tie}{g:GoodWeb p ts}{l:List Nat}{i k:Nat}(hk:l[i]?=some k)(hkl:k<ts.length):
 (fun j=>if j=(ad p ts g).b k then(if j=(ad p ts g).a k then(l.take i).filter (fun t=>decide ((ad p ts g).a t=j∨(ad p ts g).b t=j))++[k] else(l.take i).filter (fun t=>decide ((ad p ts g).a t=j∨(ad p ts g).b t=j)))++[k]
  else(if j=(ad p ts g).a k then(l.take i).filter (fun t=>decide ((ad p ts g).a t=j∨(ad p ts g).b t=j))++[k] else(l.take i).filter (fun t=>decide ((ad p ts g).a t=j∨(ad p ts g).b t=j)))) =
 fun j=>(l.take (i+1)).filter (fun t=>decide ((ad p ts g).a t=j∨(ad p ts g).b t=j)):=by
 funext j
 have ne:=(ad p ts g).ne k hkl
 rw[List.take_add_one,hk,List.filter_append]
 by_cases e1:j=(ad p ts g).b k
 ·have e2 : ¬ j=(ad p ts g).a k:=fun z=>ne (z.symm.trans e1)
  rw[if_pos e1,if_neg e2]
  congr 1
  show[k]=[k].filter _
  rw[List.filter_cons,if_pos (decide_eq_true (.inr e1.symm))]
  rfl
 ·rw[if_neg e1]
  by_cases e2:j=(ad p ts g).a k
  ·rw[if_pos e2]
   congr 1
   show[k]=[k].filter _
   rw[List.filter_cons,if_pos (decide_eq_true (.inl e2.symm))]
   rfl
  ·rw[if_neg e2]
   have:(some k).toList.filter (fun t=>decide ((ad p ts g).a t=j∨(ad p ts g).b t=j))=[]:=by
    show[k].filter _=_
    rw[List.filter_cons,if_neg (by rw[decide_eq_true_eq];exact fun z=>z.elim (fun z=>e2 z.symm) (fun z=>e1 z.symm))]
    rfl
   rw[this,List.append_nil]
section
variable {P:Program}{w:World}{K:PySem.W.Frag}{mg:Str→Option Value}{base:Heap}{a:Adr}
theorem dD(T:Txt K mg a):FnOk P w K mg base CX0 1 a.f_law_walk a.d_law_walk ["web","some"] gA:=by
 refine T.F_law_walk.ok bE (fun vs H Q E h=>?_) (fun cdv A outer s H vs Q E hr h=>?_)
 ·obtain⟨w,p,ts,g,S,m,rfl,_⟩:=h
  rfl
 ·obtain⟨wb,p,ts,g,S,m,rfl,rfl,hw,hm,q1,q2⟩:=h
  refine⟨_,(@aj _ _ _ _ _ (@d7 _ _ _ _ _ _ _ ["point"] [] [] _ _ _ _ 2 _ _ _ bE.nd rfl rfl (aE (ag cj) ["web","some","ends","ties","k","start","at","walk","tie"]) rfl (@aH _ _ _ _ _ _ (by rfl) T.n_range (@aa _ _ _ _ _ (@ao _ _ _ _ _ _ _ (ixT K) (pv 0) ae (fun _ _=>rfl)) ah (by rfl)) (by rfl)) (fun _ _ _ _=>(au (i:=0) (show(["point"]:List Str).Nodup by decide +kernel) rfl (Or.inl rfl))) (fun _ _ _ _=>db) (fun _ _ _ _=>(da ah)) (by rfl) (by intro _;rfl)) (@aj _ _ _ _ _ (@d7 _ _ _ _ _ _ _ ["k"] ["some"] [1] _ _ _ _ 3 _ _ _ bE.nd rfl rfl (aE (ag cj) ["web","some","ends","ties","k","start","at","walk","tie"]) rfl (@aH _ _ _ _ _ _ (by rfl) T.n_range (@aa _ _ _ _ _ (@aD _ _ _ _ _ _ _ _ _ (eV K) (by rfl) T.n_len PySem.boot_len (@aa _ _ _ _ _ (@ao _ _ _ _ _ _ _ (ixT K) (pv 0) ae (fun _ _=>rfl)) ah (by rfl)) (by decide) (by decide) (by rfl) (by rfl)) ah (by rfl)) (by rfl)) (fun _ _ _ _=>(au (i:=0) (show(["k","some"]:List Str).Nodup by decide +kernel) rfl (Or.inl rfl))) (fun _ _ _ _=>(dL (az dZ (av gs (av i8 (pv 1) (pv 0)) ae) ae (aA _)))) (fun _ _ _ _=>(pv 0)) (by rfl) (by intro _;rfl)) (@aj _ _ _ _ _ (@ck _ _ _ _ _ _ _ _ PassesOwn.never rfl (@piL _ _ _ _ K (pv 3) (by rfl)) (au (i:=4) bE.nd rfl (Or.inl rfl)) (@aj _ _ _ _ _ (@dM _ _ _ _ (@bmK _ _ _ _ _ _ K (@jF _ _ _ _ _ _ _ _ _ _ _ _ PySem.F.plainAttrs_list PySem.F.slot_list_append PySem.F.type_list_append cC (@ao _ _ _ _ _ _ _ (ixL K) (pv 2) (@ao _ _ _ _ _ _ _ (ixT K) (@ao _ _ _ _ _ _ _ (ixT K) (@ao _ _ _ _ _ _ _ (ixT K) (pv 0) ae (fun _ _=>rfl)) (pv 4) (fun _ _=>rfl)) ae (fun _ _=>rfl)) (fun _ _=>rfl)) (@aa _ _ _ _ _ (pv 4) ah (by rfl)) (by rfl) (by rfl) (by rfl) (by rfl) (by rfl)) (by rfl)) (by rfl)) (@ap _ _ _ (@dM _ _ _ _ (@bmK _ _ _ _ _ _ K (@jF _ _ _ _ _ _ _ _ _ _ _ _ PySem.F.plainAttrs_list PySem.F.slot_list_append PySem.F.type_list_append cC (@ao _ _ _ _ _ _ _ (ixL K) (pv 2) (@ao _ _ _ _ _ _ _ (ixT K) (@ao _ _ _ _ _ _ _ (ixT K) (@ao _ _ _ _ _ _ _ (ixT K) (pv 0) ae (fun _ _=>rfl)) (pv 4) (fun _ _=>rfl)) ae (fun _ _=>rfl)) (fun _ _=>rfl)) (@aa _ _ _ _ _ (pv 4) ah (by rfl)) (by rfl) (by rfl) (by rfl) (by rfl) (by rfl)) (by rfl)) (by rfl)))) (by intro _;rfl)) (@aj _ _ _ _ _ (@bI _ _ _ _ _ _ _ _ (PW.pt (@iM _ _ _ _ _ _ _ (@az _ _ _ _ _ _ _ _ (ll K hr.units) (pv 3) (@da _ _ _ _ ah) (aA _)) (@hU _ _ _ _ (@az _ _ _ _ _ _ _ _ qY (@aD _ _ _ _ _ _ _ _ _ (eV K) (by rfl) T.n_len PySem.boot_len (@aa _ _ _ _ _ (@cK _ _ _ _ _ _ _ ["row"] [] [] _ _ _ _ (aE (ag cj) ["web","some","ends","ties","k","start","at","walk","tie"]) rfl (@piL _ _ _ _ K (pv 2) (by rfl)) (fun _ _ _ _=>(au (i:=0) (show(["row"]:List Str).Nodup by decide +kernel) rfl (Or.inl rfl))) (fun _ _ _ _=>(dL (az (uw K) (aD (eV K) (by rfl) T.n_len PySem.boot_len (aa (pv 0) ah)) (bB (aa ae (aa ae ah))) (by with_unfolding_all rfl)))) (fun _ _ _ _=>(pv 0)) (by intro _;rfl)) ah (by rfl)) (by decide) (by decide) (by rfl) (by rfl)) ae (aA _))))) (@ap _ _ _ (@aC _ _ _ _ bU)) aO) (@aj _ _ _ _ _ (@fi _ _ _ _ _ _ (@kI _ _ _ _ _ _ _ _ _ _ (yd) (@ao _ _ _ _ _ _ _ (ixT K) (@ao _ _ _ _ _ _ _ (ixT K) (pv 0) ae (fun _ _=>rfl)) (@ao _ _ _ _ _ _ _ (ixL K) (pv 3) ae (fun _ _=>rfl)) (fun _ _=>rfl)) qz (@jW _ _ _ ae)) (@pgT _ _ K _ _ 2 _ rfl (@aN _ _ _ _ _ (au (i:=5) bE.nd rfl (Or.inl rfl)) (@aN _ _ _ _ _ (au (i:=6) bE.nd rfl (Or.inl rfl)) dh (by rfl)) (by rfl)) (by rfl) (by rfl) (by rfl)) (by rfl) (by rfl) (by rfl)) (@aj _ _ _ _ _ (@aB _ _ 7 _ _ _ _ bE.nd rfl (Or.inl rfl) (@da _ _ _ _ (@aa _ _ _ _ _ (@bB _ _ _ _ _ (@aa _ _ _ _ _ (@ao _ _ _ _ _ _ _ (ixL K) (pv 3) ae (fun _ _=>rfl)) (@aa _ _ _ _ _ ae ah (by rfl)) (by rfl))) ah (by rfl))) (by rfl) (by first | exact .inl rfl | exact .inr rfl | assumption)) (@aj _ _ _ _ _ (@kM _ _ _ _ _ _ PassesOwn.never (@az _ _ _ _ _ _ _ _ jy (pv 6) (pv 5) (aA _)) (@aj _ _ _ _ _ (@aB _ _ 8 _ _ _ _ bE.nd rfl (Or.inl rfl) (@av _ _ _ _ _ _ _ _ nk (@aD _ _ _ _ _ _ _ _ _ (xG K rfl) (by rfl) T.n_sum PyProof.Rows.boot_sum (@aa _ _ _ _ _ (@ao _ _ _ _ _ _ _ (ixL K) (pv 2) (pv 6) (fun _ _=>rfl)) ah (by rfl)) (by decide) (by decide) (by rfl) (by rfl)) (@ao _ _ _ _ _ _ _ (ixT K) (@ao _ _ _ _ _ _ _ (ixL K) (pv 7) (@rk _ _ _ _ _ _ m7 ae) (fun _ _=>rfl)) ae (fun _ _=>rfl))) (by rfl) (by first | exact .inl rfl | exact .inr rfl | assumption)) (@ap _ _ _ (@bI _ _ _ _ _ _ _ _ (@az _ _ _ _ _ _ _ _ dZ (@ao _ _ _ _ _ _ _ (ixT K) (@ao _ _ _ _ _ _ _ (ixT K) (@ao _ _ _ _ _ _ _ (ixT K) (pv 0) ae (fun _ _=>rfl)) (pv 8) (fun _ _=>rfl)) ae (fun _ _=>rfl)) (pv 6) (aA _)) (@aj _ _ _ _ _ (@dM _ _ _ _ (@bmK _ _ _ _ _ _ K (@jF _ _ _ _ _ _ _ _ _ _ _ _ PySem.F.plainAttrs_list PySem.F.slot_list_append PySem.F.type_list_append cC (pv 7) (@aa _ _ _ _ _ (@bB _ _ _ _ _ (@aa _ _ _ _ _ (pv 8) (@aa _ _ _ _ _ ae ah (by rfl)) (by rfl))) ah (by rfl)) (by rfl) (by rfl) (by rfl) (by rfl) (by rfl)) (by rfl)) (by rfl)) (@ap _ _ _ (@aB _ _ 6 _ _ _ _ bE.nd rfl (Or.inl rfl) (@ao _ _ _ _ _ _ _ (ixT K) (@ao _ _ _ _ _ _ _ (ixT K) (@ao _ _ _ _ _ _ _ (ixT K) (pv 0) ae (fun _ _=>rfl)) (pv 8) (fun _ _=>rfl)) ae (fun _ _=>rfl)) (by rfl) (by first | exact .inl rfl | exact .inr rfl | assumption)))) (@aj _ _ _ _ _ (@dM _ _ _ _ (@bmK _ _ _ _ _ _ K (@jF _ _ _ _ _ _ _ _ _ _ _ _ PySem.F.plainAttrs_list PySem.F.slot_list_append PySem.F.type_list_append cC (pv 7) (@aa _ _ _ _ _ (@bB _ _ _ _ _ (@aa _ _ _ _ _ (pv 8) (@aa _ _ _ _ _ (@rk _ _ _ _ _ _ m7 ae) ah (by rfl)) (by rfl))) ah (by rfl)) (by rfl) (by rfl) (by rfl) (by rfl) (by rfl)) (by rfl)) (by rfl)) (@ap _ _ _ (@aB _ _ 6 _ _ _ _ bE.nd rfl (Or.inl rfl) (@ao _ _ _ _ _ _ _ (ixT K) (@ao _ _ _ _ _ _ _ (ixT K) (@ao _ _ _ _ _ _ _ (ixT K) (pv 0) ae (fun _ _=>rfl)) (pv 8) (fun _ _=>rfl)) ae (fun _ _=>rfl)) (by rfl) (by first | exact .inl rfl | exact .inr rfl | assumption)))))))) (@aj _ _ _ _ _ (@bI _ _ _ _ _ _ _ _ (@az _ _ _ _ _ _ _ _ jy (@aD _ _ _ _ _ _ _ _ _ (eV K) (by rfl) T.n_len PySem.boot_len (@aa _ _ _ _ _ (pv 7) ah (by rfl)) (by decide) (by decide) (by rfl) (by rfl)) (@aD _ _ _ _ _ _ _ _ _ (eV K) (by rfl) T.n_len PySem.boot_len (@aa _ _ _ _ _ (pv 3) ah (by rfl)) (by decide) (by decide) (by rfl) (by rfl)) (aA _)) (@ap _ _ _ (@aC _ _ _ _ bU)) aO) (@ap _ _ _ (@aC _ _ _ _ (pv 7))))))))))),?_⟩
  refine nU ?_
  intro zz0 zz1 zz2 zz3 zz4 zz5 zz6 zz7 zz8 zz9 zz10 zz11 zz12 zz13 zz14 zz15 zz16 zz17
  obtain⟨bt,xs,h1,h2,h3⟩:=id hw.ex
  have hxl:=h3.length
  have wl:=g.len
  have wp:=g.p2
  refine(exq rfl (ixq (SqT.of h1) (af (j:=0) rfl) (exq rfl ⟨(by(first|lia|omega)),(by(first|lia|omega)),fun E hE=>bo (lo:=0) (m:=p) (jx H E) (.start hE) (fun i acc H2 _ f=>f.len) (dN (by(first|lia|omega))) ?_ ?_⟩)))
  ·intro i acc H2 hi f
   exact⟨rfl,dl rfl,fun b hb=>f.next hb⟩
  intro acc H1 f
  obtain⟨es,rfl,hel,R1⟩:=f
  refine(exq rfl (ixq (SqT.of (R1.same _ _ h1)) (af (j:=1) rfl) (lnq rfl (.inr (SqT.of (R1.same _ _ h2))) (exq rfl ⟨(by(first|lia|omega)),(by(first|lia|omega)),fun L hL=>bo (lo:=0) (m:=xs.length) (gX (bit (m:Int)) H1 L) (.start hL) (fun i acc H2 _ p=>p.len) (dN (by(first|lia|omega))) ?_ ?_⟩))))
  ·intro i acc H2 hi pk
   rw[Int.zero_add]
   refine⟨rfl,exq rfl (exq rfl (ijq ⟨(by(first|lia|omega)),ijq ⟨rfl,exq rfl (?_)⟩⟩))⟩
   rw[Int.toNat_natCast,pW]
   cases hb:bit (m:Int) i with
   | true=>exact(exq rfl (pk.yes hL (am.refl _) hb))
   | false=>exact pk.no (am.refl _) hb
  intro acc H2 pk
  have hL2:H2 L=some (.lst (aJ (aI (m:Int)))):=by
   rw[pk.2.1,pk.2.2,dP hm,hxl]
   show some (HO.lst (aJ ((List.range ts.length).filter (bit (m:Int)))))=_
   rw[show bit (m:Int)=fun k=>m.testBit k from funext fun k=>cJ m k]
  have R2:=R1.go pk.1
  have hLH:H L=none:=R1.same.free hL
  have hLes:L∉es:=fun z=>by
   obtain⟨j,hj⟩:=List.getElem?_of_mem z
   have:=R1.at_ j L hj
   rw[hL]at this
   cases this
  refine(exq rfl ⟨L,rfl,⟨_,SqL.of hL2⟩,fC (K:=K) (a:=L) (xs:=aJ (aI (m:Int))) (fun i σ H3=>∃ v4,σ=[some (.ref wb),some (.int (m:Int)),some (.ref E),some (.ref L),v4,none,none,none,none]∧Rows H E es (fun x=>((aI (m:Int)).take i).filter (fun t=>decide ((ad p ts g).a t=x∨(ad p ts g).b t=x))) H3∧H3 L=some (.lst (aJ (aI (m:Int)))))
   ⟨none,rfl,R2,hL2⟩ (fun i σ H3 _ ⟨_,_,_,z⟩=>SqL.of z) ?_ ?_⟩)
  ·rintro i y D' σ H3 hi ⟨v4,rfl,R3,hL3⟩
   obtain⟨k,hk,rfl⟩:=jr hi
   have hkl:k<ts.length:=u8 hm (List.mem_of_getElem? hk)
   obtain⟨c,hxc,hct⟩:=gj (g:=g) h3 hkl
   have ha:=(ad p ts g).al k hkl
   have hb:=(ad p ts g).bl k hkl
   have ha:(ad p ts g).a k<p:=ha
   have hb:(ad p ts g).b k<p:=hb
   obtain⟨ba,ga,ea,va⟩:=R3.get (i:=(ad p ts g).a k) (by(first|lia|omega))
   have s3:=R3.same
   have hti:((aI (m:Int)).take i).length≤24:=by
    have h1:(aI (m:Int)).length≤ts.length:=by rw[dP hm];exact Nat.le_trans (List.length_filter_le _ _) (by rw[List.length_range];exact Nat.le_refl _)
    have h2:=List.length_take_le i (aI (m:Int))
    have h3:=List.length_take_le' i (aI (m:Int))
    (first|lia|omega)
   refine(exq rfl (exq rfl (ixq (SqT.of (s3 _ _ h1)) (af (j:=1) rfl) (exq rfl (ixq (SqT.of (s3 _ _ h2)) (af (j:=k) hxc) (ixq (SqT.of (s3 _ _ hct)) (af (j:=0) rfl) (ixl (SqL.of R3.lst) (af (j:=(ad p ts g).a k) ga) ⟨.inl ⟨rfl,_,SqL.of va⟩,exq rfl ⟨ba,_,_,rfl,rfl,va,i9 (by rw[cr];have:=List.length_filter_le (fun t=>decide ((ad p ts g).a t=(ad p ts g).a k∨(ad p ts g).b t=(ad p ts g).a k)) ((aI (m:Int)).take i);(first|lia|omega)),?_⟩⟩)))))))
   have R4:=R3.push (k:=k) ea
   have hL4:upd H3 ba (.lst (aJ (((aI (m:Int)).take i).filter (fun t=>decide ((ad p ts g).a t=(ad p ts g).a k∨(ad p ts g).b t=(ad p ts g).a k)))++[.int (k:Int)])) L=some (.lst (aJ (aI (m:Int)))):=by
    rw[ak (fun z:L=ba=>hLes (z▸List.mem_of_getElem? ea))]
    exact hL3
   generalize upd H3 ba (.lst (aJ (((aI (m:Int)).take i).filter (fun t=>decide ((ad p ts g).a t=(ad p ts g).a k∨(ad p ts g).b t=(ad p ts g).a k)))++[.int (k:Int)]))=H4 at R4 hL4
   obtain⟨bb,gb,eb,vb⟩:=R4.get (i:=(ad p ts g).b k) (by(first|lia|omega))
   have s4:=R4.same
   have ne : ¬(ad p ts g).b k=(ad p ts g).a k:=fun z=>(ad p ts g).ne k hkl z.symm
   refine(exq rfl (exq rfl (ixq (SqT.of (s4 _ _ h1)) (af (j:=1) rfl) (exq rfl (ixq (SqT.of (s4 _ _ h2)) (af (j:=k) hxc) (ixq (SqT.of (s4 _ _ hct)) (af (j:=1) rfl) (ixl (SqL.of R4.lst) (af (j:=(ad p ts g).b k) gb) ⟨.inl ⟨rfl,_,SqL.of vb⟩,exq rfl ⟨bb,_,_,rfl,rfl,vb,i9 (by rw[cr,if_neg ne];have:=List.length_filter_le (fun t=>decide ((ad p ts g).a t=(ad p ts g).b k∨(ad p ts g).b t=(ad p ts g).b k)) ((aI (m:Int)).take i);(first|lia|omega)),?_⟩⟩)))))))
   have R5:=R4.push (k:=k) eb
   rw[rK hk hkl]at R5
   exact(exq rfl ⟨R5,by rw[ak (fun z:L=bb=>hLes (z▸List.mem_of_getElem? eb))];exact hL4⟩)
  rintro σ H3 ⟨v4,rfl,R3,hL3⟩
  rw[cr,List.take_length,show(fun x=>(aI (m:Int)).filter (fun t=>decide ((ad p ts g).a t=x∨(ad p ts g).b t=x)))=fun x=>(ad p ts g).tiesAt m x from funext fun x=>rS hm]at R3
  refine(exq rfl ⟨dl rfl,fun l hl=>⟨_,_,.lst (SqL.of (am.new hl _ _ hL3)) (kr _),.lst (SqL.of ai) .nil,nN _,rfl,exq rfl (?_)⟩⟩)
  rw[vL]
  have R4:=R3.go (am.new (o:=.lst []) hl)
  have hL4:upd H3 l (.lst []) L=_:=am.new hl _ _ hL3
  generalize upd H3 l (.lst [])=H4 at R4 hL4
  by_cases hz:aI (m:Int)=[]
  ·rw[decide_eq_true hz]
   refine d6 (d6 (q2 (fun r=>?_) H4 R4.same))
   obtain⟨c,hc0,_⟩:=lU r.1
   rw[hz]at hc0
   cases hc0
  rw[decide_eq_false hz]
  refine dr ?_
  refine(exq rfl ⟨E,rfl,⟨_,SqL.of R4.lst⟩,fun C hC=>ez (xs:=es.map V.ref) (fun i acc H5=>am H4 H5∧H5 C=some (.lst acc)∧acc.length=RM.cnt (fun x=>!decide (0=(ad p ts g).dg m x∨2=(ad p ts g).dg m x)) i) ⟨am.new hC,ai,rfl⟩
   (fun i acc H5 hi f=>⟨SqL.of (f.1 _ _ R4.lst),f.2.1,by have:=RM.iu (fun x=>!decide (0=(ad p ts g).dg m x∨2=(ad p ts g).dg m x)) i;have:=f.2.2;(first|lia|omega)⟩) (dN (by rw[List.length_map];(first|lia|omega))) ?_ ?_⟩)
  ·rintro i y acc H5 hy ⟨f1,f2,f3⟩
   rw[List.getElem?_map]at hy
   obtain⟨b,hb,rfl⟩:=Option.map_eq_some_iff.mp hy
   have hb5:=f1 _ _ (R4.at_ i b hb)
   refine⟨rfl,exq rfl (lnq rfl (.inl (SqL.of hb5)) ⟨dl rfl,fun u hu=>(lnq rfl (.inr (SqT.of ai)) ⟨rfl,rfl,exq rfl (?_)⟩)⟩)⟩
   have e:inV (.int (((aJ ((ad p ts g).tiesAt m i)).length:Nat):Int)) [.int 0,.int 2]=decide (0=(ad p ts g).dg m i∨2=(ad p ts g).dg m i):=by
    rw[cr,RM.kh]
    exact wA _ 0 2
   have hc1:RM.cnt (fun x=>!decide (0=(ad p ts g).dg m x∨2=(ad p ts g).dg m x)) (i+1)=RM.cnt (fun x=>!decide (0=(ad p ts g).dg m x∨2=(ad p ts g).dg m x)) i+if(!decide (0=(ad p ts g).dg m i∨2=(ad p ts g).dg m i))=true then 1 else 0:=rfl
   dsimp only
   rw[if_pos rfl,e]
   have hCu:C≠u:=bS f2 hu
   cases hb:decide (0=(ad p ts g).dg m i∨2=(ad p ts g).dg m i) with
   | false =>
     rw[hb]at hc1
     refine d6 (exq rfl ⟨by rw[ak hCu];exact f2,(f1.trans (am.new hu)).put hC,ai,?_⟩)
     rw[List.length_append,hc1,f3]
     rfl
   | true =>
     rw[hb]at hc1
     exact dr ⟨f1.trans (am.new hu),by rw[ak hCu];exact f2,by rw[hc1,f3];rfl⟩
  rintro acc H5 ⟨f1,f2,f3⟩
  refine(lnq rfl (.inl (SqL.of f2)) (ijq (exq rfl (?_))))
  rw[List.length_map,hel]at f3
  have R5:=R4.go f1
  have hL5:=f1 _ _ hL4
  by_cases hD:(ad p ts g).D2 m
  case neg =>
   have hpos:(0:Int)<((acc.length:Nat):Int):=by
    have:0<acc.length:=by
     rw[f3]
     apply Classical.byContradiction
     intro hz
     refine hD fun x hx=>?_
     cases hc:decide (0=(ad p ts g).dg m x∨2=(ad p ts g).dg m x) with
     | true=>exact(of_decide_eq_true hc).elim (fun z=>.inl z.symm) (fun z=>.inr z.symm)
     | false=>exact absurd (RM.gM (f:=fun x=>!decide (0=(ad p ts g).dg m x∨2=(ad p ts g).dg m x)) (k:=x) (by rw[hc];rfl) hx) hz
    (first|lia|omega)
   rw[decide_eq_true hpos]
   exact d6 (q2 (fun r=>hD (RM.vf hm r)) H5 R5.same)
  have hz0 : ¬(0:Int)<((acc.length:Nat):Int):=fun z=>by
   have z:0<acc.length:=by(first|lia|omega)
   rw[f3]at z
   obtain⟨x,hx,hxf⟩:=RM.iq z
   rw[Bool.not_eq_true',decide_eq_false_iff_not]at hxf
   exact hxf ((hD x hx).elim (fun z=>.inl z.symm) (fun z=>.inr z.symm))
  rw[decide_eq_false hz0]
  refine dr ?_
  have hm0:m≠0:=fun z=>hz (by rw[z];rfl)
  obtain⟨c,hc0,hcb⟩:=lU hm0
  have hcl:=RM.bX hm hcb
  obtain⟨b,hxb,hct⟩:=gj (g:=g) h3 hcl
  have s5:=R5.same
  refine(exq rfl (ixq (SqT.of (s5 _ _ h1)) (af (j:=1) rfl) (exq rfl (ixl (SqL.of hL5) (af (j:=0) (mV hc0)) (ixq (SqT.of (s5 _ _ h2)) (af (j:=c) hxb) ⟨2,rfl,b,_,rfl,s5 _ _ hct,fun u H6 s6 hu=>?_⟩)))))
  rw[rj]at hu
  refine⟨u,_,rfl,SqT.of hu,rfl,_,_,rfl,_,_,rfl,rfl,?_⟩
  have R6:=R5.go s6
  have hL6:=s6 _ _ hL5
  refine(exq rfl (ixl (SqL.of hL6) (af (j:=0) (mV hc0)) ⟨dl rfl,fun b0 hb0=>⟨dl rfl,fun Dw hDw=>?_⟩⟩))
  have s7:am H6 (upd (upd H6 b0 (.tup [.int ((c:Nat):Int),.int 1])) Dw (.lst [.ref b0])):=(am.new hb0).trans (am.new hDw)
  have hDn:H6 Dw=none:=(am.new hb0).free hDw
  have hDH:H Dw=none:=R6.same.free hDn
  have w7:gy (upd (upd H6 b0 (.tup [.int ((c:Nat):Int),.int 1])) Dw (.lst [.ref b0])) Dw [(c,1)] :=
   ⟨[.ref b0],ai,.cons ⟨b0,rfl,am.new hDw _ _ ai⟩ .nil⟩
  generalize upd (upd H6 b0 (.tup [.int ((c:Nat):Int),.int 1])) Dw (.lst [.ref b0])=H7 at s7 w7
  refine⟨fun k σ H8=>∃ acc v left v8,σ=[some (.ref wb),some (.int (m:Int)),some (.ref E),some (.ref L),v4,some (.int (((ad p ts g).a c:Nat):Int)),some (.int ((v:Nat):Int)),some (.ref Dw),v8]∧am H6 H8∧gy H8 Dw acc∧RM.Wk (ad p ts g) m c acc v left∧k=RM.cnt (fun j=>left.testBit j) ts.length,⟨_,[(c,1)],(ad p ts g).b c,m^^^2^c,none,rfl,s7,w7,.start,rfl⟩,?_⟩
  rintro k σ H8 ⟨acc,v,left,v8,rfl,s8,w8,wk,rfl⟩
  refine(exq rfl (exq rfl ⟨rfl,exq rfl (?_)⟩))
  rw[gJ]
  have R8:=R6.go s8
  have hL8:=s8 _ _ hL6
  obtain⟨ws,hws,hwp⟩:=id w8
  have hlen:acc.length+RM.cnt (fun j=>left.testBit j) ts.length=RM.cnt (fun j=>m.testBit j) ts.length:=RM.lj hm hcb wk
  by_cases e:v=(ad p ts g).a c
  ·subst e
   rw[decide_eq_true rfl]
   refine dr (exq rfl (lnq rfl (.inl (SqL.of hws)) (exq rfl (lnq rfl (.inl (SqL.of hL8)) ⟨rfl,exq rfl (?_)⟩))))
   rw[cr,gJ,hwp.length,oF hm]
   have hfull:acc.length=RM.cnt (fun k=>m.testBit k) ts.length↔left=0:=RM.qO hm hcb wk
   by_cases hl0:left=0
   ·subst hl0
    rw[decide_eq_true (hfull.mpr rfl)]
    exact dr (exq rfl (q1 ((RM.qU hm hD hcb wk).mpr rfl) Dw H8 c acc _ hDH R8.same hcb hc0 wk w8))
   ·rw[decide_eq_false (fun z=>hl0 (hfull.mp z))]
    exact d6 (q2 (fun r=>hl0 ((RM.qU hm hD hcb wk).mp r)) H8 R8.same)
  rw[decide_eq_false e]
  obtain⟨acc',l,yy,t,eacc,htn,hpair,hl0,htt⟩:=RM.yh hm hD hcb wk e
  have htn:t<ts.length:=htn
  have htm:=RM.aG.mp (List.mem_of_getElem? htt)
  have hvp:v<p:=(RM.ni hm hcb wk).1
  have hdec:RM.cnt (fun j=>left.testBit j) ts.length=RM.cnt (fun j=>(left^^^2^t).testBit j) ts.length+1:=RM.kf htn htm.2.1
  have hc24:RM.cnt (fun j=>m.testBit j) ts.length≤ts.length:=by
   have:=RM.iu (fun j=>m.testBit j) ts.length
   (first|lia|omega)
  refine d6 ⟨fun σ H9=>∃ acc v left' v8,σ=[some (.ref wb),some (.int (m:Int)),some (.ref E),some (.ref L),v4,some (.int (((ad p ts g).a c:Nat):Int)),some (.int ((v:Nat):Int)),some (.ref Dw),v8]∧am H6 H9∧gy H9 Dw acc∧RM.Wk (ad p ts g) m c acc v left'∧RM.cnt (fun j=>left'.testBit j) ts.length<RM.cnt (fun j=>left.testBit j) ts.length,fun σ H9 ⟨acc,v,left',v8,z1,z2,z3,z4,z5⟩=>⟨_,z5,acc,v,left',v8,z1,z2,z3,z4,rfl⟩,?_⟩
  obtain⟨bv,gv,ev,vv⟩:=R8.get (i:=v) (by(first|lia|omega))
  rw[pZ]at vv
  have hwp0:=hwp
  rw[eacc]at hwp
  obtain⟨ws',x,ews,b7,rfl,hb7⟩:=jG hwp
  have hs:(((ad p ts g).tiesAt m v).map fun x=>((x:Nat):Int)).sum-((l:Nat):Int)=((t:Nat):Int):=by
   rcases hpair with z|z <;> · rw[z];simp only[List.map_cons,List.map_nil,List.sum_cons,List.sum_nil];(first|lia|omega)
  refine(exq rfl (exq rfl (ixl (SqL.of R8.lst) (af (j:=v) gv) ⟨bv,_,rfl,SqL.of vv,_,rfl,exq rfl (ixl (SqL.of hws) (by rw[ews];exact wY _ _) (ixq (SqT.of hb7) (af (j:=0) rfl) (ijq (?_))))⟩)))
  dsimp only
  rw[hs]
  have s08:=R8.same
  obtain⟨bb,hxbb,hctt⟩:=gj (g:=g) h3 htn
  refine(exq rfl (ixq (SqT.of (s08 _ _ h1)) (af (j:=1) rfl) (exq rfl (ixq (SqT.of (s08 _ _ h2)) (af (j:=t) hxbb) (ixq (SqT.of (s08 _ _ hctt)) (af (j:=0) rfl) (exq rfl ⟨rfl,exq rfl (?_)⟩))))))
  rw[gJ]
  have hwsl:ws.length<sizeLine:=by
   rw[hwp0.length]
   exact i9 (by(first|lia|omega))
  by_cases ea:(ad p ts g).a t=v
  ·rw[decide_eq_true ea]
   refine d6 (exq rfl ⟨.inl ⟨rfl,_,SqL.of hws⟩,exq rfl ⟨dl rfl,fun b1 hb1=>⟨Dw,ws,_,rfl,rfl,am.new hb1 _ _ hws,hwsl,?_⟩⟩⟩)
   have s9:am H8 (upd H8 b1 (.tup [.int ((t:Nat):Int),.int 1])):=am.new hb1
   have wk9:=RM.Wk.next wk hl0 htt
   have hfar:(ad p ts g).far t v=(ad p ts g).b t:=by unfold RM.Net.far;rw[if_pos ea]
   rw[if_pos ea,hfar]at wk9
   have w9:=gy.push (q:=(t,1)) (s9 _ _ hws) (Paired.imp' (fun _ _ z=>PrA.same s9 z) hwp0) ai
   have s10:am H (upd (upd H8 b1 (.tup [.int ((t:Nat):Int),.int 1])) Dw (.lst (ws++[.ref b1]))):=(s08.trans s9).put hDH
   have s69:am H6 (upd (upd H8 b1 (.tup [.int ((t:Nat):Int),.int 1])) Dw (.lst (ws++[.ref b1]))):=(s8.trans s9).put hDn
   exact(exq rfl (ixq (SqT.of (s10 _ _ h1)) (af (j:=1) rfl) (exq rfl (ixq (SqT.of (s10 _ _ h2)) (af (j:=t) hxbb) (ixq (SqT.of (s10 _ _ hctt)) (af (j:=1) rfl) ⟨_,_,_,_,rfl,s69,w9,wk9,by(first|lia|omega)⟩)))))
  ·rw[decide_eq_false ea]
   refine dr (exq rfl ⟨.inl ⟨rfl,_,SqL.of hws⟩,exq rfl (exq rfl ⟨dl rfl,fun b1 hb1=>⟨Dw,ws,_,rfl,rfl,am.new hb1 _ _ hws,hwsl,?_⟩⟩)⟩)
   have s9:am H8 (upd H8 b1 (.tup [.int ((t:Nat):Int),.int (-1)])):=am.new hb1
   have wk9:=RM.Wk.next wk hl0 htt
   have hfar:(ad p ts g).far t v=(ad p ts g).a t:=by unfold RM.Net.far;rw[if_neg ea]
   rw[if_neg ea,hfar]at wk9
   have w9:=gy.push (q:=(t,-1)) (s9 _ _ hws) (Paired.imp' (fun _ _ z=>PrA.same s9 z) hwp0) ai
   have s10:am H (upd (upd H8 b1 (.tup [.int ((t:Nat):Int),.int (-1)])) Dw (.lst (ws++[.ref b1]))):=(s08.trans s9).put hDH
   have s69:am H6 (upd (upd H8 b1 (.tup [.int ((t:Nat):Int),.int (-1)])) Dw (.lst (ws++[.ref b1]))):=(s8.trans s9).put hDn
   exact(exq rfl (ixq (SqT.of (s10 _ _ h1)) (af (j:=1) rfl) (exq rfl (ixq (SqT.of (s10 _ _ h2)) (af (j:=t) hxbb) (ixq (SqT.of (s10 _ _ hctt)) (af (j:=0) rfl) ⟨_,_,_,_,rfl,s69,w9,wk9,by(first|lia|omega)⟩)))))
end
def jp:Sp:=fun vs H Q _=>∃(x:Option Int) (y:Int),vs=[oV x,.int y]∧Q (.int (RM.lst x y)) H
def ki:Sp:=fun vs H Q _=>∃(w:Addr) (p:Nat) (ts:List Tie),∃ g:GoodWeb p ts,∃(m pt:Nat),vs=[.ref w,.int (m:Int),.int (pt:Int)]∧WebAt H w p ts∧pt<p∧
 ∀ b ys R H',am H H'→H' b=some (.tup ys)→Paired (cX H') ys R→R.length=p→(∀ x s,x<p→RM.lB (ad p ts g) (aP ts) m pt x s (sel (ph R x) s))→Q (.ref b) H'
theorem sx(sb:Bool)(m k:Nat):Builtin.bitXor (sb.toNat:Int) (Builtin.bitAnd ((m:Int)/2^(k:Int).toNat) 1)=((sb^^m.testBit k).toNat:Int):=by
 have e:Builtin.bitAnd ((m:Int)/2^(k:Int).toNat) 1=((m.testBit k).toNat:Int):=by
  rw[Int.toNat_natCast,PyProof.Rows.bitAnd_m1,← cJ]
  unfold bit
  obtain⟨h0,h1⟩:=eI ((m:Int)/2^k) 2 (by decide)
  by_cases h:(m:Int)/2^k%2=1
  ·rw[decide_eq_true h,h]
   rfl
  ·rw[decide_eq_false h]
   have:(m:Int)/2^k%2=0:=by(first|lia|omega)
   rw[this]
   rfl
 rw[e]
 cases sb<;>cases m.testBit k<;>decide
section
variable {P:Program}{w:World}{K:PySem.W.Frag}{mg:Str→Option Value}{base:Heap}{a:Adr}
theorem cV(T:Txt K mg a):FnOk P w K mg base CX0 1 a.f_law_least a.d_law_least ["one","more"] jp:=by
 refine T.F_law_least.ok m3 (fun vs H Q E h=>?_) (fun cdv A outer s H vs Q E hr h=>?_)
 ·obtain⟨x,y,rfl,_⟩:=h
  rfl
 ·obtain⟨x,y,rfl,q⟩:=h
  refine⟨_,(@aj _ _ _ _ _ (@bI _ _ _ _ _ _ _ _ (PW.pt (@iM _ _ _ _ _ _ _ (@az _ _ _ _ _ _ _ _ ik (pv 0) bU (aA _)) (@hU _ _ _ _ (@az _ _ _ _ _ _ _ _ qH (pv 1) (pv 0) (aA _))))) (@ap _ _ _ (@aC _ _ _ _ (pv 1))) aO) (@ap _ _ _ (@aC _ _ _ _ (pv 0)))),?_⟩
  refine mO ?_
  intro zz0 zz1
  cases x with
  | none=>exact(exq rfl ⟨rfl,exq rfl (qb rfl (exq rfl (q)))⟩)
  | some x =>
    refine(exq rfl ⟨rfl,exq rfl (jN (fun z=>nomatch z) (exq rfl (exq rfl (ijq (exq rfl (jL (fun h=>(exq rfl (?_))) (fun h=>(exq rfl (?_)))))))))⟩)
    ·have e:RM.lst (some x) y=y:=if_pos (of_decide_eq_true h)
     rw[e]at q
     exact q
    ·have e:RM.lst (some x) y=x:=if_neg (fun z=>h (decide_eq_true z))
     rw[e]at q
     exact q
theorem fP(T:Txt K mg a):FnOk P w K mg base CX0 2 a.f_law_worths a.d_law_worths ["web","marks","point"] ki:=by
 have cV:FnOk P w K mg base CX0 1 a.f_law_least a.d_law_least ["one","more"] jp:=cV T
 refine T.F_law_worths.ok aY (fun vs H Q E h=>?_) (fun cdv A outer s H vs Q E hr h=>?_)
 ·obtain⟨w,p,ts,g,m,pt,rfl,_⟩:=h
  rfl
 ·obtain⟨wb,p,ts,g,m,pt,rfl,hw,hpt,q⟩:=h
  refine⟨_,(@aj _ _ _ _ _ (@d7 _ _ _ _ _ _ _ ["other"] [] [] _ _ _ _ 3 _ _ _ aY.nd rfl rfl (aE (ag bM) ["web","marks","point","far","turn","k","one","other","length","bit","a","b","s"]) rfl (@aH _ _ _ _ _ _ (by rfl) T.n_range (@aa _ _ _ _ _ (@ao _ _ _ _ _ _ _ (ixT K) (pv 0) ae (fun _ _=>rfl)) ah (by rfl)) (by rfl)) (fun _ _ _ _=>(au (i:=0) (show(["other"]:List Str).Nodup by decide +kernel) rfl (Or.inl rfl))) (fun _ _ _ _=>db) (fun _ _ _ _=>(da (aa bU (aa bU ah)))) (by rfl) (by intro _;rfl)) (@aj _ _ _ _ _ (@fi _ _ _ _ _ _ ae (@i7 _ _ _ _ _ _ _ (@ao _ _ _ _ _ _ _ (ixL K) (pv 3) (pv 2) (fun _ _=>rfl)) ae fD (by intro _;rfl)) (by rfl) (by rfl) (by rfl)) (@aj _ _ _ _ _ (@ck _ _ _ _ _ _ _ _ PassesOwn.never rfl (@aH _ _ _ _ _ _ (by rfl) T.n_range (@aa _ _ _ _ _ (@av _ _ _ _ _ _ _ _ ii ae (@ao _ _ _ _ _ _ _ (ixT K) (pv 0) ae (fun _ _=>rfl))) ah (by rfl)) (by rfl)) (au (i:=4) aY.nd rfl (Or.inl rfl)) (@ap _ _ _ (@ck _ _ _ _ _ _ _ _ PassesOwn.never rfl (@aH _ _ _ _ _ _ (by rfl) T.n_range (@aa _ _ _ _ _ (@aD _ _ _ _ _ _ _ _ _ (eV K) (by rfl) T.n_len PySem.boot_len (@aa _ _ _ _ _ (@ao _ _ _ _ _ _ _ (ixT K) (pv 0) ae (fun _ _=>rfl)) ah (by rfl)) (by decide) (by decide) (by rfl) (by rfl)) ah (by rfl)) (by rfl)) (au (i:=5) aY.nd rfl (Or.inl rfl)) (@aj _ _ _ _ _ (@fi _ _ _ _ _ _ (@ao _ _ _ _ _ _ _ (ixT K) (@ao _ _ _ _ _ _ _ (ixT K) (pv 0) ae (fun _ _=>rfl)) (pv 5) (fun _ _=>rfl)) (@pgT _ _ K _ _ 3 _ rfl (@aN _ _ _ _ _ (au (i:=6) aY.nd rfl (Or.inl rfl)) (@aN _ _ _ _ _ (au (i:=7) aY.nd rfl (Or.inl rfl)) (@aN _ _ _ _ _ (au (i:=8) aY.nd rfl (Or.inl rfl)) dh (by rfl)) (by rfl)) (by rfl)) (by rfl) (by rfl) (by rfl)) (by rfl) (by rfl) (by rfl)) (@aj _ _ _ _ _ (@aB _ _ 9 _ _ _ _ aY.nd rfl (Or.inl rfl) (@av _ _ _ _ _ _ _ _ gs (@av _ _ _ _ _ _ _ _ i8 (pv 1) (pv 5)) ae) (by rfl) (by first | exact .inl rfl | exact .inr rfl | assumption)) (@ap _ _ _ (@ck _ _ _ _ _ _ _ _ PassesOwn.never rfl (@piL _ _ _ _ K (@da _ _ _ _ (@aa _ _ _ _ _ (@bB _ _ _ _ _ (@aa _ _ _ _ _ (pv 6) (@aa _ _ _ _ _ (pv 7) ah (by rfl)) (by rfl))) (@aa _ _ _ _ _ (@bB _ _ _ _ _ (@aa _ _ _ _ _ (pv 7) (@aa _ _ _ _ _ (pv 6) ah (by rfl)) (by rfl))) ah (by rfl)) (by rfl))) (by rfl)) (@pgT _ _ K _ _ 2 _ rfl (@aN _ _ _ _ _ (au (i:=10) aY.nd rfl (Or.inl rfl)) (@aN _ _ _ _ _ (au (i:=11) aY.nd rfl (Or.inl rfl)) dh (by rfl)) (by rfl)) (by rfl) (by rfl) (by rfl)) (@ap _ _ _ (@ck _ _ _ _ _ _ _ _ PassesOwn.never rfl (@aH _ _ _ _ _ _ (by rfl) T.n_range (@aa _ _ _ _ _ ae ah (by rfl)) (by rfl)) (au (i:=12) aY.nd rfl (Or.inl rfl)) (@ap _ _ _ (@bI _ _ _ _ _ _ _ _ (@az _ _ _ _ _ _ _ _ jU (@ao _ _ _ _ _ _ _ (ixL K) (@ao _ _ _ _ _ _ _ (ixL K) (pv 3) (pv 10) (fun _ _=>rfl)) (pv 12) (fun _ _=>rfl)) bU (aA _)) (@ap _ _ _ (@fi _ _ _ _ _ _ (@aw _ _ _ _ _ _ _ _ _ _ _ _ _ _ _ _ cV (hr.mono (by decide)) (by rfl) T.m_law_least T.k_law_least T.b_law_least .nil aM (@aa _ _ _ _ _ (@ao _ _ _ _ _ _ _ (ixL K) (@ao _ _ _ _ _ _ _ (ixL K) (pv 3) (pv 11) (fun _ _=>rfl)) (@av _ _ _ _ _ _ _ _ dW (pv 12) (pv 9)) (fun _ _=>rfl)) (@aa _ _ _ _ _ (@av _ _ _ _ _ _ _ _ cz (@ao _ _ _ _ _ _ _ (ixL K) (@ao _ _ _ _ _ _ _ (ixL K) (pv 3) (pv 10) (fun _ _=>rfl)) (pv 12) (fun _ _=>rfl)) (pv 8)) ah (by rfl)) (by rfl)) (by decide) (by rfl) (by rfl)) (@i7 _ _ _ _ _ _ _ (@ao _ _ _ _ _ _ _ (ixL K) (pv 3) (pv 11) (fun _ _=>rfl)) (@av _ _ _ _ _ _ _ _ dW (pv 12) (pv 9)) fD (by intro _;rfl)) (by rfl) (by rfl) (by rfl))) aO)) (by intro _;rfl))) (by intro _;rfl))))) (by intro _;rfl))) (by intro _;rfl)) (@ap _ _ _ (@aC _ _ _ _ (@cH _ _ _ _ _ _ _ _ _ (mD K) (by rfl) T.n_tuple PyProof.Rows.boot_tuple (@aa _ _ _ _ _ (@cK _ _ _ _ _ _ _ ["pair"] [] [] _ _ _ _ (aE (ag bM) ["web","marks","point","far","turn","k","one","other","length","bit","a","b","s"]) rfl (@piL _ _ _ _ K (pv 3) (by rfl)) (fun _ _ _ _=>(au (i:=0) (show(["pair"]:List Str).Nodup by decide +kernel) rfl (Or.inl rfl))) (fun _ _ _ _=>db) (fun _ _ _ _=>(cH (mD K) (by rfl) T.n_tuple PyProof.Rows.boot_tuple (aa (pv 0) ah))) (by intro _;rfl)) ah (by rfl)) (by decide) (by decide) (by rfl) (by rfl))))))),?_⟩
  refine ly ?_
  intro zz0 zz1 zz2 zz3 zz4 zz5 zz6 zz7 zz8 zz9
  obtain⟨bt,xs,h1,h2,h3⟩:=id hw.ex
  have hxl:=h3.length
  have wp:=g.p2
  have wl:=g.len
  refine(exq rfl (ixq (SqT.of h1) (af (j:=0) rfl) (exq rfl ⟨(by(first|lia|omega)),(by(first|lia|omega)),fun D hD=>bo (lo:=0) (m:=p) (mT H D) (.start hD) (fun i acc H2 _ z=>z.len) (dl (Nat.ble_eq.mpr (by(first|lia|omega)))) ?_ ?_⟩)))
  ·rintro i acc H2 hi f2
   exact⟨rfl,dl rfl,fun l hl=>f2.next hl⟩
  rintro acc H2 ⟨es,rfl,hel,f2⟩
  obtain⟨bb,e2,e3,hbb⟩:=f2.get (i:=pt) (by(first|lia|omega))
  refine(exq rfl (exq rfl (ixl (SqL.of f2.lst) (af e2) ⟨bb,_,_,0,rfl,rfl,hbb,gF (n:=2) (j:=0) (by decide),?_⟩)))
  have f3:FarV H D es (RM.iz (fun _ _=>none) pt false 0) (upd H2 bb (.lst (([oV none,oV none]:List V).set 0 (.int 0)))):=f2.put e3 false 0
  generalize upd H2 bb (.lst (([oV none,oV none]:List V).set 0 (.int 0)))=H3 at f3
  refine(exq rfl (ixq (SqT.of (f3.same _ _ h1)) (af (j:=0) rfl) (ijq ⟨.inl ⟨by decide,by decide⟩,exq rfl ⟨(by(first|lia|omega)),(by(first|lia|omega)),?_⟩⟩)))
  have e2p:(2*(p:Int)).toNat=2*p:=by(first|lia|omega)
  refine bH (lo:=0) (n:=(2*(p:Int)).toNat) (fun i σ H4=>∃ v4 v5 v6 v7 v8 v9 v10 v11 v12,σ=[some (.ref wb),some (.int (m:Int)),some (.int (pt:Int)),some (.ref D),v4,v5,v6,v7,v8,v9,v10,v11,v12]∧∃ F,FarV H D es F H4∧RM.Snd (ad p ts g) (aP ts) m pt F∧RM.Cov (ad p ts g) (aP ts) m pt i F) ⟨none,none,none,none,none,none,none,none,none,rfl,_,f3,RM.Snd.start,RM.Cov.start⟩ ?_ ?_
  ·rintro i D' σ H4 hi ⟨v4,v5,v6,v7,v8,v9,v10,v11,v12,rfl,F0,f4,sn4,cv4⟩
   refine(exq rfl (ixq (SqT.of (f4.same _ _ h1)) (af (j:=1) rfl) (lnq rfl (.inr (SqT.of (f4.same _ _ h2))) (exq rfl ⟨(by(first|lia|omega)),(by(first|lia|omega)),?_⟩))))
   refine bH (lo:=0) (n:=(xs.length:Int).toNat) (fun k σ H5=>∃ v4 v5 v6 v7 v8 v9 v10 v11 v12,σ=[some (.ref wb),some (.int (m:Int)),some (.int (pt:Int)),some (.ref D),v4,v5,v6,v7,v8,v9,v10,v11,v12]∧∃ F,FarV H D es F H5∧RM.Rl (ad p ts g) (aP ts) m pt F0 F (4*k)) ⟨_,_,_,_,_,_,_,_,_,rfl,_,f4,RM.Rl.start sn4⟩ ?_ ?_
   ·rintro k D2' σ H5 hk ⟨v4,v5,v6,v7,v8,v9,v10,v11,v12,rfl,F,f5,r5⟩
    rw[Int.toNat_natCast]at hk
    rw[Int.zero_add]
    have hkl:k<ts.length:=by(first|lia|omega)
    obtain⟨ct,ex,hct⟩:=gj (g:=g) h3 hkl
    have ha:(ad p ts g).a k<p:=(ad p ts g).al k hkl
    have hb:(ad p ts g).b k<p:=(ad p ts g).bl k hkl
    refine(exq rfl (ixq (SqT.of (f5.same _ _ h1)) (af (j:=1) rfl) (exq rfl (ixq (SqT.of (f5.same _ _ h2)) (af (j:=k) ex) ⟨ct,_,rfl,SqT.of (f5.same _ _ hct),rfl,_,_,rfl,_,_,rfl,_,_,rfl,rfl,?_⟩))))
    refine(exq rfl (exq rfl (ijq ⟨(by(first|lia|omega)),ijq (?_)⟩)))
    generalize hua:(ad p ts g).a k=ua at ha
    generalize hub:(ad p ts g).b k=ub at hb
    refine(exq rfl (exq rfl ⟨dl rfl,fun t1 ht1=>(exq rfl (exq rfl ⟨dl rfl,fun t2 ht2=>⟨dl rfl,fun L hL=>⟨L,rfl,⟨_,SqL.of ai⟩,?_⟩⟩⟩))⟩))
    have hf:am H5 (upd (upd (upd H5 t1 (.tup [.int (ua:Int),.int (ub:Int)])) t2 (.tup [.int (ub:Int),.int (ua:Int)])) L (.lst [.ref t1,.ref t2])):=((am.new ht1).trans (am.new ht2)).trans (am.new hL)
    have hLes:L∉es:=f5.off (((am.new ht1).trans (am.new ht2)).free hL)
    have hL6:upd (upd (upd H5 t1 (.tup [.int (ua:Int),.int (ub:Int)])) t2 (.tup [.int (ub:Int),.int (ua:Int)])) L (.lst [.ref t1,.ref t2]) L=some (.lst [.ref t1,.ref t2]):=ai
    have ht16:upd (upd (upd H5 t1 (.tup [.int (ua:Int),.int (ub:Int)])) t2 (.tup [.int (ub:Int),.int (ua:Int)])) L (.lst [.ref t1,.ref t2]) t1=some (.tup [.int (ua:Int),.int (ub:Int)]):=am.new hL _ _ (am.new ht2 _ _ ai)
    have ht26:upd (upd (upd H5 t1 (.tup [.int (ua:Int),.int (ub:Int)])) t2 (.tup [.int (ub:Int),.int (ua:Int)])) L (.lst [.ref t1,.ref t2]) t2=some (.tup [.int (ub:Int),.int (ua:Int)]):=am.new hL _ _ ai
    have f6:=f5.go hf
    generalize upd (upd (upd H5 t1 (.tup [.int (ua:Int),.int (ub:Int)])) t2 (.tup [.int (ub:Int),.int (ua:Int)])) L (.lst [.ref t1,.ref t2])=H6 at f6 hL6 ht16 ht26
    refine fC (K:=K) (a:=L) (xs:=[.ref t1,.ref t2]) (fun j σ H7=>∃ v4 v10 v11 v12,σ=[some (.ref wb),some (.int (m:Int)),some (.int (pt:Int)),some (.ref D),v4,some (.int (k:Int)),some (.int (ua:Int)),some (.int (ub:Int)),some (.int (cb ts k).2.2),some (.int (Builtin.bitAnd ((m:Int)/2^(k:Int).toNat) 1)),v10,v11,v12]∧(∃ F,FarV H D es F H7∧RM.Rl (ad p ts g) (aP ts) m pt F0 F (4*k+2*j))∧H7 L=some (.lst [.ref t1,.ref t2])∧cy H6 H7)
     ⟨_,_,_,_,rfl,⟨F,f6,r5⟩,hL6,(am.refl _).tups⟩ (fun j σ H7 _ ⟨_,_,_,_,_,_,z,_⟩=>SqL.of z) ?_ ?_
    ·rintro j y D3' σ H7 hj ⟨v4,v10,v11,v12,rfl,⟨F,f7,r7⟩,hL7,tp7⟩
     have hj2:j<2:=(List.getElem?_eq_some_iff.mp hj).1
     obtain⟨cc,x1,x2,rfl,hcc,e1,e2,y1,y3⟩:∃(cc:Addr) (x1 x2:Nat),y = .ref cc∧H7 cc=some (.tup [.int (x1:Int),.int (x2:Int)])∧(if j=0 then ua else ub)=x1∧(if j=0 then ub else ua)=x2∧x1<p∧x2<p:=by
      match j,hj with
      | 0,hj=>exact⟨t1,ua,ub,(Option.some.inj hj).symm,tp7 _ _ ht16,rfl,rfl,ha,hb⟩
      | 1,hj=>exact⟨t2,ub,ua,(Option.some.inj hj).symm,tp7 _ _ ht26,rfl,rfl,hb,ha⟩
     refine⟨cc,_,rfl,SqT.of hcc,rfl,_,_,rfl,_,_,rfl,rfl,?_⟩
     refine(exq rfl ⟨(by decide),(by decide),?_⟩)
     refine bH (lo:=0) (n:=(2:Int).toNat) (fun n σ H8=>∃ v12,σ=[some (.ref wb),some (.int (m:Int)),some (.int (pt:Int)),some (.ref D),v4,some (.int (k:Int)),some (.int (ua:Int)),some (.int (ub:Int)),some (.int (cb ts k).2.2),some (.int (Builtin.bitAnd ((m:Int)/2^(k:Int).toNat) 1)),some (.int (x1:Int)),some (.int (x2:Int)),v12]∧(∃ F,FarV H D es F H8∧RM.Rl (ad p ts g) (aP ts) m pt F0 F (4*k+2*j+n))∧H8 L=some (.lst [.ref t1,.ref t2])∧cy H6 H8) (exq rfl ⟨⟨F,f7,r7⟩,hL7,tp7⟩) ?_ ?_
     ·rintro n D4' σ H8 hn ⟨v12,rfl,⟨F,f8,r8⟩,hL8,tp8⟩
      rw[Int.zero_add]
      have hn2:n<2:=hn
      obtain⟨q1,q2,q3,q4⟩:=RM.vc (N:=ad p ts g) (k:=k) hj2 hn2
      rw[hua,hub,e1]at q3
      rw[hua,hub,e2]at q4
      obtain⟨sb,hsb⟩:∃ sb:Bool,n=sb.toNat∧decide (n=1)=sb:=by
       have:n=0∨n=1:=by(first|lia|omega)
       rcases this with rfl|rfl
       ·exact⟨false,rfl,rfl⟩
       ·exact⟨true,rfl,rfl⟩
      obtain⟨hsb,hsd⟩:=hsb
      rw[hsd]at q2
      clear hsd
      subst hsb
      obtain⟨ba,ga,ea,hba⟩:=f8.get (i:=x1) (by(first|lia|omega))
      obtain⟨bb,gb,eb,hbb⟩:=f8.get (i:=x2) (by(first|lia|omega))
      refine(exq rfl (exq rfl (ixl (SqL.of f8.lst) (af ga) (exq rfl (ixl (SqL.of hba) (af (qg F x1 sb)) ⟨rfl,exq rfl (?_)⟩)))))
      cases hX:F x1 sb with
      | none=>exact qD rfl (exq rfl ⟨⟨F,f8,r8.skip (by rw[q3,q2];exact hX)⟩,hL8,tp8⟩)
      | some x =>
        have hsl:([oV (F x1 false),oV (F x1 true)]:List V)[sb.toNat]?=some (.int x):=by
         have:=qg F x1 sb
         rw[hX]at this
         exact this
        refine qM (fun z=>nomatch z) ?_
        refine(exq rfl (exq rfl (ixl (SqL.of f8.lst) (af gb) (exq rfl (exq rfl (ijq (ixl (SqL.of hbb) ((by rw[sx];exact af (qg F x2 _))) (exq rfl (exq rfl (ixl (SqL.of f8.lst) (af ga) (exq rfl (ixl (SqL.of hba) (af hsl) (exq rfl (ijq ⟨_,_,rfl,?_⟩))))))))))))))
        have hu:(sb^^m.testBit k).toNat<2:=by cases(sb^^m.testBit k)<;>decide
        refine(exq rfl (exq rfl (ixl (SqL.of f8.lst) (af gb) (exq rfl (exq rfl (ijq ⟨bb,_,_,(sb^^m.testBit k).toNat,rfl,rfl,hbb,(by rw[sx];exact gF hu),?_⟩))))))
        exact(exq rfl ⟨⟨_,f8.put eb _ _,r8.put' q1 q3 q4 q2 hkl hX⟩,by rw[ak (fun z:L=bb=>hLes (z▸List.mem_of_getElem? eb))];exact hL8,tp8.trans (cy.put hbb)⟩)
     ·rintro σ H8 ⟨v12,rfl,f8,hL8,tp8⟩
      exact⟨_,_,_,_,rfl,f8,hL8,tp8⟩
    ·rintro σ H7 ⟨v4,v10,v11,v12,rfl,f7,hL7,tp7⟩
     exact⟨_,_,_,_,_,_,_,_,_,rfl,f7⟩
   ·rintro σ H5 ⟨v4,v5,v6,v7,v8,v9,v10,v11,v12,rfl,F,f5,r5⟩
    rw[Int.toNat_natCast,hxl]at r5
    exact⟨_,_,_,_,_,_,_,_,_,rfl,F,f5,r5.snd,r5.cov cv4⟩
  ·rintro σ H4 ⟨v4,v5,v6,v7,v8,v9,v10,v11,v12,rfl,F,f4,sn4,cv4⟩
   rw[e2p]at cv4
   have best:=RM.ud (gR g) (show pt<(ad p ts g).p from hpt) cv4 sn4
   refine(exq rfl ⟨D,rfl,⟨_,SqL.of f4.lst⟩,fun D2 hD2=>ez (xs:=es.map V.ref) (fun i acc H5=>am H4 H5∧H5 D2=some (.lst acc)∧Paired (cX H5) acc (e7 F i)) ⟨am.new hD2,ai,.nil⟩ ?_ (dl (Nat.ble_eq.mpr (by rw[List.length_map];(first|lia|omega)))) ?_ ?_⟩)
   ·rintro i acc H5 hi ⟨s5,hD5,pr5⟩
    exact⟨SqL.of (s5 _ _ f4.lst),hD5,by rw[pr5.length,jZ];exact Nat.le_refl _⟩
   ·rintro i x acc H5 hx ⟨s5,hD5,pr5⟩
    rw[List.getElem?_map]at hx
    obtain⟨b,hb,rfl⟩:=Option.map_eq_some_iff.mp hx
    have hb5:=s5 _ _ (f4.at_ i b hb)
    refine⟨rfl,exq rfl ⟨b,_,rfl,.inl ⟨SqL.of hb5,fun l hl=>?_⟩⟩⟩
    have s6:am H5 (upd H5 l (.tup [oV (F i false),oV (F i true)])):=am.new hl
    refine⟨s6 _ _ hD5,(s5.trans s6).put hD2,ai,?_⟩
    rw[o4]
    exact Paired.snoc (Paired.imp' (fun _ _ z=>z.tups (s6.tups.trans (cy.put (s6 _ _ hD5)))) pr5) ⟨l,rfl,cy.put (s6 _ _ hD5) _ _ ai⟩
   ·rintro acc H5 ⟨s5,hD5,pr5⟩
    rw[List.length_map,hel]at pr5
    refine⟨D2,acc,rfl,.inl ⟨SqL.of hD5,fun l hl=>?_⟩⟩
    exact q l acc (e7 F p) _ ((f4.same.trans s5).trans (am.new hl)) ai (Paired.imp' (fun _ _ z=>z.same (am.new hl)) pr5) (jZ F p) fun x s hx=>by rw[uR hx];exact best x s
end
def nK:Sp:=fun vs H Q _=>∃ w p ts,∃ g:GoodWeb p ts,∃(S:Int) (m:Nat),vs=[.ref w,.int S]∧S=(m:Int)∧WebAt H w p ts∧m<2^ts.length∧∀ H',am H H'→Q (.int (fk ts m)) H'
def mL:Sp:=fun vs H Q _=>∃(S:Int) (m:Nat),vs=[.int S]∧S=(m:Int)∧∀ v:Bool,(∀ d,m<2^d→v=RM.br (fun j=>m.testBit j) d)→Q (.bl v) H
def nF:Sp:=fun vs H Q _=>∃ w p ts,∃ g:GoodWeb p ts,∃(l:Addr) (xs:List Nat),vs=[.ref w,.ref l]∧WebAt H w p ts∧H l=some (.lst (aJ xs))∧Q (.int (((ad p ts g).cut (fun x=>decide (x∈xs)):Nat):Int)) H
def gu(N:RM.Net)(L:Nat→Int)(m b:Nat):Option Int→Prop
 | none=>∀ r,r<b→N.Ring r→N.par r m=false
 | some d=>(∃ r,r<b∧N.Ring r∧N.par r m=true∧RM.bW L (fun k=>r.testBit k) N.n=d)∧∀ r,r<b→N.Ring r→N.par r m=true→d≤RM.bW L (fun k=>r.testBit k) N.n
theorem gu.skip{N:RM.Net}{L:Nat→Int}{m b:Nat}{o:Option Int}(h:gu N L m b o)(hn : ¬(N.Ring b∧N.par b m=true)):gu N L m (b+1) o:=by
 have lt:∀ r,r<b+1→r≠b→r<b:=fun r h1 h2=>by(first|lia|omega)
 cases o with
 | none =>
   intro r hr rg
   by_cases e:r=b
   ·subst e
    cases hp:N.par r m with
    | false=>rfl
    | true=>exact absurd ⟨rg,hp⟩ hn
   ·exact h r (lt r hr e) rg
 | some d =>
   obtain⟨⟨r,h1,h2⟩,h3⟩:=h
   refine⟨⟨r,by(first|lia|omega),h2⟩,fun r hr rg hp=>?_⟩
   by_cases e:r=b
   ·subst e
    exact absurd ⟨rg,hp⟩ hn
   ·exact h3 r (lt r hr e) rg hp
theorem gu.put{N:RM.Net}{L:Nat→Int}{m b:Nat}{o:Option Int}(h:gu N L m b o)(rg:N.Ring b)(hp:N.par b m=true):gu N L m (b+1) (some (RM.lst o (RM.bW L (fun k=>b.testBit k) N.n))):=by
 have lt:∀ r,r<b+1→r≠b→r<b:=fun r h1 h2=>by(first|lia|omega)
 cases o with
 | none =>
   refine⟨⟨b,by(first|lia|omega),rg,hp,rfl⟩,fun r hr rg hp=>?_⟩
   by_cases e:r=b
   ·subst e
    exact Int.le_refl _
   ·have:=h r (lt r hr e) rg
    rw[hp]at this
    cases this
 | some d =>
   obtain⟨⟨r0,h1,h2,h3,h4⟩,h5⟩:=h
   have l1:=RM.sI (some d) (RM.bW L (fun k=>b.testBit k) N.n)
   rcases RM.tf (some d) (RM.bW L (fun k=>b.testBit k) N.n) with e0|e0
   ·refine⟨⟨b,by(first|lia|omega),rg,hp,e0.symm⟩,fun r hr rg hp=>?_⟩
    by_cases e:r=b
    ·subst e
     exact l1.1
    ·have:=h5 r (lt r hr e) rg hp
     have:=l1.2 d rfl
     (first|lia|omega)
   ·refine⟨⟨r0,by(first|lia|omega),h2,h3,h4.trans (Option.some.inj e0)⟩,fun r hr rg hp=>?_⟩
    by_cases e:r=b
    ·subst e
     exact l1.1
    ·have:=h5 r (lt r hr e) rg hp
     have:=l1.2 d rfl
     (first|lia|omega)
def kl:Sp:=fun vs H Q _=>∃ w p ts,∃ g:GoodWeb p ts,∃(m:Nat),vs=[.ref w,.int (m:Int)]∧WebAt H w p ts∧∀ o H',am H H'→gu (ad p ts g) (aP ts) m (2^ts.length) o→Q (oV o) H'
theorem mw(n:Nat):∀ e,RM.br (fun j=>n.testBit j) (e+1)=(decide (n%2=1)^^RM.br (fun j=>(n/2).testBit j) e)
 | 0=>by
   show(false^^n.testBit 0)=(decide (n%2=1)^^false)
   rw[Nat.testBit_zero,Bool.false_xor,Bool.xor_false]
 | e+1=>by
   have ih:=mw n e
   show(RM.br (fun j=>n.testBit j) (e+1)^^n.testBit (e+1))=(decide (n%2=1)^^(RM.br (fun j=>(n/2).testBit j) e^^(n/2).testBit e))
   rw[ih,Nat.testBit_succ,Bool.xor_assoc]
section
variable {P:Program}{w:World}{K:PySem.W.Frag}{mg:Str→Option Value}{base:Heap}{a:Adr}
theorem cE(T:Txt K mg a):FnOk P w K mg base CX0 1 a.f_law_length a.d_law_length ["web","some"] nK:=by
 refine T.F_law_length.ok lF (fun vs H Q E h=>?_) (fun cdv A outer s H vs Q E hr h=>?_)
 ·obtain⟨w,p,ts,g,S,m,rfl,_⟩:=h
  rfl
 ·obtain⟨wb,p,ts,g,S,m,rfl,rfl,hw,hm,q⟩:=h
  refine⟨_,(@ap _ _ _ (@aC _ _ _ _ (@aD _ _ _ _ _ _ _ _ _ (xG K rfl) (by rfl) T.n_sum PyProof.Rows.boot_sum (@aa _ _ _ _ _ (@cK _ _ _ _ _ _ _ ["k"] ["web","some"] [0,1] _ _ _ _ (aE (ag cg) ["web","some"]) rfl (@aH _ _ _ _ _ _ (by rfl) T.n_range (@aa _ _ _ _ _ (@aD _ _ _ _ _ _ _ _ _ (eV K) (by rfl) T.n_len PySem.boot_len (@aa _ _ _ _ _ (@ao _ _ _ _ _ _ _ (ixT K) (pv 0) ae (fun _ _=>rfl)) ah (by rfl)) (by decide) (by decide) (by rfl) (by rfl)) ah (by rfl)) (by rfl)) (fun _ _ _ _=>(au (i:=0) (show(["k","web","some"]:List Str).Nodup by decide +kernel) rfl (Or.inl rfl))) (fun _ _ _ _=>(dL (az dZ (av gs (av i8 (pv 2) (pv 0)) ae) ae (aA _)))) (fun _ _ _ _=>(ao (ixT K) (ao (ixT K) (ao (ixT K) (pv 1) ae (fun _ _=>rfl)) (pv 0) (fun _ _=>rfl)) ae (fun _ _=>rfl))) (by intro _;rfl)) ah (by rfl)) (by decide) (by decide) (by rfl) (by rfl)))),?_⟩
  obtain⟨bt,xs,h1,h2,h3⟩:=id hw.ex
  have hxl:=h3.length
  have wl:=g.len
  refine(exq rfl (ixq (SqT.of h1) (af (j:=1) rfl) (lnq rfl (.inr (SqT.of h2)) (exq rfl ⟨(by(first|lia|omega)),(by(first|lia|omega)),fun D hD=>bo (lo:=0) (m:=xs.length) (fun i acc H2=>am H H2∧H2 D=some (.lst acc)∧acc=(((List.range i).filter (fun k=>m.testBit k)).map fun k=>(cb ts k).2.2).map V.int) ⟨am.new hD,ai,rfl⟩ (fun i acc H2 _ z=>⟨z.2.1,by rw[z.2.2,List.length_map,List.length_map];exact Nat.le_trans (List.length_filter_le _ _) (by rw[List.length_range];exact Nat.le_refl _)⟩) (dN (by(first|lia|omega))) ?_ ?_⟩))))
  ·rintro i acc H2 hi ⟨s2,hD2,rfl⟩
   rw[Int.zero_add]
   obtain⟨c,hxc,hct⟩:=gj (g:=g) h3 (show i<ts.length by(first|lia|omega))
   refine⟨rfl,exq rfl (exq rfl (ijq ⟨(by(first|lia|omega)),ijq ⟨rfl,exq rfl (?_)⟩⟩))⟩
   rw[Int.toNat_natCast,pW,cJ]
   cases hb:m.testBit i with
   | true =>
     refine(exq rfl (ixq (SqT.of (s2 _ _ h1)) (af (j:=1) rfl) (exq rfl (ixq (SqT.of (s2 _ _ h2)) (af (j:=i) hxc) (ixq (SqT.of (s2 _ _ hct)) (af (j:=2) rfl) ⟨hD2,s2.put hD,ai,?_⟩)))))
     rw[bL,if_pos hb,List.map_append,List.map_append]
     rfl
   | false =>
     refine⟨s2,hD2,?_⟩
     rw[bL,if_neg (by rw[hb];decide),List.append_nil]
  ·rintro acc H2 ⟨s2,hD2,rfl⟩
   refine⟨D,_,rfl,SqL.of hD2,?_⟩
   have e:fk ts m=(((List.range xs.length).filter (fun k=>m.testBit k)).map fun k=>(cb ts k).2.2).sum:=by
    unfold fk
    rw[dP hm,hxl]
   rw[← e]
   exact q H2 s2
theorem eh(T:Txt K mg a):FnOk P w K mg base CX0 1 a.f_law_odd a.d_law_odd ["number"] mL:=by
 refine T.F_law_odd.ok fV (fun vs H Q E h=>?_) (fun cdv A outer s H vs Q E hr h=>?_)
 ·obtain⟨S,m,rfl,_⟩:=h
  rfl
 ·obtain⟨S,m,rfl,rfl,q⟩:=h
  refine⟨_,(@aj _ _ _ _ _ (@aB _ _ 1 _ _ _ _ fV.nd rfl (Or.inl rfl) im (by rfl) (by first | exact .inl rfl | exact .inr rfl | assumption)) (@aj _ _ _ _ _ (@kM _ _ _ _ _ _ PassesOwn.never (@az _ _ _ _ _ _ _ _ qY (pv 0) ae (aA _)) (@aj _ _ _ _ _ (@aB _ _ 1 _ _ _ _ fV.nd rfl (Or.inl rfl) (@cw _ _ _ _ _ _ _ _ jy (pv 1) (@cw _ _ _ _ _ _ _ _ dZ (@av _ _ _ _ _ _ _ _ ce (pv 0) ae) ae (aA _)) (aA _)) (by rfl) (by first | exact .inl rfl | exact .inr rfl | assumption)) (@ap _ _ _ (@aB _ _ 0 _ _ _ _ fV.nd rfl (Or.inl rfl) (@av _ _ _ _ _ _ _ _ fO (pv 0) ae) (by rfl) (by first | exact .inl rfl | exact .inr rfl | assumption))))) (@ap _ _ _ (@aC _ _ _ _ (pv 1))))),?_⟩
  refine pF ?_
  intro zz0 zz1 zz2 zz3
  refine⟨fun k σ H2=>∃(n:Nat) (c:Bool),σ=[some (.int ((n:Nat):Int)),some (.bl c)]∧H2=H∧(∀ d,m<2^d→∃ e,n<2^e∧RM.br (fun j=>m.testBit j) d=(c^^RM.br (fun j=>n.testBit j) e))∧n=k,⟨m,m,false,rfl,rfl,fun d hd=>⟨d,hd,by rw[Bool.false_xor]⟩,rfl⟩,?_⟩
  rintro k σ H2 ⟨n,c,rfl,rfl,hc,rfl⟩
  refine(exq rfl (ijq (exq rfl (jL (fun hpos=>?_) (fun hpos=>?_)))))
  ·have hpos:(0:Int)<((n:Nat):Int):=of_decide_eq_true hpos
   refine⟨fun σ H3=>∃(n' : Nat) (c:Bool),σ=[some (.int ((n' : Nat):Int)),some (.bl c)]∧H3=H2∧(∀ d,m<2^d→∃ e,n'<2^e∧RM.br (fun j=>m.testBit j) d=(c^^RM.br (fun j=>n'.testBit j) e))∧n'<n,fun σ H3 ⟨n',c,z1,z2,z3,z4⟩=>⟨n',z4,n',c,z1,z2,z3,rfl⟩,?_⟩
   refine(exq rfl (exq rfl (ijq ⟨(kj rfl),rfl,rfl,exq rfl (ijq ⟨⟨by decide,by decide⟩,n/2,c^^decide (n%2=1),?_,rfl,fun d hd=>?_,by(first|lia|omega)⟩)⟩)))
   ·show[some (V.int (((n:Nat):Int)/2)),some (V.bl (!decide (V.bl c=V.bl (decide (V.int (((n:Nat):Int)%2)=V.int 1)))))]=_
    rw[qL,uD]
    have:(!decide (c=decide (n%2=1)))=(c^^decide (n%2=1)):=by
     cases c<;>cases decide (n%2=1)<;>rfl
    rw[this]
    rfl
   ·obtain⟨e,he,hce⟩:=hc d hd
    cases e with
    | zero=>exact absurd he (by(first|lia|omega))
    | succ e =>
      rw[mw]at hce
      exact⟨e,by rw[Nat.pow_succ]at he;(first|lia|omega),by rw[hce,Bool.xor_assoc]⟩
  ·have hz:n=0:=by
    have : ¬(0:Int)<((n:Nat):Int):=fun z=>hpos (decide_eq_true z)
    (first|lia|omega)
   subst hz
   refine(exq rfl (q c fun d hd=>?_))
   obtain⟨e,he,hce⟩:=hc d hd
   rw[hce,RM.ed fun k _=>Nat.zero_testBit k,Bool.xor_false]
theorem fh(T:Txt K mg a):FnOk P w K mg base CX0 2 a.f_law_nearest a.d_law_nearest ["web","marks"] kl:=by
 have eh:FnOk P w K mg base CX0 1 a.f_law_odd a.d_law_odd ["number"] mL:=eh T
 have dD:FnOk P w K mg base CX0 1 a.f_law_walk a.d_law_walk ["web","some"] gA:=dD T
 have cE:FnOk P w K mg base CX0 1 a.f_law_length a.d_law_length ["web","some"] nK:=cE T
 have cV:FnOk P w K mg base CX0 1 a.f_law_least a.d_law_least ["one","more"] jp:=cV T
 refine T.F_law_nearest.ok dc (fun vs H Q E h=>?_) (fun cdv A outer s H vs Q E hr h=>?_)
 ·obtain⟨w,p,ts,g,m,rfl,_⟩:=h
  rfl
 ·obtain⟨wb,p,ts,g,m,rfl,hw,q⟩:=h
  refine⟨_,(@aj _ _ _ _ _ (@aB _ _ 2 _ _ _ _ dc.nd rfl (Or.inl rfl) bU (by rfl) (by first | exact .inl rfl | exact .inr rfl | assumption)) (@aj _ _ _ _ _ (@ck _ _ _ _ _ _ _ _ PassesOwn.never rfl (@mJ _ _ _ _ _ _ _ (by rfl) T.n_range (@aa _ _ _ _ _ ae (@aa _ _ _ _ _ (@av _ _ _ _ _ _ _ _ ff ae (@aD _ _ _ _ _ _ _ _ _ (eV K) (by rfl) T.n_len PySem.boot_len (@aa _ _ _ _ _ (@ao _ _ _ _ _ _ _ (ixT K) (pv 0) ae (fun _ _=>rfl)) ah (by rfl)) (by decide) (by decide) (by rfl) (by rfl))) ah (by rfl)) (by rfl)) (by rfl) (by rfl)) (au (i:=3) dc.nd rfl (Or.inl rfl)) (@ap _ _ _ (@bI _ _ _ _ _ _ _ _ (PW.pt (@pE _ _ _ _ _ _ _ (@eO _ _ _ (@aw _ _ _ _ _ _ _ _ _ _ _ _ _ _ _ _ eh (hr.mono (by decide)) (by rfl) T.m_law_odd T.k_law_odd T.b_law_odd .nil aM (@aa _ _ _ _ _ (@av _ _ _ _ _ _ _ _ gs (pv 3) (pv 1)) ah (by rfl)) (by decide) (by rfl) (by rfl)) (by intro _;rfl)) (@nH _ _ _ _ (@az _ _ _ _ _ _ _ _ jU (@aw _ _ _ _ _ _ _ _ _ _ _ _ _ _ _ _ dD (hr.mono (by decide)) (by rfl) T.m_law_walk T.k_law_walk T.b_law_walk .nil aM (@aa _ _ _ _ _ (pv 0) (@aa _ _ _ _ _ (pv 3) ah (by rfl)) (by rfl)) (by decide) (by rfl) (by rfl)) bU (aA _))))) (@ap _ _ _ (@aB _ _ 2 _ _ _ _ dc.nd rfl (Or.inl rfl) (@aw _ _ _ _ _ _ _ _ _ _ _ _ _ _ _ _ cV (hr.mono (by decide)) (by rfl) T.m_law_least T.k_law_least T.b_law_least .nil aM (@aa _ _ _ _ _ (pv 2) (@aa _ _ _ _ _ (@aw _ _ _ _ _ _ _ _ _ _ _ _ _ _ _ _ cE (hr.mono (by decide)) (by rfl) T.m_law_length T.k_law_length T.b_law_length .nil aM (@aa _ _ _ _ _ (pv 0) (@aa _ _ _ _ _ (pv 3) ah (by rfl)) (by rfl)) (by decide) (by rfl) (by rfl)) ah (by rfl)) (by rfl)) (by decide) (by rfl) (by rfl)) (by rfl) (by first | exact .inl rfl | exact .inr rfl | assumption))) aO)) (by intro _;rfl)) (@ap _ _ _ (@aC _ _ _ _ (pv 2))))),?_⟩
  refine kD ?_
  intro zz0 zz1 zz2 zz3
  obtain⟨bt,xs,h1,h2,h3⟩:=id hw.ex
  have hxl:=h3.length
  have wl:=g.len
  have hpw:(1:Int)*2^((xs.length:Nat):Int).toNat=((2^ts.length:Nat):Int):=by rw[gP,hxl]
  have pos:=Nat.two_pow_pos ts.length
  have big:(2:Nat)^ts.length≤2^24:=Nat.pow_le_pow_right (by decide) wl
  refine(exq rfl (ixq (SqT.of h1) (af (j:=1) rfl) (lnq rfl (.inr (SqT.of h2)) (ijq ⟨⟨by(first|lia|omega),by(first|lia|omega),by decide⟩,1,((2^ts.length:Nat):Int),congrArg (fun z=>[V.int 1,V.int z]) hpw,⟨by decide,by decide,by(first|lia|omega),by(first|lia|omega)⟩,?_⟩))))
  refine bH (lo:=1) (n:=(((2^ts.length:Nat):Int)-1).toNat) (fun i σ H2=>∃ o v3,σ=[some (.ref wb),some (.int (m:Int)),some (oV o),v3]∧am H H2∧gu (ad p ts g) (aP ts) m (i+1) o) ⟨none,none,rfl,am.refl _,fun r hr rg=>absurd (show r=0 by(first|lia|omega)) rg.1⟩ ?_ ?_
  ·rintro i D' σ H2 hi ⟨o,v3,rfl,s2,lb⟩
   obtain⟨r,hr1⟩:∃ r,r=i+1:=⟨_,rfl⟩
   have e1:(1:Int)+(i:Int)=(r:Int):=by(first|lia|omega)
   rw[e1]
   have hlt:r<2^ts.length:=by(first|lia|omega)
   rw[← hr1]at lb
   have eb:Builtin.bitAnd ((r:Nat):Int) (m:Int)=((r&&&m:Nat):Int):=and_int r m
   refine(exq rfl (exq rfl (ijq ⟨_,r&&&m,rfl,eb,fun v hv=>(exq rfl (?_))⟩)))
   have hv2:v=(ad p ts g).par r m:=by
    rw[hv ts.length (Nat.lt_of_le_of_lt Nat.and_le_left hlt)]
    exact RM.bf fun k _=>Nat.testBit_and ..
   cases hv3:v with
   | false=>exact dr ⟨o,_,rfl,s2,by rw[← hr1];exact lb.skip (fun z=>by rw[← hv2,hv3]at z;cases z.2)⟩
   | true =>
     refine d6 (exq rfl (exq rfl ⟨wb,p,ts,g,_,r,rfl,rfl,hw.same s2,hlt,fun rg D H3 t0 acc v0 _ s3 _ _ _ _=>?_,fun nr H3 s3=>?_⟩))
     ·refine⟨rfl,exq rfl (qM (fun z=>nomatch z) ?_)⟩
      refine(exq rfl (exq rfl (exq rfl ⟨wb,p,ts,g,_,r,rfl,rfl,hw.same (s2.trans s3),hlt,fun H4 s4=>?_⟩)))
      refine⟨o,_,rfl,some (RM.lst o (fk ts r)),exq rfl ⟨(s2.trans s3).trans s4,?_⟩⟩
      rw[ku hlt,← hr1]
      exact lb.put rg (by rw[← hv2,hv3])
     ·exact⟨rfl,exq rfl (qD rfl ⟨o,_,rfl,s2.trans s3,by rw[← hr1];exact lb.skip fun z=>nr z.1⟩)⟩
  ·rintro σ H2 ⟨o,v3,rfl,s2,lb⟩
   rw[show(((2^ts.length:Nat):Int)-1).toNat+1=2^ts.length by(first|lia|omega)]at lb
   exact(exq rfl (q o H2 s2 lb))
theorem eE(T:Txt K mg a):FnOk P w K mg base CX0 1 a.f_law_cut a.d_law_cut ["web","side"] nF:=by
 refine T.F_law_cut.ok fW (fun vs H Q E h=>?_) (fun cdv A outer s H vs Q E hr h=>?_)
 ·obtain⟨w,p,ts,g,l,xs,rfl,_⟩:=h
  rfl
 ·obtain⟨wb,p,ts,g,l,zs,rfl,hw,hl,q⟩:=h
  refine⟨_,(@aj _ _ _ _ _ (@aB _ _ 2 _ _ _ _ fW.nd rfl (Or.inl rfl) ae (by rfl) (by first | exact .inl rfl | exact .inr rfl | assumption)) (@aj _ _ _ _ _ (@ck _ _ _ _ _ _ _ _ PassesOwn.never rfl (@aH _ _ _ _ _ _ (by rfl) T.n_range (@aa _ _ _ _ _ (@aD _ _ _ _ _ _ _ _ _ (eV K) (by rfl) T.n_len PySem.boot_len (@aa _ _ _ _ _ (@ao _ _ _ _ _ _ _ (ixT K) (pv 0) ae (fun _ _=>rfl)) ah (by rfl)) (by decide) (by decide) (by rfl) (by rfl)) ah (by rfl)) (by rfl)) (au (i:=3) fW.nd rfl (Or.inl rfl)) (@ap _ _ _ (@bI _ _ _ _ _ _ _ _ (@az _ _ _ _ _ _ _ _ jy (@cw _ _ _ _ _ _ _ _ (inK K) (@ao _ _ _ _ _ _ _ (ixT K) (@ao _ _ _ _ _ _ _ (ixT K) (@ao _ _ _ _ _ _ _ (ixT K) (pv 0) ae (fun _ _=>rfl)) (pv 3) (fun _ _=>rfl)) ae (fun _ _=>rfl)) (pv 1) (by with_unfolding_all rfl)) (@cw _ _ _ _ _ _ _ _ (inK K) (@ao _ _ _ _ _ _ _ (ixT K) (@ao _ _ _ _ _ _ _ (ixT K) (@ao _ _ _ _ _ _ _ (ixT K) (pv 0) ae (fun _ _=>rfl)) (pv 3) (fun _ _=>rfl)) ae (fun _ _=>rfl)) (pv 1) (by with_unfolding_all rfl)) (aA _)) (@ap _ _ _ (@aB _ _ 2 _ _ _ _ fW.nd rfl (Or.inl rfl) (@av _ _ _ _ _ _ _ _ cz (pv 2) (@av _ _ _ _ _ _ _ _ ff ae (pv 3))) (by rfl) (by first | exact .inl rfl | exact .inr rfl | assumption))) aO)) (by intro _;rfl)) (@ap _ _ _ (@aC _ _ _ _ (pv 2))))),?_⟩
  refine pB ?_
  intro zz0 zz1 zz2 zz3
  obtain⟨bt,xs,h1,h2,h3⟩:=id hw.ex
  have hxl:=h3.length
  have wl:=g.len
  refine(exq rfl (ixq (SqT.of h1) (af (j:=1) rfl) (lnq rfl (.inr (SqT.of h2)) (exq rfl ⟨(by(first|lia|omega)),(by(first|lia|omega)),?_⟩))))
  refine bH (lo:=0) (n:=(xs.length:Int).toNat) (fun j σ H2=>∃ v3,σ=[some (.ref wb),some (.ref l),some (.int ((bz (fun k=>decide ((ad p ts g).a k∈zs)^^decide ((ad p ts g).b k∈zs)) j:Nat):Int)),v3]∧H2=H) ⟨none,rfl,rfl⟩ ?_ ?_
  ·rintro j D' σ H2 hj ⟨v3,rfl,rfl⟩
   rw[Int.toNat_natCast,hxl]at hj
   rw[Int.zero_add]
   obtain⟨c,hxc,hct⟩:=gj (g:=g) h3 hj
   refine(exq rfl (ixq (SqT.of h1) (af (j:=1) rfl) (exq rfl (ixq (SqT.of h2) (af (j:=j) hxc) (ixq (SqT.of hct) (af (j:=0) rfl) (exq rfl (lnq rfl (.inl (SqL.of hl)) ⟨rfl,fu _,?_⟩)))))))
   refine(exq rfl (ixq (SqT.of h1) (af (j:=1) rfl) (exq rfl (ixq (SqT.of h2) (af (j:=j) hxc) (ixq (SqT.of hct) (af (j:=1) rfl) (exq rfl (lnq rfl (.inl (SqL.of hl)) ⟨rfl,fu _,rfl,exq rfl (?_)⟩)))))))
   rw[fA,fA]
   have hms:bz (fun k=>decide ((ad p ts g).a k∈zs)^^decide ((ad p ts g).b k∈zs)) (j+1)=bz (fun k=>decide ((ad p ts g).a k∈zs)^^decide ((ad p ts g).b k∈zs)) j+(if(decide ((ad p ts g).a j∈zs)^^decide ((ad p ts g).b j∈zs))=true then 2^j else 0):=Nat.add_comm _ _
   have yes:(decide ((ad p ts g).a j∈zs)^^decide ((ad p ts g).b j∈zs))=true→((bz (fun k=>decide ((ad p ts g).a k∈zs)^^decide ((ad p ts g).b k∈zs)) j:Nat):Int)+1*2^((j:Nat):Int).toNat=((bz (fun k=>decide ((ad p ts g).a k∈zs)^^decide ((ad p ts g).b k∈zs)) (j+1):Nat):Int):=fun z=>by
    rw[hms,if_pos z,gP]
    (first|lia|omega)
   have no:(decide ((ad p ts g).a j∈zs)^^decide ((ad p ts g).b j∈zs))=false→bz (fun k=>decide ((ad p ts g).a k∈zs)^^decide ((ad p ts g).b k∈zs)) (j+1)=bz (fun k=>decide ((ad p ts g).a k∈zs)^^decide ((ad p ts g).b k∈zs)) j:=fun z=>by
    rw[hms,if_neg (by rw[z];decide),Nat.add_zero]
   cases e1:decide ((ad p ts g).a j∈zs)<;>cases e2:decide ((ad p ts g).b j∈zs)
   ·exact dr ⟨_,by rw[no (by rw[e1,e2];rfl)];rfl,rfl⟩
   ·exact d6 (exq rfl (exq rfl (ijq ⟨⟨by(first|lia|omega),by(first|lia|omega),by decide⟩,ijq ⟨_,by rw[← yes (by rw[e1,e2];rfl)];rfl,rfl⟩⟩)))
   ·exact d6 (exq rfl (exq rfl (ijq ⟨⟨by(first|lia|omega),by(first|lia|omega),by decide⟩,ijq ⟨_,by rw[← yes (by rw[e1,e2];rfl)];rfl,rfl⟩⟩)))
   ·exact dr ⟨_,by rw[no (by rw[e1,e2];rfl)];rfl,rfl⟩
  ·rintro σ H2 ⟨v3,rfl,rfl⟩
   rw[Int.toNat_natCast,hxl]
   exact(exq rfl (q))
end
def kx:Sp:=fun vs H Q _=>∃ c,vs=[.int c]∧Q (.bl true) H
section
variable {P:Program}{w:World}{K:PySem.W.Frag}{mg:Str→Option Value}{base:Heap}{a:Adr}
theorem cU(T:Txt K mg a):FnOk P w K mg base CX0 1 a.f_law_whole a.d_law_whole ["found"] kx:=by
 refine T.F_law_whole.ok mU (fun vs H Q E h=>?_) (fun cdv A outer s H vs Q E hr h=>?_)
 ·obtain⟨c,rfl,_⟩:=h
  rfl
 ·obtain⟨c,rfl,k⟩:=h
  refine⟨_,(@ap _ _ _ (@aC _ _ _ _ (@lg _ _ _ _ _ _ _ (@aD _ _ _ _ _ _ _ _ _ (tV K) (by rfl) T.n_isinstance PyProof.Rows.boot_isinstance (@aa _ _ _ _ _ (pv 0) (@aa _ _ _ _ _ (oq (by rfl) T.n_int PyProof.Rows.boot_int) ah (by rfl)) (by rfl)) (by decide) (by decide) (by rfl) (by rfl)) (@ng _ _ _ _ _ (@wM _ _ _ _ (@aD _ _ _ _ _ _ _ _ _ (tV K) (by rfl) T.n_isinstance PyProof.Rows.boot_isinstance (@aa _ _ _ _ _ (pv 0) (@aa _ _ _ _ _ (oq (by rfl) T.n_bool PyProof.Rows.boot_bool) ah (by rfl)) (by rfl)) (by decide) (by decide) (by rfl) (by rfl))))))),?_⟩
  exact(exq rfl ⟨_,_,_,_,_,rfl,rfl,.int c,wN K,_,rfl,d6 (exq rfl ⟨_,_,_,_,_,rfl,rfl,.int c,w5 K,_,rfl,k⟩)⟩)
end
def oD:Option Int→PyData
 | none=>.none
 | some z=>.int z
def prD(q:Pr):PyData:=.tuple [oD q.1,oD q.2]
theorem uM{K:PySem.W.Frag}{H:Hp}(o:Option Int):DatV K H (oV o) (oD o):=by
 cases o with
 | none=>exact .non
 | some z=>exact .int z
theorem qt{K:PySem.W.Frag}{H:Hp}:∀{ys:List V} {R:List Pr},Paired (cX H) ys R→DatVs K H ys (R.map prD)
 | _,_,.nil=>.nil
 | _,_,.cons h r=>by
   obtain⟨b,rfl,hb⟩:=h
   exact .cons (.tup (SqT.of hb) (.cons (uM _) (.cons (uM _) .nil))) (qt r)
theorem ym(o:Option Int):(oD o).canLay0=true:=by cases o<;>rfl
theorem qQ:∀ R:List Pr,PyData.canLayAll0 (R.map prD)=true
 | []=>rfl
 | q::r=>by
   have ih:=qQ r
   have e:(prD q).canLay0=true:=by simp[prD,PyData.canLay0,PyData.canLayAll0,ym]
   simp only[List.map_cons,PyData.canLayAll0,ih,Bool.and_true,e]
theorem xb(o:Option Int):PyData.depth (oD o)=0:=by cases o<;>rfl
theorem n4:∀ R:List Pr,PyData.depthAll (R.map prD)≤1
 | []=>Nat.zero_le _
 | q::r=>by
   have ih:=n4 r
   show max (PyData.depth (prD q)) (PyData.depthAll (r.map prD))≤1
   have e:PyData.depth (prD q)=1:=by simp[prD,PyData.depth,PyData.depthAll,xb]
   (first|lia|omega)
theorem vT(R:List Pr):(PyData.tuple (R.map prD)).canLay0=true:=by
 have e:(PyData.tuple (R.map prD)).canLay0=PyData.canLayAll0 (R.map prD):=by simp[PyData.canLay0]
 rw[e,qQ]
theorem qR{R R2:List Pr}{p:Nat}(h1:R.length=p)(h2:R2.length=p)(h:∀ x s,x<p→sel (ph R x) s=sel (ph R2 x) s):R=R2:=by
 refine List.ext_getElem (h1.trans h2.symm) fun i a b=>?_
 have e0:=h i false (by(first|lia|omega))
 have e1:=h i true (by(first|lia|omega))
 unfold ph at e0 e1
 rw[List.getD_eq_getElem?_getD,List.getD_eq_getElem?_getD,List.getElem?_eq_getElem a,List.getElem?_eq_getElem b]at e0 e1
 exact Prod.ext e0 e1
theorem pH{p:Nat}{ts:List Tie}{g:GoodWeb p ts}{m:Nat}{W W2:List (List Pr)}(s1:Sqr p W)(s2:Sqr p W2)(b1:qF p ts g m W)(b2:qF p ts g m W2):W=W2:=by
 refine List.ext_getElem (s1.1.trans s2.1.symm) fun i a b=>?_
 have hi:i<p:=by have:=s1.1;(first|lia|omega)
 have e1:W.getD i []=W[i]:=by rw[List.getD_eq_getElem?_getD,List.getElem?_eq_getElem a];rfl
 have e2:W2.getD i []=W2[i]:=by rw[List.getD_eq_getElem?_getD,List.getElem?_eq_getElem b];rfl
 rw[← e1,← e2]
 exact qR (s1.row hi) (s2.row hi) fun x s hx=>(b1 i hi x s hx).uniq (b2 i hi x s hx)
def j8(R:List Pr):PyData:=.tuple (R.map prD)
def lz(W:List (List Pr)):PyData:=.tuple (W.map j8)
theorem oM{K:PySem.W.Frag}{H:Hp}:∀{ys:List V} {W:List (List Pr)},Paired (jM H) ys W→DatVs K H ys (W.map j8)
 | _,_,.nil=>.nil
 | _,_,.cons h r=>by
   obtain⟨b,ys,rfl,hb,pr⟩:=h
   exact .cons (.tup (SqT.of hb) (qt pr)) (oM r)
theorem nZ:∀ W:List (List Pr),PyData.canLayAll0 (W.map j8)=true
 | []=>rfl
 | R::r=>by
   have ih:=nZ r
   have e:(j8 R).canLay0=true:=vT R
   simp only[List.map_cons,PyData.canLayAll0,ih,Bool.and_true,e]
theorem lS:∀ W:List (List Pr),PyData.depthAll (W.map j8)≤2
 | []=>Nat.zero_le _
 | R::r=>by
   have ih:=lS r
   show max (PyData.depth (j8 R)) (PyData.depthAll (r.map j8))≤2
   have e:PyData.depth (j8 R)=PyData.depthAll (R.map prD)+1:=by simp[j8,PyData.depth]
   have:=n4 R
   (first|lia|omega)
theorem nE{K:PySem.W.Frag}{H:Hp}{b:Addr}{W:List (List Pr)}(h:cI H b W):DatV K H (.ref b) (lz W):=let⟨_,h1,h2⟩:=h;.tup (SqT.of h1) (oM h2)
theorem nv(W:List (List Pr)):(lz W).canLay0=true:=by
 have e:(lz W).canLay0=PyData.canLayAll0 (W.map j8):=by simp[lz,PyData.canLay0]
 rw[e,nZ]
theorem o5(W:List (List Pr)):PyData.depth (lz W)≤3:=by
 have e:PyData.depth (lz W)=PyData.depthAll (W.map j8)+1:=by simp[lz,PyData.depth]
 have:=lS W
 (first|lia|omega)
theorem kN(W:List (List Pr)):SeqAt.shaped (lz W)=true:=by
 unfold SeqAt.shaped
 rw[nv,Bool.true_and]
 refine decide_eq_true ?_
 have:=o5 W
 (first|lia|omega)
def mh(e:Nat)(W:List (List Pr)):PyData:=.tuple [.str "ring",.int (e:Int),lz W]
theorem mo(e:Nat)(W:List (List Pr)):(mh e W).canLay0=true:=by
 have h:PyData.strOk "ring"=true:=by decide +kernel
 simp[mh,PyData.canLay0,PyData.canLayAll0,nv,h]
theorem mM(e:Nat)(W:List (List Pr)):SeqAt.shaped (mh e W)=true:=by
 unfold SeqAt.shaped
 rw[mo,Bool.true_and]
 refine decide_eq_true ?_
 have h:=o5 W
 have e2:PyData.depth (mh e W)≤PyData.depth (lz W)+1:=by simp[mh,PyData.depth,PyData.depthAll]
 (first|lia|omega)
def my(l:List Nat):PyData:=.tuple [.str "side",.list (l.map gY)]
theorem lJ:∀ l:List Nat,PyData.canLayAll0 (l.map gY)=true
 | []=>rfl
 | x::r=>by
   have ih:=lJ r
   have e:(gY x).canLay0=true:=by simp[gY,PyData.canLay0]
   simp only[List.map_cons,PyData.canLayAll0,ih,Bool.and_true,e]
theorem kG:∀ l:List Nat,PyData.depthAll (l.map gY)=0
 | []=>rfl
 | x::r=>by
   show max (PyData.depth (gY x)) (PyData.depthAll (r.map gY))=0
   rw[kG r]
   rfl
theorem gG(l:List Nat):(my l).canLay0=true:=by
 have h:PyData.strOk "side"=true:=by decide +kernel
 simp[my,PyData.canLay0,PyData.canLayAll0,lJ,h]
theorem dk(l:List Nat):SeqAt.shaped (my l)=true:=by
 unfold SeqAt.shaped
 rw[gG,Bool.true_and]
 refine decide_eq_true ?_
 have e2:PyData.depth (my l)=2:=by simp[my,PyData.depth,PyData.depthAll,kG]
 (first|lia|omega)
theorem pj{K:PySem.W.Frag}{H:Hp}{t b:Addr}{e:Nat}{W:List (List Pr)}(h:H t=some (.tup [.str "ring",.int (e:Int),.ref b]))(hW:cI H b W):DatV K H (.ref t) (mh e W):=.tup (SqT.of h) (.cons (.str _) (.cons (.int _) (.cons (nE hW) .nil)))
theorem ft{K:PySem.W.Frag}{H:Hp}{t l:Addr}{xs:List Nat}(h:H t=some (.tup [.str "side",.ref l]))(hl:H l=some (.lst (aJ xs))):DatV K H (.ref t) (my xs):=.tup (SqT.of h) (.cons (.str _) (.cons (.lst (SqL.of hl) (kr _)) .nil))
theorem sR{K:PySem.W.Frag}{p:Nat}{ts:List Tie}{g:GoodWeb p ts}{m:Nat}{H1 H2 H3 H4:Hp}{t t' : Addr}(h:nu p ts g m H1 H2 t)(s:am H2 H4)(h' : nu p ts g m H3 H4 t'):∃ d,DatV K H4 (.ref t) d∧DatV K H4 (.ref t') d∧SeqAt.shaped d=true∧d.canLay0=true:=by
 have hL1:∀ k,k<(ad p ts g).n→0<aP ts k:=fun k hk=>by
  have:=(g.ties _ (cF hk)).l0
  unfold aP
  (first|lia|omega)
 rcases h with⟨n1,_,l,_,a1,a2⟩|⟨z,e,b,W,lo,le,a1,a2,a3,a4,a5⟩
 ·rcases h' with⟨_,_,l',_,b1,b2⟩|⟨z',e',b',W',lo',le',_⟩
  ·exact⟨_,ft (s _ _ a1) (s _ _ a2),ft b1 b2,dk _,gG _⟩
  ·obtain⟨x,hx,hw⟩:=le'.way
   exact absurd hw (n1 x _ hx)
 ·rcases h' with⟨n1,_,l',_,b1,b2⟩|⟨z',e',b',W',lo',le',b1,b2,b3,b4,b5⟩
  ·obtain⟨x,hx,hw⟩:=le.way
   exact absurd hw (n1 x _ hx)
  ·obtain⟨rfl,rfl⟩:=lo.uniq hL1 lo'
   obtain rfl:=pH ⟨a3,a4⟩ ⟨b3,b4⟩ a5 b5
   exact⟨_,pj (s _ _ a1) (a2.same s),pj b1 b2,mM _ _,mo _ _⟩
def og:Sp:=fun vs H Q _=>∃ w p ts,∃ g:GoodWeb p ts,∃ m:Nat,vs=[.ref w,.int (m:Int)]∧WebAt H w p ts∧m<2^ts.length∧
 (((∀ C,(ad p ts g).cut C≠m)∧∀ H',am H H'→Q .non H')∨(m=(ad p ts g).cut (fun x=>decide (x∈bO p ts g m))∧∀ l H',H l=none→am H H'→H' l=some (.lst (aJ (bO p ts g m)))→Q (.ref l) H'))
structure ApAt(p:Nat)(ts:List Tie)(g:GoodWeb p ts)(m:Nat)(H0:Hp)(D:Addr)(A:RM.Ap)(H:Hp):Prop where
 same:am H0 H
 new:H0 D=none
 lst:H D=some (.lst (apV A p))
 snd:m=(ad p ts g).cut (fun x=>decide (x∈bO p ts g m))→∀ x b,A x=some b→x<p→b=decide (x∈bO p ts g m)
section
variable {p:Nat}{ts:List Tie}{g:GoodWeb p ts}{m:Nat}{H0 H H' : Hp}{D:Addr}{A:RM.Ap}
theorem ApAt.go(h:ApAt p ts g m H0 D A H)(s:am H H'):ApAt p ts g m H0 D A H':=⟨h.same.trans s,h.new,s _ _ h.lst,h.snd⟩
theorem ApAt.put(h:ApAt p ts g m H0 D A H){x:Nat}{b:Bool}(hb:m=(ad p ts g).cut (fun x=>decide (x∈bO p ts g m))→x<p→b=decide (x∈bO p ts g m)):ApAt p ts g m H0 D (RM.kd A x b) (upd H D (.lst ((apV A p).set x (.int (b.toNat:Int))))):=by
 refine⟨h.same.put h.new,h.new,by rw[ai,vQ],fun hc y c hy yp=>?_⟩
 by_cases e:y=x
 ·subst e
  rw[RM.iO]at hy
  rw[← Option.some.inj hy]
  exact hb hc yp
 ·rw[RM.iB e]at hy
  exact h.snd hc y c hy yp
end
theorem vA(n:Nat)(v:V):(List.replicate n [v]).flatten=List.replicate n v:=by
 induction n with
 | zero=>rfl
 | succ n ih=>rw[List.replicate_succ,List.flatten_cons,ih];rfl
section
variable {P:Program}{w:World}{K:PySem.W.Frag}{mg:Str→Option Value}{base:Heap}{a:Adr}
theorem ij(T:Txt K mg a):FnOk P w K mg base CX0 2 a.f_law_side a.d_law_side ["web","marks"] og:=by
 have eE:FnOk P w K mg base CX0 1 a.f_law_cut a.d_law_cut ["web","side"] nF:=eE T
 refine T.F_law_side.ok bq (fun vs H Q E h=>?_) (fun cdv A outer s H vs Q E hr h=>?_)
 ·obtain⟨w,p,ts,g,m,rfl,_⟩:=h
  rfl
 ·obtain⟨wb,p,ts,g,m,rfl,hw,hm,q⟩:=h
  refine⟨_,(@aj _ _ _ _ _ (@aB _ _ 2 _ _ _ _ bq.nd rfl (Or.inr rfl) (@av _ _ _ _ _ _ _ _ uS (@da _ _ _ _ (@aa _ _ _ _ _ bU ah (by rfl))) (@ao _ _ _ _ _ _ _ (ixT K) (pv 0) ae (fun _ _=>rfl))) (by rfl) (by first | exact .inl rfl | exact .inr rfl | assumption)) (@aj _ _ _ _ _ (@ck _ _ _ _ _ _ _ _ PassesOwn.never rfl (@aH _ _ _ _ _ _ (by rfl) T.n_range (@aa _ _ _ _ _ (@ao _ _ _ _ _ _ _ (ixT K) (pv 0) ae (fun _ _=>rfl)) ah (by rfl)) (by rfl)) (au (i:=3) bq.nd rfl (Or.inl rfl)) (@ap _ _ _ (@bI _ _ _ _ _ _ _ _ (@az _ _ _ _ _ _ _ _ ik (@ao _ _ _ _ _ _ _ (ixL K) (pv 2) (pv 3) (fun _ _=>rfl)) bU (aA _)) (@aj _ _ _ _ _ (@fi _ _ _ _ _ _ ae (@i7 _ _ _ _ _ _ _ (pv 2) (pv 3) fD (by intro _;rfl)) (by rfl) (by rfl) (by rfl)) (@ap _ _ _ (@ck _ _ _ _ _ _ _ _ PassesOwn.never rfl (@aH _ _ _ _ _ _ (by rfl) T.n_range (@aa _ _ _ _ _ (@ao _ _ _ _ _ _ _ (ixT K) (pv 0) ae (fun _ _=>rfl)) ah (by rfl)) (by rfl)) (au (i:=4) bq.nd rfl (Or.inl rfl)) (@ap _ _ _ (@ck _ _ _ _ _ _ _ _ PassesOwn.never rfl (@aH _ _ _ _ _ _ (by rfl) T.n_range (@aa _ _ _ _ _ (@aD _ _ _ _ _ _ _ _ _ (eV K) (by rfl) T.n_len PySem.boot_len (@aa _ _ _ _ _ (@ao _ _ _ _ _ _ _ (ixT K) (pv 0) ae (fun _ _=>rfl)) ah (by rfl)) (by decide) (by decide) (by rfl) (by rfl)) ah (by rfl)) (by rfl)) (au (i:=5) bq.nd rfl (Or.inl rfl)) (@aj _ _ _ _ _ (@fi _ _ _ _ _ _ (@kI _ _ _ _ _ _ _ _ _ _ (yd) (@ao _ _ _ _ _ _ _ (ixT K) (@ao _ _ _ _ _ _ _ (ixT K) (pv 0) ae (fun _ _=>rfl)) (pv 5) (fun _ _=>rfl)) qz (@jW _ _ _ ae)) (@pgT _ _ K _ _ 2 _ rfl (@aN _ _ _ _ _ (au (i:=6) bq.nd rfl (Or.inl rfl)) (@aN _ _ _ _ _ (au (i:=7) bq.nd rfl (Or.inl rfl)) dh (by rfl)) (by rfl)) (by rfl) (by rfl) (by rfl)) (by rfl) (by rfl) (by rfl)) (@aj _ _ _ _ _ (@aB _ _ 8 _ _ _ _ bq.nd rfl (Or.inl rfl) (@av _ _ _ _ _ _ _ _ gs (@av _ _ _ _ _ _ _ _ i8 (pv 1) (pv 5)) ae) (by rfl) (by first | exact .inl rfl | exact .inr rfl | assumption)) (@ap _ _ _ (@ck _ _ _ _ _ _ _ _ PassesOwn.never rfl (@piL _ _ _ _ K (@da _ _ _ _ (@aa _ _ _ _ _ (@bB _ _ _ _ _ (@aa _ _ _ _ _ (pv 6) (@aa _ _ _ _ _ (pv 7) ah (by rfl)) (by rfl))) (@aa _ _ _ _ _ (@bB _ _ _ _ _ (@aa _ _ _ _ _ (pv 7) (@aa _ _ _ _ _ (pv 6) ah (by rfl)) (by rfl))) ah (by rfl)) (by rfl))) (by rfl)) (@pgT _ _ K _ _ 2 _ rfl (@aN _ _ _ _ _ (au (i:=9) bq.nd rfl (Or.inl rfl)) (@aN _ _ _ _ _ (au (i:=10) bq.nd rfl (Or.inl rfl)) dh (by rfl)) (by rfl)) (by rfl) (by rfl) (by rfl)) (@ap _ _ _ (@bI _ _ _ _ _ _ _ _ (PW.pt (@pE _ _ _ _ _ _ _ (@az _ _ _ _ _ _ _ _ jU (@ao _ _ _ _ _ _ _ (ixL K) (pv 2) (pv 9) (fun _ _=>rfl)) bU (aA _)) (@nH _ _ _ _ (@az _ _ _ _ _ _ _ _ ik (@ao _ _ _ _ _ _ _ (ixL K) (pv 2) (pv 10) (fun _ _=>rfl)) bU (aA _))))) (@ap _ _ _ (@fi _ _ _ _ _ _ (@av _ _ _ _ _ _ _ _ dW (@ao _ _ _ _ _ _ _ (ixL K) (pv 2) (pv 9) (fun _ _=>rfl)) (pv 8)) (@i7 _ _ _ _ _ _ _ (pv 2) (pv 10) fD (by intro _;rfl)) (by rfl) (by rfl) (by rfl))) aO)) (by intro _;rfl))))) (by intro _;rfl))) (by intro _;rfl)))) aO)) (by intro _;rfl)) (@aj _ _ _ _ _ (@d7 _ _ _ _ _ _ _ ["point"] ["apart"] [2] _ _ _ _ 11 _ _ _ bq.nd rfl rfl (aE (ag cP) ["web","marks","apart","least","turn","k","one","other","bit","a","b","side"]) rfl (@aH _ _ _ _ _ _ (by rfl) T.n_range (@aa _ _ _ _ _ (@ao _ _ _ _ _ _ _ (ixT K) (pv 0) ae (fun _ _=>rfl)) ah (by rfl)) (by rfl)) (fun _ _ _ _=>(au (i:=0) (show(["point","apart"]:List Str).Nodup by decide +kernel) rfl (Or.inl rfl))) (fun _ _ _ _=>(dL (az dZ (ao (ixL K) (pv 1) (pv 0) (fun _ _=>rfl)) ae (aA _)))) (fun _ _ _ _=>(pv 0)) (by rfl) (by intro _;rfl)) (@aj _ _ _ _ _ (@bI _ _ _ _ _ _ _ _ (@az _ _ _ _ _ _ _ _ dZ (@aw _ _ _ _ _ _ _ _ _ _ _ _ _ _ _ _ eE (hr.mono (by decide)) (by rfl) T.m_law_cut T.k_law_cut T.b_law_cut .nil aM (@aa _ _ _ _ _ (pv 0) (@aa _ _ _ _ _ (pv 11) ah (by rfl)) (by rfl)) (by decide) (by rfl) (by rfl)) (pv 1) (aA _)) (@ap _ _ _ (@aC _ _ _ _ (pv 11))) aO) (@ap _ _ _ (@aC _ _ _ _ bU)))))),?_⟩
  refine oX ?_
  intro zz0 zz1 zz2 zz3 zz4 zz5 zz6 zz7 zz8 zz9 zz10 zz11 zz12 zz13
  obtain⟨bt,xs,h1,h2,h3⟩:=id hw.ex
  have hxl:=h3.length
  have wp:=g.p2
  have wl:=g.len
  have big:(24:Nat)<sizeLine:=by decide
  refine⟨dl rfl,fun l0 hl0=>(exq rfl (ixq (SqT.of (am.new hl0 _ _ h1)) (af (j:=0) rfl) ⟨l0,_,_,rfl,rfl,ai,(by(first|lia|omega)),(by(first|lia|omega)),?_,fun D hD=>?_⟩))⟩
  ·rw[List.length_singleton]
   (first|lia|omega)
  have s0:am H (upd H l0 (.lst [.non])):=am.new hl0
  have hD0:H D=none:=s0.free hD
  have e0:(List.replicate (p:Int).toNat [V.non]).flatten=apV (fun _=>none) p:=by
   rw[uC,Int.toNat_natCast]
   exact vA p .non
  have ap0:ApAt p ts g m H D (fun _=>none) (upd (upd H l0 (.lst [.non])) D (.lst (List.replicate (p:Int).toNat [V.non]).flatten)):=⟨s0.trans (am.new hD),hD0,by rw[ai,e0],fun _ x b z=>nomatch z⟩
  generalize upd (upd H l0 (.lst [.non])) D (.lst (List.replicate (p:Int).toNat [V.non]).flatten)=H2 at ap0
  refine(exq rfl (ixq (SqT.of (ap0.same _ _ h1)) (af (j:=0) rfl) (exq rfl ⟨(by(first|lia|omega)),(by(first|lia|omega)),?_⟩)))
  refine bH (lo:=0) (n:=(p:Int).toNat) (fun i σ H4=>∃ v3 v4 v5 v6 v7 v8 v9 v10,σ=[some (.ref wb),some (.int (m:Int)),some (.ref D),v3,v4,v5,v6,v7,v8,v9,v10,none]∧∃ A,ApAt p ts g m H D A H4∧RM.ClA (ad p ts g) A∧∀ y,y<i→(A y).isSome=true) ⟨none,none,none,none,none,none,none,none,rfl,_,ap0,fun _ _=>rfl,fun y hy=>by(first|lia|omega)⟩ ?_ ?_
  ·rintro i D' σ H4 hi ⟨v3,v4,v5,v6,v7,v8,v9,v10,rfl,A,ap4,cl4,low4⟩
   rw[Int.toNat_natCast]at hi
   rw[Int.zero_add]
   refine(exq rfl (exq rfl (ixl (SqL.of ap4.lst) (af (j:=i) (gC hi)) ⟨rfl,exq rfl (?_)⟩)))
   cases hA:A i with
   | some b =>
     refine jN (fun z=>nomatch z) ⟨_,_,_,_,_,_,_,_,rfl,A,ap4,cl4,fun y hy=>?_⟩
     by_cases e:y=i
     ·rw[e,hA];rfl
     ·exact low4 y (by(first|lia|omega))
   | none =>
     refine qb rfl ?_
     have hset:((apV A p).set i (.int 0))=(apV A p).set i (.int ((false:Bool).toNat:Int)):=rfl
     refine(exq rfl (exq rfl ⟨D,_,_,i,rfl,rfl,ap4.lst,(by rw[gO];exact gF hi),?_⟩))
     rw[hset]
     have ap5:=ap4.put (x:=i) (b:=false) (fun hc _=>by
      have hr:=RM.pD (RM.vi cl4 low4 hA)
      have:i∉bO p ts g m:=fun z=>by
       unfold bO at z
       have:=(List.mem_filter.mp z).2
       have hr:(ad p ts g).trail ts.length i=0:=hr
       rw[hr,RM.iN]at this
       cases this
      exact(decide_eq_false this).symm)
     have tn0:RM.Tn (ad p ts g) 0 (RM.kd A i false):=RM.Tn.start (show i<(ad p ts g).p from hi) hA
     have low5:∀ y,y<i+1→(RM.kd A i false y).isSome=true:=fun y hy=>by
      by_cases e:y=i
      ·rw[e,RM.iO];rfl
      ·rw[RM.iB e];exact low4 y (by(first|lia|omega))
     generalize upd H4 D (.lst ((apV A p).set i (.int ((false:Bool).toNat:Int))))=H5 at ap5
     generalize RM.kd A i false=A5 at ap5 tn0 low5
     refine(exq rfl (ixq (SqT.of (ap5.same _ _ h1)) (af (j:=0) rfl) (exq rfl ⟨(by(first|lia|omega)),(by(first|lia|omega)),?_⟩)))
     refine bH (lo:=0) (n:=(p:Int).toNat) (fun t σ H6=>∃ v4 v5 v6 v7 v8 v9 v10,σ=[some (.ref wb),some (.int (m:Int)),some (.ref D),some (.int (i:Int)),v4,v5,v6,v7,v8,v9,v10,none]∧∃ A,ApAt p ts g m H D A H6∧RM.Tn (ad p ts g) t A∧∀ y,y<i+1→(A y).isSome=true) ⟨_,_,_,_,_,_,_,rfl,_,ap5,tn0,low5⟩ ?_ ?_
     ·rintro t D2 σ H6 ht ⟨v4,v5,v6,v7,v8,v9,v10,rfl,A6,ap6,tn6,low6⟩
      refine(exq rfl (ixq (SqT.of (ap6.same _ _ h1)) (af (j:=1) rfl) (lnq rfl (.inr (SqT.of (ap6.same _ _ h2))) (exq rfl ⟨(by(first|lia|omega)),(by(first|lia|omega)),?_⟩))))
      refine bH (lo:=0) (n:=(xs.length:Int).toNat) (fun k σ H7=>∃ v4 v5 v6 v7 v8 v9 v10,σ=[some (.ref wb),some (.int (m:Int)),some (.ref D),some (.int (i:Int)),v4,v5,v6,v7,v8,v9,v10,none]∧∃ A,ApAt p ts g m H D A H7∧RM.Ps (ad p ts g) A6 A (2*k)) ⟨_,_,_,_,_,_,_,rfl,_,ap6,RM.Ps.start⟩ ?_ ?_
      ·rintro k D3 σ H7 hk ⟨v4,v5,v6,v7,v8,v9,v10,rfl,A7,ap7,ps7⟩
       rw[Int.toNat_natCast]at hk
       rw[Int.zero_add]
       have hkl:k<ts.length:=by(first|lia|omega)
       obtain⟨ct,ex,hct⟩:=gj (g:=g) h3 hkl
       have ha:(ad p ts g).a k<p:=(ad p ts g).al k hkl
       have hb:(ad p ts g).b k<p:=(ad p ts g).bl k hkl
       refine(exq rfl (ixq (SqT.of (ap7.same _ _ h1)) (af (j:=1) rfl) (exq rfl (ixq (SqT.of (ap7.same _ _ h2)) (af (j:=k) ex) (?_)))))
       refine(exq rfl ⟨ct,_,rfl,ap7.same _ _ hct,fun c2 H8 s8 hc2=>?_⟩)
       rw[rj]at hc2
       refine⟨c2,_,rfl,SqT.of hc2,rfl,_,_,rfl,_,_,rfl,rfl,?_⟩
       refine(exq rfl (exq rfl (ijq ⟨(by(first|lia|omega)),ijq (?_)⟩)))
       have ap8:=ap7.go s8
       generalize hua:(ad p ts g).a k=ua at ha
       generalize hub:(ad p ts g).b k=ub at hb
       refine(exq rfl (exq rfl ⟨dl rfl,fun t1 ht1=>(exq rfl (exq rfl ⟨dl rfl,fun t2 ht2=>⟨dl rfl,fun L hL=>⟨L,rfl,⟨_,SqL.of ai⟩,?_⟩⟩⟩))⟩))
       have hf:am H8 (upd (upd (upd H8 t1 (.tup [.int (ua:Int),.int (ub:Int)])) t2 (.tup [.int (ub:Int),.int (ua:Int)])) L (.lst [.ref t1,.ref t2])):=((am.new ht1).trans (am.new ht2)).trans (am.new hL)
       have hLD:L≠D:=fun z=>by
        have:=((am.new ht1).trans (am.new ht2)).free hL
        rw[z,ap8.lst]at this
        cases this
       have hL9:upd (upd (upd H8 t1 (.tup [.int (ua:Int),.int (ub:Int)])) t2 (.tup [.int (ub:Int),.int (ua:Int)])) L (.lst [.ref t1,.ref t2]) L=some (.lst [.ref t1,.ref t2]):=ai
       have ht19:upd (upd (upd H8 t1 (.tup [.int (ua:Int),.int (ub:Int)])) t2 (.tup [.int (ub:Int),.int (ua:Int)])) L (.lst [.ref t1,.ref t2]) t1=some (.tup [.int (ua:Int),.int (ub:Int)]):=am.new hL _ _ (am.new ht2 _ _ ai)
       have ht29:upd (upd (upd H8 t1 (.tup [.int (ua:Int),.int (ub:Int)])) t2 (.tup [.int (ub:Int),.int (ua:Int)])) L (.lst [.ref t1,.ref t2]) t2=some (.tup [.int (ub:Int),.int (ua:Int)]):=am.new hL _ _ ai
       have ap9:=ap8.go hf
       generalize upd (upd (upd H8 t1 (.tup [.int (ua:Int),.int (ub:Int)])) t2 (.tup [.int (ub:Int),.int (ua:Int)])) L (.lst [.ref t1,.ref t2])=H9 at ap9 hL9 ht19 ht29
       refine fC (K:=K) (a:=L) (xs:=[.ref t1,.ref t2]) (fun j σ H10=>∃ v4 v9 v10,σ=[some (.ref wb),some (.int (m:Int)),some (.ref D),some (.int (i:Int)),v4,some (.int (k:Int)),some (.int (ua:Int)),some (.int (ub:Int)),some (.int (Builtin.bitAnd ((m:Int)/2^(k:Int).toNat) 1)),v9,v10,none]∧(∃ A,ApAt p ts g m H D A H10∧RM.Ps (ad p ts g) A6 A (2*k+j))∧H10 L=some (.lst [.ref t1,.ref t2])∧cy H9 H10)
        ⟨_,_,_,rfl,⟨A7,ap9,ps7⟩,hL9,(am.refl _).tups⟩ (fun j σ H7 _ ⟨_,_,_,_,_,z,_⟩=>SqL.of z) ?_ ?_
       ·rintro j y D4 σ H10 hj ⟨v4,v9,v10,rfl,⟨A10,ap10,ps10⟩,hL10,tp10⟩
        have hj2:j<2:=(List.getElem?_eq_some_iff.mp hj).1
        have q1:(2*k+j)/2=k:=by(first|lia|omega)
        obtain⟨cc,x1,x2,rfl,hcc,e1,e2,y1,y3,hbit⟩:∃(cc:Addr) (x1 x2:Nat),y = .ref cc∧H10 cc=some (.tup [.int (x1:Int),.int (x2:Int)])∧RM.eA (ad p ts g) (2*k+j)=x1∧RM.oA (ad p ts g) (2*k+j)=x2∧x1<p∧x2<p∧∀ C:Nat→Bool,(C x1^^(C ((ad p ts g).a k)^^C ((ad p ts g).b k)))=C x2:=by
         unfold RM.eA RM.oA
         rw[q1,hua,hub]
         match j,hj with
         | 0,hj =>
           refine⟨t1,ua,ub,(Option.some.inj hj).symm,tp10 _ _ ht19,if_pos (by(first|lia|omega)),if_pos (by(first|lia|omega)),ha,hb,fun C=>?_⟩
           cases C ua<;>cases C ub<;>rfl
         | 1,hj =>
           refine⟨t2,ub,ua,(Option.some.inj hj).symm,tp10 _ _ ht29,if_neg (by(first|lia|omega)),if_neg (by(first|lia|omega)),hb,ha,fun C=>?_⟩
           cases C ua<;>cases C ub<;>rfl
        refine⟨cc,_,rfl,SqT.of hcc,rfl,_,_,rfl,_,_,rfl,rfl,?_⟩
        refine(exq rfl (exq rfl (ixl (SqL.of ap10.lst) (af (j:=x1) (gC y1)) ⟨rfl,exq rfl (?_)⟩)))
        cases hA1:A10 x1 with
        | none=>exact qD rfl ⟨_,_,_,rfl,⟨A10,ap10,ps10.skip (fun z=>by rw[e1,hA1]at z;cases z)⟩,hL10,tp10⟩
        | some b1 =>
          refine qM (fun z=>nomatch z) (exq rfl (exq rfl (ixl (SqL.of ap10.lst) (af (j:=x2) (gC y3)) ⟨rfl,exq rfl (?_)⟩)))
          cases hA2:A10 x2 with
          | some b2=>exact jN (fun z=>nomatch z) ⟨_,_,_,rfl,⟨A10,ap10,ps10.skip (fun _=>by rw[e2,hA2];rfl)⟩,hL10,tp10⟩
          | none =>
            refine qb rfl (exq rfl (exq rfl (ixl (SqL.of ap10.lst) (af (j:=x1) (by rw[gC y1,hA1];rfl)) (exq rfl (ijq (exq rfl (exq rfl ⟨D,_,_,x2,rfl,rfl,ap10.lst,(by rw[gO];exact gF y3),?_⟩)))))))
            dsimp only
            rw[sx]
            refine⟨_,_,_,rfl,⟨_,ap10.put fun hc _=>?_,?_⟩,?_,tp10.trans (cy.put ap10.lst)⟩
            ·have hk1:=congrArg (fun z=>z.testBit k) hc
             rw[RM.iS,decide_eq_true (show k<(ad p ts g).n from hkl),Bool.true_and]at hk1
             rw[hk1,ap10.snd hc x1 b1 hA1 y1]
             exact hbit fun x=>decide (x∈bO p ts g m)
            ·rw[← e2]
             exact ps10.put (show(2*k+j)/2<(ad p ts g).n by rw[q1];exact hkl) (by rw[e1,hA1];rfl) (by rw[e2];exact hA2) (by rw[e2];exact y3)
            ·rw[ak hLD]
             exact hL10
       ·rintro σ H10 ⟨v4,v9,v10,rfl,⟨A10,ap10,ps10⟩,_,_⟩
        exact⟨_,_,_,_,_,_,_,rfl,A10,ap10,ps10⟩
      ·rintro σ H7 ⟨v4,v5,v6,v7,v8,v9,v10,rfl,A7,ap7,ps7⟩
       rw[Int.toNat_natCast,hxl]at ps7
       exact⟨_,_,_,_,_,_,_,rfl,A7,ap7,tn6.next ps7,fun y hy=>ps7.low y (low6 y hy)⟩
     ·rintro σ H6 ⟨v4,v5,v6,v7,v8,v9,v10,rfl,A6,ap6,tn6,low6⟩
      rw[Int.toNat_natCast]at tn6
      exact⟨_,_,_,_,_,_,_,_,rfl,A6,ap6,tn6.fin,low6⟩
  ·rintro σ H4 ⟨v3,v4,v5,v6,v7,v8,v9,v10,rfl,A,ap4,cl4,low4⟩
   rw[Int.toNat_natCast]at low4
   refine(exq rfl (ixq (SqT.of (ap4.same _ _ h1)) (af (j:=0) rfl) (exq rfl ⟨(by(first|lia|omega)),(by(first|lia|omega)),fun C hC=>bo (lo:=0) (m:=(p:Int).toNat) (gX (fun x=>decide (A x=some true)) H4 C) (.start hC) (fun i acc H2 _ pk=>pk.len) (dN (by(first|lia|omega))) ?_ ?_⟩)))
   ·intro i acc H5 hi pk
    rw[Int.toNat_natCast]at hi
    rw[Int.zero_add]
    refine⟨rfl,exq rfl (exq rfl (ixl (SqL.of (pk.1 _ _ ap4.lst)) (af (j:=i) (gC hi)) (?_)))⟩
    have hs:=low4 i hi
    cases hA:A i with
    | none=>rw[hA]at hs;cases hs
    | some b =>
      refine⟨rfl,exq rfl (?_)⟩
      cases b with
      | true=>exact(exq rfl (pk.yes hC (am.refl _) (decide_eq_true hA)))
      | false=>exact pk.no (am.refl _) (decide_eq_false (fun z=>by rw[hA]at z;cases z))
   intro acc H5 pk
   have hC5:H5 C=some (.lst (aJ ((List.range p).filter fun x=>decide (A x=some true)))):=by rw[pk.2.1,pk.2.2,Int.toNat_natCast]
   have s5:=ap4.same.trans pk.1
   refine(exq rfl (exq rfl ⟨wb,p,ts,g,C,_,rfl,hw.same s5,hC5,?_⟩))
   refine(exq rfl ⟨rfl,exq rfl (?_)⟩)
   have dn:∀ u v:Nat,decide (V.int ((u:Nat):Int)=V.int ((v:Nat):Int))=decide (u=v):=fun u v=>decide_eq_decide.mpr ⟨fun z=>by have:=V.int.inj z;(first|lia|omega),fun z=>by rw[z]⟩
   rw[dn]
   rcases q with⟨hno,q⟩|⟨hc,q⟩
   ·rw[decide_eq_false (hno _)]
    exact dr (q H5 s5)
   ·have e:(List.range p).filter (fun x=>decide (A x=some true))=bO p ts g m:=by
     unfold bO
     refine List.filter_congr fun x hx=>?_
     have hx:=List.mem_range.mp hx
     have hs:=low4 x hx
     cases hA:A x with
     | none=>rw[hA]at hs;cases hs
     | some b =>
       have hb:=ap4.snd hc x b hA hx
       have h2:decide (x∈bO p ts g m)=(ad p ts g).par ((ad p ts g).trail ts.length x) m:=by
        unfold bO
        rw[Bool.eq_iff_iff,decide_eq_true_eq,List.mem_filter,List.mem_range]
        exact⟨fun z=>z.2,fun z=>⟨hx,z⟩⟩
       rw[← h2,← hb]
       cases b<;>rfl
    rw[e]at hC5 ⊢
    rw[decide_eq_true hc.symm]
    exact d6 (exq rfl (q C H5 (ap4.same.free hC) s5 hC5))
end
def vV:Sp:=fun vs H Q _=>∃ w p ts,∃ g:GoodWeb p ts,∃(m e:Nat) (z:Int) (t b:Addr) (W:List (List Pr)),vs=[.ref w,.int (m:Int),.ref t]∧WebAt H w p ts∧m<2^ts.length∧H t=some (.tup [.str "ring",.int (e:Int),.ref b])∧cI H b W∧Sqr p W∧qF p ts g m W∧RM.LeastOdd (ad p ts g) (aP ts) m z e∧∀ H',am H H'→Q (.bl true) H'
section
variable {P:Program}{w:World}{K:PySem.W.Frag}{mg:Str→Option Value}{base:Heap}{a:Adr}
theorem dy(T:Txt K mg a):FnOk P w K mg base CX0 3 a.f_law_ring_right a.d_law_ring_right ["web","marks","found"] vV:=by
 have cU:FnOk P w K mg base CX0 1 a.f_law_whole a.d_law_whole ["found"] kx:=cU T
 have eh:FnOk P w K mg base CX0 1 a.f_law_odd a.d_law_odd ["number"] mL:=eh T
 have dD:FnOk P w K mg base CX0 1 a.f_law_walk a.d_law_walk ["web","some"] gA:=dD T
 have cE:FnOk P w K mg base CX0 1 a.f_law_length a.d_law_length ["web","some"] nK:=cE T
 have fh:FnOk P w K mg base CX0 2 a.f_law_nearest a.d_law_nearest ["web","marks"] kl:=fh T
 have fP:FnOk P w K mg base CX0 2 a.f_law_worths a.d_law_worths ["web","marks","point"] ki:=fP T
 refine T.F_law_ring_right.ok e8 (fun vs H Q E h=>?_) (fun cdv A outer s H vs Q E hr h=>?_)
 ·obtain⟨w,p,ts,g,m,e,z,t,b,W,rfl,_⟩:=h
  rfl
 ·obtain⟨wb,p,ts,g,m,e,z,t,b,W,rfl,hw,hm,ht,hW,sq,bw,lo,q⟩:=h
  refine⟨_,(@aj _ _ _ _ _ (@bI _ _ _ _ _ _ _ _ (PW.pt (@iM _ _ _ _ _ _ _ (@az _ _ _ _ _ _ _ _ jy (@aD _ _ _ _ _ _ _ _ _ (eV K) (by rfl) T.n_len PySem.boot_len (@aa _ _ _ _ _ (pv 2) ah (by rfl)) (by decide) (by decide) (by rfl) (by rfl)) ae (aA _)) (@iM _ _ _ _ _ _ _ (@ie _ _ _ _ (@eO _ _ _ (@aw _ _ _ _ _ _ _ _ _ _ _ _ _ _ _ _ cU (hr.mono (by decide)) (by rfl) T.m_law_whole T.k_law_whole T.b_law_whole .nil aM (@aa _ _ _ _ _ (@ao _ _ _ _ _ _ _ (ixT K) (pv 2) ae (fun _ _=>rfl)) ah (by rfl)) (by decide) (by rfl) (by rfl)) (by intro _;rfl))) (@iM _ _ _ _ _ _ _ (@az _ _ _ _ _ _ _ _ qH (@ao _ _ _ _ _ _ _ (ixT K) (pv 2) ae (fun _ _=>rfl)) ae (aA _)) (@hU _ _ _ _ (@az _ _ _ _ _ _ _ _ qy (@ao _ _ _ _ _ _ _ (ixT K) (pv 2) ae (fun _ _=>rfl)) (@av _ _ _ _ _ _ _ _ ff ae (@aD _ _ _ _ _ _ _ _ _ (eV K) (by rfl) T.n_len PySem.boot_len (@aa _ _ _ _ _ (@ao _ _ _ _ _ _ _ (ixT K) (pv 0) ae (fun _ _=>rfl)) ah (by rfl)) (by decide) (by decide) (by rfl) (by rfl))) (aA _))))))) (@ap _ _ _ (@aC _ _ _ _ im)) aO) (@aj _ _ _ _ _ (@bI _ _ _ _ _ _ _ _ (PW.pt (@iM _ _ _ _ _ _ _ (@ie _ _ _ _ (@eO _ _ _ (@aw _ _ _ _ _ _ _ _ _ _ _ _ _ _ _ _ eh (hr.mono (by decide)) (by rfl) T.m_law_odd T.k_law_odd T.b_law_odd .nil aM (@aa _ _ _ _ _ (@av _ _ _ _ _ _ _ _ gs (@ao _ _ _ _ _ _ _ (ixT K) (pv 2) ae (fun _ _=>rfl)) (pv 1)) ah (by rfl)) (by decide) (by rfl) (by rfl)) (by intro _;rfl))) (@hU _ _ _ _ (@az _ _ _ _ _ _ _ _ ik (@aw _ _ _ _ _ _ _ _ _ _ _ _ _ _ _ _ dD (hr.mono (by decide)) (by rfl) T.m_law_walk T.k_law_walk T.b_law_walk .nil aM (@aa _ _ _ _ _ (pv 0) (@aa _ _ _ _ _ (@ao _ _ _ _ _ _ _ (ixT K) (pv 2) ae (fun _ _=>rfl)) ah (by rfl)) (by rfl)) (by decide) (by rfl) (by rfl)) bU (aA _))))) (@ap _ _ _ (@aC _ _ _ _ im)) aO) (@aj _ _ _ _ _ (@bI _ _ _ _ _ _ _ _ (@az _ _ _ _ _ _ _ _ jy (@aw _ _ _ _ _ _ _ _ _ _ _ _ _ _ _ _ cE (hr.mono (by decide)) (by rfl) T.m_law_length T.k_law_length T.b_law_length .nil aM (@aa _ _ _ _ _ (pv 0) (@aa _ _ _ _ _ (@ao _ _ _ _ _ _ _ (ixT K) (pv 2) ae (fun _ _=>rfl)) ah (by rfl)) (by rfl)) (by decide) (by rfl) (by rfl)) (@aw _ _ _ _ _ _ _ _ _ _ _ _ _ _ _ _ fh (hr.mono (by decide)) (by rfl) T.m_law_nearest T.k_law_nearest T.b_law_nearest .nil aM (@aa _ _ _ _ _ (pv 0) (@aa _ _ _ _ _ (pv 1) ah (by rfl)) (by rfl)) (by decide) (by rfl) (by rfl)) (aA _)) (@ap _ _ _ (@aC _ _ _ _ im)) aO) (@aj _ _ _ _ _ (@aB _ _ 3 _ _ _ _ e8.nd rfl (Or.inl rfl) (@cH _ _ _ _ _ _ _ _ _ (mD K) (by rfl) T.n_tuple PyProof.Rows.boot_tuple (@aa _ _ _ _ _ (@cK _ _ _ _ _ _ _ ["point"] ["web","marks"] [0,1] _ _ _ _ (aE (ag bj) ["web","marks","found","due"]) rfl (@aH _ _ _ _ _ _ (by rfl) T.n_range (@aa _ _ _ _ _ (@ao _ _ _ _ _ _ _ (ixT K) (pv 0) ae (fun _ _=>rfl)) ah (by rfl)) (by rfl)) (fun _ _ _ _=>(au (i:=0) (show(["point","web","marks"]:List Str).Nodup by decide +kernel) rfl (Or.inl rfl))) (fun _ _ _ _=>db) (fun _ _ _ _=>(aw fP (hr.mono (by decide)) (by rfl) T.m_law_worths T.k_law_worths T.b_law_worths .nil aM (aa (pv 1) (aa (pv 2) (aa (pv 0) ah))))) (by intro _;rfl)) ah (by rfl)) (by decide) (by decide) (by rfl) (by rfl)) (by rfl) (by first | exact .inl rfl | exact .inr rfl | assumption)) (@ap _ _ _ (@aC _ _ _ _ (@lg _ _ _ _ _ _ _ (@aD _ _ _ _ _ _ _ _ _ (tV K) (by rfl) T.n_isinstance PyProof.Rows.boot_isinstance (@aa _ _ _ _ _ (@ao _ _ _ _ _ _ _ (ixT K) (pv 2) ae (fun _ _=>rfl)) (@aa _ _ _ _ _ (oq (by rfl) T.n_tuple PyProof.Rows.boot_tuple) ah (by rfl)) (by rfl)) (by decide) (by decide) (by rfl) (by rfl)) (@ng _ _ _ _ _ (@cw _ _ _ _ _ _ _ _ (ll K hr.units) (@ao _ _ _ _ _ _ _ (ixT K) (pv 2) ae (fun _ _=>rfl)) (pv 3) (aA _)))))))))),?_⟩
  refine iw ?_
  intro zz0 zz1 zz2 zz3 zz4 zz5 zz6
  obtain⟨bt,xs,h1,h2,h3⟩:=id hw.ex
  have hxl:=h3.length
  have wl:=g.len
  have wp:=g.p2
  have hpw:(1:Int)*2^((xs.length:Nat):Int).toNat=((2^ts.length:Nat):Int):=by rw[gP,hxl]
  have he:e<2^ts.length:=lo.lt
  have he1:1≤e:=Nat.pos_of_ne_zero lo.ring.1
  refine(exq rfl (lnq rfl (.inr (SqT.of ht)) ⟨rfl,exq rfl (dr ?_)⟩))
  refine(exq rfl (ixq (SqT.of ht) (af (j:=1) rfl) (exq rfl (exq rfl (dr ?_)))))
  refine(exq rfl (ixq (SqT.of ht) (af (j:=1) rfl) (ijq (exq rfl (jL (fun hlt=>?_) (fun _=>?_))))))
  ·have hlt:(e:Int)<1:=of_decide_eq_true hlt
   (first|lia|omega)
  refine(exq rfl (ixq (SqT.of ht) (af (j:=1) rfl) (exq rfl (ixq (SqT.of h1) (af (j:=1) rfl) (lnq rfl (.inr (SqT.of h2)) (ijq ⟨⟨by(first|lia|omega),by(first|lia|omega),by decide⟩,ijq (exq rfl (jL (fun hge=>?_) (fun _=>?_)))⟩))))))
  ·rw[hpw]at hge
   have hge:((2^ts.length:Nat):Int)≤(e:Int):=of_decide_eq_true hge
   (first|lia|omega)
  have eb:Builtin.bitAnd ((e:Nat):Int) (m:Int)=((e&&&m:Nat):Int):=and_int e m
  refine(exq rfl (ixq (SqT.of ht) (af (j:=1) rfl) (exq rfl (ijq ⟨_,e&&&m,rfl,eb,fun v hv=>(exq rfl (?_))⟩))))
  have hv2:v=true:=by
   rw[hv ts.length (Nat.lt_of_le_of_lt Nat.and_le_left he),← lo.par]
   exact RM.bf fun k _=>Nat.testBit_and ..
  subst hv2
  refine dr (exq rfl (exq rfl (ixq (SqT.of ht) (af (j:=1) rfl) ⟨wb,p,ts,g,_,e,rfl,rfl,hw,he,fun rg D H3 t0 acc v0 _ s3 _ _ _ _=>?_,fun nr=>absurd lo.ring nr⟩)))
  refine⟨rfl,exq rfl (jN (fun z=>nomatch z) ?_)⟩
  refine(exq rfl (exq rfl (ixq (SqT.of (s3 _ _ ht)) (af (j:=1) rfl) ⟨wb,p,ts,g,_,e,rfl,rfl,hw.same s3,he,fun H4 s4=>?_⟩)))
  have s34:=s3.trans s4
  refine(exq rfl (exq rfl ⟨wb,p,ts,g,m,rfl,hw.same s34,fun o H5 s5 lb=>?_⟩))
  have s35:=s34.trans s5
  have hL:=gR g
  have ho:o=some (fk ts e):=by
   have e1:fk ts e=z:=(ku he).trans lo.len
   rw[e1]
   cases o with
   | none =>
     have:=lb e he lo.ring
     rw[lo.par]at this
     cases this
   | some d =>
     obtain⟨⟨r0,h1,h2,h3,h4⟩,h5⟩:=lb
     have l1:=lo.least hL h2 h1 h3
     have l2:=h5 e he lo.ring lo.par
     have h6:RM.bW (aP ts) (fun k=>e.testBit k) ts.length=z:=lo.len
     have l2:d≤RM.bW (aP ts) (fun k=>e.testBit k) ts.length:=l2
     have h4:RM.bW (aP ts) (fun k=>r0.testBit k) ts.length=d:=h4
     have l1:z≤RM.bW (aP ts) (fun k=>r0.testBit k) ts.length:=l1
     rw[show d=z by(first|lia|omega)]
  subst ho
  refine⟨rfl,exq rfl (?_)⟩
  have eq1:(!decide (V.int (fk ts e)=oV (some (fk ts e))))=false:=by
   rw[decide_eq_true (show V.int (fk ts e)=oV (some (fk ts e)) from rfl)]
   rfl
  rw[eq1]
  refine dr ?_
  refine(exq rfl (ixq (SqT.of (s35 _ _ h1)) (af (j:=0) rfl) (exq rfl ⟨(by(first|lia|omega)),(by(first|lia|omega)),fun D2 hD2=>bo (lo:=0) (m:=(p:Int).toNat) (fun i acc H6=>am H5 H6∧H6 D2=some (.lst acc)∧Paired (jM H6) acc (W.take i)) ⟨am.new hD2,ai,.nil⟩ (fun i acc H6 _ z=>⟨z.2.1,by rw[z.2.2.length,List.length_take];(first|lia|omega)⟩) (dN (by(first|lia|omega))) ?_ ?_⟩)))
  ·rintro i acc H6 hi ⟨s6,hD6,pr6⟩
   rw[Int.toNat_natCast]at hi
   rw[Int.zero_add]
   have s36:=s35.trans s6
   refine⟨rfl,exq rfl (exq rfl (exq rfl ⟨wb,p,ts,g,m,i,rfl,hw.same s36,hi,fun b2 ys R H7 s7 hb2 pr2 rl2 best2=>?_⟩))⟩
   have hD7:=s7 _ _ hD6
   have hiW:i<W.length:=by rw[sq.1];exact hi
   have eW:W.getD i []=W[i]:=by rw[List.getD_eq_getElem?_getD,List.getElem?_eq_getElem hiW];rfl
   have eR:R=W[i]:=by
    rw[← eW]
    exact qR rl2 (sq.row hi) fun x s hx=>(best2 x s hx).uniq (bw i hi x s hx)
   refine⟨hD7,(s6.trans s7).put hD2,ai,?_⟩
   rw[List.take_add_one,List.getElem?_eq_getElem hiW,← eR]
   exact Paired.snoc (Paired.imp' (fun _ _ z=>z.tups (s7.tups.trans (cy.put hD7))) pr6) (jM.tups (cy.put hD7) ⟨b2,ys,rfl,hb2,pr2⟩)
  rintro acc H6 ⟨s6,hD6,pr6⟩
  rw[Int.toNat_natCast,List.take_of_length_le (Nat.le_of_eq sq.1)]at pr6
  refine⟨D2,_,rfl,.inl ⟨SqL.of hD6,fun l hl=>?_⟩⟩
  have s7:am H6 (upd H6 l (.tup acc)):=am.new hl
  have hWl:cI (upd H6 l (.tup acc)) l W:=⟨acc,ai,Paired.imp' (fun _ _ z=>z.same s7) pr6⟩
  have s37:=(s35.trans s6).trans s7
  generalize upd H6 l (.tup acc)=H7 at s37 hWl
  have hb7:cI H7 b W:=hW.same s37
  obtain⟨yb,hyb,_⟩:=id hb7
  refine(exq rfl (ixq (SqT.of (s37 _ _ ht)) (af (j:=2) rfl) ⟨_,_,_,_,_,rfl,rfl,.tup hyb,px K,?_⟩))
  refine(exq rfl (d6 (exq rfl (ixq (SqT.of (s37 _ _ ht)) (af (j:=2) rfl) (exq rfl ⟨_,_,nE hb7,nE hWl,kN _,kN _,?_⟩)))))
  rw[SeqAt.eqv_refl _ (nv W)]
  exact q H7 s37
end
def nj(K:PySem.W.Frag)(tb:jJ):Sp:=fun vs H Q _=>∃(a:Addr) (ns:List Int),vs=[.ref a]∧SqL K H a (ns.map V.int)∧ns.length≤63∧ke tb H∧∀ H',Q (.bl true) H'
theorem qS(n:Nat):(0:Int)<2^n:=by
 have h:((2:Int)^n)=((2^n:Nat):Int):=by simp
 have:=Nat.two_pow_pos n
 (first|lia|omega)
theorem vh(z:Int)(n:Nat):∃ k:Nat,z%2^n=(k:Int)∧k<2^n:=by
 obtain⟨h0,h1⟩:=eI z (2^n) (qS n)
 refine⟨(z%2^n).toNat,by(first|lia|omega),?_⟩
 have h:((2:Int)^n)=((2^n:Nat):Int):=by simp
 (first|lia|omega)
section
variable {P:Program}{w:World}{K:PySem.W.Frag}{mg:Str→Option Value}{base:Heap}{a:Adr}
theorem xM(T:Txt K mg a):FnOk P w K mg base CX0 8 a.f_law a.d_law ["script"] (nj K [(a.p_least_ways,tW "least_ways",bC)]):=by
 have iZ:FnOk P w K mg base CX0 2 a.f_law_web a.d_law_web ["script","most_points","most_ties"] (tQ K):=iZ T
 have eE:FnOk P w K mg base CX0 1 a.f_law_cut a.d_law_cut ["web","side"] nF:=eE T
 have ij:FnOk P w K mg base CX0 2 a.f_law_side a.d_law_side ["web","marks"] og:=ij T
 have cU:FnOk P w K mg base CX0 1 a.f_law_whole a.d_law_whole ["found"] kx:=cU T
 have dy:FnOk P w K mg base CX0 3 a.f_law_ring_right a.d_law_ring_right ["web","marks","found"] vV:=dy T
 have dU:FnOk P w K mg base (CX1 P w) 7 a.f_least_odd a.d_least_odd ["web","marks"] (iD a.c_BadSet a.p_least_ways bC):=dU T
 refine T.F_law.ok ib (fun vs H Q E h=>?_) (fun cdv A outer s H vs Q E hr h=>?_)
 ·obtain⟨b,ns,rfl,_⟩:=h
  rfl
 ·obtain⟨b,ns,rfl,hS,hn,hT,fin⟩:=h
  have htb:=hT _ List.mem_cons_self
  refine⟨_,(@aj _ _ _ _ _ (@fi _ _ _ _ _ _ (@aw _ _ _ _ _ _ _ _ _ _ _ _ _ _ _ _ iZ (hr.mono (by decide)) (by rfl) T.m_law_web T.k_law_web T.b_law_web .nil aM (@aa _ _ _ _ _ (pv 0) (@aa _ _ _ _ _ ae (@aa _ _ _ _ _ ae ah (by rfl)) (by rfl)) (by rfl)) (by decide) (by rfl) (by rfl)) (@pgT _ _ K _ _ 2 _ rfl (@aN _ _ _ _ _ (au (i:=1) ib.nd rfl (Or.inl rfl)) (@aN _ _ _ _ _ (au (i:=2) ib.nd rfl (Or.inr rfl)) dh (by rfl)) (by rfl)) (by rfl) (by rfl) (by rfl)) (by rfl) (by rfl) (by rfl)) (@aj _ _ _ _ _ (@aB _ _ 3 _ _ _ _ ib.nd rfl (Or.inl rfl) (@av _ _ _ _ _ _ _ _ ce (pv 2) (@av _ _ _ _ _ _ _ _ ff ae (@aD _ _ _ _ _ _ _ _ _ (eV K) (by rfl) T.n_len PySem.boot_len (@aa _ _ _ _ _ (@ao _ _ _ _ _ _ _ (ixT K) (pv 1) ae (fun _ _=>rfl)) ah (by rfl)) (by decide) (by decide) (by rfl) (by rfl)))) (by rfl) (by first | exact .inl rfl | exact .inr rfl | assumption)) (@aj _ _ _ _ _ (@bI _ _ _ _ _ _ _ _ (@az _ _ _ _ _ _ _ _ dZ (@av _ _ _ _ _ _ _ _ ce (@av _ _ _ _ _ _ _ _ fO (pv 2) (@av _ _ _ _ _ _ _ _ ff ae (@aD _ _ _ _ _ _ _ _ _ (eV K) (by rfl) T.n_len PySem.boot_len (@aa _ _ _ _ _ (@ao _ _ _ _ _ _ _ (ixT K) (pv 1) ae (fun _ _=>rfl)) ah (by rfl)) (by decide) (by decide) (by rfl) (by rfl)))) ae) ae (aA _)) (@ap _ _ _ (@aB _ _ 3 _ _ _ _ ib.nd rfl (Or.inl rfl) (@aw _ _ _ _ _ _ _ _ _ _ _ _ _ _ _ _ eE (hr.mono (by decide)) (by rfl) T.m_law_cut T.k_law_cut T.b_law_cut .nil aM (@aa _ _ _ _ _ (pv 1) (@aa _ _ _ _ _ (@cK _ _ _ _ _ _ _ ["point"] ["left"] [2] _ _ _ _ (aE (ag gw) ["script","web","left","marks","found","side"]) rfl (@aH _ _ _ _ _ _ (by rfl) T.n_range (@aa _ _ _ _ _ (@ao _ _ _ _ _ _ _ (ixT K) (pv 1) ae (fun _ _=>rfl)) ah (by rfl)) (by rfl)) (fun _ _ _ _=>(au (i:=0) (show(["point","left"]:List Str).Nodup by decide +kernel) rfl (Or.inl rfl))) (fun _ _ _ _=>(dL (az dZ (av ce (av i8 (pv 1) (pv 0)) ae) ae (aA _)))) (fun _ _ _ _=>(pv 0)) (by intro _;rfl)) ah (by rfl)) (by rfl)) (by decide) (by rfl) (by rfl)) (by rfl) (by first | exact .inl rfl | exact .inr rfl | assumption))) aO) (@aj _ _ _ _ _ (@aB _ _ 4 _ _ _ _ ib.nd rfl (Or.inl rfl) (@aw _ _ _ _ _ _ _ _ _ _ _ _ _ _ _ _ dU (hr.mono (by decide)) (by rfl) T.m_least_odd T.k_least_odd T.b_least_odd .nil uB (@aa _ _ _ _ _ (pv 1) (@aa _ _ _ _ _ (pv 3) ah (by rfl)) (by rfl)) (by decide) (by rfl) (by rfl)) (by rfl) (by first | exact .inl rfl | exact .inr rfl | assumption)) (@aj _ _ _ _ _ (@bI _ _ _ _ _ _ _ _ (@ie _ _ _ _ (@eO _ _ _ (@aD _ _ _ _ _ _ _ _ _ (tV K) (by rfl) T.n_isinstance PyProof.Rows.boot_isinstance (@aa _ _ _ _ _ (pv 4) (@aa _ _ _ _ _ (oq (by rfl) T.n_tuple PyProof.Rows.boot_tuple) ah (by rfl)) (by rfl)) (by decide) (by decide) (by rfl) (by rfl)) (by intro _;rfl))) (@ap _ _ _ (@aC _ _ _ _ im)) aO) (@aj _ _ _ _ _ (@aB _ _ 5 _ _ _ _ ib.nd rfl (Or.inl rfl) (@aw _ _ _ _ _ _ _ _ _ _ _ _ _ _ _ _ ij (hr.mono (by decide)) (by rfl) T.m_law_side T.k_law_side T.b_law_side .nil aM (@aa _ _ _ _ _ (pv 1) (@aa _ _ _ _ _ (pv 3) ah (by rfl)) (by rfl)) (by decide) (by rfl) (by rfl)) (by rfl) (by first | exact .inl rfl | exact .inr rfl | assumption)) (@aj _ _ _ _ _ (@bI _ _ _ _ _ _ _ _ (@az _ _ _ _ _ _ _ _ ik (pv 5) bU (aA _)) (@ap _ _ _ (@aC _ _ _ _ (@lg _ _ _ _ _ _ _ (@cw _ _ _ _ _ _ _ _ dZ (@ao _ _ _ _ _ _ _ (ixT K) (pv 4) ae (fun _ _=>rfl)) gE (aA _)) (@lg _ _ _ _ _ _ _ (@aw _ _ _ _ _ _ _ _ _ _ _ _ _ _ _ _ dy (hr.mono (by decide)) (by rfl) T.m_law_ring_right T.k_law_ring_right T.b_law_ring_right .nil aM (@aa _ _ _ _ _ (pv 1) (@aa _ _ _ _ _ (pv 3) (@aa _ _ _ _ _ (pv 4) ah (by rfl)) (by rfl)) (by rfl)) (by decide) (by rfl) (by rfl)) (@ng _ _ _ _ _ (@cw _ _ _ _ _ _ _ _ (ll K hr.units) (@aw _ _ _ _ _ _ _ _ _ _ _ _ _ _ _ _ dU (hr.mono (by decide)) (by rfl) T.m_least_odd T.k_least_odd T.b_least_odd .nil uB (@aa _ _ _ _ _ (pv 1) (@aa _ _ _ _ _ (pv 3) ah (by rfl)) (by rfl)) (by decide) (by rfl) (by rfl)) (pv 4) (aA _))))))) aO) (@aj _ _ _ _ _ (@bI _ _ _ _ _ _ _ _ (PW.pt (@iM _ _ _ _ _ _ _ (@az _ _ _ _ _ _ _ _ (wy K hr.units) (pv 4) (@bB _ _ _ _ _ (@aa _ _ _ _ _ gE (@aa _ _ _ _ _ (pv 5) ah (by rfl)) (by rfl))) (aA _)) (@hU _ _ _ _ (@ie _ _ _ _ (@eO _ _ _ (@aD _ _ _ _ _ _ _ _ _ (tV K) (by rfl) T.n_isinstance PyProof.Rows.boot_isinstance (@aa _ _ _ _ _ (@ao _ _ _ _ _ _ _ (ixT K) (pv 4) ae (fun _ _=>rfl)) (@aa _ _ _ _ _ (oq (by rfl) T.n_list PyProof.Rows.boot_list) ah (by rfl)) (by rfl)) (by decide) (by decide) (by rfl) (by rfl)) (by intro _;rfl)))))) (@ap _ _ _ (@aC _ _ _ _ im)) aO) (@aj _ _ _ _ _ (@bI _ _ _ _ _ _ _ _ (@az _ _ _ _ _ _ _ _ qY (@aD _ _ _ _ _ _ _ _ _ (eV K) (by rfl) T.n_len PySem.boot_len (@aa _ _ _ _ _ (@cK _ _ _ _ _ _ _ ["point"] [] [] _ _ _ _ (aE (ag gw) ["script","web","left","marks","found","side"]) rfl (@piL _ _ _ _ K (@ao _ _ _ _ _ _ _ (ixT K) (pv 4) ae (fun _ _=>rfl)) (by rfl)) (fun _ _ _ _=>(au (i:=0) (show(["point"]:List Str).Nodup by decide +kernel) rfl (Or.inl rfl))) (fun _ _ _ _=>(dL (ie (eO (aw cU (hr.mono (by decide)) (by rfl) T.m_law_whole T.k_law_whole T.b_law_whole .nil aM (aa (pv 0) ah)))))) (fun _ _ _ _=>(pv 0)) (by intro _;rfl)) ah (by rfl)) (by decide) (by decide) (by rfl) (by rfl)) ae (aA _)) (@ap _ _ _ (@aC _ _ _ _ im)) aO) (@aj _ _ _ _ _ (@dM _ _ _ _ (@bmK _ _ _ _ _ _ K (@jF _ _ _ _ _ _ _ _ _ _ _ _ PySem.F.plainAttrs_list PySem.F.slot_list_append PySem.F.type_list_append cC (@ao _ _ _ _ _ _ _ (ixT K) (pv 4) ae (fun _ _=>rfl)) (@aa _ _ _ _ _ (@rk _ _ _ _ _ _ m7 ae) ah (by rfl)) (by rfl) (by rfl) (by rfl) (by rfl) (by rfl)) (by rfl)) (by rfl)) (@ap _ _ _ (@aC _ _ _ _ (@cw _ _ _ _ _ _ _ _ (ll K hr.units) (@aw _ _ _ _ _ _ _ _ _ _ _ _ _ _ _ _ dU (hr.mono (by decide)) (by rfl) T.m_least_odd T.k_least_odd T.b_least_odd .nil uB (@aa _ _ _ _ _ (pv 1) (@aa _ _ _ _ _ (pv 3) ah (by rfl)) (by rfl)) (by decide) (by rfl) (by rfl)) (@bB _ _ _ _ _ (@aa _ _ _ _ _ gE (@aa _ _ _ _ _ (pv 5) ah (by rfl)) (by rfl))) (aA _)))))))))))))),?_⟩
  refine wG ?_
  intro zz0 zz1 zz2 zz3 zz4 zz5 zz6 zz7 zz8 zz9 zz10 zz11 zz12 zz13 zz14
  refine(exq rfl ⟨b,ns,6,9,rfl,hS,hn,by decide,by decide,by decide,by decide,fun r wb p ts lf H1 s1 g p6 t9 hw hr1=>?_⟩)
  refine⟨r,_,rfl,SqT.of hr1,rfl,_,_,rfl,_,_,rfl,rfl,?_⟩
  obtain⟨bt,xs,h1,h2,h3⟩:=id hw.ex
  have hxl:=h3.length
  have p1:=g.p1
  have pp:=qS ts.length
  have htb1:=s1 _ _ htb
  have epw:(1:Int)*2^((xs.length:Nat):Int).toNat=2^ts.length:=by rw[Int.toNat_natCast,hxl,Int.one_mul]
  have hL1:∀ k,k<(ad p ts g).n→0≤aP ts k:=gR g
  have cont:∀(m:Nat) H2,m<2^ts.length→am H1 H2→zz11 { nx:=fun _ H'=>Q .non H',rt:=Q} [some (.ref b),some (.ref wb),some (.int lf),some (.int (m:Int)),none,none] H2:=fun m H2 hm s2=>by
   have hw2:=hw.same s2
   have htb2:=s2 _ _ htb1
   refine(exq rfl (exq rfl ⟨wb,p,ts,g,(m:Int),rfl,hw2,htb2,.inl ⟨m,rfl,hm,fun r H3 hr3 s3 told=>?_⟩⟩))
   rcases id told with⟨n1,hc,l,hl0,a1,a2⟩|⟨z,e,b2,W,lo,le,a1,a2,a3,a4,a5⟩
   ·refine(exq rfl ⟨_,_,_,_,_,rfl,rfl,.tup a1,px K,_,rfl,dr ?_⟩)
    refine(exq rfl (exq rfl ⟨wb,p,ts,g,m,rfl,hw2.same s3,hm,.inr ⟨hc,fun l2 H4 hl2 s4 hl24=>?_⟩⟩))
    refine(exq rfl ⟨rfl,exq rfl (jN (fun z=>nomatch z) ?_)⟩)
    have s34:=s3.trans s4
    refine(exq rfl (exq rfl ⟨dl rfl,fun tt htt=>?_⟩))
    have s5:am H4 (upd H4 tt (.tup [.str "side",.ref l2])):=am.new htt
    refine⟨_,_,ft (s5 _ _ (s4 _ _ a1)) (s5 _ _ (s4 _ _ a2)),ft ai (s5 _ _ hl24),dk _,dk _,_,rfl,?_⟩
    rw[SeqAt.eqv_refl _ (gG _)]
    refine dr ?_
    have a15:=s5 _ _ (s4 _ _ a1)
    have a25:=s5 _ _ (s4 _ _ a2)
    have hl25:=s5 _ _ hl24
    have s25:=(s2.trans s34).trans s5
    generalize upd H4 tt (.tup [.str "side",.ref l2])=H5 at a15 a25 hl25 s25
    refine(exq rfl (ixq (SqT.of a15) (af (j:=1) rfl) ⟨_,_,_,_,_,rfl,rfl,.lst a25,wU K,_,rfl,dr ?_⟩))
    refine(exq rfl (ixq (SqT.of a15) (af (j:=1) rfl) ⟨l,rfl,⟨_,SqL.of a25⟩,fun D2 hD2=>ez (K:=K) (a:=l) (xs:=aJ (bO p ts g m)) (fun i acc H6=>am H5 H6∧H6 D2=some (.lst acc)∧acc=[]) ⟨am.new hD2,ai,rfl⟩ (fun i acc H6 _ z=>⟨SqL.of (z.1 _ _ a25),z.2.1,by rw[z.2.2];exact Nat.zero_le _⟩) (dN ?_) ?_ ?_⟩))
    ·have:(bO p ts g m).length≤(List.range p).length:=List.length_filter_le ..
     rw[List.length_range]at this
     rw[cr]
     (first|lia|omega)
    ·rintro i x acc H6 hx ⟨s6,hD6,rfl⟩
     obtain⟨n,rfl⟩:∃ n:Nat,x = .int (n:Int):=by
      obtain⟨n,_,e⟩:=List.mem_map.mp (List.mem_of_getElem? hx)
      exact⟨n,e.symm⟩
     exact⟨rfl,exq rfl (exq rfl (exq rfl ⟨s6,hD6,rfl⟩))⟩
    rintro acc H6 ⟨s6,hD6,rfl⟩
    refine(lnq rfl (.inl (SqL.of hD6)) (ijq (exq rfl (jL (fun z=>absurd (of_decide_eq_true z) (by decide)) (fun _=>?_)))))
    have s26:=s25.trans s6
    have a16:=s6 _ _ a15
    have a26:=s6 _ _ a25
    have hl26:=s6 _ _ hl25
    have hlen:(aJ (bO p ts g m)).length<sizeLine:=by
     have h1:(bO p ts g m).length≤(List.range p).length:=List.length_filter_le ..
     rw[List.length_range]at h1
     have h2:(24:Nat)<sizeLine:=by decide
     rw[cr]
     (first|lia|omega)
    refine(exq rfl (ixq (SqT.of a16) (af (j:=1) rfl) ⟨(.inl ⟨rfl,_,SqL.of a26⟩),exq rfl ⟨l,_,_,rfl,rfl,a26,hlen,?_⟩⟩))
    have hl1:H1 l=none:=s2.free hl0
    have s7:am H1 (upd H6 l (.lst (aJ (bO p ts g m)++[.int (-1)]))):=s26.put hl1
    have hne:l2≠l:=fun z=>by rw[z,a2]at hl2;cases hl2
    have hl27:upd H6 l (.lst (aJ (bO p ts g m)++[.int (-1)])) l2=some (.lst (aJ (bO p ts g m))):=by rw[ak hne];exact hl26
    generalize upd H6 l (.lst (aJ (bO p ts g m)++[.int (-1)]))=H7 at s7 hl27
    refine(exq rfl (exq rfl ⟨wb,p,ts,g,(m:Int),rfl,hw.same s7,s7 _ _ htb1,.inl ⟨m,rfl,hm,fun r2 H8 hr8 s8 told2=>?_⟩⟩))
    rcases told2 with⟨_,_,l3,_,b1,b2⟩|⟨z',e',_,_,_,le',_⟩
    ·refine(exq rfl ⟨dl rfl,fun tt htt=>?_⟩)
     have s9:am H8 (upd H8 tt (.tup [.str "side",.ref l2])):=am.new htt
     refine⟨_,_,ft (s9 _ _ b1) (s9 _ _ b2),ft ai (s9 _ _ (s8 _ _ hl27)),dk _,dk _,?_⟩
     rw[SeqAt.eqv_refl _ (gG _)]
     exact fin _
    ·obtain⟨x,hx,hw'⟩:=le'.way
     exact absurd hw' (n1 x _ hx)
   ·refine(exq rfl ⟨_,_,_,_,_,rfl,rfl,.tup a1,px K,_,rfl,dr ?_⟩)
    refine(exq rfl (exq rfl ⟨wb,p,ts,g,m,rfl,hw2.same s3,hm,.inl ⟨fun C hC=>?_,fun H4 s4=>?_⟩⟩))
    ·have:=RM.uV le.ring.2.1 C
     rw[hC,le.par]at this
     cases this
    refine(exq rfl ⟨rfl,exq rfl (qb rfl ?_)⟩)
    have s34:=s3.trans s4
    refine(exq rfl (ixq (SqT.of (s4 _ _ a1)) (af (j:=0) rfl) ⟨rfl,?_⟩))
    rw[decide_eq_true rfl]
    refine(exq rfl (d6 (exq rfl (exq rfl (exq rfl ⟨wb,p,ts,g,m,e,z,r,b2,W,rfl,hw2.same s34,hm,s4 _ _ a1,a2.same s4,⟨a3,a4⟩,a5,le,fun H5 s5=>(exq rfl (d6 ?_))⟩)))))
    have s35:=s34.trans s5
    refine(exq rfl (exq rfl ⟨wb,p,ts,g,(m:Int),rfl,hw2.same s35,s35 _ _ htb2,.inl ⟨m,rfl,hm,fun r2 H6 hr6 s6 told2=>?_⟩⟩))
    obtain⟨d,d1,d2,d3,d4⟩:=sR (K:=K) told ((s4.trans s5).trans s6) told2
    refine(exq rfl ⟨_,_,d2,d1,d3,d3,?_⟩)
    rw[SeqAt.eqv_refl _ d4]
    exact fin _
  refine(exq rfl (exq rfl (ixq (SqT.of h1) (af (j:=1) rfl) (lnq rfl (.inr (SqT.of h2)) (ijq ⟨⟨by(first|lia|omega),by(first|lia|omega),by decide⟩,ijq ⟨(by rw[epw];exact pp),?_⟩⟩)))))
  dsimp only
  rw[epw]
  obtain⟨m,hm,hml⟩:=vh lf ts.length
  rw[hm]
  have big:(2:Nat)^ts.length≤2^9:=Nat.pow_le_pow_right (by decide) t9
  have pw:((2:Int)^ts.length)=((2^ts.length:Nat):Int):=by simp
  have hdiv:vG lf (2^ts.length):=⟨pp,by(first|lia|omega)⟩
  refine(exq rfl (exq rfl (ixq (SqT.of h1) (af (j:=1) rfl) (lnq rfl (.inr (SqT.of h2)) (ijq ⟨⟨by(first|lia|omega),by(first|lia|omega),by decide⟩,ijq ⟨(by rw[epw];exact hdiv),ijq ⟨(kj rfl),rfl,exq rfl (jL (fun _=>?_) (fun _=>cont m H1 hml (am.refl _)))⟩⟩⟩)))))
  refine(exq rfl (exq rfl (ixq (SqT.of h1) (af (j:=0) rfl) (exq rfl ⟨(by(first|lia|omega)),(by(first|lia|omega)),fun C hC=>bo (lo:=0) (m:=(p:Int).toNat) (gX (fun x=>decide (lf/2^x%2=1)) H1 C) (.start hC) (fun i acc H2 _ pk=>pk.len) (dN (by(first|lia|omega))) ?_ ?_⟩))))
  ·intro i acc H2 hi pk
   rw[Int.toNat_natCast]at hi
   rw[Int.zero_add]
   refine⟨rfl,exq rfl (exq rfl (ijq ⟨(by(first|lia|omega)),ijq ⟨(kj rfl),rfl,exq rfl (?_)⟩⟩))⟩
   have e1:decide (V.int (lf/2^((i:Nat):Int).toNat%2)=V.int 1)=decide (lf/2^i%2=1):=by
    rw[Int.toNat_natCast]
    exact decide_eq_decide.mpr ⟨fun z=>V.int.inj z,fun z=>by rw[z]⟩
   dsimp only
   rw[e1]
   cases hb:decide (lf/2^i%2=1) with
   | true=>exact(exq rfl (pk.yes hC (am.refl _) hb))
   | false=>exact pk.no (am.refl _) hb
  intro acc H2 pk
  obtain⟨zs,hC2⟩:∃ zs:List Nat,H2 C=some (.lst (aJ zs)):=⟨_,by rw[pk.2.1,pk.2.2]⟩
  exact⟨wb,p,ts,g,C,zs,rfl,hw.same pk.1,hC2,cont _ H2 (RM.tY (N:=ad p ts g) _) pk.1⟩
end
theorem xx{l:PySem.W.OpenLaw}{w:World}{K:PySem.W.Frag}{h:Heap}{mg:Str→Option Value}{fa:Addr}(X:K.In h)(G:h.Ns mainGlobals mg)(hfa:mg "law"=some (.ref fa))
 {f0 f1 f2 f3 f4 f5 f6 f7 f8 f9 f10 f11 f12 f13 f14 f15 f16 f17 f18 f19 f20 f21 f22 f23 f24 f25 f26 f27 f28 f29 f30 f31 f32 f33 f34 f35 f36 f37 f38:Addr} {od0 an0 od1 an1 od2 an2 od3 an3 od4 an4 od5 an5 od6 an6 od7 an7 od8 an8 od9 an9 od10 an10 od11 an11 od12 an12 od13 an13 od14 an14 od15 an15 od16 an16 od17 an17 od18 an18 od19 an19 od20 an20 od21 an21 od22 an22 od23 an23 od24 an24 od25 an25 od26 an26 od27 an27 od28 an28 od29 an29 od30 an30 od31 an31 od32 an32 od33 an33 od34 an34 od35 an35 od36 an36 od37 an37 od38 an38:Option Addr} {sl0 sl1 sl2 sl3 sl4 sl5 sl6 sl7 sl8 sl9 sl10 sl11 sl12 sl13 sl14 sl15 sl16 sl17 sl18 sl19 sl20 sl21 sl22 sl23 sl24 sl25 sl26 sl27 sl28 sl29 sl30 sl31 sl32 sl33 sl34 sl35 sl36 sl37 sl38:Array (Option Value)}
 {oc0 kV0 dc0 pm0 cd0 ct0 oc1 kV1 dc1 pm1 cd1 ct1 oc2 kV2 dc2 pm2 cd2 ct2 oc3 kV3 dc3 pm3 cd3 ct3 oc4 kV4 dc4 pm4 cd4 ct4 oc5 kV5 dc5 pm5 cd5 ct5 oc6 kV6 dc6 pm6 cd6 ct6 oc7 kV7 dc7 pm7 cd7 ct7 oc8 kV8 dc8 pm8 cd8 ct8 oc9 kV9 dc9 pm9 cd9 ct9 oc10 kV10 dc10 pm10 cd10 ct10 oc11 kV11 dc11 pm11 cd11 ct11 oc12 kV12 dc12 pm12 cd12 ct12 oc13 kV13 dc13 pm13 cd13 ct13 oc14 kV14 dc14 pm14 cd14 ct14 oc15 kV15 dc15 pm15 cd15 ct15 oc16 kV16 dc16 pm16 cd16 ct16 oc17 kV17 dc17 pm17 cd17 ct17 oc18 kV18 dc18 pm18 ct18 oc19 kV19 dc19 pm19 cd19 ct19 oc20 kV20 dc20 pm20 cd20 ct20 oc21 kV21 dc21 pm21 cd21 ct21 oc22 kV22 dc22 pm22 cd22 ct22 oc23 kV23 dc23 pm23 cd23 ct23 oc24 kV24 dc24 pm24 cd24 ct24 oc25 kV25 dc25 pm25 cd25 ct25 oc26 kV26 dc26 pm26 cd26 ct26 oc27 kV27 dc27 pm27 cd27 ct27 oc28 kV28 dc28 pm28 cd28 ct28 oc29 kV29 dc29 pm29 cd29 ct29 oc30 kV30 dc30 pm30 cd30 ct30 oc31 kV31 dc31 pm31 cd31 ct31 oc32 kV32 dc32 pm32 cd32 ct32 oc33 kV33 dc33 pm33 cd33 ct33 oc34 kV34 dc34 pm34 cd34 ct34 oc35 kV35 dc35 pm35 cd35 ct35 oc36 kV36 dc36 pm36 cd36 ct36 oc37 kV37 dc37 pm37 cd37 ct37 oc38 kV38 dc38 pm38 cd38 ct38:Value}
 {u_BadSet u_BadPoint u_NoChord:Addr}
 {kc_least_ways pt_least_ways:Addr} {ts:List Addr}
 (a0:PySem.W.nsIn K mainGlobals "has_tie"=some (some (.ref f0)))
 (l0:K.lookup f0=some ⟨oc0,od0,.func (PySem.W.fnOf "has_tie" "has_tie" (ay eD) (ax eD) (ag eD) .none kV0 dc0 pm0 an0 cd0 ct0),sl0⟩)
 (c0:PySem.W.codeIn K cd0 "has_tie"=true) (k0:PySem.W.keepIn K (.ref f0)=true)
 (a1:PySem.W.nsIn K mainGlobals "ties_in"=some (some (.ref f1)))
 (l1:K.lookup f1=some ⟨oc1,od1,.func (PySem.W.fnOf "ties_in" "ties_in" (ay dF) (ax dF) (ag dF) .none kV1 dc1 pm1 an1 cd1 ct1),sl1⟩)
 (c1:PySem.W.codeIn K cd1 "ties_in"=true) (k1:PySem.W.keepIn K (.ref f1)=true)
 (a2:PySem.W.nsIn K mainGlobals "set_of"=some (some (.ref f2)))
 (l2:K.lookup f2=some ⟨oc2,od2,.func (PySem.W.fnOf "set_of" "set_of" (ay fE) (ax fE) (ag fE) .none kV2 dc2 pm2 an2 cd2 ct2),sl2⟩)
 (c2:PySem.W.codeIn K cd2 "set_of"=true) (k2:PySem.W.keepIn K (.ref f2)=true)
 (a3:PySem.W.nsIn K mainGlobals "all_ties"=some (some (.ref f3)))
 (l3:K.lookup f3=some ⟨oc3,od3,.func (PySem.W.fnOf "all_ties" "all_ties" (ay dJ) (ax dJ) (ag dJ) .none kV3 dc3 pm3 an3 cd3 ct3),sl3⟩)
 (c3:PySem.W.codeIn K cd3 "all_ties"=true) (k3:PySem.W.keepIn K (.ref f3)=true)
 (a4:PySem.W.nsIn K mainGlobals "is_set"=some (some (.ref f4)))
 (l4:K.lookup f4=some ⟨oc4,od4,.func (PySem.W.fnOf "is_set" "is_set" (ay fq) (ax fq) (ag fq) .none kV4 dc4 pm4 an4 cd4 ct4),sl4⟩)
 (c4:PySem.W.codeIn K cd4 "is_set"=true) (k4:PySem.W.keepIn K (.ref f4)=true)
 (a5:PySem.W.nsIn K mainGlobals "check_set"=some (some (.ref f5)))
 (l5:K.lookup f5=some ⟨oc5,od5,.func (PySem.W.fnOf "check_set" "check_set" (ay cS) (ax cS) (ag cS) .none kV5 dc5 pm5 an5 cd5 ct5),sl5⟩)
 (c5:PySem.W.codeIn K cd5 "check_set"=true) (k5:PySem.W.keepIn K (.ref f5)=true)
 (a6:PySem.W.nsIn K mainGlobals "drawn_together"=some (some (.ref f6)))
 (l6:K.lookup f6=some ⟨oc6,od6,.func (PySem.W.fnOf "drawn_together" "drawn_together" (ay bn) (ax bn) (ag bn) .none kV6 dc6 pm6 an6 cd6 ct6),sl6⟩)
 (c6:PySem.W.codeIn K cd6 "drawn_together"=true) (k6:PySem.W.keepIn K (.ref f6)=true)
 (a7:PySem.W.nsIn K mainGlobals "forest_trails"=some (some (.ref f7)))
 (l7:K.lookup f7=some ⟨oc7,od7,.func (PySem.W.fnOf "forest_trails" "forest_trails" (ay bx) (ax bx) (ag bx) .none kV7 dc7 pm7 an7 cd7 ct7),sl7⟩)
 (c7:PySem.W.codeIn K cd7 "forest_trails"=true) (k7:PySem.W.keepIn K (.ref f7)=true)
 (a8:PySem.W.nsIn K mainGlobals "forest"=some (some (.ref f8)))
 (l8:K.lookup f8=some ⟨oc8,od8,.func (PySem.W.fnOf "forest" "forest" (ay fB) (ax fB) (ag fB) .none kV8 dc8 pm8 an8 cd8 ct8),sl8⟩)
 (c8:PySem.W.codeIn K cd8 "forest"=true) (k8:PySem.W.keepIn K (.ref f8)=true)
 (a9:PySem.W.nsIn K mainGlobals "chords"=some (some (.ref f9)))
 (l9:K.lookup f9=some ⟨oc9,od9,.func (PySem.W.fnOf "chords" "chords" (ay fJ) (ax fJ) (ag fJ) .none kV9 dc9 pm9 an9 cd9 ct9),sl9⟩)
 (c9:PySem.W.codeIn K cd9 "chords"=true) (k9:PySem.W.keepIn K (.ref f9)=true)
 (a10:PySem.W.nsIn K mainGlobals "ring_closed"=some (some (.ref f10)))
 (l10:K.lookup f10=some ⟨oc10,od10,.func (PySem.W.fnOf "ring_closed" "ring_closed" (ay cv) (ax cv) (ag cv) .none kV10 dc10 pm10 an10 cd10 ct10),sl10⟩)
 (c10:PySem.W.codeIn K cd10 "ring_closed"=true) (k10:PySem.W.keepIn K (.ref f10)=true)
 (a11:PySem.W.nsIn K mainGlobals "chord_ring"=some (some (.ref f11)))
 (l11:K.lookup f11=some ⟨oc11,od11,.func (PySem.W.fnOf "chord_ring" "chord_ring" (ay cD) (ax cD) (ag cD) .none kV11 dc11 pm11 an11 cd11 ct11),sl11⟩)
 (c11:PySem.W.codeIn K cd11 "chord_ring"=true) (k11:PySem.W.keepIn K (.ref f11)=true)
 (a12:PySem.W.nsIn K mainGlobals "common"=some (some (.ref f12)))
 (l12:K.lookup f12=some ⟨oc12,od12,.func (PySem.W.fnOf "common" "common" (ay fM) (ax fM) (ag fM) .none kV12 dc12 pm12 an12 cd12 ct12),sl12⟩)
 (c12:PySem.W.codeIn K cd12 "common"=true) (k12:PySem.W.keepIn K (.ref f12)=true)
 (a13:PySem.W.nsIn K mainGlobals "bears_oddly"=some (some (.ref f13)))
 (l13:K.lookup f13=some ⟨oc13,od13,.func (PySem.W.fnOf "bears_oddly" "bears_oddly" (ay cp) (ax cp) (ag cp) .none kV13 dc13 pm13 an13 cd13 ct13),sl13⟩)
 (c13:PySem.W.codeIn K cd13 "bears_oddly"=true) (k13:PySem.W.keepIn K (.ref f13)=true)
 (a14:PySem.W.nsIn K mainGlobals "is_side"=some (some (.ref f14)))
 (l14:K.lookup f14=some ⟨oc14,od14,.func (PySem.W.fnOf "is_side" "is_side" (ay ee) (ax ee) (ag ee) .none kV14 dc14 pm14 an14 cd14 ct14),sl14⟩)
 (c14:PySem.W.codeIn K cd14 "is_side"=true) (k14:PySem.W.keepIn K (.ref f14)=true)
 (a15:PySem.W.nsIn K mainGlobals "cut_of"=some (some (.ref f15)))
 (l15:K.lookup f15=some ⟨oc15,od15,.func (PySem.W.fnOf "cut_of" "cut_of" (ay eM) (ax eM) (ag eM) .none kV15 dc15 pm15 an15 cd15 ct15),sl15⟩)
 (c15:PySem.W.codeIn K cd15 "cut_of"=true) (k15:PySem.W.keepIn K (.ref f15)=true)
 (a16:PySem.W.nsIn K mainGlobals "side_of"=some (some (.ref f16)))
 (l16:K.lookup f16=some ⟨oc16,od16,.func (PySem.W.fnOf "side_of" "side_of" (ay dG) (ax dG) (ag dG) .none kV16 dc16 pm16 an16 cd16 ct16),sl16⟩)
 (c16:PySem.W.codeIn K cd16 "side_of"=true) (k16:PySem.W.keepIn K (.ref f16)=true)
 (a17:PySem.W.nsIn K mainGlobals "steps_by_point"=some (some (.ref f17)))
 (l17:K.lookup f17=some ⟨oc17,od17,.func (PySem.W.fnOf "steps_by_point" "steps_by_point" (ay bp) (ax bp) (ag bp) .none kV17 dc17 pm17 an17 cd17 ct17),sl17⟩)
 (c17:PySem.W.codeIn K cd17 "steps_by_point"=true) (k17:PySem.W.keepIn K (.ref f17)=true)
 (a18:PySem.W.nsIn K mainGlobals "least_ways"=some (some (.ref f18)))
 (l18:K.lookup f18=some ⟨oc18,od18,.func (PySem.W.fnOf "least_ways" "least_ways" (ay bN) (ax bN) (ag bN) .none kV18 dc18 pm18 an18 (.ref kc_least_ways) ct18),sl18⟩) (hd18:PySem.W.codeHdIn K kc_least_ways pt_least_ways=true)
 (c18:PySem.W.codeIn K (.ref kc_least_ways) "least_ways"=true) (k18:PySem.W.keepIn K (.ref f18)=true)
 (a19:PySem.W.nsIn K mainGlobals "length_of_way"=some (some (.ref f19)))
 (l19:K.lookup f19=some ⟨oc19,od19,.func (PySem.W.fnOf "length_of_way" "length_of_way" (ay bK) (ax bK) (ag bK) .none kV19 dc19 pm19 an19 cd19 ct19),sl19⟩)
 (c19:PySem.W.codeIn K cd19 "length_of_way"=true) (k19:PySem.W.keepIn K (.ref f19)=true)
 (a20:PySem.W.nsIn K mainGlobals "worths_of_ways"=some (some (.ref f20)))
 (l20:K.lookup f20=some ⟨oc20,od20,.func (PySem.W.fnOf "worths_of_ways" "worths_of_ways" (ay bi) (ax bi) (ag bi) .none kV20 dc20 pm20 an20 cd20 ct20),sl20⟩)
 (c20:PySem.W.codeIn K cd20 "worths_of_ways"=true) (k20:PySem.W.keepIn K (.ref f20)=true)
 (a21:PySem.W.nsIn K mainGlobals "all_least_ways"=some (some (.ref f21)))
 (l21:K.lookup f21=some ⟨oc21,od21,.func (PySem.W.fnOf "all_least_ways" "all_least_ways" (ay bh) (ax bh) (ag bh) .none kV21 dc21 pm21 an21 cd21 ct21),sl21⟩)
 (c21:PySem.W.codeIn K cd21 "all_least_ways"=true) (k21:PySem.W.keepIn K (.ref f21)=true)
 (a22:PySem.W.nsIn K mainGlobals "worths_of_all"=some (some (.ref f22)))
 (l22:K.lookup f22=some ⟨oc22,od22,.func (PySem.W.fnOf "worths_of_all" "worths_of_all" (ay bu) (ax bu) (ag bu) .none kV22 dc22 pm22 an22 cd22 ct22),sl22⟩)
 (c22:PySem.W.codeIn K cd22 "worths_of_all"=true) (k22:PySem.W.keepIn K (.ref f22)=true)
 (a23:PySem.W.nsIn K mainGlobals "least_odd"=some (some (.ref f23)))
 (l23:K.lookup f23=some ⟨oc23,od23,.func (PySem.W.fnOf "least_odd" "least_odd" (ay cB) (ax cB) (ag cB) .none kV23 dc23 pm23 an23 cd23 ct23),sl23⟩)
 (c23:PySem.W.codeIn K cd23 "least_odd"=true) (k23:PySem.W.keepIn K (.ref f23)=true)
 (a24:PySem.W.nsIn K mainGlobals "_law_cell_at"=some (some (.ref f24)))
 (l24:K.lookup f24=some ⟨oc24,od24,.func (PySem.W.fnOf "_law_cell_at" "_law_cell_at" (ay cu) (ax cu) (ag cu) .none kV24 dc24 pm24 an24 cd24 ct24),sl24⟩)
 (c24:PySem.W.codeIn K cd24 "_law_cell_at"=true) (k24:PySem.W.keepIn K (.ref f24)=true)
 (a25:PySem.W.nsIn K mainGlobals "_law_left"=some (some (.ref f25)))
 (l25:K.lookup f25=some ⟨oc25,od25,.func (PySem.W.fnOf "_law_left" "_law_left" (ay dA) (ax dA) (ag dA) .none kV25 dc25 pm25 an25 cd25 ct25),sl25⟩)
 (c25:PySem.W.codeIn K cd25 "_law_left"=true) (k25:PySem.W.keepIn K (.ref f25)=true)
 (a26:PySem.W.nsIn K mainGlobals "_law_tie"=some (some (.ref f26)))
 (l26:K.lookup f26=some ⟨oc26,od26,.func (PySem.W.fnOf "_law_tie" "_law_tie" (ay eg) (ax eg) (ag eg) .none kV26 dc26 pm26 an26 cd26 ct26),sl26⟩)
 (c26:PySem.W.codeIn K cd26 "_law_tie"=true) (k26:PySem.W.keepIn K (.ref f26)=true)
 (a27:PySem.W.nsIn K mainGlobals "_law_web"=some (some (.ref f27)))
 (l27:K.lookup f27=some ⟨oc27,od27,.func (PySem.W.fnOf "_law_web" "_law_web" (ay eB) (ax eB) (ag eB) .none kV27 dc27 pm27 an27 cd27 ct27),sl27⟩)
 (c27:PySem.W.codeIn K cd27 "_law_web"=true) (k27:PySem.W.keepIn K (.ref f27)=true)
 (a28:PySem.W.nsIn K mainGlobals "_law_whole"=some (some (.ref f28)))
 (l28:K.lookup f28=some ⟨oc28,od28,.func (PySem.W.fnOf "_law_whole" "_law_whole" (ay cQ) (ax cQ) (ag cQ) .none kV28 dc28 pm28 an28 cd28 ct28),sl28⟩)
 (c28:PySem.W.codeIn K cd28 "_law_whole"=true) (k28:PySem.W.keepIn K (.ref f28)=true)
 (a29:PySem.W.nsIn K mainGlobals "_law_walk"=some (some (.ref f29)))
 (l29:K.lookup f29=some ⟨oc29,od29,.func (PySem.W.fnOf "_law_walk" "_law_walk" (ay cj) (ax cj) (ag cj) .none kV29 dc29 pm29 an29 cd29 ct29),sl29⟩)
 (c29:PySem.W.codeIn K cd29 "_law_walk"=true) (k29:PySem.W.keepIn K (.ref f29)=true)
 (a30:PySem.W.nsIn K mainGlobals "_law_least"=some (some (.ref f30)))
 (l30:K.lookup f30=some ⟨oc30,od30,.func (PySem.W.fnOf "_law_least" "_law_least" (ay cW) (ax cW) (ag cW) .none kV30 dc30 pm30 an30 cd30 ct30),sl30⟩)
 (c30:PySem.W.codeIn K cd30 "_law_least"=true) (k30:PySem.W.keepIn K (.ref f30)=true)
 (a31:PySem.W.nsIn K mainGlobals "_law_worths"=some (some (.ref f31)))
 (l31:K.lookup f31=some ⟨oc31,od31,.func (PySem.W.fnOf "_law_worths" "_law_worths" (ay bM) (ax bM) (ag bM) .none kV31 dc31 pm31 an31 cd31 ct31),sl31⟩)
 (c31:PySem.W.codeIn K cd31 "_law_worths"=true) (k31:PySem.W.keepIn K (.ref f31)=true)
 (a32:PySem.W.nsIn K mainGlobals "_law_length"=some (some (.ref f32)))
 (l32:K.lookup f32=some ⟨oc32,od32,.func (PySem.W.fnOf "_law_length" "_law_length" (ay cg) (ax cg) (ag cg) .none kV32 dc32 pm32 an32 cd32 ct32),sl32⟩)
 (c32:PySem.W.codeIn K cd32 "_law_length"=true) (k32:PySem.W.keepIn K (.ref f32)=true)
 (a33:PySem.W.nsIn K mainGlobals "_law_odd"=some (some (.ref f33)))
 (l33:K.lookup f33=some ⟨oc33,od33,.func (PySem.W.fnOf "_law_odd" "_law_odd" (ay eo) (ax eo) (ag eo) .none kV33 dc33 pm33 an33 cd33 ct33),sl33⟩)
 (c33:PySem.W.codeIn K cd33 "_law_odd"=true) (k33:PySem.W.keepIn K (.ref f33)=true)
 (a34:PySem.W.nsIn K mainGlobals "_law_nearest"=some (some (.ref f34)))
 (l34:K.lookup f34=some ⟨oc34,od34,.func (PySem.W.fnOf "_law_nearest" "_law_nearest" (ay cq) (ax cq) (ag cq) .none kV34 dc34 pm34 an34 cd34 ct34),sl34⟩)
 (c34:PySem.W.codeIn K cd34 "_law_nearest"=true) (k34:PySem.W.keepIn K (.ref f34)=true)
 (a35:PySem.W.nsIn K mainGlobals "_law_cut"=some (some (.ref f35)))
 (l35:K.lookup f35=some ⟨oc35,od35,.func (PySem.W.fnOf "_law_cut" "_law_cut" (ay eu) (ax eu) (ag eu) .none kV35 dc35 pm35 an35 cd35 ct35),sl35⟩)
 (c35:PySem.W.codeIn K cd35 "_law_cut"=true) (k35:PySem.W.keepIn K (.ref f35)=true)
 (a36:PySem.W.nsIn K mainGlobals "_law_side"=some (some (.ref f36)))
 (l36:K.lookup f36=some ⟨oc36,od36,.func (PySem.W.fnOf "_law_side" "_law_side" (ay cP) (ax cP) (ag cP) .none kV36 dc36 pm36 an36 cd36 ct36),sl36⟩)
 (c36:PySem.W.codeIn K cd36 "_law_side"=true) (k36:PySem.W.keepIn K (.ref f36)=true)
 (a37:PySem.W.nsIn K mainGlobals "_law_ring_right"=some (some (.ref f37)))
 (l37:K.lookup f37=some ⟨oc37,od37,.func (PySem.W.fnOf "_law_ring_right" "_law_ring_right" (ay bj) (ax bj) (ag bj) .none kV37 dc37 pm37 an37 cd37 ct37),sl37⟩)
 (c37:PySem.W.codeIn K cd37 "_law_ring_right"=true) (k37:PySem.W.keepIn K (.ref f37)=true)
 (a38:PySem.W.nsIn K mainGlobals "law"=some (some (.ref f38)))
 (l38:K.lookup f38=some ⟨oc38,od38,.func (PySem.W.fnOf "law" "law" (ay gw) (ax gw) (ag gw) .none kV38 dc38 pm38 an38 cd38 ct38),sl38⟩)
 (c38:PySem.W.codeIn K cd38 "law"=true) (k38:PySem.W.keepIn K (.ref f38)=true)
 (z_ValueError:PySem.W.nsIn K mainGlobals "ValueError"=some none)
 (z_bool:PySem.W.nsIn K mainGlobals "bool"=some none)
 (z_enumerate:PySem.W.nsIn K mainGlobals "enumerate"=some none)
 (z_int:PySem.W.nsIn K mainGlobals "int"=some none)
 (z_isinstance:PySem.W.nsIn K mainGlobals "isinstance"=some none)
 (z_len:PySem.W.nsIn K mainGlobals "len"=some none)
 (z_list:PySem.W.nsIn K mainGlobals "list"=some none)
 (z_max:PySem.W.nsIn K mainGlobals "max"=some none)
 (z_min:PySem.W.nsIn K mainGlobals "min"=some none)
 (z_range:PySem.W.nsIn K mainGlobals "range"=some none)
 (z_sum:PySem.W.nsIn K mainGlobals "sum"=some none)
 (z_tuple:PySem.W.nsIn K mainGlobals "tuple"=some none)
 (z_zip:PySem.W.nsIn K mainGlobals "zip"=some none)
 (d_BadSet:PySem.W.nsIn K mainGlobals "BadSet"=some (some (.ref u_BadSet)))
 (d_BadPoint:PySem.W.nsIn K mainGlobals "BadPoint"=some (some (.ref u_BadPoint)))
 (d_NoChord:PySem.W.nsIn K mainGlobals "NoChord"=some (some (.ref u_NoChord)))
 (xc_BadSet:PySem.W.excIn K u_BadSet [.type "ValueError",.type "Exception",.type "BaseException",.type "object"] "ValueError.__new__"=true)
 (xc_NoChord:PySem.W.excIn K u_NoChord [.type "ValueError",.type "Exception",.type "BaseException",.type "object"] "ValueError.__new__"=true)
 (nt:PySem.W.noTabs K=true) (pn:([pt_least_ways]:List Addr).Nodup) (pi:∀ p∈([pt_least_ways]:List Addr),p∈ts) (te:ts=[pt_least_ways])
 : ∃(fd:FuncData) (tb:jJ),((tb.map (·.1)).Nodup∧PySem.W.noTabs K=true∧∀ p∈tb,p.1∈ts∧∃ c,PySem.W.codeHdIn K c p.1=true)∧(∀(s:Shared) (v:Value),BindsTo s fd ⟨[v],[]⟩ [("script",v)])∧∀ base:Heap,K.In base→base.Ns mainGlobals mg→FnOk l.prog w K mg base CX0 8 fa fd ["script"] (nj K tb):=by
 have e:=hfa.symm.trans (PySem.W.mg_of X G a38)
 cases e
 have F0:=aK (st:=eD) l0 c0 k0
 have b0:=F0.binds (ps:=["tie_set","tie"]) fun _ _ _ _ _ _ us hl=>by obtain⟨_,_,rfl⟩:=fK us hl;rfl
 have F1:=aK (st:=dF) l1 c1 k1
 have b1:=F1.binds (ps:=["tie_set"]) fun _ _ _ _ _ _ us hl=>by obtain⟨_,rfl⟩:=kg us hl;rfl
 have F2:=aK (st:=fE) l2 c2 k2
 have b2:=F2.binds (ps:=["web","ties"]) fun _ _ _ _ _ _ us hl=>by obtain⟨_,_,rfl⟩:=fK us hl;rfl
 have F3:=aK (st:=dJ) l3 c3 k3
 have b3:=F3.binds (ps:=["web"]) fun _ _ _ _ _ _ us hl=>by obtain⟨_,rfl⟩:=kg us hl;rfl
 have F4:=aK (st:=fq) l4 c4 k4
 have b4:=F4.binds (ps:=["web","number"]) fun _ _ _ _ _ _ us hl=>by obtain⟨_,_,rfl⟩:=fK us hl;rfl
 have F5:=aK (st:=cS) l5 c5 k5
 have b5:=F5.binds (ps:=["web","tie_set"]) fun _ _ _ _ _ _ us hl=>by obtain⟨_,_,rfl⟩:=fK us hl;rfl
 have F6:=aK (st:=bn) l6 c6 k6
 have b6:=F6.binds (ps:=["leasts","one","other"]) fun _ _ _ _ _ _ us hl=>by obtain⟨_,_,_,rfl⟩:=nL us hl;rfl
 have F7:=aK (st:=bx) l7 c7 k7
 have b7:=F7.binds (ps:=["web"]) fun _ _ _ _ _ _ us hl=>by obtain⟨_,rfl⟩:=kg us hl;rfl
 have F8:=aK (st:=fB) l8 c8 k8
 have b8:=F8.binds (ps:=["web"]) fun _ _ _ _ _ _ us hl=>by obtain⟨_,rfl⟩:=kg us hl;rfl
 have F9:=aK (st:=fJ) l9 c9 k9
 have b9:=F9.binds (ps:=["web"]) fun _ _ _ _ _ _ us hl=>by obtain⟨_,rfl⟩:=kg us hl;rfl
 have F10:=aK (st:=cv) l10 c10 k10
 have b10:=F10.binds (ps:=["web","trails","chord"]) fun _ _ _ _ _ _ us hl=>by obtain⟨_,_,_,rfl⟩:=nL us hl;rfl
 have F11:=aK (st:=cD) l11 c11 k11
 have b11:=F11.binds (ps:=["web","tie"]) fun _ _ _ _ _ _ us hl=>by obtain⟨_,_,rfl⟩:=fK us hl;rfl
 have F12:=aK (st:=fM) l12 c12 k12
 have b12:=F12.binds (ps:=["one","other"]) fun _ _ _ _ _ _ us hl=>by obtain⟨_,_,rfl⟩:=fK us hl;rfl
 have F13:=aK (st:=cp) l13 c13 k13
 have b13:=F13.binds (ps:=["tie_set","marks"]) fun _ _ _ _ _ _ us hl=>by obtain⟨_,_,rfl⟩:=fK us hl;rfl
 have F14:=aK (st:=ee) l14 c14 k14
 have b14:=F14.binds (ps:=["web","side"]) fun _ _ _ _ _ _ us hl=>by obtain⟨_,_,rfl⟩:=fK us hl;rfl
 have F15:=aK (st:=eM) l15 c15 k15
 have b15:=F15.binds (ps:=["web","side"]) fun _ _ _ _ _ _ us hl=>by obtain⟨_,_,rfl⟩:=fK us hl;rfl
 have F16:=aK (st:=dG) l16 c16 k16
 have b16:=F16.binds (ps:=["web","tie_set"]) fun _ _ _ _ _ _ us hl=>by obtain⟨_,_,rfl⟩:=fK us hl;rfl
 have F17:=aK (st:=bp) l17 c17 k17
 have b17:=F17.binds (ps:=["web","marks"]) fun _ _ _ _ _ _ us hl=>by obtain⟨_,_,rfl⟩:=fK us hl;rfl
 have F18:=vI (st:=bN) l18 c18 k18 hd18
 have b18:=F18.binds (ps:=["web","marks","start"]) fun _ _ _ _ _ _ us hl=>by obtain⟨_,_,_,rfl⟩:=nL us hl;rfl
 have F19:=aK (st:=bK) l19 c19 k19
 have b19:=F19.binds (ps:=["way"]) fun _ _ _ _ _ _ us hl=>by obtain⟨_,rfl⟩:=kg us hl;rfl
 have F20:=aK (st:=bi) l20 c20 k20
 have b20:=F20.binds (ps:=["ways"]) fun _ _ _ _ _ _ us hl=>by obtain⟨_,rfl⟩:=kg us hl;rfl
 have F21:=aK (st:=bh) l21 c21 k21
 have b21:=F21.binds (ps:=["web","marks"]) fun _ _ _ _ _ _ us hl=>by obtain⟨_,_,rfl⟩:=fK us hl;rfl
 have F22:=aK (st:=bu) l22 c22 k22
 have b22:=F22.binds (ps:=["ways"]) fun _ _ _ _ _ _ us hl=>by obtain⟨_,rfl⟩:=kg us hl;rfl
 have F23:=aK (st:=cB) l23 c23 k23
 have b23:=F23.binds (ps:=["web","marks"]) fun _ _ _ _ _ _ us hl=>by obtain⟨_,_,rfl⟩:=fK us hl;rfl
 have F24:=aK (st:=cu) l24 c24 k24
 have b24:=F24.binds (ps:=["script","k"]) fun _ _ _ _ _ _ us hl=>by obtain⟨_,_,rfl⟩:=fK us hl;rfl
 have F25:=aK (st:=dA) l25 c25 k25
 have b25:=F25.binds (ps:=["cell","k","way"]) fun _ _ _ _ _ _ us hl=>by obtain⟨_,_,_,rfl⟩:=nL us hl;rfl
 have F26:=aK (st:=eg) l26 c26 k26
 have b26:=F26.binds (ps:=["left","points","mode"]) fun _ _ _ _ _ _ us hl=>by obtain⟨_,_,_,rfl⟩:=nL us hl;rfl
 have F27:=aK (st:=eB) l27 c27 k27
 have b27:=F27.binds (ps:=["script","most_points","most_ties"]) fun _ _ _ _ _ _ us hl=>by obtain⟨_,_,_,rfl⟩:=nL us hl;rfl
 have F28:=aK (st:=cQ) l28 c28 k28
 have b28:=F28.binds (ps:=["found"]) fun _ _ _ _ _ _ us hl=>by obtain⟨_,rfl⟩:=kg us hl;rfl
 have F29:=aK (st:=cj) l29 c29 k29
 have b29:=F29.binds (ps:=["web","some"]) fun _ _ _ _ _ _ us hl=>by obtain⟨_,_,rfl⟩:=fK us hl;rfl
 have F30:=aK (st:=cW) l30 c30 k30
 have b30:=F30.binds (ps:=["one","more"]) fun _ _ _ _ _ _ us hl=>by obtain⟨_,_,rfl⟩:=fK us hl;rfl
 have F31:=aK (st:=bM) l31 c31 k31
 have b31:=F31.binds (ps:=["web","marks","point"]) fun _ _ _ _ _ _ us hl=>by obtain⟨_,_,_,rfl⟩:=nL us hl;rfl
 have F32:=aK (st:=cg) l32 c32 k32
 have b32:=F32.binds (ps:=["web","some"]) fun _ _ _ _ _ _ us hl=>by obtain⟨_,_,rfl⟩:=fK us hl;rfl
 have F33:=aK (st:=eo) l33 c33 k33
 have b33:=F33.binds (ps:=["number"]) fun _ _ _ _ _ _ us hl=>by obtain⟨_,rfl⟩:=kg us hl;rfl
 have F34:=aK (st:=cq) l34 c34 k34
 have b34:=F34.binds (ps:=["web","marks"]) fun _ _ _ _ _ _ us hl=>by obtain⟨_,_,rfl⟩:=fK us hl;rfl
 have F35:=aK (st:=eu) l35 c35 k35
 have b35:=F35.binds (ps:=["web","side"]) fun _ _ _ _ _ _ us hl=>by obtain⟨_,_,rfl⟩:=fK us hl;rfl
 have F36:=aK (st:=cP) l36 c36 k36
 have b36:=F36.binds (ps:=["web","marks"]) fun _ _ _ _ _ _ us hl=>by obtain⟨_,_,rfl⟩:=fK us hl;rfl
 have F37:=aK (st:=bj) l37 c37 k37
 have b37:=F37.binds (ps:=["web","marks","found"]) fun _ _ _ _ _ _ us hl=>by obtain⟨_,_,_,rfl⟩:=nL us hl;rfl
 have F38:=aK (st:=gw) l38 c38 k38
 have b38:=F38.binds (ps:=["script"]) fun _ _ _ _ _ _ us hl=>by obtain⟨_,rfl⟩:=kg us hl;rfl
 have T:Txt K mg ⟨f0,_,f1,_,f2,_,f3,_,f4,_,f5,_,f6,_,f7,_,f8,_,f9,_,f10,_,f11,_,f12,_,f13,_,f14,_,f15,_,f16,_,f17,_,f18,_,f19,_,f20,_,f21,_,f22,_,f23,_,f24,_,f25,_,f26,_,f27,_,f28,_,f29,_,f30,_,f31,_,f32,_,f33,_,f34,_,f35,_,f36,_,f37,_,fa,_,u_BadSet,u_BadPoint,u_NoChord,kc_least_ways,pt_least_ways⟩:=⟨F0,PySem.W.mg_of X G a0,b0,F1,PySem.W.mg_of X G a1,b1,F2,PySem.W.mg_of X G a2,b2,F3,PySem.W.mg_of X G a3,b3,F4,PySem.W.mg_of X G a4,b4,F5,PySem.W.mg_of X G a5,b5,F6,PySem.W.mg_of X G a6,b6,F7,PySem.W.mg_of X G a7,b7,F8,PySem.W.mg_of X G a8,b8,F9,PySem.W.mg_of X G a9,b9,F10,PySem.W.mg_of X G a10,b10,F11,PySem.W.mg_of X G a11,b11,F12,PySem.W.mg_of X G a12,b12,F13,PySem.W.mg_of X G a13,b13,F14,PySem.W.mg_of X G a14,b14,F15,PySem.W.mg_of X G a15,b15,F16,PySem.W.mg_of X G a16,b16,F17,PySem.W.mg_of X G a17,b17,F18,PySem.W.mg_of X G a18,b18,F19,PySem.W.mg_of X G a19,b19,F20,PySem.W.mg_of X G a20,b20,F21,PySem.W.mg_of X G a21,b21,F22,PySem.W.mg_of X G a22,b22,F23,PySem.W.mg_of X G a23,b23,F24,PySem.W.mg_of X G a24,b24,F25,PySem.W.mg_of X G a25,b25,F26,PySem.W.mg_of X G a26,b26,F27,PySem.W.mg_of X G a27,b27,F28,PySem.W.mg_of X G a28,b28,F29,PySem.W.mg_of X G a29,b29,F30,PySem.W.mg_of X G a30,b30,F31,PySem.W.mg_of X G a31,b31,F32,PySem.W.mg_of X G a32,b32,F33,PySem.W.mg_of X G a33,b33,F34,PySem.W.mg_of X G a34,b34,F35,PySem.W.mg_of X G a35,b35,F36,PySem.W.mg_of X G a36,b36,F37,PySem.W.mg_of X G a37,b37,F38,PySem.W.mg_of X G a38,b38,PySem.W.mg_none_of X G z_ValueError,PySem.W.mg_none_of X G z_bool,PySem.W.mg_none_of X G z_enumerate,PySem.W.mg_none_of X G z_int,PySem.W.mg_none_of X G z_isinstance,PySem.W.mg_none_of X G z_len,PySem.W.mg_none_of X G z_list,PySem.W.mg_none_of X G z_max,PySem.W.mg_none_of X G z_min,PySem.W.mg_none_of X G z_range,PySem.W.mg_none_of X G z_sum,PySem.W.mg_none_of X G z_tuple,PySem.W.mg_none_of X G z_zip,PySem.W.mg_of X G d_BadSet,PySem.W.mg_of X G d_BadPoint,PySem.W.mg_of X G d_NoChord,fun h1 X1 G1=>sV X1 G1 d_BadSet xc_BadSet,fun h1 X1 G1=>sV X1 G1 d_NoChord xc_NoChord⟩
 exact⟨PySem.W.fnOf "law" "law" (ay gw) (ax gw) (ag gw) .none kV38 dc38 pm38 an38 cd38 ct38,[(pt_least_ways,tW "least_ways",bC)],⟨pn,nt,fun p hp=>⟨pi _ (List.mem_map_of_mem (f:=(·.1)) hp),by simp only[List.mem_cons,List.not_mem_nil,or_false]at hp;rcases hp with rfl;all_goals first | exact⟨_,hd18⟩⟩⟩,fun s v=>.of_eq rfl,fun base _ _=>xM T⟩
theorem yN{l:PySem.W.OpenLaw}{q:Program}{loose:List Str}{XP:(Str→Option Value)→Heap→Prop}{YP:World→Heap→Prop}{d:DefRec}{K:Params→PySem.W.Frag}{ts:List Addr}(hn:l.most=some 63)(hdf:d.params.defaults=[])
 (hY:∀(w:World) (h:Heap),YP w h→(K w.params).In h∧∀ P∈ts,h.get? P=some (PySem.W.tabObj #[]))
 (F:∀(w:World) (mg:Str→Option Value) (fa:Addr) (h:Heap),(K w.params).In h→h.Ns mainGlobals mg→mg d.name=some (.ref fa)→
  ∃(fd:FuncData) (tb:jJ),((tb.map (·.1)).Nodup∧PySem.W.noTabs (K w.params)=true∧∀ p∈tb,p.1∈ts∧∃ c,PySem.W.codeHdIn (K w.params) c p.1=true)∧(∀(s:Shared) (u:Value),BindsTo s fd ⟨[u],[]⟩ [("script",u)])∧∀ base:Heap,(K w.params).In base→base.Ns mainGlobals mg→FnOk l.prog w (K w.params) mg base CX0 8 fa fd ["script"] (nj (K w.params) tb)) :
 PySem.W.WalkO q loose XP YP l.row.toRowW d [] (fun f vs=>PySem.call f vs) :=
 L2.uv (n:=63) (k:=8) (x:="script") (CX:=fun _=>CX0) (sp:=fun w=>nj (K w.params)) hn (by decide) hdf ⟨rfl,by decide,by decide⟩ hY F (fun _ _ a ns tb hl hT hS=>⟨a,ns,rfl,hS,hl,hT,fun _=>rfl⟩) fun _ _ _ _ _ z=>z
end K21
def PySem.W.Fast.tw10117068570686952029:Unit:=()
def PySem.W.Fast.tw4979415694963295829:Unit:=()
def PySem.W.Fast.tw2998006961217749232:Unit:=()
def PySem.W.Fast.tw7814214469276952337:Unit:=()
def PySem.W.Fast.tw8476495964751290860:Unit:=()
def PySem.W.Fast.tw11232198797502037546:Unit:=()
def PySem.W.Fast.tw15981061561902654409:Unit:=()
def PySem.W.Fast.tw10144143089155876090:Unit:=()
open PySem PySem.W PyProof.Rows
set_option maxRecDepth 100000 in
set_option maxHeartbeats 0 in
theorem PySem.Challenge.cw_ringbase_k21_least_odd_rings_holds : PySem.Challenge.rw_ringbase_k21_least_odd_rings.Holds := by
 w_on;o_law;k_head;(case hw=>w_witness2)
 k_fill
 refine K21.yN (l:=PySem.Challenge.rw_ringbase_k21_least_odd_rings) rfl rfl (fun w h Y=>⟨PySem.W.km_in_of Y,PySem.W.km_tabs_of Y⟩) ?F
 case F =>
  intro w mg fa h KX G hmg
  refine' K21.xx KX G hmg ?a0 ?l0 ?c0 ?k0 ?a1 ?l1 ?c1 ?k1 ?a2 ?l2 ?c2 ?k2 ?a3 ?l3 ?c3 ?k3 ?a4 ?l4 ?c4 ?k4 ?a5 ?l5 ?c5 ?k5 ?a6 ?l6 ?c6 ?k6 ?a7 ?l7 ?c7 ?k7 ?a8 ?l8 ?c8 ?k8 ?a9 ?l9 ?c9 ?k9 ?a10 ?l10 ?c10 ?k10 ?a11 ?l11 ?c11 ?k11 ?a12 ?l12 ?c12 ?k12 ?a13 ?l13 ?c13 ?k13 ?a14 ?l14 ?c14 ?k14 ?a15 ?l15 ?c15 ?k15 ?a16 ?l16 ?c16 ?k16 ?a17 ?l17 ?c17 ?k17 ?a18 ?l18 ?hd18 ?c18 ?k18 ?a19 ?l19 ?c19 ?k19 ?a20 ?l20 ?c20 ?k20 ?a21 ?l21 ?c21 ?k21 ?a22 ?l22 ?c22 ?k22 ?a23 ?l23 ?c23 ?k23 ?a24 ?l24 ?c24 ?k24 ?a25 ?l25 ?c25 ?k25 ?a26 ?l26 ?c26 ?k26 ?a27 ?l27 ?c27 ?k27 ?a28 ?l28 ?c28 ?k28 ?a29 ?l29 ?c29 ?k29 ?a30 ?l30 ?c30 ?k30 ?a31 ?l31 ?c31 ?k31 ?a32 ?l32 ?c32 ?k32 ?a33 ?l33 ?c33 ?k33 ?a34 ?l34 ?c34 ?k34 ?a35 ?l35 ?c35 ?k35 ?a36 ?l36 ?c36 ?k36 ?a37 ?l37 ?c37 ?k37 ?a38 ?l38 ?c38 ?k38 ?z_ValueError ?z_bool ?z_enumerate ?z_int ?z_isinstance ?z_len ?z_list ?z_max ?z_min ?z_range ?z_sum ?z_tuple ?z_zip ?d_BadSet ?d_BadPoint ?d_NoChord ?xc_BadSet ?xc_NoChord ?nt ?pn ?pi ?te
  (case te=>exact rfl)
  (case d_BadSet=>k_is)
  (case d_BadPoint=>k_is)
  (case d_NoChord=>k_is)
  (case a0=>k_is)
  (case l0=>k_is)
  (case c0=>k_is)
  (case k0=>k_is)
  (case a1=>k_is)
  (case l1=>k_is)
  (case c1=>k_is)
  (case k1=>k_is)
  (case a2=>k_is)
  (case l2=>k_is)
  (case c2=>k_is)
  (case k2=>k_is)
  (case a3=>k_is)
  (case l3=>k_is)
  (case c3=>k_is)
  (case k3=>k_is)
  (case a4=>k_is)
  (case l4=>k_is)
  (case c4=>k_is)
  (case k4=>k_is)
  (case a5=>k_is)
  (case l5=>k_is)
  (case c5=>k_is)
  (case k5=>k_is)
  (case a6=>k_is)
  (case l6=>k_is)
  (case c6=>k_is)
  (case k6=>k_is)
  (case a7=>k_is)
  (case l7=>k_is)
  (case c7=>k_is)
  (case k7=>k_is)
  (case a8=>k_is)
  (case l8=>k_is)
  (case c8=>k_is)
  (case k8=>k_is)
  (case a9=>k_is)
  (case l9=>k_is)
  (case c9=>k_is)
  (case k9=>k_is)
  (case a10=>k_is)
  (case l10=>k_is)
  (case c10=>k_is)
  (case k10=>k_is)
  (case a11=>k_is)
  (case l11=>k_is)
  (case c11=>k_is)
  (case k11=>k_is)
  (case a12=>k_is)
  (case l12=>k_is)
  (case c12=>k_is)
  (case k12=>k_is)
  (case a13=>k_is)
  (case l13=>k_is)
  (case c13=>k_is)
  (case k13=>k_is)
  (case a14=>k_is)
  (case l14=>k_is)
  (case c14=>k_is)
  (case k14=>k_is)
  (case a15=>k_is)
  (case l15=>k_is)
  (case c15=>k_is)
  (case k15=>k_is)
  (case a16=>k_is)
  (case l16=>k_is)
  (case c16=>k_is)
  (case k16=>k_is)
  (case a17=>k_is)
  (case l17=>k_is)
  (case c17=>k_is)
  (case k17=>k_is)
  (case a18=>k_is)
  (case l18=>k_is)
  (case hd18=>kernel_rfl)
  (case c18=>k_is)
  (case k18=>k_is)
  (case a19=>k_is)
  (case l19=>k_is)
  (case c19=>k_is)
  (case k19=>k_is)
  (case a20=>k_is)
  (case l20=>k_is)
  (case c20=>k_is)
  (case k20=>k_is)
  (case a21=>k_is)
  (case l21=>k_is)
  (case c21=>k_is)
  (case k21=>k_is)
  (case a22=>k_is)
  (case l22=>k_is)
  (case c22=>k_is)
  (case k22=>k_is)
  (case a23=>k_is)
  (case l23=>k_is)
  (case c23=>k_is)
  (case k23=>k_is)
  (case a24=>k_is)
  (case l24=>k_is)
  (case c24=>k_is)
  (case k24=>k_is)
  (case a25=>k_is)
  (case l25=>k_is)
  (case c25=>k_is)
  (case k25=>k_is)
  (case a26=>k_is)
  (case l26=>k_is)
  (case c26=>k_is)
  (case k26=>k_is)
  (case a27=>k_is)
  (case l27=>k_is)
  (case c27=>k_is)
  (case k27=>k_is)
  (case a28=>k_is)
  (case l28=>k_is)
  (case c28=>k_is)
  (case k28=>k_is)
  (case a29=>k_is)
  (case l29=>k_is)
  (case c29=>k_is)
  (case k29=>k_is)
  (case a30=>k_is)
  (case l30=>k_is)
  (case c30=>k_is)
  (case k30=>k_is)
  (case a31=>k_is)
  (case l31=>k_is)
  (case c31=>k_is)
  (case k31=>k_is)
  (case a32=>k_is)
  (case l32=>k_is)
  (case c32=>k_is)
  (case k32=>k_is)
  (case a33=>k_is)
  (case l33=>k_is)
  (case c33=>k_is)
  (case k33=>k_is)
  (case a34=>k_is)
  (case l34=>k_is)
  (case c34=>k_is)
  (case k34=>k_is)
  (case a35=>k_is)
  (case l35=>k_is)
  (case c35=>k_is)
  (case k35=>k_is)
  (case a36=>k_is)
  (case l36=>k_is)
  (case c36=>k_is)
  (case k36=>k_is)
  (case a37=>k_is)
  (case l37=>k_is)
  (case c37=>k_is)
  (case k37=>k_is)
  (case a38=>k_is)
  (case l38=>k_is)
  (case c38=>k_is)
  (case k38=>k_is)
  (case z_ValueError=>k_is)
  (case z_bool=>k_is)
  (case z_enumerate=>k_is)
  (case z_int=>k_is)
  (case z_isinstance=>k_is)
  (case z_len=>k_is)
  (case z_list=>k_is)
  (case z_max=>k_is)
  (case z_min=>k_is)
  (case z_range=>k_is)
  (case z_sum=>k_is)
  (case z_tuple=>k_is)
  (case z_zip=>k_is)
  (case xc_BadSet=>k_exc)
  (case xc_NoChord=>k_exc)
  (case nt=>kernel_rfl)
  (case pn=>decide)
  (case pi=>decide)
