import PyProof.Rows.All
import Wide.All
import OpenK.AllK
import Wide.FinOn
import Lean
import PyProof.EqAt
import PyProof.EqKinds
import PyProof.TupleCall
import PySem.Challenge.RW_ringbase_k23_least_odd_refused
set_option Elab.async false
set_option linter.all false
set_option maxRecDepth 100000
namespace L2
open PySem PySem.Spec PyProof.Rows
abbrev Key:=Sum Int Str
def nX:Key→Value→Bool
 | .inl k,v=>Value.isInt k v
 | .inr x,v=>Value.isStrOf x v
def aaX(w:World):Key→Int
 | .inl k=>hashInt k
 | .inr x=>hashStr w x
theorem bU:∀{k:Key} {v:Value},nX k v=true→(∃ i t,k=Sum.inl i∧v=Value.int i t)∨(∃ x t,k=Sum.inr x∧v=Value.str x t)
 | .inl i,v,h=>by
   obtain⟨t,e⟩:=Value.isInt_shape (k:=i) (v:=v) h
   exact .inl ⟨i,t,rfl,e⟩
 | .inr x,v,h=>by
   obtain⟨t,e⟩:=Value.isStrOf_shape (x:=x) (v:=v) h
   exact .inr ⟨x,t,rfl,e⟩
theorem uy(i:Int)(t:Tok):nX (.inl i) (.int i t)=true:=by simp[nX,Value.isInt]
theorem ug(x:Str)(t:Tok):nX (.inr x) (.str x t)=true:=by simp[nX,Value.isStrOf]
theorem zi(a b:Int):decide ((Sum.inl a:Key)=Sum.inl b)=(a==b):=by
 by_cases e:a=b
 ·subst e;simp
 ·have h : ¬(Sum.inl a:Key)=Sum.inl b:=fun q=>e (Sum.inl.inj q)
  rw[decide_eq_false h]
  exact(beq_eq_false_iff_ne.mpr e).symm
theorem yU(a b:Str):decide ((Sum.inr a:Key)=Sum.inr b)=decide (a=b):=by
 by_cases e:a=b
 ·subst e;simp
 ·have h : ¬(Sum.inr a:Key)=Sum.inr b:=fun q=>e (Sum.inr.inj q)
  rw[decide_eq_false h,decide_eq_false e]
theorem zo(a:Int)(b:Str):decide ((Sum.inl a:Key)=Sum.inr b)=false:=decide_eq_false (fun q=>nomatch q)
theorem zE(a:Str)(b:Int):decide ((Sum.inr a:Key)=Sum.inl b)=false:=decide_eq_false (fun q=>nomatch q)
def cp(prog:Program)(w:World):PySem.KeyKind prog w Key where
 is:=nX
 hash:=aaX w
 inj:=fun v a b ha hb=>by
  rcases bU ha with⟨i,t,rfl,rfl⟩|⟨x,t,rfl,rfl⟩
  ·rcases bU hb with⟨j,u,rfl,e⟩|⟨y,u,rfl,e⟩
   ·injection e with e1 _;rw[e1]
   ·exact nomatch e
  ·rcases bU hb with⟨j,u,rfl,e⟩|⟨y,u,rfl,e⟩
   ·exact nomatch e
   ·injection e with e1 _;rw[e1]
 byValue:=fun k v h=>by
  rcases bU h with⟨i,t,rfl,rfl⟩|⟨x,t,rfl,rfl⟩<;>rfl
 pyHash:=fun hv h=>by
  rcases bU hv with⟨i,t,rfl,rfl⟩|⟨x,t,rfl,rfl⟩
  ·exact wpAny_pyHash_int h
  ·exact wpAny_pyHash_str h
 eqBool:=fun hu hv h=>by
  rcases bU hu with⟨i,t,rfl,rfl⟩|⟨x,t,rfl,rfl⟩
  ·rcases bU hv with⟨j,u,rfl,rfl⟩|⟨y,u,rfl,rfl⟩
   ·rw[zi]at h;exact wpAny_eqBool_int h
   ·rw[zo]at h;exact SeqAt.EqAt.int_str i t y u _ _ _ _ h
  ·rcases bU hv with⟨j,u,rfl,rfl⟩|⟨y,u,rfl,rfl⟩
   ·rw[zE]at h;exact SeqAt.EqAt.str_int x t j u _ _ _ _ h
   ·rw[yU]at h;exact wpAny_eqBool_str h
 «strs»:=fun k x t v h=>by
  rcases bU h with⟨i,u,rfl,e⟩|⟨y,u,rfl,e⟩
  ·exact nomatch e
  ·injection e with e1 _
   subst e1
   cases v<;>rfl
theorem qN(prog:Program)(w:World)(i:Int)(t:Tok):(cp prog w).is (.inl i) (.int i t)=true:=uy i t
theorem qi(prog:Program)(w:World)(x:Str)(t:Tok):(cp prog w).is (.inr x) (.str x t)=true:=ug x t
end L2
namespace L2
open PySem PySem.Spec PyProof.Rows
inductive V where
 | non | bl (b:Bool) | int (i:Int) | str (x:Str) | byt (b:Array UInt8) | flt (b:UInt64) | ref (a:Addr) | ty (n:String)
 deriving DecidableEq
def aN:V→Value→Prop
 | .non,u=>u=Value.none
 | .bl b,u=>u=Value.bool b
 | .int i,u=>∃ t,u=Value.int i t
 | .str x,u=>∃ t,u=Value.str x t
 | .byt b,u=>∃ t,u=Value.bytes b t
 | .flt b,u=>∃ t,u=Value.float b t
 | .ref a,u=>u=Value.ref a
 | .ty n,u=>u=Value.type n
abbrev aR:List V→List Value→Prop:=Paired aN
theorem aR.length{xs:List V}{us:List Value}(r:aR xs us):xs.length=us.length:=Paired.length r
theorem aR.get:∀{xs:List V} {us:List Value} {i:Nat} {x:V},aR xs us→xs[i]?=some x→∃ u,us[i]?=some u∧aN x u
 | _,_,_,_,.nil,e=>by simp at e
 | _,_,0,_,.cons r _,e=>by simp at e;subst e;exact⟨_,rfl,r⟩
 | _,_,i+1,x,.cons _ t,e=>by
   obtain⟨u,h1,h2⟩:=aR.get (i:=i) (x:=x) t (by simpa using e)
   exact⟨u,by simpa using h1,h2⟩
theorem aR.set{x:V}{u:Value}(r:aN x u):∀{xs:List V} {us:List Value} (i:Nat),aR xs us→aR (xs.set i x) (us.set i u)
 | _,_,_,.nil=>.nil
 | _,_,0,.cons _ t=>.cons r t
 | _,_,i+1,.cons q t=>.cons q (aR.set r i t)
theorem aR.append:∀{xs ys:List V} {us ws:List Value},aR xs us→aR ys ws→aR (xs++ys) (us++ws)
 | _,_,_,_,.nil,s=>s
 | _,_,_,_,.cons r t,s=>.cons r (aR.append t s)
theorem aR.take:∀{xs:List V} {us:List Value} (n:Nat),aR xs us→aR (xs.take n) (us.take n)
 | _,_,0,_=>.nil
 | _,_,_+1,.nil=>.nil
 | _,_,n+1,.cons r t=>.cons r (aR.take n t)
theorem aR.drop:∀{xs:List V} {us:List Value} (n:Nat),aR xs us→aR (xs.drop n) (us.drop n)
 | _,_,0,r=>r
 | _,_,_+1,.nil=>.nil
 | _,_,n+1,.cons _ t=>aR.drop n t
def jS:Option V→Option Value→Prop
 | some v,some u=>aN v u
 | none,none=>True
 | _,_=>False
def KV{κ:Type}:List (κ×V)→List (κ×Value)→Prop:=Paired fun(p:κ×V) (q:κ×Value)=>p.1=q.1∧aN p.2 q.2
def kV:Key→V
 | .inl i=>.int i
 | .inr x=>.str x
inductive HO where
 | lst (xs:List V)
 | tup (xs:List V)
 | dK (kvs:List (Key×V)) | dT (kvs:List (List Key×V))
 | set (S:Int→Bool) (n:Nat)
 | ins (C dx:Addr) (fs:List (Str×V))
 | own (x:Addr)
 | xd (fs:List (Str×V))
 | met (f x:Addr)
 | rng (lo hi:Int)
 | frz (o:Obj) (u:HO)
 | tbl (ps:Array Value)
 | ext (φ:Heap→Prop)
abbrev Hp:=Addr→Option HO
def upd(H:Hp)(a:Addr)(o:HO):Hp:=fun b=>if b=a then some o else H b
theorem ag{H:Hp}{a:Addr}{o:HO}:upd H a o a=some o:=by unfold upd;rw[if_pos rfl]
theorem ak{H:Hp}{a b:Addr}{o:HO}(h:b≠a):upd H a o b=H b:=by unfold upd;rw[if_neg h]
theorem aO{H:Hp}{a b:Addr}{o u:HO}(h:H a=some o)(h' : H b=some u)(d:o≠u):a≠b:=by
 intro e;subst e;rw[h]at h';exact d (Option.some.inj h')
theorem bi{H:Hp}{a b:Addr}{o:HO}(h:H a=some o)(h' : H b=none):a≠b:=by
 intro e;subst e;rw[h]at h';cases h'
def yp(qs:Array Value):Str:=match (qs[0]?:Option Value) with | some (Value.str q _)=>q | _=>""
section
variable (P:Program)(w:World)
def aV(H:Hp)(h:Heap)(a:Addr):HO→Prop
 | .lst xs=>xs.length≤sizeLine∧∃(its:List Value) (n:Nat),aR xs its∧h.get? a=some { cls:=.type "list",data:=.seq its.toArray n}
 | .tup xs=>xs.length≤sizeLine∧∃ its:List Value,aR xs its∧IsTup h a its.toArray
 | .dK kvs=>kvs.length≤sizeLine∧(a==sysModules)=false∧∃ vs,KV kvs vs∧h.DictOf (cp P w) a vs
 | .dT kvs=>kvs.length≤sizeLine∧(a==sysModules)=false∧∃ xs:List (List Key×Addr×Value),
  Paired (fun(p:List Key×V) (q:List Key×Addr×Value)=>p.1=q.1∧H q.2.1=some (.tup (p.1.map kV))∧aN p.2 q.2.2) kvs xs∧
  ∃ o es ep,h.get? a=some o∧o.ExactDict∧o.data = .dict es ep∧es.toList=xs.map (entryOfKey (tupleKind (cp P w)))∧(xs.map (·.1)).Nodup
 | .set S n=>h.SetOf (intKind P w) a S n
 | .ins C dx fs=>H dx=some (.own a)∧fs.length≤1000∧dx≠a∧h.get? a=some (PySem.W.instObj C dx)∧
  ∃ mA,h.Ns1 dx mA∧(∀ f,jS (fs.lookup f) (mA f))∧PySem.Within mA (fs.map (·.1))
 | .own _=>∃ o,h.get? a=some o
 | .xd fs=>∃ mA,h.Ns1 a mA∧∀ f,jS (fs.lookup f) (mA f)
 | .rng lo hi=>∃ t u v,h.get? a=some { cls:=.type "range",data:=.fields #[.int lo t,.int hi u,.int 1 v]}
 | .frz o u=>h.get? a=some o∧aV H h a u
 | .tbl qs=>∃ ps:Array Value,h.get? a=some { cls:=.none,data:=.fields ps}∧((qs.size=3∧(ps = #[]∨∃ c,ps = #[qs.getD 1 .none,qs.getD 2 .none,.ref c]∧H c=some (.own a)∧h.CodeRec (.ref c) (yp qs)))∨∃ q l k,qs = #[q,l,k]++ps∧ps.size=3)
 | .met f x=>h.get? a=some (PySem.W.methodObj (.ref f) (.ref x))
 | .ext φ=>φ h∧(∃ o,h.get? a=some o)∧∀ h1 h2:Heap,φ h1→(∀ o,h1.get? a=some o→h2.get? a=some o)→φ h2
def HOk(H:Hp)(h:Heap):Prop:=∀ a o,H a=some o→aV P w H h a o
end
section
variable {P:Program}{w:World}{H H' : Hp}{h h' : Heap}{a:Addr}{o:HO}
theorem aV.lt(x:aV P w H h a o):a<h.objs.size:=by
 cases o with
 | lst xs=>obtain⟨_,_,_,_,e⟩:=x;exact Heap.lt_size e
 | tup xs=>obtain⟨_,_,_,p⟩:=x;exact p.lt
 | dK kvs=>obtain⟨_,_,_,_,o,_,_,e,_⟩:=x;exact Heap.lt_size e
 | dT kvs=>obtain⟨_,_,_,_,o,_,_,e,_⟩:=x;exact Heap.lt_size e
 | set S n=>obtain⟨o,_,_,_,e,_⟩:=x;exact Heap.lt_size e
 | ins C dx fs=>obtain⟨_,_,_,e,_⟩:=x;exact Heap.lt_size e
 | own y=>obtain⟨_,e⟩:=x;exact Heap.lt_size e
 | xd fs=>obtain⟨_,⟨_,_,_,e,_⟩,_⟩:=x;exact Heap.lt_size e
 | rng lo hi=>obtain⟨_,_,_,e⟩:=x;exact Heap.lt_size e
 | frz ob u=>obtain⟨e,_⟩:=x;exact Heap.lt_size e
 | tbl ps=>obtain⟨_,e,_⟩:=x;exact Heap.lt_size e
 | met f y=>exact Heap.lt_size (show h.get? a=some _ from x)
 | ext φ=>obtain⟨_,⟨_,e⟩,_⟩:=x;exact Heap.lt_size e
theorem Paired.mapP{α β:Type}{F G:α→β→Prop}:∀{l₁:List α} {l₂:List β},Paired F l₁ l₂→(∀ a b,F a b→G a b)→Paired G l₁ l₂
 | _,_,.nil,_=>.nil
 | _,_,.cons r t,f=>.cons (f _ _ r) (Paired.mapP t f)
theorem Paired.imp'{α β:Type}{F G:α→β→Prop}(f:∀ a b,F a b→G a b){l₁:List α}{l₂:List β}(r:Paired F l₁ l₂):Paired G l₁ l₂:=Paired.mapP r f
theorem aV.stay(x:aV P w H h a o)(k:∀ b u,(b=a∨H b=some (.own a))→h.get? b=some u→h'.get? b=some u)
 (ho:∀ b,H b=some (.own a)→H' b=some (.own a)) (ht:∀ b xs,H b=some (.tup xs)→H' b=some (.tup xs)):aV P w H' h' a o:=by
 induction o with
 | lst xs=>obtain⟨z,its,n,r,e⟩:=x;exact⟨z,its,n,r,k _ _ (.inl rfl) e⟩
 | tup xs=>obtain⟨z,its,r,ob,e,c⟩:=x;exact⟨z,its,r,ob,k _ _ (.inl rfl) e,c⟩
 | dK kvs=>obtain⟨z,y,vs,r,ob,es,ep,e,c⟩:=x;exact⟨z,y,vs,r,ob,es,ep,k _ _ (.inl rfl) e,c⟩
 | dT kvs =>
   obtain⟨z,y,xs,r,ob,es,ep,e,c⟩:=x
   exact⟨z,y,xs,Paired.mapP r fun p q z=>⟨z.1,ht _ _ z.2.1,z.2.2⟩,ob,es,ep,k _ _ (.inl rfl) e,c⟩
 | set S n=>obtain⟨ob,es,ep,t,e,c⟩:=x;exact⟨ob,es,ep,t,k _ _ (.inl rfl) e,c⟩
 | ins C dx fs =>
   obtain⟨d,z,ne,e,mA,⟨od,es,ep,e2,c⟩,r⟩:=x
   exact⟨ho _ d,z,ne,k _ _ (.inl rfl) e,mA,⟨od,es,ep,k _ _ (.inr d) e2,c⟩,r⟩
 | own y=>obtain⟨ob,e⟩:=x;exact⟨ob,k _ _ (.inl rfl) e⟩
 | xd fs=>obtain⟨mA,⟨od,es,ep,e,c⟩,r⟩:=x;exact⟨mA,⟨od,es,ep,k _ _ (.inl rfl) e,c⟩,r⟩
 | rng lo hi=>obtain⟨t,u,v,e⟩:=x;exact⟨t,u,v,k _ _ (.inl rfl) e⟩
 | frz ob u ih=>obtain⟨e,q⟩:=x;exact⟨k _ _ (.inl rfl) e,ih q⟩
 | tbl qs =>
   obtain⟨ps,e,f⟩:=x
   refine⟨ps,k _ _ (.inl rfl) e,?_⟩
   rcases f with⟨hz,f|⟨c,e1,e2,c',oc,vs,tq,hc,ho',hd,hv⟩⟩|f
   ·exact .inl ⟨hz,.inl f⟩
   ·cases hc
    exact .inl ⟨hz,.inr ⟨c,e1,ho _ e2,c,oc,vs,tq,rfl,k _ _ (.inr e2) ho',hd,hv⟩⟩
   ·exact .inr f
 | met f y =>
   have e:h.get? a=some (PySem.W.methodObj (.ref f) (.ref y)):=x
   show h'.get? a=some (PySem.W.methodObj (.ref f) (.ref y))
   exact k a _ (.inl rfl) e
 | ext φ=>obtain⟨p,⟨o,e⟩,st⟩:=x;exact⟨st _ _ p fun o q=>k _ _ (.inl rfl) q,⟨o,k _ _ (.inl rfl) e⟩,st⟩
theorem HOk.lt(x:HOk P w H h)(e:H a=some o):a<h.objs.size:=(x a o e).lt
theorem HOk.fresh(x:HOk P w H h)(e:h.objs.size≤a):H a=none:=by
 cases q:H a with
 | none=>rfl
 | some u=>exact absurd (Nat.lt_of_lt_of_le (x.lt q) e) (Nat.lt_irrefl _)
theorem HOk.kept(x:HOk P w H h)(k:∀ b u,h.get? b=some u→h'.get? b=some u):HOk P w H h':=fun a o e =>
 (x a o e).stay (fun b u _ q=>k b u q) (fun _ q=>q) fun _ _ q=>q
theorem HOk.laid(x:HOk P w H h)(k:∀ b u,h.get? b=some u→h'.get? b=some u)(hp:h.objs.size≤a)(new:aV P w (upd H a o) h' a o):HOk P w (upd H a o) h':=fun b u e=>by
 have hn:=x.fresh hp
 by_cases hb:b=a
 ·subst hb;rw[ag]at e;cases e;exact new
 ·rw[ak hb]at e
  exact(x b u e).stay (fun c v _ q=>k c v q) (fun c q=>by rw[ak (bi q hn)];exact q) fun c xs q=>by rw[ak (bi q hn)];exact q
end
def Rd(H:Hp)(a:Addr)(u:HO):Prop:=H a=some u∨∃ o,H a=some (.frz o u)
theorem Rd.ok{P:Program}{w:World}{H:Hp}{h:Heap}{a:Addr}{u:HO}(r:Rd H a u)(x:HOk P w H h):aV P w H h a u:=by
 rcases r with r|⟨o,r⟩
 ·exact x a u r
 ·obtain⟨_,q⟩:=x a _ r
  exact q
def Mut:Option HO→Prop
 | some (.lst _)=>True
 | some (.dK _)=>True
 | some (.dT _)=>True
 | some (.set _ _)=>True
 | some (.ins _ _ _)=>True
 | some (.ext _)=>True
 | _=>False
section
variable {P:Program}{w:World}{H:Hp}{h h' : Heap}{x e:Addr}{o' : HO}
theorem HOk.write(ok:HOk P w H h)(mu:Mut (H x))(he:e=x∨H e=some (.own x))(k:∀ b u,b≠e→h.get? b=some u→h'.get? b=some u)(heo:∃ u,h'.get? e=some u)
 (new:aV P w (upd H x o') h' x o'):HOk P w (upd H x o') h':=fun b u q=>by
 have nown:∀ c y,H c=some (.own y)→c≠x:=fun c y r z=>by subst z;rw[r]at mu;exact mu
 have ntup:∀ c xs,H c=some (.tup xs)→c≠x:=fun c xs r z=>by subst z;rw[r]at mu;exact mu
 by_cases hb:b=x
 ·subst hb;rw[ag]at q;cases q;exact new
 ·rw[ak hb]at q
  by_cases hbe:b=e
  ·have q' : H b=some (.own x):=by
    rcases he with z|z
    ·exact absurd (hbe.trans z) hb
    ·rw[hbe];exact z
   rw[q]at q';cases q'
   obtain⟨v,hv⟩:=heo
   exact⟨v,by rw[hbe];exact hv⟩
  ·refine(ok b u q).stay (fun c v hc r=>k c v ?_ r) (fun c r=>by rw[ak (nown c b r)];exact r) fun c xs r=>by rw[ak (ntup c xs r)];exact r
   rcases hc with rfl|hc
   ·exact hbe
   ·rintro rfl
    rcases he with z|z
    ·exact nown c b hc z
    ·rw[hc]at z;cases z;exact hb rfl
end
structure Un(fs ex:List Addr)(H H' : Hp)(h h' : Heap):Prop where
 keep:∀ b o,h.get? b=some o→H b=none→b∉fs→b∉ex→h'.get? b=some o
 slot:∀ b o,h.get? b=some o→H b=none→b∈fs→b∉ex→∃ sl,h'.get? b=some { o with slots:=sl}
 free:∀ b o,h.get? b=some o→H b=none→b∉ex→H' b=none
 there:∀ b o,h.get? b=some o→b∉ex→∃ o',h'.get? b=some o'
 tups:∀ b xs,H b=some (.tup xs)→H' b=some (.tup xs)
 frzs:∀ b o u,H b=some (.frz o u)→H' b=some (.frz o u)
 tbls:∀ b ps,H b=some (.tbl ps)→∃ more,H' b=some (.tbl (ps++more))
section
variable {fs fs' ex ex' : List Addr}{H H1 H2:Hp}{h h1 h2 h' : Heap}{a x e:Addr}{o:HO}
theorem Un.any(u:Un fs ex H H1 h h1){b:Addr}{ob:Obj}(q:h.get? b=some ob)(n:H b=none)(hx:b∉ex):∃ sl,h1.get? b=some { ob with slots:=sl}:=by
 by_cases hb:b∈fs
 ·exact u.slot b ob q n hb hx
 ·exact⟨ob.slots,u.keep b ob q n hb hx⟩
theorem Un.kept(k:∀ b u,h.get? b=some u→h'.get? b=some u):Un fs ex H H h h' :=
 ⟨fun b ob q _ _ _=>k b ob q,fun b ob q _ _ _=>⟨ob.slots,k b ob q⟩,fun _ _ _ n _=>n,fun b ob q _=>⟨ob,k b ob q⟩,fun _ _ q=>q,fun _ _ _ q=>q,fun _ ps q=>⟨#[],by rw[q];simp⟩⟩
theorem Un.refl:Un fs ex H H h h:=Un.kept fun _ _ q=>q
theorem Un.laid(k:∀ b u,h.get? b=some u→h'.get? b=some u)(hp:h.objs.size≤a)(hn:H a=none):Un fs ex H (upd H a o) h h' where
 keep:=fun b u q _ _ _=>k b u q
 slot:=fun b u q _ _ _=>⟨u.slots,k b u q⟩
 free:=fun b u q n _=>by rw[ak (Nat.ne_of_lt (Nat.lt_of_lt_of_le (Heap.lt_size q) hp))];exact n
 there:=fun b u q _=>⟨u,k b u q⟩
 tups:=fun b xs q=>by rw[ak (bi q hn)];exact q
 frzs:=fun b u xs q=>by rw[ak (bi q hn)];exact q
 tbls:=fun b ps q=>⟨#[],by rw[ak (bi q hn),q];simp⟩
theorem Un.write(mu:Mut (H x))(he:e=x∨H e=some (.own x))(k:∀ b u,b≠e→h.get? b=some u→h'.get? b=some u)(heo:∃ u,h'.get? e=some u):Un fs ex H (upd H x o) h h':=by
 have hx:∀ b,H b=none→b≠x:=fun b n z=>by subst z;rw[n]at mu;exact mu
 have hb:∀ b,H b=none→b≠e:=fun b n z=>by
  subst z
  rcases he with r|r
  ·exact hx b n r
  ·rw[n]at r;cases r
 have hm:∀ b u,H b=some u→¬ Mut (some u)→b≠x:=fun b u q nm z=>by subst z;rw[q]at mu;exact nm mu
 refine⟨fun b u q n _ _=>k b u (hb b n) q,fun b u q n _ _=>⟨u.slots,k b u (hb b n) q⟩,fun b u q n _=>by rw[ak (hx b n)];exact n,fun b u q _=>?_,
  fun b xs q=>by rw[ak (hm b _ q fun z=>z)];exact q,fun b u xs q=>by rw[ak (hm b _ q fun z=>z)];exact q,fun b ps q=>⟨#[],by rw[ak (hm b _ q fun z=>z),q];simp⟩⟩
 by_cases hbe:b=e
 ·subst hbe;exact heo
 ·exact⟨u,k b u hbe q⟩
end
def trk(h:Heap)(H:Hp):List Addr:=(List.range h.objs.size).filter fun a=>(H a).isSome
def qI(h:Heap)(H:Hp):Heap:=PySem.W.hideAll h (trk h H)
theorem uo(h:Heap)(H:Hp):(qI h H).objs.size=h.objs.size:=PySem.W.hideAll_size _ _
theorem my{h:Heap}{H:Hp}{b:Addr}{o:Obj}(e:h.get? b=some o)(n:H b=none):(qI h H).get? b=some o :=
 PySem.W.hideAll_get _ e fun hm=>by
  have q:(H b).isSome=true:=(List.mem_filter.mp hm).2
  rw[n]at q;simp at q
theorem xY{h:Heap}{H:Hp}{b:Addr}{o:Obj}(e:(qI h H).get? b=some o):h.get? b=some o∧H b=none:=by
 have e' : h.get? b=some o:=PySem.W.of_hideAll (trk h H) e
 refine⟨e',?_⟩
 cases q:H b with
 | none=>rfl
 | some x =>
   have hm:b∈trk h H:=List.mem_filter.mpr ⟨List.mem_range.mpr (Heap.lt_size e'),by simp[q]⟩
   have z:(qI h H).get? b=none:=PySem.W.hideAll_none (trk h H) hm
   rw[z]at e;cases e
end L2
namespace L2
open PySem PySem.Spec PyProof.Rows
structure Mod(K:PySem.W.Frag)(mg:Str→Option Value)(base:Heap):Prop where
 kin:K.In base
 glob:base.Ns mainGlobals mg
 blt:∃ mb,base.Ns builtinsNs mb∧∀ x:Str,x≠"__name__"→mb x=bootBuiltins x
 nolimit:base.NoLimit
 bmain:∃ bm ob,mg "__builtins__"=some (.ref bm)∧bm≠builtinsNs∧base.get? bm=some ob∧ob.cls = .type "module"∧ob.dict=some builtinsNs∧ob.data = .plain
structure Cx where
 prog:Program
 w:World
 K:PySem.W.Frag
 mg:Str→Option Value
 base:Heap
 A:Around
 N:List Str
 s₀:Shared
 H₀:Hp
 env:Env
 outer:List Env
 stack:List Env
 ex:List Addr
 fn:Str→Bool
 calm:Bool
 pn:List (Addr×Obj)
 xe:Value→Shared→Prop
def frs(l:List Env):List Addr:=l.filterMap (·.frame)
abbrev Cx.fs(X:Cx):List Addr:=frs X.outer
def Vis(sc:Scope)(x:Str):Prop:=sc.names.lookup x=some .local∨sc.names.lookup x=some .cell∨sc.names.lookup x=some .free
def Loc(sc:Scope)(x:Str):Prop:=sc.names.lookup x=some .local∨sc.names.lookup x=some .cell
def aa6(env:Env)(h:Heap)(m:Str→Option Value)(x:Str)(u:Value):Prop :=
 (env.kindOf x=some .local∧m x=some u)∨((env.kindOf x=some .cell∨env.kindOf x=some .free)∧∃ c,env.cells.lookup x=some c∧h.IsCell c (some u))
structure Cx.Ok(X:Cx):Prop where
 mod:Mod X.K X.mg X.base
 kind:X.env.scope.kind = .function
 glob:X.env.globals=mainGlobals
 blt:X.env.builtins=builtinsNs
 above:X.s₀.heap.objs.size≤X.env.locals
 inj:∀ x y c,X.env.cells.lookup x=some c→X.env.cells.lookup y=some c→x=y
 has:∀ x,(X.env.kindOf x=some .cell∨X.env.kindOf x=some .free)→∃ c,X.env.cells.lookup x=some c
 cab:∀ x c,X.fn x=true→X.env.cells.lookup x=some c→X.s₀.heap.objs.size≤c
 hd:X.calm=true→X.A.handled=none
 frames:X.A.frames=some X.stack
 stk:X.stack=X.outer∨(X.stack=X.env::X.outer∧X.env.frame=some X.env.locals)
 exf:∀ b∈X.ex,b≠X.env.locals∧∀ x c,X.env.cells.lookup x=some c→c≠b
 bs:∀ b o,X.base.get? b=some o→X.s₀.heap.get? b=some o∧X.H₀ b=none
 bsz:X.base.objs.size≤X.s₀.heap.objs.size
 noex:∀ b o,X.base.get? b=some o→b∉X.ex
 exfs:∀ b∈X.ex,b∉X.fs
 funs:X.s₀.heap.FunFrames X.base X.outer
 frf:∀ b∈X.fs,X.H₀ b=none
structure Inv(X:Cx)(pins:List (Addr×Obj))(σ:List (Option V))(H:Hp)(s:Shared):Prop where
 ok:X.Ok
 os:s.os=X.s₀.os
 bare:AllBare s.gens
 base:Un X.fs X.ex X.H₀ H X.s₀.heap s.heap
 loc:∃ m,s.heap.Ns X.env.locals m∧∀(i:Nat) (x:Str) (v:V),X.N[i]?=some x→σ[i]?=some (some v)→Vis X.env.scope x→∃ u,aN v u∧aa6 X.env s.heap m x u
 cell:∀ x c,X.env.cells.lookup x=some c→∃ v,s.heap.IsCell c v
 free:H X.env.locals=none
 freeC:∀ x c,X.env.cells.lookup x=some c→H c=none
 pin:∀ p∈X.pn++pins,s.heap.get? p.1=some p.2∧H p.1=none∧p.1≠X.env.locals∧p.1∉X.fs∧∀ v,p.2.data≠.cell v
 hok:HOk X.prog X.w H s.heap
 len:σ.length=X.N.length
section
variable {X:Cx}{pins:List (Addr×Obj)}{σ:List (Option V)}{H H' : Hp}{s:Shared}{h' : Heap}
theorem Cx.Ok.nofr(ok:X.Ok){b:Addr}{o:Obj}(e:X.base.get? b=some o):b∉X.fs:=fun hb=>by
 have:=(ok.funs.mem hb).1
 rw[e]at this;cases this
theorem Inv.bs(I:Inv X pins σ H s):∀ b o,X.base.get? b=some o→s.heap.get? b=some o∧H b=none:=fun b o e =>
 ⟨I.base.keep b o (I.ok.bs b o e).1 (I.ok.bs b o e).2 (I.ok.nofr e) (I.ok.noex b o e),I.base.free b o (I.ok.bs b o e).1 (I.ok.bs b o e).2 (I.ok.noex b o e)⟩
theorem Inv.bk(I:Inv X pins σ H s):∀ b o,X.base.get? b=some o→s.heap.get? b=some o:=fun b o e=>(I.bs b o e).1
theorem Inv.mod(I:Inv X pins σ H s):Mod X.K X.mg X.base:=I.ok.mod
theorem Inv.kIn(I:Inv X pins σ H s):X.K.In s.heap:=I.ok.mod.kin.keeps I.bk
theorem Inv.nolimit(I:Inv X pins σ H s):s.heap.NoLimit:=I.ok.mod.nolimit.keeps I.bk
theorem Inv.lt(I:Inv X pins σ H s):X.env.locals<s.heap.objs.size:=let⟨_,hn,_⟩:=I.loc;hn.lt
theorem Inv.sz(I:Inv X pins σ H s):X.s₀.heap.objs.size≤s.heap.objs.size:=Nat.le_trans I.ok.above (Nat.le_of_lt I.lt)
theorem Inv.nofs(I:Inv X pins σ H s){a:Addr}(h:s.heap.objs.size≤a):a∉X.fs:=fun hb=>by
 obtain⟨_,o,ho,_⟩:=I.ok.funs.mem hb
 exact absurd (Nat.lt_of_lt_of_le (Heap.lt_size ho) (Nat.le_trans I.sz h)) (Nat.lt_irrefl _)
theorem Inv.cne(I:Inv X pins σ H s):∀ x c,X.env.cells.lookup x=some c→c≠X.env.locals:=fun x c e z=>by
 obtain⟨v,o,ho,hd⟩:=I.cell x c e
 obtain⟨m,⟨o',es,ep,ho',hd',_⟩,_⟩:=I.loc
 rw[z,ho']at ho;cases ho;rw[hd']at hd;cases hd
theorem Inv.funs(I:Inv X pins σ H s):s.heap.FunFrames X.base X.outer:=by
 have all:∀(l:List Env),(∀ b∈frs l,b∈X.fs)→X.s₀.heap.FunFrames X.base l→s.heap.FunFrames X.base l:=by
  intro l
  induction l with
  | nil=>intro _ _;trivial
  | cons env r ih =>
    intro hs hl
    obtain⟨hk,⟨L,o,hf,hn,ho,hd⟩,hr⟩:=hl
    have hL:L∈X.fs:=hs L (by unfold frs;rw[List.filterMap_cons,hf];exact List.mem_cons_self)
    obtain⟨sl,e⟩:=I.base.slot L o ho (I.ok.frf L hL) hL fun z=>I.ok.exfs L z hL
    exact⟨hk,⟨L,_,hf,hn,e,hd⟩,ih (fun b hb=>hs b (by unfold frs;rw[List.filterMap_cons,hf];exact List.mem_cons_of_mem _ hb)) hr⟩
 exact all X.outer (fun _ hb=>hb) I.ok.funs
theorem Inv.stack(I:Inv X pins σ H s):s.heap.FunFrames X.base X.stack:=by
 rcases I.ok.stk with e|⟨e,hf⟩
 ·rw[e];exact I.funs
 ·rw[e]
  obtain⟨m,hn,_⟩:=I.loc
  refine .cons (by rw[I.ok.kind];decide) hf hn ?_ I.funs
  exact Heap.get?_none_of_le (Nat.le_trans I.ok.bsz I.ok.above)
theorem Inv.stkSub(I:Inv X pins σ H s):∀ b∈frs X.stack,b∈X.env.locals::X.fs:=fun b hb=>by
 rcases I.ok.stk with e|⟨e,hf⟩
 ·rw[e]at hb;exact List.mem_cons_of_mem _ hb
 ·rw[e]at hb
  unfold frs at hb
  rw[List.filterMap_cons,hf]at hb
  exact hb
theorem Inv.stkFree(I:Inv X pins σ H s):∀ b∈frs X.stack,H b=none:=fun b hb=>by
 rcases List.mem_cons.mp (I.stkSub b hb) with e|hb
 ·rw[e];exact I.free
 ·obtain⟨_,o,ho,_⟩:=I.ok.funs.mem hb
  exact I.base.free b o ho (I.ok.frf b hb) fun z=>I.ok.exfs b z hb
theorem Inv.step{g' : Array GenState}{t' : Nat}{d' : Drawn}{ch:List Addr}(I:Inv X pins σ H s)
 (hch:∀ b∈ch,(b∈X.ex∨X.s₀.heap.objs.size≤b)∧b≠X.env.locals∧(∀ x c,X.env.cells.lookup x=some c→c≠b)∧∀ p∈X.pn++pins,p.1≠b)
 (keep:∀ b o,b≠X.env.locals→b∉X.fs→b∉ch→s.heap.get? b=some o→H b=none→h'.get? b=some o)
 (slot:∀ b o,b≠X.env.locals→b∈X.fs→b∉ch→s.heap.get? b=some o→H b=none→∃ sl,h'.get? b=some { o with slots:=sl}) (free:∀ b o,b∉ch→s.heap.get? b=some o→H b=none→H' b=none)
 (there:∀ b o,b∉ch→s.heap.get? b=some o→∃ o',h'.get? b=some o')
 (tups:∀ b xs,H b=some (.tup xs)→H' b=some (.tup xs)) (frzs:∀ b o u,H b=some (.frz o u)→H' b=some (.frz o u)) (tbls:∀ b ps,H b=some (.tbl ps)→∃ more,H' b=some (.tbl (ps++more)))
 (ns:∀ m,s.heap.Ns X.env.locals m→h'.Ns X.env.locals m) (hok:HOk X.prog X.w H' h') (hg:AllBare g') :
 Inv X pins σ H' { s with heap:=h',gens:=g',drawn:=d',toks:=t'}:=by
 have neL:∀ b o,X.s₀.heap.get? b=some o→b≠X.env.locals:=fun b o e=>Nat.ne_of_lt (Nat.lt_of_lt_of_le (Heap.lt_size e) I.ok.above)
 have neC:∀ b o,X.s₀.heap.get? b=some o→b∉X.ex→b∉ch:=fun b o e hx hb=>by
  rcases(hch b hb).1 with z|z
  ·exact hx z
  ·exact absurd (Nat.lt_of_lt_of_le (Heap.lt_size e) z) (Nat.lt_irrefl _)
 have cellK:∀ x c,X.env.cells.lookup x=some c→∀ v,s.heap.IsCell c v→h'.IsCell c v:=fun x c e v ⟨o,ho,hd⟩=>by
  have nch:c∉ch:=fun z=>(hch c z).2.2.1 x c e rfl
  by_cases hc:c∈X.fs
  ·obtain⟨sl,q⟩:=slot c o (I.cne x c e) hc nch ho (I.freeC x c e)
   exact⟨_,q,hd⟩
  ·exact⟨o,keep c o (I.cne x c e) hc nch ho (I.freeC x c e),hd⟩
 refine⟨I.ok,I.os,hg,⟨fun b o e n hb hx=>?_,fun b o e n hb hx=>?_,fun b o e n hx=>?_,fun b o e hx=>?_,fun b xs e=>tups b xs (I.base.tups b xs e),fun b o xs e=>frzs b o xs (I.base.frzs b o xs e),fun b ps e=>?_⟩,?_,fun x c e=>?_,?_,fun x c e=>?_,fun p hp=>?_,hok,I.len⟩
 ·exact keep b o (neL b o e) hb (neC b o e hx) (I.base.keep b o e n hb hx) (I.base.free b o e n hx)
 ·obtain⟨sl,e1⟩:=I.base.slot b o e n hb hx
  obtain⟨sl',e2⟩:=slot b _ (neL b o e) hb (neC b o e hx) e1 (I.base.free b o e n hx)
  exact⟨sl',e2⟩
 ·obtain⟨o',e1⟩:=I.base.there b o e hx
  exact free b o' (neC b o e hx) e1 (I.base.free b o e n hx)
 ·obtain⟨o',e1⟩:=I.base.there b o e hx
  exact there b o' (neC b o e hx) e1
 ·obtain⟨m1,e1⟩:=I.base.tbls b ps e
  obtain⟨m2,e2⟩:=tbls b _ e1
  exact⟨m1++m2,by rw[e2,Array.append_assoc]⟩
 ·obtain⟨m,hn,hl⟩:=I.loc
  refine⟨m,ns m hn,fun i x v e1 e2 e3=>?_⟩
  obtain⟨u,r,l⟩:=hl i x v e1 e2 e3
  refine⟨u,r,?_⟩
  rcases l with l|⟨k,c,e,z⟩
  ·exact .inl l
  ·exact .inr ⟨k,c,e,cellK x c e _ z⟩
 ·obtain⟨v,z⟩:=I.cell x c e
  exact⟨v,cellK x c e v z⟩
 ·obtain⟨m,⟨o,_,_,ho,_⟩,_⟩:=I.loc
  exact free _ o (fun z=>(hch _ z).2.1 rfl) ho I.free
 ·obtain⟨v,o,ho,hd⟩:=I.cell x c e
  exact free c o (fun z=>(hch c z).2.2.1 x c e rfl) ho (I.freeC x c e)
 ·obtain⟨e,n,ne,nf,d⟩:=I.pin p hp
  have nch:p.1∉ch:=fun z=>(hch p.1 z).2.2.2 p hp rfl
  exact⟨keep p.1 p.2 ne nf nch e n,free p.1 p.2 nch e n,ne,nf,d⟩
theorem Inv.un{t' : Nat}(I:Inv X pins σ H s)(u:Un X.fs [] H H' s.heap h')(hok:HOk X.prog X.w H' h'):Inv X pins σ H' { s with heap:=h',toks:=t'}:=by
 obtain⟨m,⟨o,es,ep,ho,r⟩,_⟩:=id I.loc
 obtain⟨sl,hL⟩:=u.any ho I.free (by simp)
 exact I.step (g':=s.gens) (d':=s.drawn) (ch:=[]) (fun _ z=>nomatch z) (fun b o _ hb _ e n=>u.keep b o e n hb (by simp)) (fun b o _ hb _ e n=>u.slot b o e n hb (by simp)) (fun b o _ e n=>u.free b o e n (by simp)) (fun b o _ e=>u.there b o e (by simp)) u.tups u.frzs u.tbls (fun m' hm=>by
  obtain⟨o',es',ep',ho',r'⟩:=hm
  rw[ho]at ho';cases ho'
  exact⟨_,es',ep',hL,r'⟩) hok I.bare
theorem Inv.call{g' : Array GenState}{t' : Nat}{d' : Drawn}{ch:List Addr}(I:Inv X pins σ H s)(u:Un (frs X.stack) ch H H' s.heap h')(hok:HOk X.prog X.w H' h')(hg:AllBare g')
 (hch:∀ b∈ch,(b∈X.ex∨X.s₀.heap.objs.size≤b)∧b≠X.env.locals∧(∀ x c,X.env.cells.lookup x=some c→c≠b)∧∀ p∈X.pn++pins,p.1≠b) :
 Inv X pins σ H' { s with heap:=h',gens:=g',drawn:=d',toks:=t'}:=by
 obtain⟨m,⟨o,es,ep,ho,r⟩,_⟩:=id I.loc
 obtain⟨sl,hL⟩:=u.any ho I.free fun z=>(hch _ z).2.1 rfl
 exact I.step (ch:=ch) hch (fun b o hL hb hc e n=>u.keep b o e n (fun z=>(List.mem_cons.mp (I.stkSub b z)).elim hL hb) hc) (fun b o _ _ hc e n=>u.any e n hc) (fun b o hc e n=>u.free b o e n hc) (fun b o hc e=>u.there b o e hc) u.tups u.frzs u.tbls (fun m' hm=>by
  obtain⟨o',es',ep',ho',r'⟩:=hm
  rw[ho]at ho';cases ho'
  exact⟨_,es',ep',hL,r'⟩) hok hg
theorem Inv.turned{t' : Nat}{it:Addr}(I:Inv X pins σ H s)(k:∀ b o,b≠it→s.heap.get? b=some o→h'.get? b=some o)(hn:H it=none)(hL:it≠X.env.locals)
 (h1:it∈X.ex∨X.s₀.heap.objs.size≤it) (h2:∀ x c,X.env.cells.lookup x=some c→c≠it) (h3:∀ p∈X.pn++pins,p.1≠it):Inv X pins σ H { s with heap:=h',toks:=t'}:=by
 have nit:∀ b u,H b=some u→b≠it:=fun b u e z=>by rw[z,hn]at e;cases e
 refine I.step (g':=s.gens) (d':=s.drawn) (ch:=[it]) (fun b hb=>?_) (fun b o _ _ hc e _=>k b o (fun z=>hc (by simp[z])) e) (fun b o _ _ hc e _=>⟨o.slots,k b o (fun z=>hc (by simp[z])) e⟩) (fun _ _ _ _ n=>n)
  (fun b o hc e=>⟨o,k b o (fun z=>hc (by simp[z])) e⟩) (fun _ _ e=>e) (fun _ _ _ e=>e) (fun b ps e=>⟨#[],by rw[e];simp⟩) (fun m hm=>?_) (fun b u e=>?_) I.bare
 ·have e:b=it:=by simpa using hb
  subst e
  exact⟨h1,hL,h2,h3⟩
 ·obtain⟨o,es,ep,ho,r⟩:=hm
  exact⟨o,es,ep,k _ o (Ne.symm hL) ho,r⟩
 ·refine(I.hok b u e).stay (fun c v hc q=>k c v ?_ q) (fun _ q=>q) fun _ _ q=>q
  rcases hc with z|z
  ·rw[z];exact nit b u e
  ·exact nit c _ z
theorem Inv.tok(I:Inv X pins σ H s)(t:Nat):Inv X pins σ H { s with toks:=t}:=I.un (h':=s.heap) (t':=t) Un.refl I.hok
theorem Inv.kept{t' : Nat}(I:Inv X pins σ H s)(k:∀ b u,s.heap.get? b=some u→h'.get? b=some u):Inv X pins σ H { s with heap:=h',toks:=t'}:=I.un (Un.kept k) (I.hok.kept k)
theorem Inv.laid{a:Addr}{o:HO}{t' : Nat}(I:Inv X pins σ H s)(k:∀ b u,s.heap.get? b=some u→h'.get? b=some u)(hp:s.heap.objs.size≤a)(new:aV X.prog X.w (upd H a o) h' a o):
 Inv X pins σ (upd H a o) { s with heap:=h',toks:=t'}:=I.un (Un.laid k hp (I.hok.fresh hp)) (I.hok.laid k hp new)
theorem Inv.write{x e:Addr}{o:HO}{t' : Nat}(I:Inv X pins σ H s)(mu:Mut (H x))(he:e=x∨H e=some (.own x))(k:∀ b u,b≠e→s.heap.get? b=some u→h'.get? b=some u)(heo:∃ u,h'.get? e=some u)
 (new:aV X.prog X.w (upd H x o) h' x o):Inv X pins σ (upd H x o) { s with heap:=h',toks:=t'}:=I.un (Un.write mu he k heo) (I.hok.write mu he k heo new)
theorem Inv.weak{σ' : List (Option V)}(I:Inv X pins σ H s)(hl:σ'.length=σ.length)(w:∀(i:Nat) v,σ'[i]?=some (some v)→σ[i]?=some (some v)):Inv X pins σ' H s :=
 ⟨I.ok,I.os,I.bare,I.base,let⟨m,hn,hl'⟩:=I.loc;⟨m,hn,fun i x v e1 e2 e3=>hl' i x v e1 (w i v e2) e3⟩,I.cell,I.free,I.freeC,I.pin,I.hok,hl.trans I.len⟩
theorem Inv.pins_of{pins' : List (Addr×Obj)}(I:Inv X pins σ H s)(h:∀ p∈pins',s.heap.get? p.1=some p.2∧H p.1=none∧p.1≠X.env.locals∧p.1∉X.fs∧∀ v,p.2.data≠.cell v):Inv X pins' σ H s :=
 ⟨I.ok,I.os,I.bare,I.base,I.loc,I.cell,I.free,I.freeC,fun p hp=>(List.mem_append.mp hp).elim (fun z=>I.pin p (List.mem_append_left _ z)) (h p),I.hok,I.len⟩
theorem mR{N:List Str}(hN:N.Nodup){i j:Nat}{x:Str}(a:N[i]?=some x)(b:N[j]?=some x):i=j:=by
 obtain⟨h1,e1⟩:=List.getElem?_eq_some_iff.mp a
 obtain⟨h2,e2⟩:=List.getElem?_eq_some_iff.mp b
 exact(List.getElem_inj hN).mp (e1.trans e2.symm)
theorem uu{M:Model}{A:Around}{E:Value→Shared→Prop}{i:Nat}{x:Str}{v:V}{u:Value}{Q:Unit→Shared→Prop}(I:Inv X pins σ H s)(hN:X.N.Nodup)(hi:X.N[i]?=some x)(hx:Loc X.env.scope x)(r:aN v u)
 (h:∀ s',Inv X pins (σ.set i (some v)) H s'→(∃ a,Heap.SameBut a s.heap s'.heap∧(a=X.env.locals∨X.env.cells.lookup x=some a))→Q () s') (hf:X.fn x=true∨X.env.scope.names.lookup x=some .local:=by first | exact .inl rfl | exact .inr rfl | assumption):wpAny M A (storeName X.env x u) Q E s:=by
 obtain⟨m,hn,hl⟩:=id I.loc
 have hcls:(X.env.scope.kind == .class || (X.env.scope.kind == .module&&X.env.locals != X.env.globals))=false:=by rw[I.ok.kind];rfl
 have hiσ:i<σ.length:=by rw[I.len];exact(List.getElem?_eq_some_iff.mp hi).1
 have cne:=I.cne
 have tracked:∀{a:Addr} {h' : Heap},(∃ o,s.heap.get? a=some o∧H a=none)→Heap.SameBut a s.heap h'→HOk X.prog X.w H h':=fun {a h'} ha hs b ob e=>by
  obtain⟨_,_,hfree⟩:=ha
  refine(I.hok b ob e).stay (fun c w' hc q=>(hs.2 c ?_).trans q) (fun _ q=>q) fun _ _ q=>q
  rintro rfl
  rcases hc with rfl|hc
  ·rw[hfree]at e;cases e
  ·rw[hfree]at hc;cases hc
 rcases hx with hk|hk
 ·refine wpAny_storeName_local hk hn (fun h' hn' hs=>?_) hcls
  obtain⟨oL,_,_,hoL,_⟩:=id hn
  refine h _ ⟨I.ok,I.os,I.bare,⟨fun b o e n hb hx=>?_,fun b o e n hb hx=>?_,I.base.free,fun b o e hx=>?_,I.base.tups,I.base.frzs,I.base.tbls⟩,⟨_,hn',fun j y v' e1 e2 e3=>?_⟩,fun y c e=>?_,I.free,I.freeC,fun p hp=>?_,tracked ⟨oL,hoL,I.free⟩ hs,by simpa using I.len⟩ ⟨_,hs,.inl rfl⟩
  ·exact(hs.2 b (Nat.ne_of_lt (Nat.lt_of_lt_of_le (Heap.lt_size e) I.ok.above))).trans (I.base.keep b o e n hb hx)
  ·obtain⟨sl,e1⟩:=I.base.slot b o e n hb hx
   exact⟨sl,(hs.2 b (Nat.ne_of_lt (Nat.lt_of_lt_of_le (Heap.lt_size e) I.ok.above))).trans e1⟩
  ·obtain⟨o',e1⟩:=I.base.there b o e hx
   exact⟨o',(hs.2 b (Nat.ne_of_lt (Nat.lt_of_lt_of_le (Heap.lt_size e) I.ok.above))).trans e1⟩
  ·by_cases hj:j=i
   ·subst hj
    rw[hi]at e1;cases e1
    rw[List.getElem?_set_self hiσ]at e2
    cases e2
    exact⟨u,r,.inl ⟨hk,by simp⟩⟩
   ·rw[List.getElem?_set_ne (Ne.symm hj)]at e2
    obtain⟨u',r',q⟩:=hl j y v' e1 e2 e3
    refine⟨u',r',?_⟩
    rcases q with⟨k,e⟩|⟨k,c,e,z⟩
    ·refine .inl ⟨k,?_⟩
     have:y≠x:=fun e=>hj (mR hN e1 (e▸hi))
     simp[this,e]
    ·exact .inr ⟨k,c,e,z.sameBut hs (cne y c e)⟩
  ·obtain⟨w',z⟩:=I.cell y c e
   exact⟨w',z.sameBut hs (cne y c e)⟩
  ·obtain⟨e,n,ne,nf,d⟩:=I.pin p hp
   exact⟨(hs.2 p.1 ne).trans e,n,ne,nf,d⟩
 ·have hfn:X.fn x=true:=by
   rcases hf with z|z
   ·exact z
   ·rw[z]at hk;cases hk
  obtain⟨c,hc⟩:=I.ok.has x (.inl hk)
  obtain⟨w',z⟩:=I.cell x c hc
  refine wpAny_storeName_cell I.ok.kind hk hc z (fun h' hc' hs=>?_)
  obtain⟨oc,hoc,hocd⟩:=id z
  refine h { s with heap:=h'} ⟨I.ok,I.os,I.bare,⟨fun b o e n hb hx=>?_,fun b o e n hb hx=>?_,I.base.free,fun b o e hx=>?_,I.base.tups,I.base.frzs,I.base.tbls⟩,⟨m,hn.sameBut hs (Ne.symm (cne x c hc)),fun j y v' e1 e2 e3=>?_⟩,fun y c' e=>?_,I.free,I.freeC,fun p hp=>?_,tracked ⟨oc,hoc,I.freeC x c hc⟩ hs,by simpa using I.len⟩ ⟨c,hs,.inr hc⟩
  ·exact(hs.2 b (Nat.ne_of_lt (Nat.lt_of_lt_of_le (Heap.lt_size e) (I.ok.cab x c hfn hc)))).trans (I.base.keep b o e n hb hx)
  ·obtain⟨sl,e1⟩:=I.base.slot b o e n hb hx
   exact⟨sl,(hs.2 b (Nat.ne_of_lt (Nat.lt_of_lt_of_le (Heap.lt_size e) (I.ok.cab x c hfn hc)))).trans e1⟩
  ·obtain⟨o',e1⟩:=I.base.there b o e hx
   exact⟨o',(hs.2 b (Nat.ne_of_lt (Nat.lt_of_lt_of_le (Heap.lt_size e) (I.ok.cab x c hfn hc)))).trans e1⟩
  ·by_cases hj:j=i
   ·subst hj
    rw[hi]at e1;cases e1
    rw[List.getElem?_set_self hiσ]at e2
    cases e2
    exact⟨u,r,.inr ⟨.inl hk,c,hc,hc'⟩⟩
   ·rw[List.getElem?_set_ne (Ne.symm hj)]at e2
    obtain⟨u',r',q⟩:=hl j y v' e1 e2 e3
    refine⟨u',r',?_⟩
    rcases q with q|⟨k,c',e,z'⟩
    ·exact .inl q
    ·refine .inr ⟨k,c',e,z'.sameBut hs ?_⟩
     rintro rfl
     exact hj (mR hN e1 (I.ok.inj _ _ _ e hc▸hi))
  ·by_cases hcc:c' = c
   ·subst hcc;exact⟨_,hc'⟩
   ·obtain⟨w2,z2⟩:=I.cell y c' e
    exact⟨w2,z2.sameBut hs hcc⟩
  ·obtain⟨e,n,ne,nf,d⟩:=I.pin p hp
   refine⟨(hs.2 p.1 ?_).trans e,n,ne,nf,d⟩
   intro q
   rw[q,hoc]at e
   have q' : oc=p.2:=Option.some.inj e
   exact d w' (by rw[← q'];exact hocd)
theorem im{M:Model}{A:Around}{E:Value→Shared→Prop}{i:Nat}{x:Str}{v:V}{u:Value}{Q:Unit→Shared→Prop}(I:Inv X pins σ H s)(hN:X.N.Nodup)(hi:X.N[i]?=some x)(hx:Loc X.env.scope x)(r:aN v u)
 (h:∀ s',Inv X pins (σ.set i (some v)) H s'→Q () s') (hf:X.fn x=true∨X.env.scope.names.lookup x=some .local:=by first | exact .inl rfl | exact .inr rfl | assumption):wpAny M A (storeName X.env x u) Q E s :=
 uu I hN hi hx r (fun s' I' _=>h s' I') hf
theorem Inv.call'{s' : Shared}{ch:List Addr}(I:Inv X pins σ H s)(ho:s'.os=s.os)(u:Un (frs X.stack) ch H H' s.heap s'.heap)(hok:HOk X.prog X.w H' s'.heap)(hg:AllBare s'.gens)
 (hch:∀ b∈ch,(b∈X.ex∨X.s₀.heap.objs.size≤b)∧b≠X.env.locals∧(∀ x c,X.env.cells.lookup x=some c→c≠b)∧∀ p∈X.pn++pins,p.1≠b):Inv X pins σ H' s':=by
 obtain⟨h',g',d',t',o'⟩:=s'
 have e:o' = s.os:=ho
 subst e
 exact I.call (g':=g') (t':=t') (d':=d') u hok hg hch
end
abbrev XK:=Value→Option Addr→Hp→Prop
abbrev St:=List (Option V)
abbrev VK:=V→Hp→Prop
abbrev TE:=St→Hp→VK→Prop
abbrev TT:=St→Hp→(Bool→Hp→Prop)→Prop
abbrev TA:=St→Hp→(List V→Hp→Prop)→Prop
structure Ends where
 nx:St→Hp→Prop
 rt:VK
 bk:St→Hp→Prop:=fun _ _=>False
 ct:St→Hp→Prop:=fun _ _=>False
abbrev TS:=Ends→St→Hp→Prop
def EP(X:Cx)(pins:List (Addr×Obj))(σ:St)(Q:VK)(u:Value)(s' : Shared):Prop:=∃ v H',Inv X pins σ H' s'∧aN v u∧Q v H'
def TP(X:Cx)(pins:List (Addr×Obj))(σ:St)(Q:Bool→Hp→Prop)(b:Bool)(s' : Shared):Prop:=∃ H',Inv X pins σ H' s'∧Q b H'
def AP(X:Cx)(pins:List (Addr×Obj))(σ:St)(Q:List V→Hp→Prop)(us:List Value)(s' : Shared):Prop:=∃ vs H',Inv X pins σ H' s'∧aR vs us∧Q vs H'
def SP(X:Cx)(pins:List (Addr×Obj))(D:Ends)(f:Flow)(s' : Shared):Prop :=
 match f with
 | .next=>∃ σ' H',Inv X pins σ' H' s'∧D.nx σ' H'
 | .brk=>∃ σ' H',Inv X pins σ' H' s'∧D.bk σ' H'
 | .cont=>∃ σ' H',Inv X pins σ' H' s'∧D.ct σ' H'
 | .ret u=>∃ v σ' H',Inv X pins σ' H' s'∧aN v u∧D.rt v H'
def PE(X:Cx)(e:Expr)(t:TE):Prop :=
 ∀(pins:List (Addr×Obj)) (s:Shared) (σ:St) (H:Hp) (Q:VK),Inv X pins σ H s→t σ H Q→wpAny (model X.prog X.w) X.A (eval e X.env) (EP X pins σ Q) X.xe s
def PT(X:Cx)(e:Expr)(t:TT):Prop :=
 ∀(pins:List (Addr×Obj)) (s:Shared) (σ:St) (H:Hp) (Q:Bool→Hp→Prop),Inv X pins σ H s→t σ H Q→wpAny (model X.prog X.w) X.A (isTrue e X.env (eval e X.env)) (TP X pins σ Q) X.xe s
def PW(X:Cx)(e:Expr)(t:TT):Prop :=
 ∀(whole:Sem Value) (pins:List (Addr×Obj)) (s:Shared) (σ:St) (H:Hp) (Q:Bool→Hp→Prop),Inv X pins σ H s→t σ H Q→wpAny (model X.prog X.w) X.A (isTrue e X.env whole) (TP X pins σ Q) X.xe s
theorem PW.pt{X:Cx}{e:Expr}{t:TT}(h:PW X e t):PT X e t:=h _
def PA(X:Cx)(es:List Expr)(t:TA):Prop :=
 ∀(pos:Pos) (pins:List (Addr×Obj)) (s:Shared) (σ:St) (H:Hp) (Q:List V→Hp→Prop),Inv X pins σ H s→t σ H Q→wpAny (model X.prog X.w) X.A (spliced (backTo pos (starEach es X.env))) (AP X pins σ Q) X.xe s
def PS(X:Cx)(st:Stmt)(t:TS):Prop :=
 ∀(pins:List (Addr×Obj)) (s:Shared) (σ:St) (H:Hp) (D:Ends),Inv X pins σ H s→t D σ H→wpAny (model X.prog X.w) X.A (exec st X.env) (SP X pins D) X.xe s
def PSs(X:Cx)(st:List Stmt)(t:TS):Prop :=
 ∀(pins:List (Addr×Obj)) (s:Shared) (σ:St) (H:Hp) (D:Ends),Inv X pins σ H s→t D σ H→wpAny (model X.prog X.w) X.A (execs st X.env) (SP X pins D) X.xe s
theorem thn{α:Type}{t:Sem α}{Q Q' : α→Shared→Prop}{M:Model}{A:Around}{E:Value→Shared→Prop}{s:Shared}(h:wpAny M A t Q E s)(hQ:∀ a s,Q a s→Q' a s):wpAny M A t Q' E s:=wpAny_mono h hQ fun _ _ x=>x
end L2
namespace L2
open PySem PySem.Spec PyProof.Rows
section
variable {X:Cx}
def aav(i:Nat):TE:=fun σ H Q=>∃ v,σ[i]?=some (some v)∧Q v H
def tC(v:V):TE:=fun _ H Q=>Q v H
theorem zQ{i:Nat}{x:Str}{pos:Pos}(hN:X.N[i]?=some x)(hv:Vis X.env.scope x)(hd:(x==("__debug__":Str))=false:=by decide)(hcd:(x==("__classdict__":Str))=false:=by decide):PE X (.Name x pos) (aav i):=by
 intro pins s σ H Q I h
 obtain⟨v,e,h⟩:=h
 obtain⟨m,hn,hl⟩:=I.loc
 obtain⟨u,r,l⟩:=hl i x v hN e hv
 have fin:EP X pins σ Q u s:=⟨v,H,I,r,h⟩
 rcases l with⟨hk,hm⟩|⟨hk,c,hc,hcell⟩
 ·exact wpAny_Name (wpAny_loadName_local I.ok.kind hk hn hm fin) hd
 ·rcases hk with hk|hk
  ·exact wpAny_Name (wpAny_loadName_cell I.ok.kind hk hc hcell fin) hd
  ·exact wpAny_Name (wpAny_loadName_free I.ok.kind hk hc hcell fin hcd) hd
theorem ah{i j pos}:PE X (.Constant (.int i) j pos) (tC (.int i)):=fun _ _ _ H _ I h=>wpAny_Constant_int ⟨.int i,H,I.tok _,⟨_,rfl⟩,h⟩
theorem eM{b j pos}:PE X (.Constant (.bool b) j pos) (tC (.bl b)):=fun _ _ _ H _ I h=>Constant_bool ⟨.bl b,H,I,rfl,h⟩
theorem dJ{j pos}:PE X (.Constant .none j pos) (tC .non):=fun _ _ _ H _ I h=>Constant_none ⟨.non,H,I,rfl,h⟩
theorem g7{x j pos}:PE X (.Constant (.str x) j pos) (tC (.str x)):=fun _ _ _ H _ I h=>Calls.Constant_str ⟨.str x,H,I.tok _,⟨_,rfl⟩,h⟩
def Gl(X:Cx)(x:Str):Prop:=X.env.kindOf x=some .globalImplicit
theorem jJ{E:Value→Shared→Prop}{pins:List (Addr×Obj)}{s:Shared}{σ:St}{H:Hp}{x:Str}{u:Value}{pos:Pos}{Q:Value→Shared→Prop}(I:Inv X pins σ H s)(hg:Gl X x)(hm:X.mg x=some u)(h:Q u s)
 (hd:(x==("__debug__":Str))=false:=by decide):wpAny (model X.prog X.w) X.A (eval (.Name x pos) X.env) Q E s :=
 Calls.Name_function_global I.ok.kind hg (Calls.loadGlobal_global (by rw[I.ok.glob];exact I.mod.glob.keeps I.bk) hm h) hd
theorem hZ{E:Value→Shared→Prop}{pins:List (Addr×Obj)}{s:Shared}{σ:St}{H:Hp}{x:Str}{u:Value}{pos:Pos}{Q:Value→Shared→Prop}(I:Inv X pins σ H s)(hg:Gl X x)(hm:X.mg x=none)(hv:bootBuiltins x=some u)(h:Q u s)
 (hn:x≠"__name__":=by decide) (hd:(x==("__debug__":Str))=false:=by decide):wpAny (model X.prog X.w) X.A (eval (.Name x pos) X.env) Q E s:=by
 obtain⟨mb,h1,h2⟩:=I.mod.blt
 exact Calls.Name_function_global I.ok.kind hg (Calls.loadGlobal_builtin (by rw[I.ok.glob];exact I.mod.glob.keeps I.bk) hm (by rw[I.ok.blt];exact h1.keeps I.bk) ((h2 x hn).trans hv) h) hd
theorem xN{x:Str}{v:V}{u:Value}{pos:Pos}(hg:Gl X x)(hm:X.mg x=some u)(r:aN v u)(hd:(x==("__debug__":Str))=false:=by decide):PE X (.Name x pos) (tC v) :=
 fun _ _ _ H _ I h=>jJ I hg hm ⟨v,H,I,r,h⟩ hd
theorem ye{x:Str}{v:V}{u:Value}{pos:Pos}(hg:Gl X x)(hm:X.mg x=none)(hv:bootBuiltins x=some u)(r:aN v u)(hn:x≠"__name__":=by decide)(hd:(x==("__debug__":Str))=false:=by decide):PE X (.Name x pos) (tC v) :=
 fun _ _ _ H _ I h=>hZ I hg hm hv ⟨v,H,I,r,h⟩ hn hd
variable {a b:Expr}{ta tb:TE}{pos:Pos}
def tB(t:TE):TT:=fun σ H Q=>t σ H fun x H1=>∃ c,x = .bl c∧Q c H1
theorem eT{e:Expr}{t:TE}(h:PE X e t)(he:∀ whole,isTrue e X.env whole=(do let v←whole;standAt e.pos;holding [v] (truthy v)):=by intro _;rfl):PT X e (tB t):=by
 intro pins s σ H Q I hw
 refine isTrue_plain (thn (h pins s σ H _ I hw) fun v s1 ⟨x,H1,I1,r1,q1⟩=>?_) (he _)
 obtain⟨d,rfl,q⟩:=q1
 cases r1
 exact wpAny_truthy_bool ⟨H1,I1,q⟩
variable {tA tB' : TT}{rest:List Expr}
def aaY(t u:TT):TT:=fun σ H Q=>t σ H fun c H1=>if c=true then u σ H1 Q else Q false H1
def tOr(t u:TT):TT:=fun σ H Q=>t σ H fun c H1=>if c=true then Q true H1 else u σ H1 Q
def aa1(t:TT):TT:=fun σ H Q=>t σ H fun c H1=>Q (!c) H1
theorem tW(ha:PT X a tA):PW X (.BoolOp .And [a] pos) tA:=by
 intro wh pins s σ H Q I h
 refine isTrue_and (thn (ha pins s σ H Q I h) fun c s1 e=>?_)
 cases c with
 | true=>exact isTrue_and_nil e
 | false=>exact e
theorem iy(ha:PT X a tA):PW X (.BoolOp .Or [a] pos) tA:=by
 intro wh pins s σ H Q I h
 refine isTrue_or (thn (ha pins s σ H Q I h) fun c s1 e=>?_)
 cases c with
 | false=>exact isTrue_or_nil e
 | true=>exact e
theorem xy(ha:PT X a tA)(hb:PW X (.BoolOp .And (b::rest) pos) tB'):PW X (.BoolOp .And (a::b::rest) pos) (aaY tA tB'):=by
 intro wh pins s σ H Q I h
 refine isTrue_and (thn (ha pins s σ H _ I h) fun c s1 ⟨H1,I1,q1⟩=>?_)
 cases c with
 | true=>exact hb wh pins s1 σ H1 Q I1 q1
 | false=>exact⟨H1,I1,q1⟩
theorem kC(ha:PT X a tA)(hb:PW X (.BoolOp .Or (b::rest) pos) tB'):PW X (.BoolOp .Or (a::b::rest) pos) (tOr tA tB'):=by
 intro wh pins s σ H Q I h
 refine isTrue_or (thn (ha pins s σ H _ I h) fun c s1 ⟨H1,I1,q1⟩=>?_)
 cases c with
 | true=>exact⟨H1,I1,q1⟩
 | false=>exact hb wh pins s1 σ H1 Q I1 q1
theorem kb(ha:PT X a tA):PT X (.UnaryOp .Not a pos) (aa1 tA):=by
 intro pins s σ H Q I h
 exact isTrue_not (ha pins s σ H (fun c H1=>Q (!c) H1) I h)
def aak(ta tb:TE):TE:=fun σ H Q=>ta σ H fun x H1=>∃ c,x = .bl c∧if c=true then tb σ H1 Q else Q (.bl false) H1
def abb(ta tb:TE):TE:=fun σ H Q=>ta σ H fun x H1=>∃ c,x = .bl c∧if c=true then Q (.bl true) H1 else tb σ H1 Q
theorem iG{op}{t:TE}(h:PE X a t):PE X (.BoolOp op [a] pos) t:=fun pins s σ H Q I hw=>BoolOp_one (h pins s σ H Q I hw)
theorem jk(ha:PE X a ta)(hb:PE X (.BoolOp .And (b::rest) pos) tb):PE X (.BoolOp .And (a::b::rest) pos) (aak ta tb):=by
 intro pins s σ H Q I h
 refine BoolOp_and (thn (ha pins s σ H _ I h) fun v s1 ⟨x,H1,I1,r1,q1⟩=>?_)
 obtain⟨c,rfl,q1⟩:=q1
 cases r1
 refine wpAny_truthy_bool ?_
 cases c with
 | true=>exact hb pins s1 σ H1 Q I1 q1
 | false=>exact⟨.bl false,H1,I1,rfl,q1⟩
theorem aaG(ha:PE X a ta)(hb:PE X (.BoolOp .Or (b::rest) pos) tb):PE X (.BoolOp .Or (a::b::rest) pos) (abb ta tb):=by
 intro pins s σ H Q I h
 refine BoolOp_or (thn (ha pins s σ H _ I h) fun v s1 ⟨x,H1,I1,r1,q1⟩=>?_)
 obtain⟨c,rfl,q1⟩:=q1
 cases r1
 refine wpAny_truthy_bool ?_
 cases c with
 | false=>exact hb pins s1 σ H1 Q I1 q1
 | true=>exact⟨.bl true,H1,I1,rfl,q1⟩
def tIf(t:TT)(ta tb:TE):TE:=fun σ H Q=>t σ H fun c H1=>if c=true then ta σ H1 Q else tb σ H1 Q
theorem iE{c:Expr}(hc:PT X c tA)(ha:PE X a ta)(hb:PE X b tb):PE X (.IfExp c a b pos) (tIf tA ta tb):=by
 intro pins s σ H Q I h
 refine wpAny_IfExp (thn (hc pins s σ H _ I h) fun d s1 ⟨H1,I1,q1⟩=>?_)
 cases d with
 | true=>exact ha pins s1 σ H1 Q I1 q1
 | false=>exact hb pins s1 σ H1 Q I1 q1
end
end L2
namespace L2
open PySem PySem.Spec PyProof.Rows
def SqL(K:PySem.W.Frag)(H:Hp)(a:Addr)(xs:List V):Prop :=
 Rd H a (.lst xs)∨
  ∃(o:Obj) (its:Array Value) (n:Nat),K.lookup a=some o∧o.cls = .type "list"∧o.dict=none∧o.data = .seq its n∧its.size≤sizeLine∧aR xs its.toList
def SqT(K:PySem.W.Frag)(H:Hp)(a:Addr)(xs:List V):Prop :=
 Rd H a (.tup xs)∨
  ∃(o:Obj) (its:Array Value) (n:Nat),K.lookup a=some o∧o.cls = .type "tuple"∧o.data = .seq its n∧its.size≤sizeLine∧aR xs its.toList
def abc:Value→Option V
 | .none=>some .non
 | .bool b=>some (.bl b)
 | .int i _=>some (.int i)
 | .str x _=>some (.str x)
 | .bytes b _=>some (.byt b)
 | .float b _=>some (.flt b)
 | .ref a=>some (.ref a)
 | .type n=>some (.ty n)
 | _=>none
theorem aN.abs{x:V}{u:Value}(r:aN x u):abc u=some x:=by
 cases x with
 | non=>cases r;rfl
 | bl _=>cases r;rfl
 | int _=>obtain⟨t,rfl⟩:=r;rfl
 | str _=>obtain⟨t,rfl⟩:=r;rfl
 | byt _=>obtain⟨t,rfl⟩:=r;rfl
 | flt _=>obtain⟨t,rfl⟩:=r;rfl
 | ref _=>cases r;rfl
 | ty _=>cases r;rfl
theorem aN.inj{x y:V}{u:Value}(r:aN x u)(q:aN y u):x=y:=Option.some.inj (r.abs.symm.trans q.abs)
theorem aR.inj:∀{xs ys:List V} {us:List Value},aR xs us→aR ys us→xs=ys
 | _,_,_,.nil,.nil=>rfl
 | _,_,_,.cons r t,.cons r' t'=>by rw[r.inj r',aR.inj t t']
section
variable {X:Cx}{pins:List (Addr×Obj)}{σ:St}{H:Hp}{s:Shared}{a:Addr}{xs ys:List V}
theorem SqL.of{K:PySem.W.Frag}(h:H a=some (.lst xs)):SqL K H a xs:=.inl (.inl h)
theorem SqT.of{K:PySem.W.Frag}(h:H a=some (.tup xs)):SqT K H a xs:=.inl (.inl h)
theorem Inv.list(I:Inv X pins σ H s)(h:SqL X.K H a xs):∃ its:List Value,aR xs its∧PlainL s.heap a its.toArray∧xs.length≤sizeLine:=by
 rcases h with h|⟨o,its,n,hk,hc,hd,hs,hz,r⟩
 ·obtain⟨z,its,n,r,e⟩:=h.ok I.hok
  exact⟨its,r,⟨_,n,e,rfl,rfl,rfl⟩,z⟩
 ·refine⟨its.toList,r,⟨o,n,I.kIn a o hk,hc,hd,by simpa using hs⟩,?_⟩
  have e:=r.length
  simp only[Array.length_toList]at e
  omega
theorem Inv.tuple(I:Inv X pins σ H s)(h:SqT X.K H a xs):∃ its:List Value,aR xs its∧IsTup s.heap a its.toArray∧xs.length≤sizeLine:=by
 rcases h with h|⟨o,its,n,hk,hc,hs,hz,r⟩
 ·obtain⟨z,its,r,p⟩:=h.ok I.hok
  exact⟨its,r,p,z⟩
 ·refine⟨its.toList,r,⟨o,I.kIn a o hk,hc,n,by simpa using hs⟩,?_⟩
  have e:=r.length
  simp only[Array.length_toList]at e
  omega
theorem Inv.list_inj(I:Inv X pins σ H s)(h:SqL X.K H a xs)(h' : SqL X.K H a ys):xs=ys:=by
 obtain⟨its,r,⟨o,n,e,_,_,d⟩,_⟩:=I.list h
 obtain⟨its',r',⟨o',n',e',_,_,d'⟩,_⟩:=I.list h'
 rw[e]at e';cases e'
 rw[d]at d'
 injection d' with d1 _
 have:its=its':=by simpa using congrArg Array.toList d1
 subst this
 exact r.inj r'
theorem Inv.tuple_inj(I:Inv X pins σ H s)(h:SqT X.K H a xs)(h' : SqT X.K H a ys):xs=ys:=by
 obtain⟨its,r,⟨o,e,_,n,d⟩,_⟩:=I.tuple h
 obtain⟨its',r',⟨o',e',_,n',d'⟩,_⟩:=I.tuple h'
 rw[e]at e';cases e'
 rw[d]at d'
 injection d' with d1 _
 have:its=its':=by simpa using congrArg Array.toList d1
 subst this
 exact r.inj r'
end
abbrev Cx.wish(X:Cx)(E:Value→Shared→Prop):Cx:={ X with xe:=E}
abbrev Cx.nox(X:Cx):Cx:=X.wish fun _ _=>False
theorem Cx.Ok.wish{X:Cx}(ok:X.Ok)(E:Value→Shared→Prop):(X.wish E).Ok :=
 ⟨ok.mod,ok.kind,ok.glob,ok.blt,ok.above,ok.inj,ok.has,ok.cab,ok.hd,ok.frames,ok.stk,ok.exf,ok.bs,ok.bsz,ok.noex,ok.exfs,ok.funs,ok.frf⟩
theorem Cx.Ok.unwish{X:Cx}{E:Value→Shared→Prop}(ok:(X.wish E).Ok):X.Ok :=
 ⟨ok.mod,ok.kind,ok.glob,ok.blt,ok.above,ok.inj,ok.has,ok.cab,ok.hd,ok.frames,ok.stk,ok.exf,ok.bs,ok.bsz,ok.noex,ok.exfs,ok.funs,ok.frf⟩
section
variable {X:Cx}{pins:List (Addr×Obj)}{σ:St}{H:Hp}{s:Shared}{E:Value→Shared→Prop}
theorem Inv.wish(I:Inv X pins σ H s)(E:Value→Shared→Prop):Inv (X.wish E) pins σ H s:=⟨I.ok.wish E,I.os,I.bare,I.base,I.loc,I.cell,I.free,I.freeC,I.pin,I.hok,I.len⟩
theorem Inv.unwish(I:Inv (X.wish E) pins σ H s):Inv X pins σ H s:=⟨I.ok.unwish,I.os,I.bare,I.base,I.loc,I.cell,I.free,I.freeC,I.pin,I.hok,I.len⟩
theorem SP.unwish{D:Ends}{f:Flow}{s' : Shared}(h:SP (X.wish E) pins D f s'):SP X pins D f s':=by
 cases f with
 | next=>obtain⟨σ',H',I,q⟩:=h;exact⟨σ',H',I.unwish,q⟩
 | brk=>obtain⟨σ',H',I,q⟩:=h;exact⟨σ',H',I.unwish,q⟩
 | cont=>obtain⟨σ',H',I,q⟩:=h;exact⟨σ',H',I.unwish,q⟩
 | ret u=>obtain⟨v,σ',H',I,r,q⟩:=h;exact⟨v,σ',H',I.unwish,r,q⟩
theorem PSs.nox{st:List Stmt}{t:TS}(h:PSs X.nox st t):PSs X st t:=fun pins s σ H D I hw =>
 wpAny_mono (h pins s σ H D (I.wish _) hw) (fun _ _ q=>q.unwish) fun _ _ z=>False.elim z
end
section
variable {X:Cx}{st:Stmt}{rest:List Stmt}{t u:TS}{e:Expr}{te:TE}{pos:Pos}
def aL:TS:=fun D σ H=>D.nx σ H
def Ends.on(D:Ends)(u:TS):Ends:={ D with nx:=u D}
def ap(t u:TS):TS:=fun D σ H=>t (D.on u) σ H
theorem aU:PSs X [] aL:=fun _ _ σ H _ I h=>wpAny_execs_nil ⟨σ,H,I,h⟩
theorem aj(h1:PS X st t)(h2:PSs X rest u):PSs X (st::rest) (ap t u):=by
 intro pins s σ H D I h
 refine wpAny_execs_cons (thn (h1 pins s σ H { D with nx:=u D} I h) fun f s1 q=>?_)
 cases f with
 | next =>
   obtain⟨σ',H',I',q⟩:=q
   exact h2 pins s1 σ' H' D I' q
 | ret v=>exact q
 | brk=>exact q
 | cont=>exact q
theorem ao(h1:PS X st t):PSs X [st] t:=by
 intro pins s σ H D I h
 refine wpAny_execs_cons (thn (h1 pins s σ H D I h) fun f s1 q=>?_)
 cases f with
 | next=>exact wpAny_execs_nil q
 | ret v=>exact q
 | brk=>exact q
 | cont=>exact q
theorem Inv.quiet{pins:List (Addr×Obj)}{σ:St}{H:Hp}{s:Shared}(I:Inv X pins σ H s):interactive X.env=false:=by simp[interactive,I.ok.kind]
def aal(te:TE):TS:=fun D σ H=>te σ H fun _ H1=>D.nx σ H1
theorem cG(he:PE X e te)(hs:swapsWith e none pos.line X.env=pure false:=by rfl):PS X (.Expr e pos) (aal te):=by
 intro pins s σ H D I h
 exact wpAny_Expr_any (thn (he pins s σ H _ I h) fun v s1 ⟨x,H1,I1,r1,q1⟩=>⟨σ,H1,I1,q1⟩) I.quiet hs
def abd(te:TE):TS:=fun D σ H=>te σ H D.rt
theorem az(he:PE X e te):PS X (.Return (some e) pos) (abd te):=by
 intro pins s σ H D I h
 exact wpAny_Return_some (thn (he pins s σ H _ I h) fun v s1 ⟨x,H1,I1,r1,q1⟩=>⟨x,σ,H1,I1,r1,q1⟩)
def br(c:TT)(t u:TS):TS:=fun D σ H=>c σ H fun b H1=>if b=true then t D σ H1 else u D σ H1
theorem ce{c:Expr}{a b:List Stmt}{tc:TT}(hc:PT X c tc)(ha:PSs X a t)(hb:PSs X b u):PS X (.If c a b pos) (br tc t u):=by
 intro pins s σ H D I h
 refine wpAny_If (thn (hc pins s σ H _ I h) fun d s1 ⟨H1,I1,q1⟩=>?_)
 cases d with
 | true=>exact ha pins s1 σ H1 D I1 q1
 | false=>exact hb pins s1 σ H1 D I1 q1
def yW:TS:=fun _ _ _=>False
theorem pg{sts:List Stmt}:PSs X sts yW:=fun _ _ _ _ _ _ h=>h.elim
end
abbrev TG:=V→St→Hp→(St→Hp→Prop)→Prop
abbrev TGs:=List V→St→Hp→(St→Hp→Prop)→Prop
def PG(X:Cx)(target:Expr)(t:TG):Prop :=
 ∀(pins:List (Addr×Obj)) (s:Shared) (σ:St) (H:Hp) (v:V) (u:Value) (Q:St→Hp→Prop),Inv X pins σ H s→aN v u→t v σ H Q→
  wpAny (model X.prog X.w) X.A (assign target X.env u) (fun _ s'=>∃ σ' H',Inv X pins σ' H' s'∧Q σ' H') X.xe s
def PGs(X:Cx)(ts:List Expr)(t:TGs):Prop :=
 ∀(pins:List (Addr×Obj)) (s:Shared) (σ:St) (H:Hp) (vs:List V) (us:List Value) (Q:St→Hp→Prop),Inv X pins σ H s→aR vs us→t vs σ H Q→
  wpAny (model X.prog X.w) X.A (assignInOrder ((assignEach ts X.env).map (·.2)) us) (fun _ s'=>∃ σ' H',Inv X pins σ' H' s'∧Q σ' H') X.xe s
abbrev wv:=V→V→V→Hp→(Hp→Prop)→Prop
def yZ(X:Cx)(t:wv):Prop :=
 ∀(pins:List (Addr×Obj)) (s:Shared) (σ:St) (H:Hp) (o i v:V) (ov iv u:Value) (Q:Hp→Prop),Inv X pins σ H s→aN o ov→aN i iv→aN v u→t o i v H Q→
  wpAny (model X.prog X.w) X.A (setItem ov iv u) (fun _ s'=>∃ H',Inv X pins σ H' s'∧Q H') X.xe s
abbrev TIp:=V→V→Hp→VK→Prop
def PIp(X:Cx)(op:Operator)(t:TIp):Prop :=
 ∀(pins:List (Addr×Obj)) (s:Shared) (σ:St) (H:Hp) (x y:V) (v u:Value) (Q:VK),Inv X pins σ H s→aN x v→aN y u→t x y H Q→
  wpAny (model X.prog X.w) X.A (inplaceOp op v u) (EP X pins σ Q) X.xe s
section
variable {X:Cx}{pos:Pos}
def yE(i:Nat):TG:=fun v σ H Q=>Q (σ.set i (some v)) H
theorem ax{i:Nat}{x:Str}(hN:X.N.Nodup)(hi:X.N[i]?=some x)(hx:Loc X.env.scope x)(hf:X.fn x=true∨X.env.scope.names.lookup x=some .local:=by first | exact .inl rfl | exact .inr rfl | assumption):PG X (.Name x pos) (yE i):=by
 intro pins s σ H v u Q I r h
 exact wpAny_assign_Name (im I hN hi hx r (fun s' I'=>⟨_,H,I',h⟩) hf)
def aaP:TGs:=fun vs σ H Q=>vs=[]∧Q σ H
def aac(t:TG)(u:TGs):TGs:=fun vs σ H Q=>∃ v r,vs=v::r∧t v σ H fun σ' H'=>u r σ' H' Q
theorem eD:PGs X [] aaP:=by
 intro pins s σ H vs us Q I r h
 obtain⟨e,h⟩:=h
 subst e
 cases r
 exact assignInOrder_nil ⟨σ,H,I,h⟩
theorem aQ{e:Expr}{es:List Expr}{t:TG}{u:TGs}(h1:PG X e t)(h2:PGs X es u)
 (hs:(assignEach (e::es) X.env).map (·.2)=assign e X.env::(assignEach es X.env).map (·.2):=by rfl):PGs X (e::es) (aac t u):=by
 intro pins s σ H vs us Q I r h
 obtain⟨v,vr,e1,h⟩:=h
 subst e1
 cases r with
 | cons r rr =>
   rw[hs]
   refine assignInOrder_cons (thn (h1 pins s σ H _ _ _ I r h) fun _ s1 ⟨σ1,H1,I1,q1⟩=>?_)
   exact h2 pins s1 σ1 H1 _ _ Q I1 rr q1
def aau(K:PySem.W.Frag)(n:Nat)(t:TGs):TG:=fun v σ H Q=>∃ a xs,v = .ref a∧SqT K H a xs∧xs.length=n∧t xs σ H Q
theorem zN{es:List Expr}{k:Nat}{t:TGs}{n:Nat}(hc:X.calm=true)(h:PGs X es t)
 (hn:(assignEach es X.env).length=n:=by rfl) (hst:(assignEach es X.env).findIdx? (·.1)=none:=by rfl):PG X (.Tuple es k pos) (aau X.K n t):=by
 intro pins s σ H v u Q I r hw
 obtain⟨a,xs,e1,hq,hl,hw⟩:=hw
 subst e1
 cases r
 obtain⟨its,rv,ht,hz⟩:=I.tuple hq
 refine assign_Tuple_tuple (I.ok.hd hc) ht (by simp[hn,← hl,rv.length]) hst fun h' hx=>?_
 have I1:Inv X pins σ H { s with heap:=h'}:=I.kept (t':=s.toks) fun b o e=>hx b o (Nat.ne_of_lt (Heap.lt_size e)) e
 exact h pins _ σ H xs _ Q I1 (by simpa using rv) hw
def aa4(to ti:TE)(t:wv):TG:=fun v σ H Q=>to σ H fun o H1=>ti σ H1 fun i H2=>t o i v H2 fun H3=>Q σ H3
theorem wQ{o i:Expr}{to ti:TE}{t:wv}(ho:PE X o to)(hi:PE X i ti)(hs:yZ X t)
 (ha:∀ v,assign (.Subscript o i pos) X.env v=(do
  let ov←holding [v] (eval o X.env)
  let iv←holding [v,ov] (eval i X.env)
  standAt pos
  holding [v,ov,iv] (setItem ov iv v)
  release [v,ov,iv] []):=by intro _;rfl):PG X (.Subscript o i pos) (aa4 to ti t):=by
 intro pins s σ H v u Q I r h
 rw[ha]
 refine wpAny_bind (wpAny_holding (thn (ho pins s σ H _ I h) fun ov s1 ⟨x,H1,I1,r1,q1⟩=>?_))
 refine wpAny_bind (wpAny_holding (thn (hi pins s1 σ H1 _ I1 q1) fun iv s2 ⟨y,H2,I2,r2,q2⟩=>?_))
 refine wpAny_bind (wpAny_standAt (wpAny_bind (wpAny_holding (thn (hs pins s2 σ H2 x y v ov iv u _ I2 r1 r2 r q2) fun _ s3 ⟨H3,I3,q3⟩=>?_))))
 exact wpAny_release ⟨σ,H3,I3,q3⟩
def z9(te:TE)(g:TG):TS:=fun D σ H=>te σ H fun x H1=>g x σ H1 D.nx
theorem qa{tg e:Expr}{te:TE}{g:TG}(he:PE X e te)(hg:PG X tg g)(hs:swapsWithSole [tg] e pos.line X.env=pure false:=by rfl)(hw:swappedStores [tg] e X.env=pure none:=by rfl)
 (h1:(assignEach [tg] X.env).map (·.2)=[assign tg X.env]:=by rfl):PS X (.Assign [tg] e pos) (z9 te g):=by
 intro pins s σ H D I h
 refine wpAny_Assign_stores (thn (he pins s σ H _ I h) fun v s1 ⟨x,H1,I1,r1,q1⟩=>?_) hs hw
 rw[h1]
 exact thn (hg pins s1 σ H1 x v _ I1 r1 q1) fun _ s2 q=>q
theorem aC{i:Nat}{x:Str}{e:Expr}{te:TE}{pos' : Pos}(hN:X.N.Nodup)(hi:X.N[i]?=some x)(hx:Loc X.env.scope x)(he:PE X e te)(hs:swapsWith e (some (.Name x pos')) pos.line X.env=pure false:=by rfl)(hf:X.fn x=true∨X.env.scope.names.lookup x=some .local:=by first | exact .inl rfl | exact .inr rfl | assumption):
 PS X (.Assign [.Name x pos'] e pos) (z9 te (yE i)):=by
 intro pins s σ H D I h
 refine wpAny_Assign_Name (thn (he pins s σ H _ I h) fun v s1 ⟨y,H1,I1,r1,q1⟩=>?_) hs
 exact im I1 hN hi hx r1 (fun s2 I2=>⟨_,H1,I2,q1⟩) hf
def aaV(i:Nat)(te:TE)(ti:TIp):TS:=fun D σ H=>∃ x,σ[i]?=some (some x)∧te σ H fun y H1=>ti x y H1 fun z H2=>D.nx (σ.set i (some z)) H2
theorem vz{i:Nat}{x:Str}{e:Expr}{te:TE}{op:Operator}{ti:TIp}{pos' : Pos}(hN:X.N.Nodup)(hi:X.N[i]?=some x)(hx:Loc X.env.scope x)(he:PE X e te)(ho:PIp X op ti)(hf:X.fn x=true∨X.env.scope.names.lookup x=some .local:=by first | exact .inl rfl | exact .inr rfl | assumption):
 PS X (.AugAssign (.Name x pos') op e pos) (aaV i te ti):=by
 intro pins s σ H D I h
 obtain⟨v,e1,h⟩:=h
 obtain⟨m,hn,hl⟩:=I.loc
 have vis:Vis X.env.scope x:=by rcases hx with k | k;exact .inl k;exact .inr (.inl k)
 obtain⟨u,r,l⟩:=hl i x v hi e1 vis
 refine wpAny_AugAssign_Name ?_
 have go:wpAny (model X.prog X.w) X.A (eval e X.env) (fun w s₂=>wpAny (model X.prog X.w) X.A (inplaceOp op u w) (fun r s₃=>wpAny (model X.prog X.w) X.A (storeName X.env x r) (fun _=>SP X pins D .next) X.xe s₃) X.xe s₂) X.xe s:=by
  refine thn (he pins s σ H _ I h) fun w s1 ⟨y,H1,I1,r1,q1⟩=>?_
  refine thn (ho pins s1 σ H1 v y u w _ I1 r r1 q1) fun z s2 ⟨zv,H2,I2,r2,q2⟩=>?_
  exact im I2 hN hi hx r2 (fun s3 I3=>⟨_,H2,I3,q2⟩) hf
 rcases l with⟨hk,hm⟩|⟨hk,c,hc,hcell⟩
 ·exact wpAny_loadName_local I.ok.kind hk hn hm go
 ·rcases hk with hk|hk
  ·exact wpAny_loadName_cell I.ok.kind hk hc hcell go
  ·rcases hx with k|k
   ·have:X.env.scope.names.lookup x=some .free:=hk
    rw[k]at this;cases this
   ·have:X.env.scope.names.lookup x=some .free:=hk
    rw[k]at this;cases this
def zV(to ti te:TE)(tget:V→V→Hp→VK→Prop)(tip:TIp)(tset:wv):TS:=fun D σ H=>to σ H fun o H1=>ti σ H1 fun i H2=>tget o i H2 fun x H3=>te σ H3 fun y H4=>tip x y H4 fun z H5=>tset o i z H5 fun H6=>D.nx σ H6
def zY(X:Cx)(t:V→V→Hp→VK→Prop):Prop :=
 ∀(pins:List (Addr×Obj)) (s:Shared) (σ:St) (H:Hp) (o i:V) (ov iv:Value) (Q:VK),Inv X pins σ H s→aN o ov→aN i iv→t o i H Q→
  wpAny (model X.prog X.w) X.A (getItem ov iv) (EP X pins σ Q) X.xe s
theorem tz{o i e:Expr}{to ti te:TE}{tget:V→V→Hp→VK→Prop}{tip:TIp}{tset:wv}{op:Operator}{tpos:Pos}(ho:PE X o to)(hi:PE X i ti)(hg:zY X tget)(he:PE X e te)(hp:PIp X op tip)(hs:yZ X tset)
 (ha:∀ ov iv new,augStore i ov iv new=(do holding [new,ov,iv] (setItem ov iv new);release [new,ov,iv] [];pure .next):=by intros;rfl):PS X (.AugAssign (.Subscript o i tpos) op e pos) (zV to ti te tget tip tset):=by
 intro pins s σ H D I h
 refine wpAny_AugAssign_SubscriptAny (thn (ho pins s σ H _ I h) fun ov s1 ⟨x1,H1,I1,r1,q1⟩=>?_) ha
 refine thn (hi pins s1 σ H1 _ I1 q1) fun iv s2 ⟨x2,H2,I2,r2,q2⟩=>?_
 refine thn (hg pins s2 σ H2 x1 x2 ov iv _ I2 r1 r2 q2) fun old s3 ⟨x3,H3,I3,r3,q3⟩=>?_
 refine thn (he pins s3 σ H3 _ I3 q3) fun v s4 ⟨x4,H4,I4,r4,q4⟩=>?_
 refine thn (hp pins s4 σ H4 x3 x4 old v _ I4 r3 r4 q4) fun new s5 ⟨x5,H5,I5,r5,q5⟩=>?_
 exact thn (hs pins s5 σ H5 x1 x2 x5 ov iv new _ I5 r1 r2 r5 q5) fun _ s6 ⟨H6,I6,q6⟩=>⟨σ,H6,I6,q6⟩
end
section
variable {X:Cx}{pos:Pos}
def jf(c:TT)(tb:TS):TS:=fun D σ H=>∃ W:Nat→St→Hp→Prop,(∃ m,W m σ H)∧∀ m σ H,W m σ H→
 c σ H fun b H1=>if b=true then ∃ N:St→Hp→Prop,(∀ σ' H',N σ' H'→∃ m',m'<m∧W m' σ' H')∧tb { D with nx:=N,ct:=N,bk:=D.nx} σ H1 else D.nx σ H1
theorem lX{c:Expr}{body:List Stmt}{tc:TT}{tb:TS}(hp:PassesOwn (model X.prog X.w) X.A X.env X.xe)(hc:PT X c tc)(hb:PSs X body tb):PS X (.While c body [] pos) (jf tc tb):=by
 intro pins s σ H D I h
 obtain⟨W,⟨m0,w0⟩,turn⟩:=h
 refine wpAny_While (codeAny_whileLoop (fun n s'=>∃ σ' H',Inv X pins σ' H' s'∧W n σ' H') ?_ m0 ⟨σ,H,I,w0⟩)
 rintro n s1 ⟨σ1,H1,I1,w1⟩
 refine wpAny_passesOwn hp (thn (hc pins s1 σ1 H1 _ I1 (turn n σ1 H1 w1)) fun b s2 ⟨H2,I2,q2⟩=>?_)
 cases b with
 | true =>
   obtain⟨N,hN,q2⟩:=q2
   rw[if_pos rfl]
   refine wpAny_passesOwn hp (thn (hb pins s2 σ1 H2 _ I2 q2) fun f s3 q3=>?_)
   cases f with
   | next =>
     obtain⟨σ3,H3,I3,n3⟩:=q3
     obtain⟨m',hm,w3⟩:=hN σ3 H3 n3
     exact⟨m',hm,σ3,H3,I3,w3⟩
   | cont =>
     obtain⟨σ3,H3,I3,n3⟩:=q3
     obtain⟨m',hm,w3⟩:=hN σ3 H3 n3
     exact⟨m',hm,σ3,H3,I3,w3⟩
   | brk=>exact q3
   | ret v=>exact q3
 | false =>
   rw[if_neg Bool.false_ne_true]
   exact wpAny_execs_nil ⟨σ1,H2,I2,q2⟩
end
structure It where
 go:Nat→Hp→Prop
 yld:Nat→Hp→V→Hp→Prop
 stop:Nat→Hp→Prop
def iU(X:Cx)(pins:List (Addr×Obj))(H:Hp)(b:Addr):Prop :=
 H b=none∧b≠X.env.locals∧b∉X.fs∧(b∈X.ex∨X.s₀.heap.objs.size≤b)∧(∀ x c,X.env.cells.lookup x=some c→c≠b)∧∀ p∈X.pn++pins,p.1≠b
theorem Inv.fpOk{X:Cx}{pins:List (Addr×Obj)}{σ:St}{H H' : Hp}{s:Shared}{b:Addr}(I:Inv X pins σ H s)(hb:s.heap.objs.size≤b)(hn:H' b=none):iU X pins H' b:=by
 refine⟨hn,Nat.ne_of_gt (Nat.lt_of_lt_of_le I.lt hb),I.nofs hb,.inr (Nat.le_trans I.sz hb),fun x c e z=>?_,fun p hp z=>?_⟩
 ·obtain⟨v,q⟩:=I.cell x c e
  exact absurd (Nat.lt_of_lt_of_le q.lt (by rw[z];exact hb)) (Nat.lt_irrefl _)
 ·exact absurd (Nat.lt_of_lt_of_le (Heap.lt_size (I.pin p hp).1) (by rw[z];exact hb)) (Nat.lt_irrefl _)
structure Turn(P:Program)(w:World)(K:PySem.W.Frag)(tg:Expr)(J:It)(fp:List Addr)(it:Addr)(tn:Nat→Heap→Prop):Prop where
 mem:it∈fp
 obj:∀ i h,tn i h→∀ b∈fp,∃ o,h.get? b=some o∧∀ v,o.data≠.cell v
 keep:∀ i h h',tn i h→(∀ b∈fp,∀ o,h.get? b=some o→h'.get? b=some o)→tn i h'
 item:∀(X:Cx),X.prog=P→X.w=w→X.K=K→X.calm=true→∀(i:Nat) (pins:List (Addr×Obj)) (s:Shared) (σ:St) (H:Hp) (E:Value→Shared→Prop),Inv X pins σ H s→(∀ b∈fp,iU X pins H b)→tn i s.heap→J.go i H→
  wpAny (model P w) X.A (pyNext (.ref it)) (fun r s1=>∃ u,r=some u∧
   wpAny (model P w) X.A (letOwnedTupleGo tg (.ref it) u) (fun _ s2=>∃ x H',Inv X pins σ H' s2∧aN x u∧J.yld i H x H'∧tn (i+1) s2.heap∧∀ b∈fp,H' b=none) E s1) E s
 done:∀(X:Cx),X.prog=P→X.w=w→X.K=K→X.calm=true→∀(i:Nat) (pins:List (Addr×Obj)) (s:Shared) (σ:St) (H:Hp) (E:Value→Shared→Prop),Inv X pins σ H s→(∀ b∈fp,iU X pins H b)→tn i s.heap→J.stop i H→
  wpAny (model P w) X.A (pyNext (.ref it)) (fun r s1=>r=none∧Inv X pins σ H s1) E s
 self:∀(A:Around) (i:Nat) (s:Shared) (Q:Value→Shared→Prop) (E:Value→Shared→Prop),tn i s.heap→Q (.ref it) s→wpAny (model P w) A (pyIter (.ref it)) Q E s
abbrev TI:=St→Hp→(It→Hp→Prop)→Prop
def PIE(X:Cx)(pins:List (Addr×Obj))(σ:St)(tg:Expr)(R:It→Hp→Prop)(itv:Value)(s2:Shared):Prop :=
 ∃(it:Addr) (fp:List Addr) (tn:Nat→Heap→Prop) (J:It) (H' : Hp),itv = .ref it∧Inv X pins σ H' s2∧Turn X.prog X.w X.K tg J fp it tn∧tn 0 s2.heap∧(∀ b∈fp,iU X pins H' b)∧R J H'
def PI(X:Cx)(tg iter:Expr)(wi:TI):Prop :=
 ∀(pins:List (Addr×Obj)) (s:Shared) (σ:St) (H:Hp) (R:It→Hp→Prop),Inv X pins σ H s→wi σ H R→
  wpAny (model X.prog X.w) X.A (eval iter X.env) (fun v s1=>wpAny (model X.prog X.w) X.A (pyIter v) (PIE X pins σ tg R) X.xe s1) X.xe s
theorem xw{M:Model}{A:Around}{E:Value→Shared→Prop}{s:Shared}{tg:Expr}{it:Addr}{u:Value}{o:Obj}{n:String}{vs:Array Value}{Q:Unit→Shared→Prop}(ho:s.heap.get? it=some o)(hc:o.cls = .type n)(hd:o.data = .fields vs)
 (hn:["enumerate","zip","dict_itemiterator","dict_reverseitemiterator","odict_iterator","itertools.zip_longest","itertools.pairwise"].contains n=false) (hQ:Q () s):wpAny M A (letOwnedTupleGo tg (.ref it) u) Q E s:=by
 unfold letOwnedTupleGo
 cases tg<;>first
  | exact wpAny_pure hQ
  | (cases u<;>first
   | exact wpAny_pure hQ
   | (refine wpAny_bind (wpAny_load ho ?_)
      rw[hc,hd]
      show wpAny M A (if(["enumerate","zip","dict_itemiterator","dict_reverseitemiterator","odict_iterator","itertools.zip_longest","itertools.pairwise"].contains n&&vs[0]? == some (rawInt _))=true then _ else _) Q E s
      rw[if_neg (by intro h;rw[hn,Bool.false_and]at h;cases h)]
      exact wpAny_pure hQ))
def Itl(K:PySem.W.Frag)(a:Addr):It :=
 ⟨fun i H=>∃ xs x,SqL K H a xs∧xs[i]?=some x,fun i H x H'=>H' = H∧∀ xs,SqL K H a xs→xs[i]?=some x,fun i H=>∃ xs,SqL K H a xs∧xs.length≤i⟩
def Itr(lo:Int)(n:Nat):It:=⟨fun i _=>i<n,fun i H x H'=>H' = H∧x = .int (lo+i),fun i _=>n≤i⟩
theorem ut{P:Program}{w:World}{K:PySem.W.Frag}{tg:Expr}(a it:Addr):Turn P w K tg (Itl K a) [it] it (fun i h=>h.IsListIter it a i) where
 mem:=by simp
 obj:=fun i h st b hb=>by
  have e:b=it:=by simpa using hb
  subst e
  obtain⟨o,e,c,d⟩:=st
  exact⟨o,e,fun v z=>by rw[d]at z;cases z⟩
 keep:=fun i h h' st k=>st.at fun o e=>k it (by simp) o e
 item:=by
  intro X hP hw hK hc i pins s σ H E I hf st hg
  subst hP hw hK
  obtain⟨xs,x,hq,hx⟩:=hg
  obtain⟨its,rv,p,hz⟩:=I.list hq
  obtain⟨u,hu,ru⟩:=rv.get hx
  obtain⟨f0,f1,f2,f3,f4,f5⟩:=hf it (by simp)
  refine wpAny_pyNext_list_item st p.isList (x:=u) (by simpa using hu) fun h' st' sb=>?_
  have I1:Inv X pins σ H { s with heap:=h'}:=I.turned (t':=s.toks) (fun b o hb e=>(sb.2 b hb).trans e) f0 f1 f3 f4 f5
  obtain⟨o,e,c,d⟩:=id st'
  exact⟨u,rfl,xw (s:={ s with heap:=h'}) e c d (by decide) ⟨x,H,I1,ru,⟨rfl,fun ys hy=>by rw[I.list_inj hy hq];exact hx⟩,st',fun b hb=>(hf b hb).1⟩⟩
 done:=by
  intro X hP hw hK hc i pins s σ H E I hf st hg
  subst hP hw hK
  obtain⟨xs,hq,hx⟩:=hg
  obtain⟨its,rv,p,hz⟩:=I.list hq
  obtain⟨f0,f1,f2,f3,f4,f5⟩:=hf it (by simp)
  have hl:=rv.length
  exact wpAny_pyNext_list_end (I.ok.hd hc) st p.isList (by simp;omega) fun h' eb=>⟨rfl,I.turned (t':=s.toks) (fun b o hb e=>eb b o hb e) f0 f1 f3 f4 f5⟩
 self:=fun _ _ _ _ _ st h=>wpAny_pyIter_listiter st h
theorem lW{P:Program}{w:World}{K:PySem.W.Frag}{tg:Expr}(it:Addr)(lo:Int)(n:Nat):Turn P w K tg (Itr lo n) [it] it (fun i h=>IsRangeIter h it (lo+(i:Nat)*1) ((n:Int)-(i:Nat)) 1) where
 mem:=by simp
 obj:=fun i h st b hb=>by
  have e:b=it:=by simpa using hb
  subst e
  exact⟨_,st,fun v z=>by
   have z' : Data.fields _=Data.cell v:=z
   cases z'⟩
 keep:=fun i h h' st k=>k it (by simp) _ st
 item:=by
  intro X hP hw hK hc i pins s σ H E I hf st hg
  subst hP hw hK
  obtain⟨f0,f1,f2,f3,f4,f5⟩:=hf it (by simp)
  have W:=Walks.range (prog:=X.prog) (w:=X.w) (I.ok.hd hc) it lo 1 n
  refine W.item i s _ _ hg st fun v h' tk hv st' kk=>?_
  obtain⟨t,rfl⟩:=hv
  have I1:Inv X pins σ H { s with heap:=h',toks:=tk}:=I.turned (fun b o hb e=>kk b o (by simpa using hb) e) f0 f1 f3 f4 f5
  refine⟨_,rfl,xw (s:={ s with heap:=h',toks:=tk}) (n:="range_iterator") st' rfl rfl (by decide) ⟨.int (lo+i),H,I1,⟨t,?_⟩,⟨rfl,rfl⟩,st',fun b hb=>(hf b hb).1⟩⟩
  rw[Int.mul_one]
 done:=by
  intro X hP hw hK hc i pins s σ H E I hf st hg
  subst hP hw hK
  obtain⟨f0,f1,f2,f3,f4,f5⟩:=hf it (by simp)
  exact wpAny_pyNext_range_end (I.ok.hd hc) st (by have:n≤i:=hg;omega) fun h' eb=>⟨rfl,I.turned (t':=s.toks) (fun b o hb e=>eb b o hb e) f0 f1 f3 f4 f5⟩
 self:=fun _ _ _ _ _ st h=>wpAny_pyIter_rangeiter st h
end L2
namespace L2
open PySem PySem.Spec PyProof.Rows
section
variable {X:Cx}{tg:Expr}
def yK(K:PySem.W.Frag)(tl:TE):TI:=fun σ H R=>tl σ H fun x H1=>∃ a,x = .ref a∧(∃ xs,SqL K H1 a xs)∧R (Itl K a) H1
theorem x6{l:Expr}{tl:TE}(hl:PE X l tl):PI X tg l (yK X.K tl):=by
 intro pins s σ H R I h
 refine thn (hl pins s σ H _ I h) fun v s1 ⟨x,H1,I1,r1,q1⟩=>?_
 obtain⟨a,e,⟨xs,hq⟩,q⟩:=q1
 subst e
 cases r1
 obtain⟨its,rv,p,hz⟩:=I1.list hq
 refine wpAny_pyIter_list p.isList ?_
 refine⟨s1.heap.objs.size,[s1.heap.objs.size],_,_,H1,rfl,I1.kept (t':=s1.toks) fun b o e=>Heap.get?_push_of_some _ e,ut a _,⟨_,Heap.get?_push_size _ rfl,rfl,rfl⟩,fun b hb=>?_,q⟩
 have e:b=s1.heap.objs.size:=by simpa using hb
 subst e
 exact I1.fpOk (Nat.le_refl _) (I1.hok.fresh (Nat.le_refl _))
theorem qW{pins:List (Addr×Obj)}{σ:St}{H:Hp}{s:Shared}{R:It→Hp→Prop}{E:Value→Shared→Prop}{lo hi:Int}{t u v:Tok}{tk:Nat}(I:Inv X pins σ H s)(h1 : -(2^62)≤lo)(h2:lo<2^62)(h3 : -(2^62)≤hi)(h4:hi<2^62)
 (q:R (Itr lo (hi-lo).toNat) H):wpAny (model X.prog X.w) X.A (pyIter (.ref s.heap.objs.size)) (PIE X pins σ tg R) E { s with heap:=s.heap.push { cls:=.type "range",data:=.fields #[.int lo t,.int hi u,.int 1 v]},toks:=tk}:=by
 refine wpAny_pyIter_range (IsRange.new ..) (small_one h1 h2 h3 h4) ?_
 have I1:Inv X pins σ H { s with heap:=s.heap.push { cls:=.type "range",data:=.fields #[.int lo t,.int hi u,.int 1 v]},toks:=tk}:=I.kept fun b o e=>Heap.get?_push_of_some _ e
 refine⟨(s.heap.push { cls:=.type "range",data:=.fields #[.int lo t,.int hi u,.int 1 v]}).objs.size,[(s.heap.push { cls:=.type "range",data:=.fields #[.int lo t,.int hi u,.int 1 v]}).objs.size],_,_,H,rfl,
  I1.kept (t':=tk) fun b o e=>Heap.get?_push_of_some _ e,lW _ lo (hi-lo).toNat,?_,fun b hb=>?_,q⟩
 ·have e1:lo+((0:Nat):Int)*1=lo:=by simp
  have e2:(((hi-lo).toNat:Nat):Int)-((0:Nat):Int)=Builtin.Range.rangeSize lo hi 1:=by rw[rangeSize_one];split<;>omega
  show IsRangeIter _ _ (lo+((0:Nat):Int)*1) ((((hi-lo).toNat:Nat):Int)-((0:Nat):Int)) 1
  rw[e1,e2]
  exact Heap.get?_push_size _ rfl
 ·have e:b=(s.heap.push { cls:=.type "range",data:=.fields #[.int lo t,.int hi u,.int 1 v]}).objs.size:=by simpa using hb
  subst e
  exact I1.fpOk (Nat.le_refl _) (I1.hok.fresh (Nat.le_refl _))
def aaz(ta:TA):TI:=fun σ H R=>ta σ H fun vs H1=>∃ j:Int,vs=[.int j]∧-(2^62)≤j∧j<2^62∧R (Itr 0 j.toNat) H1
def aao(ta:TA):TI:=fun σ H R=>ta σ H fun vs H1=>∃ i j:Int,vs=[.int i,.int j]∧(-(2^62)≤i∧i<2^62∧-(2^62)≤j∧j<2^62)∧R (Itr i (j-i).toNat) H1
theorem bh{a:Expr}{ta:TA}{p pos:Pos}(hg:Gl X "range")(hm:X.mg "range"=none)(ha:PA X [a] ta)(hs:starEach [a] X.env=[(false,eval a X.env)]:=by rfl):PI X tg (.Call (.Name "range" p) [a] [] pos) (aaz ta):=by
 intro pins s σ H R I h
 refine Call_ (hZ I hg hm boot_range (PyProof.Rows.callWith_type1 (thn (ha pos pins s σ H _ I h) fun us s1 ⟨vs,H1,I1,r1,q1⟩=>?_) hs rfl))
 obtain⟨j,e,q1,q2,q⟩:=q1
 subst e
 cases r1 with
 | cons r rr =>
   cases rr
   obtain⟨t,rfl⟩:=r
   exact call_range_1 (qW I1 (by omega) (by omega) q1 q2 (by simpa using q))
theorem nS{a b:Expr}{ta:TA}{p pos:Pos}(hg:Gl X "range")(hm:X.mg "range"=none)(ha:PA X [a,b] ta)(hs:starEach [a,b] X.env=[(false,eval a X.env),(false,eval b X.env)]:=by rfl)(hs2:starEach [b] X.env=[(false,eval b X.env)]:=by rfl):
 PI X tg (.Call (.Name "range" p) [a,b] [] pos) (aao ta):=by
 intro pins s σ H R I h
 refine Call_ (hZ I hg hm boot_range (PyProof.Rows.callWith_type1 (thn (ha pos pins s σ H _ I h) fun us s1 ⟨vs,H1,I1,r1,q1⟩=>?_) (by rw[hs,hs2]) (by rw[hs2];rfl)))
 obtain⟨i,j,e,⟨q1,q2,q3,q4⟩,q⟩:=q1
 subst e
 cases r1 with
 | cons r rr =>
   cases rr with
   | cons r' rr =>
     cases rr
     obtain⟨t,rfl⟩:=r
     obtain⟨t',rfl⟩:=r'
     exact call_range_2 (qW I1 q1 q2 q3 q4 q)
def cI(wi:TI)(g:TG)(tb:TS):TS:=fun D σ H=>wi σ H fun J H1=>∃ W:Nat→Nat→St→Hp→Prop,(∃ m,W 0 m σ H1)∧∀ i m σ H,W i m σ H→
 (J.stop i H∧D.nx σ H)∨(J.go i H∧∃ N:St→Hp→Prop,(∀ σ' H',N σ' H'→∃ m',m'<m∧W (i+1) m' σ' H')∧∀ x H',J.yld i H x H'→g x σ H' fun σ2 H2=>tb { D with nx:=N,ct:=N,bk:=D.nx} σ2 H2)
def kq(fp:List Addr)(h:Heap):List (Addr×Obj):=fp.filterMap fun b=>(h.get? b).map fun o=>(b,o)
theorem eo{fp:List Addr}{h:Heap}{b:Addr}{o:Obj}(hb:b∈fp)(e:h.get? b=some o):(b,o)∈kq fp h:=List.mem_filterMap.mpr ⟨b,hb,by rw[e];rfl⟩
theorem vi{fp:List Addr}{h:Heap}{p:Addr×Obj}(hp:p∈kq fp h):p.1∈fp∧h.get? p.1=some p.2:=by
 obtain⟨b,hb,e⟩:=List.mem_filterMap.mp hp
 cases q:h.get? b with
 | none=>rw[q]at e;cases e
 | some o =>
   rw[q]at e
   have e' : (b,o)=p:=Option.some.inj e
   subst e'
   exact⟨hb,q⟩
theorem Inv.pinned{pins:List (Addr×Obj)}{σ:St}{H:Hp}{s:Shared}{fp:List Addr}(I:Inv X pins σ H s)(hf:∀ b∈fp,iU X pins H b)(ho:∀ b∈fp,∃ o,s.heap.get? b=some o∧∀ v,o.data≠.cell v):Inv X (pins++kq fp s.heap) σ H s :=
 I.pins_of fun p hp=>(List.mem_append.mp hp).elim (fun z=>I.pin p (List.mem_append_right _ z)) fun z=>by
  obtain⟨hb,e⟩:=vi z
  obtain⟨f0,f1,f2,_⟩:=hf p.1 hb
  obtain⟨o,e',d⟩:=ho p.1 hb
  rw[e]at e';cases e'
  exact⟨e,f0,f1,f2,d⟩
theorem Inv.unpinned{pins pl:List (Addr×Obj)}{σ:St}{H:Hp}{s:Shared}(I:Inv X (pins++pl) σ H s):Inv X pins σ H s:=I.pins_of fun p hp=>I.pin p (List.mem_append_right _ (List.mem_append_left _ hp))
theorem dR{iter:Expr}{body:List Stmt}{wi:TI}{g:TG}{tb:TS}{pos:Pos}(hp:PassesOwn (model X.prog X.w) X.A X.env X.xe)(hc:X.calm=true)(hi:PI X tg iter wi)(hg:PG X tg g)(hb:PSs X body tb)
 (hs:∀ x,foldedSetIterable iter X.env x=pure x:=by intro _;rfl):PS X (.For tg iter body [] pos) (cI wi g tb):=by
 intro pins s σ H D I h
 refine wpAny_For (thn (hi pins s σ H _ I h) fun v s1 h1=>thn h1 fun itv s2 h2=>?_) hs
 obtain⟨it,fp,tn,J,H2,e,I2,T,st2,f2,W,⟨m0,w0⟩,turn⟩:=h2
 subst e
 have stat:∀{H' : Hp},(∀ b∈fp,H' b=none)→∀ b∈fp,iU X pins H' b:=fun hn b hb=>⟨hn b hb,(f2 b hb).2⟩
 refine codeAny_forLoop_any (fun n s'=>∃ i σ' H',Inv X pins σ' H' s'∧tn i s'.heap∧(∀ b∈fp,H' b=none)∧W i n σ' H') ?_ m0 ⟨0,σ,H2,I2,st2,fun b hb=>(f2 b hb).1,w0⟩
 rintro n s3 ⟨i,σ3,H3,I3,st3,fr3,w3⟩
 rcases turn i n σ3 H3 w3 with⟨stop,qn⟩|⟨go,N,hN,step⟩
 ·refine wpAny_passesOwn hp (thn (T.done X rfl rfl rfl hc i pins s3 σ3 H3 X.xe I3 (stat fr3) st3 stop) fun r s4 ⟨hr,I4⟩=>?_)
  subst hr
  exact wpAny_execs_nil ⟨σ3,H3,I4,qn⟩
 ·refine wpAny_passesOwn hp (thn (T.item X rfl rfl rfl hc i pins s3 σ3 H3 X.xe I3 (stat fr3) st3 go) fun r s4 ⟨u,hr,h4⟩=>?_)
  subst hr
  refine wpAny_passesOwn hp (thn h4 fun _ s5 ⟨x,H5,I5,r5,y5,st5,fr5⟩=>?_)
  have I5':=I5.pinned (stat fr5) (T.obj _ _ st5)
  refine wpAny_passesOwn hp (thn (hg _ s5 σ3 H5 x u _ I5' r5 (step x H5 y5)) fun _ s6 ⟨σ6,H6,I6,q6⟩=>?_)
  refine wpAny_passesOwn hp (thn (hb _ s6 σ6 H6 _ I6 q6) fun f s7 q7=>?_)
  have again:∀{σ7:St} {H7:Hp},Inv X (pins++kq fp s5.heap) σ7 H7 s7→N σ7 H7→∃ m,m<n∧∃ i σ' H',Inv X pins σ' H' s7∧tn i s7.heap∧(∀ b∈fp,H' b=none)∧W i m σ' H':=fun {σ7 H7} I7 n7=>by
   obtain⟨m',hm,w7⟩:=hN σ7 H7 n7
   refine⟨m',hm,i+1,σ7,H7,I7.unpinned,T.keep _ _ _ st5 fun b hb o e=>(I7.pin (b,o) (List.mem_append_right _ (List.mem_append_right _ (eo hb e)))).1,fun b hb=>?_,w7⟩
   obtain⟨o,e,d⟩:=T.obj _ _ st5 b hb
   exact(I7.pin (b,o) (List.mem_append_right _ (List.mem_append_right _ (eo hb e)))).2.1
  cases f with
  | next=>obtain⟨σ7,H7,I7,n7⟩:=q7;exact again I7 n7
  | cont=>obtain⟨σ7,H7,I7,n7⟩:=q7;exact again I7 n7
  | brk=>obtain⟨σ7,H7,I7,q7⟩:=q7;exact⟨σ7,H7,I7.unpinned,q7⟩
  | ret v=>obtain⟨x7,σ7,H7,I7,r7,q7⟩:=q7;exact⟨x7,σ7,H7,I7.unpinned,r7,q7⟩
end
theorem lG{K:PySem.W.Frag}{a:Addr}{xs:List V}{g:TG}{tb:TS}{D:Ends}{σ:St}{H:Hp}(Pv:Nat→St→Hp→Prop)(h0:Pv 0 σ H)(hl:∀ i σ H,i≤xs.length→Pv i σ H→SqL K H a xs)
 (hs:∀ i x σ H,xs[i]?=some x→Pv i σ H→g x σ H fun σ2 H2=>tb { D with nx:=Pv (i+1),ct:=Pv (i+1),bk:=D.nx} σ2 H2) (hd:∀ σ H,Pv xs.length σ H→D.nx σ H) :
 ∃ W:Nat→Nat→St→Hp→Prop,(∃ m,W 0 m σ H)∧∀ i m σ H,W i m σ H→
   ((Itl K a).stop i H∧D.nx σ H)∨((Itl K a).go i H∧∃ N:St→Hp→Prop,(∀ σ' H',N σ' H'→∃ m',m'<m∧W (i+1) m' σ' H')∧∀ x H',(Itl K a).yld i H x H'→g x σ H' fun σ2 H2=>tb { D with nx:=N,ct:=N,bk:=D.nx} σ2 H2):=by
 refine⟨fun i m σ H=>m=xs.length-i∧i≤xs.length∧Pv i σ H,⟨xs.length,by simp,Nat.zero_le _,h0⟩,?_⟩
 rintro i m σ H ⟨rfl,hi,p⟩
 have q:=hl i σ H hi p
 by_cases hlt:i<xs.length
 ·refine .inr ⟨⟨xs,xs[i],q,by simp[hlt]⟩,Pv (i+1),fun σ' H' p'=>⟨xs.length-(i+1),by omega,rfl,hlt,p'⟩,fun x H' y=>?_⟩
  obtain⟨e,y⟩:=y
  subst e
  exact hs i x σ _ (y xs q) p
 ·have e:i=xs.length:=by omega
  subst e
  exact .inl ⟨⟨xs,q,Nat.le_refl _⟩,hd σ H p⟩
theorem og{lo:Int}{n:Nat}{g:TG}{tb:TS}{D:Ends}{σ:St}{H:Hp}(Pv:Nat→St→Hp→Prop)(h0:Pv 0 σ H)
 (hs:∀ i σ H,i<n→Pv i σ H→g (.int (lo+i)) σ H fun σ2 H2=>tb { D with nx:=Pv (i+1),ct:=Pv (i+1),bk:=D.nx} σ2 H2) (hd:∀ σ H,Pv n σ H→D.nx σ H) :
 ∃ W:Nat→Nat→St→Hp→Prop,(∃ m,W 0 m σ H)∧∀ i m σ H,W i m σ H→
   ((Itr lo n).stop i H∧D.nx σ H)∨((Itr lo n).go i H∧∃ N:St→Hp→Prop,(∀ σ' H',N σ' H'→∃ m',m'<m∧W (i+1) m' σ' H')∧∀ x H',(Itr lo n).yld i H x H'→g x σ H' fun σ2 H2=>tb { D with nx:=N,ct:=N,bk:=D.nx} σ2 H2):=by
 refine⟨fun i m σ H=>m=n-i∧i≤n∧Pv i σ H,⟨n,by simp,Nat.zero_le _,h0⟩,?_⟩
 rintro i m σ H ⟨rfl,hi,p⟩
 by_cases hlt:i<n
 ·refine .inr ⟨hlt,Pv (i+1),fun σ' H' p'=>⟨n-(i+1),by omega,rfl,hlt,p'⟩,fun x H' y=>?_⟩
  obtain⟨e,y⟩:=y
  subst e y
  exact hs i σ _ hlt p
 ·have e:i=n:=by omega
  subst e
  exact .inl ⟨Nat.le_refl _,hd σ H p⟩
end L2
namespace L2
open PySem PySem.Spec PyProof.Rows
abbrev R2:=V→V→Hp→VK→Prop
def OpR(X:Cx)(f:Value→Value→Sem Value)(r:R2):Prop :=
 ∀(pins:List (Addr×Obj)) (s:Shared) (σ:St) (H:Hp) (x y:V) (v u:Value) (Q:VK),Inv X pins σ H s→aN x v→aN y u→r x y H Q→
  wpAny (model X.prog X.w) X.A (f v u) (EP X pins σ Q) X.xe s
def UnR(X:Cx)(f:Value→Sem Value)(r:V→Hp→VK→Prop):Prop :=
 ∀(pins:List (Addr×Obj)) (s:Shared) (σ:St) (H:Hp) (x:V) (v:Value) (Q:VK),Inv X pins σ H s→aN x v→r x H Q→
  wpAny (model X.prog X.w) X.A (f v) (EP X pins σ Q) X.xe s
def dF(X:Cx)(f:Value)(r:List V→Hp→VK→Prop):Prop :=
 ∀(pins:List (Addr×Obj)) (s:Shared) (σ:St) (H:Hp) (xs:List V) (us:List Value) (Q:VK),Inv X pins σ H s→aR xs us→r xs H Q→
  wpAny (model X.prog X.w) X.A (call f us) (EP X pins σ Q) X.xe s
def tOp(r:R2)(ta tb:TE):TE:=fun σ H Q=>ta σ H fun x H1=>tb σ H1 fun y H2=>r x y H2 Q
def tUn(r:V→Hp→VK→Prop)(ta:TE):TE:=fun σ H Q=>ta σ H fun x H1=>r x H1 Q
def rI(C:Int→Int→Prop)(g:Int→Int→V):R2:=fun x y H Q=>∃ i j,x = .int i∧y = .int j∧C i j∧Q (g i j) H
def rI0(g:Int→Int→V):R2:=fun x y H Q=>∃ i j,x = .int i∧y = .int j∧Q (g i j) H
def rU(g:Int→V):V→Hp→VK→Prop:=fun x H Q=>∃ i,x = .int i∧Q (g i) H
section
variable {X:Cx}{a b c:Expr}{ta tb tc:TE}{pos:Pos}
theorem y8(ha:PE X a ta)(hb:PE X b tb){pins:List (Addr×Obj)}{s:Shared}{σ:St}{H:Hp}{R:V→V→Hp→Prop}(I:Inv X pins σ H s)
 (h:ta σ H fun x H1=>tb σ H1 fun y H2=>R x y H2) {Q:Value→Shared→Prop} {f:Value→Value→Sem Value}
 (hf:∀ v u s2 x y H2,Inv X pins σ H2 s2→aN x v→aN y u→R x y H2→wpAny (model X.prog X.w) X.A (f v u) Q X.xe s2) :
 wpAny (model X.prog X.w) X.A (eval a X.env) (fun v s₁=>wpAny (model X.prog X.w) X.A (eval b X.env) (fun u s₂=>wpAny (model X.prog X.w) X.A (f v u) Q X.xe s₂) X.xe s₁) X.xe s:=by
 refine thn (ha pins s σ H _ I h) fun v s1 ⟨x,H1,I1,r1,q1⟩=>?_
 refine thn (hb pins s1 σ H1 _ I1 q1) fun u s2 ⟨y,H2,I2,r2,q2⟩=>?_
 exact hf v u s2 x y H2 I2 r1 r2 q2
theorem ay{op:Operator}{r:R2}(ho:OpR X (binaryOp op) r)(ha:PE X a ta)(hb:PE X b tb):PE X (.BinOp a op b pos) (tOp r ta tb):=by
 intro pins s σ H Q I h
 exact wpAny_BinOp (y8 ha hb I h fun v u s2 x y H2 I2 rx ry q=>ho pins s2 σ H2 x y v u Q I2 rx ry q)
theorem om{op:UnaryOp}{r:V→Hp→VK→Prop}(ho:UnR X (unaryOp op) r)(ha:PE X a ta):PE X (.UnaryOp op a pos) (tUn r ta):=by
 intro pins s σ H Q I h
 exact UnaryOp_ (thn (ha pins s σ H _ I h) fun v s1 ⟨x,H1,I1,r1,q1⟩=>ho pins s1 σ H1 x v Q I1 r1 q1)
theorem opI{f:Value→Value→Sem Value}{C:Int→Int→Prop}{g:Int→Int→Int}
 (rule:∀(i j:Int) (t u:Tok) (s:Shared) (Q:Value→Shared→Prop) (E:Value→Shared→Prop),C i j→Q (.int (g i j) s.toks) { s with toks:=s.toks+1}→wpAny (model X.prog X.w) X.A (f (.int i t) (.int j u)) Q E s) :
 OpR X f (rI C fun i j=>.int (g i j)):=by
 intro pins s σ H x y v u Q I rx ry h
 obtain⟨i,j,rfl,rfl,hc,q⟩:=h
 obtain⟨t,rfl⟩:=rx
 obtain⟨t',rfl⟩:=ry
 exact rule i j t t' s _ _ hc ⟨.int (g i j),H,I.tok _,⟨_,rfl⟩,q⟩
theorem uF{f:Value→Value→Sem Value}{g:Int→Int→Int}
 (rule:∀(i j:Int) (t u:Tok) (s:Shared) (Q:Value→Shared→Prop) (E:Value→Shared→Prop),Q (.int (g i j) s.toks) { s with toks:=s.toks+1}→wpAny (model X.prog X.w) X.A (f (.int i t) (.int j u)) Q E s) :
 OpR X f (rI0 fun i j=>.int (g i j)):=by
 intro pins s σ H x y v u Q I rx ry h
 obtain⟨i,j,rfl,rfl,q⟩:=h
 obtain⟨t,rfl⟩:=rx
 obtain⟨t',rfl⟩:=ry
 exact rule i j t t' s _ _ ⟨.int (g i j),H,I.tok _,⟨_,rfl⟩,q⟩
theorem xU{f:Value→Value→Sem Value}{g:Int→Int→Bool}
 (rule:∀(i j:Int) (t u:Tok) (s:Shared) (Q:Value→Shared→Prop) (E:Value→Shared→Prop),Q (.bool (g i j)) s→wpAny (model X.prog X.w) X.A (f (.int i t) (.int j u)) Q E s) :
 OpR X f (rI0 fun i j=>.bl (g i j)):=by
 intro pins s σ H x y v u Q I rx ry h
 obtain⟨i,j,rfl,rfl,q⟩:=h
 obtain⟨t,rfl⟩:=rx
 obtain⟨t',rfl⟩:=ry
 exact rule i j t t' s _ _ ⟨.bl (g i j),H,I,rfl,q⟩
def zd(i j:Int):Prop:=0<j∧j<1073741824
def aaE(i j:Int):Prop:=0≤j∧j≤1000000∧i.natAbs<2^64
def zI(i j:Int):Prop:=(-(2^64)<i∧i<2^64)∨(-(2^64)<j∧j<2^64)
theorem zI.ok{i j:Int}(h:zI i j):IntMulOk i j:=by
 rcases h with⟨h1,h2⟩|⟨h1,h2⟩
 ·exact .of_left (intBits_le_64 h1 h2)
 ·exact .of_right (intBits_le_64 h1 h2)
theorem rP(k:Nat):(0:Int)≤2^k:=by
 rw[two_pow_cast]
 exact Int.natCast_nonneg _
theorem cP:OpR X (binaryOp .Add) (rI0 fun i j=>.int (i+j)):=uF fun _ _ _ _ _ _ _ q=>add_int q
theorem jj:OpR X (binaryOp .Sub) (rI0 fun i j=>.int (i-j)):=uF fun _ _ _ _ _ _ _ q=>sub_int q
theorem jX:OpR X (binaryOp .Mult) (rI zI fun i j=>.int (i*j)):=opI fun _ _ _ _ _ _ _ hc q=>mul_int q hc.ok
theorem gR:OpR X (binaryOp .FloorDiv) (rI zd fun i j=>.int (i/j)):=opI fun i j _ _ _ _ _ hc q=>by
 have h1:(0:Int)<j:=hc.1
 have h2:j<1073741824:=hc.2
 exact floordiv_int (by omega) (by rw[Int.fdiv_eq_ediv_of_nonneg i (by omega)];exact q) (.inl (PyProof.noPylong_small (by omega)))
theorem ci:OpR X (binaryOp .Mod) (rI (fun _ j=>0<j) fun i j=>.int (i%j)):=opI fun i j _ _ _ _ _ hc q=>by
 have h1:(0:Int)<j:=hc
 exact mod_int' (by omega) (by rw[Int.fmod_eq_emod_of_nonneg i (by omega)];exact q)
theorem sr:OpR X (binaryOp .Pow) (rI aaE fun i j=>.int (i^j.toNat)):=opI fun _ _ _ _ _ _ _ hc q=>pow_int_small hc.1 hc.2.1 hc.2.2 q
theorem fA:OpR X (binaryOp .LShift) (rI aaE fun i j=>.int (i*2^j.toNat)):=opI fun _ _ _ _ _ _ _ hc q=>lshift_int_small hc.1 hc.2.1 hc.2.2 q
theorem xm:OpR X (binaryOp .RShift) (rI (fun _ j=>0≤j) fun i j=>.int (i/2^j.toNat)):=opI fun i j _ _ _ _ _ hc q =>
 rshift_int hc (by rw[Int.fdiv_eq_ediv_of_nonneg i (rP _)];exact q)
theorem pO:OpR X (binaryOp .BitAnd) (rI0 fun i j=>.int (Builtin.bitAnd i j)):=uF fun _ _ _ _ _ _ _ q=>and_int q
theorem gQ:OpR X (binaryOp .BitXor) (rI0 fun i j=>.int (Builtin.bitXor i j)):=uF fun _ _ _ _ _ _ _ q=>xor_int q
theorem tO:OpR X (inplaceOp .Add) (rI0 fun i j=>.int (i+j)):=uF fun _ _ _ _ _ _ _ q=>iadd_int q
theorem wU:OpR X (inplaceOp .BitOr) (rI0 fun i j=>.int (Builtin.bitOr i j)):=uF fun _ _ _ _ _ _ _ q=>ior_int q
theorem unI{f:Value→Sem Value}{g:Int→Int}
 (rule:∀(i:Int) (t:Tok) (s:Shared) (Q:Value→Shared→Prop) (E:Value→Shared→Prop),Q (.int (g i) s.toks) { s with toks:=s.toks+1}→wpAny (model X.prog X.w) X.A (f (.int i t)) Q E s) :
 UnR X f (rU fun i=>.int (g i)):=by
 intro pins s σ H x v Q I rx h
 obtain⟨i,rfl,q⟩:=h
 obtain⟨t,rfl⟩:=rx
 exact rule i t s _ _ ⟨.int (g i),H,I.tok _,⟨_,rfl⟩,q⟩
theorem jU:UnR X (unaryOp .USub) (rU fun i=>.int (-i)):=unI fun _ _ _ _ _ q=>neg_int q
end
def yQ:V→V→Bool
 | .non,.non=>true | .non,.int _=>true | .int _,.non=>true | .non,.bl _=>true | .bl _,.non=>true | .non,.str _=>true | .str _,.non=>true
 | .int _,.int _=>true | .bl _,.bl _=>true | .str _,.str _=>true | .byt _,.byt _=>true
 | .int _,.str _=>true | .str _,.int _=>true | .bl _,.str _=>true | .str _,.bl _=>true
 | _,_=>false
def rEq:R2:=fun x y H Q=>yQ x y=true∧Q (.bl (decide (x=y))) H
def rNe:R2:=fun x y H Q=>yQ x y=true∧Q (.bl (!decide (x=y))) H
theorem ue{i j:Int}:decide (V.int i=V.int j)=(i==j):=by
 rw[Bool.eq_iff_iff]
 simp
theorem xb{i j:Bool}:decide (V.bl i=V.bl j)=(i==j):=by
 rw[Bool.eq_iff_iff]
 simp
theorem sV{i j:Str}:decide (V.str i=V.str j)=(i==j):=by
 rw[Bool.eq_iff_iff]
 simp
theorem sO{i j:Array UInt8}:decide (V.byt i=V.byt j)=(i.toList==j.toList):=by
 rw[Bool.eq_iff_iff]
 cases i
 cases j
 simp
section
variable {X:Cx}{a b c:Expr}{ta tb tc:TE}{pos:Pos}
theorem aY{pins:List (Addr×Obj)}{σ:St}{H:Hp}{s:Shared}{Q:VK}{k k' : Bool}(I:Inv X pins σ H s)(q:Q (.bl k) H)(e:k=k'):EP X pins σ Q (.bool k') s:=by
 subst e
 exact⟨.bl k,H,I,rfl,q⟩
theorem dU:OpR X (compareOp .Eq) rEq:=by
 intro pins s σ H x y v u Q I rx ry h
 obtain⟨hs,q⟩:=h
 cases x with
 | non =>
   cases rx
   cases y with
   | non=>cases ry;exact PySem.EqNone.eq_none_none (aY I q (by simp))
   | bl j=>cases ry;exact PySem.EqNone.eq_none_bool (aY I q (by simp))
   | int j=>obtain⟨t',rfl⟩:=ry;exact PySem.EqNone.eq_none_int (aY I q (by simp))
   | str j=>obtain⟨t',rfl⟩:=ry;exact PySem.EqNone.eq_none_str (aY I q (by simp))
   | _=>exact absurd (show false=true from hs) Bool.false_ne_true
 | bl i =>
   cases rx
   cases y with
   | non=>cases ry;exact PySem.EqNone.eq_bool_none (aY I q (by simp))
   | bl j=>cases ry;exact eq_bool (aY I q xb)
   | str j=>obtain⟨t',rfl⟩:=ry;exact PySem.EqMixed.eq_bool_str (aY I q (by simp))
   | _=>exact absurd (show false=true from hs) Bool.false_ne_true
 | int i =>
   obtain⟨t,rfl⟩:=rx
   cases y with
   | non=>cases ry;exact PySem.EqNone.eq_int_none (aY I q (by simp))
   | int j=>obtain⟨t',rfl⟩:=ry;exact eq_int (aY I q ue)
   | str j=>obtain⟨t',rfl⟩:=ry;exact PySem.EqMixed.eq_int_str (aY I q (by simp))
   | _=>exact absurd (show false=true from hs) Bool.false_ne_true
 | str i =>
   obtain⟨t,rfl⟩:=rx
   cases y with
   | non=>cases ry;exact PySem.EqNone.eq_str_none (aY I q (by simp))
   | bl j=>cases ry;exact PySem.EqMixed.eq_str_bool (aY I q (by simp))
   | int j=>obtain⟨t',rfl⟩:=ry;exact PySem.EqMixed.eq_str_int (aY I q (by simp))
   | str j=>obtain⟨t',rfl⟩:=ry;exact eq_str (aY I q sV)
   | _=>exact absurd (show false=true from hs) Bool.false_ne_true
 | byt i =>
   obtain⟨t,rfl⟩:=rx
   cases y with
   | byt j=>obtain⟨t',rfl⟩:=ry;exact PySem.W.eq_bytes (aY I q sO)
   | _=>exact absurd (show false=true from hs) Bool.false_ne_true
 | _=>cases y<;>exact absurd (show false=true from hs) Bool.false_ne_true
theorem ml:OpR X (compareOp .NotEq) rNe:=by
 intro pins s σ H x y v u Q I rx ry h
 obtain⟨hs,q⟩:=h
 cases x with
 | non =>
   cases rx
   cases y with
   | non=>cases ry;exact PySem.EqNone.ne_none_none (aY I q (by simp))
   | bl j=>cases ry;exact PySem.EqNone.ne_none_bool (aY I q (by simp))
   | int j=>obtain⟨t',rfl⟩:=ry;exact PySem.EqNone.ne_none_int (aY I q (by simp))
   | str j=>obtain⟨t',rfl⟩:=ry;exact PySem.EqNone.ne_none_str (aY I q (by simp))
   | _=>exact absurd (show false=true from hs) Bool.false_ne_true
 | bl i =>
   cases rx
   cases y with
   | non=>cases ry;exact PySem.EqNone.ne_bool_none (aY I q (by simp))
   | bl j=>cases ry;exact ne_bool (aY I q (congrArg not xb))
   | str j=>obtain⟨t',rfl⟩:=ry;exact PySem.EqMixed.ne_bool_str (aY I q (by simp))
   | _=>exact absurd (show false=true from hs) Bool.false_ne_true
 | int i =>
   obtain⟨t,rfl⟩:=rx
   cases y with
   | non=>cases ry;exact PySem.EqNone.ne_int_none (aY I q (by simp))
   | int j=>obtain⟨t',rfl⟩:=ry;exact ne_int (aY I q (congrArg not ue))
   | str j=>obtain⟨t',rfl⟩:=ry;exact PySem.EqMixed.ne_int_str (aY I q (by simp))
   | _=>exact absurd (show false=true from hs) Bool.false_ne_true
 | str i =>
   obtain⟨t,rfl⟩:=rx
   cases y with
   | non=>cases ry;exact PySem.EqNone.ne_str_none (aY I q (by simp))
   | bl j=>cases ry;exact PySem.EqMixed.ne_str_bool (aY I q (by simp))
   | int j=>obtain⟨t',rfl⟩:=ry;exact PySem.EqMixed.ne_str_int (aY I q (by simp))
   | str j=>obtain⟨t',rfl⟩:=ry;exact ne_str (aY I q (congrArg not sV))
   | _=>exact absurd (show false=true from hs) Bool.false_ne_true
 | byt i =>
   obtain⟨t,rfl⟩:=rx
   cases y with
   | byt j=>obtain⟨t',rfl⟩:=ry;exact PySem.W.ne_bytes (aY I q (congrArg not sO))
   | _=>exact absurd (show false=true from hs) Bool.false_ne_true
 | _=>cases y<;>exact absurd (show false=true from hs) Bool.false_ne_true
theorem yJ:OpR X (compareOp .Lt) (rI0 fun i j=>.bl (decide (i<j))):=xU fun _ _ _ _ _ _ _ q=>lt_int q
theorem tQ:OpR X (compareOp .LtE) (rI0 fun i j=>.bl (decide (i≤j))):=xU fun _ _ _ _ _ _ _ q=>le_int q
theorem tE:OpR X (compareOp .Gt) (rI0 fun i j=>.bl (decide (j<i))):=xU fun _ _ _ _ _ _ _ q=>gt_int q
theorem qp:OpR X (compareOp .GtE) (rI0 fun i j=>.bl (decide (j≤i))):=xU fun _ _ _ _ _ _ _ q=>ge_int q
theorem jm:OpR X (compareOp .Is) (fun x y H Q=>y = .non∧Q (.bl (decide (x = .non))) H):=by
 intro pins s σ H x y v u Q I rx ry h
 obtain⟨rfl,q⟩:=h
 cases ry
 refine is_none_gen (aY I q ?_)
 cases x<;>first
  | (cases rx;rfl)
  | (obtain⟨t,rfl⟩:=rx;rfl)
theorem tG:OpR X (compareOp .IsNot) (fun x y H Q=>y = .non∧Q (.bl (!decide (x = .non))) H):=by
 intro pins s σ H x y v u Q I rx ry h
 obtain⟨rfl,q⟩:=h
 cases ry
 refine isnot_none_gen (aY I q ?_)
 cases x<;>first
  | (cases rx;rfl)
  | (obtain⟨t,rfl⟩:=rx;rfl)
theorem aD(b:Expr){op:CmpOp}(h:op≠.In:=by decide)(h2:op≠.NotIn:=by decide):behindInMarks op b=false:=by
 have e1:(op==CmpOp.In)=false:=by cases op<;>first | rfl | exact absurd rfl h
 have e2:(op==CmpOp.NotIn)=false:=by cases op<;>first | rfl | exact absurd rfl h2
 cases b<;>simp[behindInMarks,e1,e2]
theorem bQ{op:CmpOp}{r:R2}(ho:OpR X (compareOp op) r)(ha:PE X a ta)(hb:PE X b tb)(hm:behindInMarks op b=false):PE X (.Compare a [op] [b] pos) (tOp r ta tb):=by
 intro pins s σ H Q I h
 exact wpAny_Compare1 (y8 ha hb I h fun v u s2 x y H2 I2 rx ry q=>ho pins s2 σ H2 x y v u Q I2 rx ry q) hm
def aae(t:TE):TT:=fun σ H Q=>t σ H fun x H'=>∃ k,x = .bl k∧Q k H'
theorem aE{op:CmpOp}{r:R2}(ho:OpR X (compareOp op) r)(ha:PE X a ta)(hb:PE X b tb)(hm:behindInMarks op b=false):PT X (.Compare a [op] [b] pos) (aae (tOp r ta tb)):=by
 intro pins s σ H Q I h
 refine wpAny_isTrue_Compare1 (thn (ha pins s σ H _ I h) fun v s1 ⟨x,H1,I1,r1,q1⟩=>thn (hb pins s1 σ H1 _ I1 q1) fun u s2 ⟨y,H2,I2,r2,q2⟩ =>
  thn (ho pins s2 σ H2 x y v u _ I2 r1 r2 q2) fun c s3 ⟨z,H3,I3,r3,k,e,q3⟩=>?_) hm
 subst e
 cases r3
 exact wpAny_truthy_bool ⟨H3,I3,q3⟩
theorem lO:(sizeLine:Nat)<2^63:=by rw[sizeLine_eq];decide
theorem gn{x:V}{us:List Value}(r:aR [x] us):∃ u,us=[u]∧aN x u:=by
 cases r with
 | cons r1 r2=>cases r2;exact⟨_,rfl,r1⟩
theorem yM{x y:V}{us:List Value}(r:aR [x,y] us):∃ u w',us=[u,w']∧aN x u∧aN y w':=by
 cases r with
 | cons r1 r2 =>
   cases r2 with
   | cons r3 r4=>cases r4;exact⟨_,_,rfl,r1,r3⟩
theorem wZ:dF X (.builtin "abs") (fun xs H Q=>∃ i,xs=[.int i]∧Q (.int (if i<0 then -i else i)) H):=by
 intro pins s σ H xs us Q I r h
 obtain⟨i,rfl,q⟩:=h
 obtain⟨u,rfl,t,rfl⟩:=gn r
 exact call_abs_int fun u tk=>⟨.int (if i<0 then -i else i),H,I.tok _,⟨_,rfl⟩,q⟩
theorem oE(hc:X.calm=true):dF X (.builtin "max") (fun xs H Q=>∃ i j,xs=[.int i,.int j]∧Q (.int (if j > i then j else i)) H):=by
 intro pins s σ H xs us Q I r h
 obtain⟨i,j,rfl,q⟩:=h
 obtain⟨u,w',rfl,⟨t,rfl⟩,⟨t',rfl⟩⟩:=yM r
 refine max_two_ints (I.ok.hd hc) fun h' tk k=>⟨_,H,I.kept k,?_,q⟩
 by_cases hj:j > i
 ·rw[if_pos hj,if_pos hj];exact⟨_,rfl⟩
 ·rw[if_neg hj,if_neg hj];exact⟨_,rfl⟩
theorem u6(hc:X.calm=true):dF X (.builtin "min") (fun xs H Q=>∃ i j,xs=[.int i,.int j]∧Q (.int (if j<i then j else i)) H):=by
 intro pins s σ H xs us Q I r h
 obtain⟨i,j,rfl,q⟩:=h
 obtain⟨u,w',rfl,⟨t,rfl⟩,⟨t',rfl⟩⟩:=yM r
 refine min_two_ints (I.ok.hd hc) fun h' tk k=>⟨_,H,I.kept k,?_,q⟩
 by_cases hj:j<i
 ·rw[if_pos hj,if_pos hj];exact⟨_,rfl⟩
 ·rw[if_neg hj,if_neg hj];exact⟨_,rfl⟩
theorem uB:dF X (.type "int") (fun xs H Q=>(∃ i,xs=[.int i]∧Q (.int i) H)∨∃ k,xs=[.bl k]∧Q (.int (if k then 1 else 0)) H):=by
 intro pins s σ H xs us Q I r h
 rcases h with⟨i,rfl,q⟩|⟨k,rfl,q⟩
 ·obtain⟨u,rfl,t,rfl⟩:=gn r
  exact call_int_int ⟨.int i,H,I,⟨_,rfl⟩,q⟩
 ·obtain⟨u,rfl,r1⟩:=gn r
  cases r1
  exact call_int_bool ⟨.int (if k then 1 else 0),H,I.tok _,⟨_,rfl⟩,q⟩
end
end L2
namespace L2
open PySem PySem.Spec PyProof.Rows
section
variable {prog:Program}{w:World}{A:Around}{E:Value→Shared→Prop}{s:Shared}{K:PySem.W.Frag}{x dx C f:Addr}{mA:Str→Option Value}{name:Str}{v:Value}
end
theorem jS.some_of{v:V}{o:Option Value}(r:jS (some v) o):∃ u,o=some u∧aN v u:=by
 cases o with
 | none=>exact(show False from r).elim
 | some u=>exact⟨u,rfl,r⟩
section
variable {P:Program}{w:World}{H H' : Hp}{h h' : Heap}{a C dx:Addr}{fs fs' : List (Str×V)}
end
section
variable {X:Cx}{pins:List (Addr×Obj)}{σ:St}{H:Hp}{s:Shared}{a C dx:Addr}{fs:List (Str×V)}{f:Str}{v:V}{A:Around}{E:Value→Shared→Prop}
end
section
variable {X:Cx}{o e value:Expr}{f:Str}{pos pos' tpos:Pos}{ta tv:TE}
end
section
variable {X:Cx}{pins:List (Addr×Obj)}{σ:St}{H:Hp}{s:Shared}{A:Around}{E:Value→Shared→Prop}{Q:Value→Shared→Prop}{c:Value}{b:Bool}
end
end L2
namespace L2
open PySem PySem.Spec PyProof.Rows
structure Room(k:Nat)(A:Around):Prop where
 hd:A.handled=none
 dp:A.depth+3*k+5<recursionLimit
 un:A.units+16*k+200<cLine
theorem Room.mono{j k:Nat}{A:Around}(r:Room k A)(h:j≤k):Room j A:=⟨r.hd,by have:=r.dp;omega,by have:=r.un;omega⟩
theorem Room.deeper{k:Nat}{A:Around}(r:Room (k+1) A)(env:Env):Room k (A.deeper env) :=
 ⟨r.hd,by have:=r.dp;show A.depth+1+3*k+5<_;omega,by have:=r.un;show A.units+3+16*k+200<_;omega⟩
theorem Room.in1{k:Nat}{A:Around}(r:Room (k+1) A):Room k A.in1 :=
 ⟨r.hd,by have:=r.dp;show A.depth+3*k+5<_;omega,by have:=r.un;show A.units+1+16*k+200<_;omega⟩
theorem Room.depth{k:Nat}{A:Around}(r:Room k A):A.depth<recursionLimit:=by have:=r.dp;omega
theorem Room.units{k:Nat}{A:Around}(r:Room k A):A.units+64<cLine:=by have:=r.un;omega
theorem Room.units0{k:Nat}{A:Around}(r:Room k A):A.units<cLine:=by have:=r.un;omega
def aaS:TA:=fun _ H Q=>Q [] H
def aaB(ta:TE)(tr:TA):TA:=fun σ H Q=>ta σ H fun x H1=>tr σ H1 fun xs H2=>Q (x::xs) H2
section
variable {X:Cx}{e:Expr}{es:List Expr}{te:TE}{t:TA}{pos:Pos}
theorem af:PA X [] aaS:=fun _ _ _ _ H Q I h=>Calls.spliced_nil ⟨[],H,I,.nil,h⟩
theorem aa(ha:PE X e te)(hr:PA X es t)(hs:starEach (e::es) X.env=(false,eval e X.env)::starEach es X.env:=by rfl):PA X (e::es) (aaB te t):=by
 intro pos pins s σ H Q I h
 rw[hs]
 show wpAny _ _ (spliced ((false,eval e X.env)::backTo pos (starEach es X.env))) _ _ s
 refine Calls.spliced_cons (thn (ha pins s σ H _ I h) fun u s1 ⟨x,H1,I1,r1,q1⟩=>?_)
 exact thn (hr pos pins s1 σ H1 _ I1 q1) fun us s2 ⟨xs,H2,I2,r2,q2⟩=>⟨x::xs,H2,I2,.cons r1 r2,q2⟩
def aaN(t:TA):TE:=fun σ H Q=>t σ H fun xs H1=>xs.length≤sizeLine∧∀ p,H1 p=none→Q (.ref p) (upd H1 p (.tup xs))
def aaU(t:TA):TE:=fun σ H Q=>t σ H fun xs H1=>xs.length≤sizeLine∧∀ p,H1 p=none→Q (.ref p) (upd H1 p (.lst xs))
theorem cq{x1}(h:PA X es t):PE X (.Tuple es x1 pos) (aaN t):=by
 intro pins s σ H Q I hq
 refine wpAny_Tuple_spliced (thn (h pos pins s σ H _ I hq) fun us s1 ⟨xs,H1,I1,r,z,q⟩=>⟨by rw[← r.length];exact z,?_⟩)
 have hf:H1 s1.heap.objs.size=none:=I1.hok.fresh (Nat.le_refl _)
 refine⟨.ref s1.heap.objs.size,upd H1 s1.heap.objs.size (.tup xs),I1.laid (t':=s1.toks) (fun b u e=>Heap.get?_push_of_some _ e) (Nat.le_refl _) ?_,rfl,q _ hf⟩
 exact⟨z,us,r,⟨_,Heap.get?_push_size _ rfl,rfl,_,rfl⟩⟩
theorem bY(h:PA X es t):PE X (.List es pos) (aaU t):=by
 intro pins s σ H Q I hq
 refine wpAny_List_spliced (thn (h pos pins s σ H _ I hq) fun us s1 ⟨xs,H1,I1,r,z,q⟩=>⟨by rw[← r.length];exact z,?_⟩)
 have hf:H1 s1.heap.objs.size=none:=I1.hok.fresh (Nat.le_refl _)
 refine⟨.ref s1.heap.objs.size,upd H1 s1.heap.objs.size (.lst xs),I1.laid (t':=s1.toks) (fun b u e=>Heap.get?_push_of_some _ e) (Nat.le_refl _) ?_,rfl,q _ hf⟩
 exact⟨z,us,0,r,Heap.get?_push_size _ rfl⟩
end
abbrev Sp:=List V→Hp→VK→XK→Prop
abbrev CXT:=List Env→Hp→Shared→XK→Value→Shared→Prop
structure Env0(P:Program)(w:World)(K:PySem.W.Frag)(mg:Str→Option Value)(base:Heap)(A:Around)(outer:List Env)(s:Shared)(H:Hp):Prop where
 frames:A.frames=some outer
 mod:Mod K mg base
 bs:∀ b o,base.get? b=some o→s.heap.get? b=some o∧H b=none
 bsz:base.objs.size≤s.heap.objs.size
 funs:s.heap.FunFrames base outer
 frf:∀ b∈frs outer,H b=none
 hok:HOk P w H s.heap
 bare:AllBare s.gens
def CE(outer:List Env)(P:Program)(w:World)(H:Hp)(s:Shared)(Q:VK)(u:Value)(s' : Shared):Prop :=
 ∃ v H',s'.os=s.os∧AllBare s'.gens∧Un (frs outer) [] H H' s.heap s'.heap∧HOk P w H' s'.heap∧aN v u∧Q v H'
def CR(CX:CXT)(outer:List Env)(P:Program)(w:World)(H:Hp)(s:Shared)(Q:VK)(E:XK)(r:Result)(s' : Shared):Prop :=
 match r with
 | .ok (.ret u)=>CE outer P w H s Q u s'
 | .ok _=>False
 | .error e=>CX outer H s E e s'
structure FnOk(P:Program)(w:World)(K:PySem.W.Frag)(mg:Str→Option Value)(base:Heap)(CX:CXT)(k:Nat)(f:Addr)(fd:FuncData)(ps:List Str)(sp:Sp):Prop where
 len:∀ vs H Q E,sp vs H Q E→vs.length=ps.length
 run:∀(A:Around) (outer:List Env) (s:Shared) (H:Hp) (args:Args) (us:List Value) (vs:List V) (Q:VK) (E:XK),Room k A→Env0 P w K mg base A outer s H→BindsTo s fd args (ps.zip us)→aR vs us→sp vs H Q E→
  codeAny (model P w) A (.call (.ref f) args) (CR CX outer P w H s Q E) s
section
variable {X:Cx}{pins:List (Addr×Obj)}{σ:St}{H:Hp}{s s' : Shared}
theorem Inv.env0(I:Inv X pins σ H s):Env0 X.prog X.w X.K X.mg X.base X.A X.stack s H :=
 ⟨I.ok.frames,I.ok.mod,I.bs,Nat.le_trans I.ok.bsz I.sz,I.stack,I.stkFree,I.hok,I.bare⟩
theorem Inv.after{Q:VK}{u:Value}(I:Inv X pins σ H s)(h:CE X.stack X.prog X.w H s Q u s'):EP X pins σ Q u s':=by
 obtain⟨v,H',os,bare,un,hok,r,q⟩:=h
 obtain⟨hh,g,d,t,os'⟩:=s'
 obtain rfl:os' = s.os:=os
 exact⟨v,H',I.call (h':=hh) (g':=g) (d':=d) (t':=t) (ch:=[]) un hok bare (fun b z=>absurd z (by simp)),r,q⟩
end
def yC(sp:Sp)(dvs:List V)(E:XK)(t:TA):TE:=fun σ H Q=>t σ H fun vs H1=>sp (vs++dvs) H1 Q E
def aI(K:PySem.W.Frag)(fd:FuncData)(ps:List Str)(ds:List Value):Prop :=
 ∀(s:Shared) (us:List Value),K.In s.heap→(us++ds).length=ps.length→BindsTo s fd ⟨us,[]⟩ (ps.zip (us++ds))
theorem aI.all{K:PySem.W.Frag}{fd:FuncData}{ps:List Str}(h:∀ us:List Value,us.length=ps.length→bindArgs fd ⟨us,[]⟩=pure (ps.zip us)):aI K fd ps []:=fun s us _ hl=>by
 rw[List.append_nil]at hl ⊢
 exact .of_eq (h us hl)
def ik(CX:CXT)(X:Cx)(E:XK):Prop:=∀(pins:List (Addr×Obj)) (σ:St) (H:Hp) (s:Shared) (e:Value) (s' : Shared),Inv X pins σ H s→CX X.stack H s E e s'→X.xe e s'
section
variable {X:Cx}{CX:CXT}{k:Nat}{f C:Addr}{fd:FuncData}{ps:List Str}{sp:Sp}{dvs:List V}{ds:List Value}{E:XK}{x m:Str}{p pos apos:Pos}{e o:Expr}{es:List Expr}{ta:TE}{t:TA}
theorem zp{pins:List (Addr×Obj)}{σ:St}{H:Hp}{s:Shared}{Q:VK}{us:List Value}{vs:List V}(F:FnOk X.prog X.w X.K X.mg X.base CX k f fd ps sp)(hr:Room k X.A)(hb:aI X.K fd ps ds)(hd:aR dvs ds)(hx:ik CX X E)
 (I:Inv X pins σ H s) (r:aR vs us) (h:sp (vs++dvs) H Q E):wpAny (model X.prog X.w) X.A (call (.ref f) us) (EP X pins σ Q) X.xe s:=by
 have r2:aR (vs++dvs) (us++ds):=r.append hd
 have hl:(us++ds).length=ps.length:=by rw[← r2.length];exact F.len _ _ _ _ h
 refine wpAny_call (codeAny_mono (F.run X.A X.stack s H ⟨us,[]⟩ (us++ds) (vs++dvs) Q E hr I.env0 (hb s us I.kIn hl) r2 h) fun r s' hq=>?_)
 cases r with
 | error e=>exact hx pins σ H s e s' I hq
 | ok fl =>
   cases fl with
   | ret u=>exact I.after hq
   | next=>exact False.elim hq
   | brk=>exact False.elim hq
   | cont=>exact False.elim hq
theorem au(F:FnOk X.prog X.w X.K X.mg X.base CX k f fd ps sp)(hr:Room k X.A)(hg:Gl X x)(hm:X.mg x=some (.ref f))(hk:PySem.W.keepIn X.K (.ref f)=true)(hb:aI X.K fd ps ds)(hd:aR dvs ds)(hx:ik CX X E)
 (ha:PA X (e::es) t) (hdb:(x==("__debug__":Str))=false:=by decide) (he:starEach (e::es) X.env=(false,eval e X.env)::starEach es X.env:=by rfl) (hpl:(backTo pos (starEach es X.env)).any (·.1)=false:=by rfl) :
 PE X (.Call (.Name x p) (e::es) [] pos) (yC sp dvs E t):=by
 intro pins s σ H Q I h
 refine wpAny_Call_Name_kw (jJ I hg hm ?_ hdb)
 refine PySem.W.callWith_K (h₀:=X.base) I.ok.mod.kin hk (thn (ha pos pins s σ H _ I h) fun us s1 ⟨vs,H1,I1,r,q⟩=>⟨I1.kIn,?_⟩) he hpl
 exact zp F hr hb hd hx I1 r q
end
section
variable {X:Cx}{CX:CXT}{k:Nat}{f C:Addr}{fd:FuncData}{ps ks:List Str}{sp:Sp}{E:XK}{x m:Str}{p pos apos kpos:Pos}{e o:Expr}{es:List Expr}{kws:List Keyword}{te ta:TE}{t tk:TA}{nm:Option Str}
variable {g:List Value→List Value→List Value}{gV:List V→List V→List V}
end
structure FnScope(N P:List Str)(sc:Scope):Prop where
 kind:sc.kind = .function
 co:sc.isCoroutine=false
 gen:sc.isGenerator=false
 nd:N.Nodup
 pre:N.take P.length=P
 par:∀ x∈P,sc.names.lookup x=some .local∨sc.names.lookup x=some .cell
 nofree:∀ y∈sc.names,y.2≠.free
theorem n8{kindOf:Str→Option NameKind}{x:Str}:∀{binds:List (Str×Value)} {m:Str→Option Value},(∀ v,(x,v)∉binds)→bindL kindOf binds m x=m x
 | [],_,_=>rfl
 | (n,v)::r,m,h=>by
   unfold bindL
   rw[n8 fun w hw=>h w (List.mem_cons_of_mem _ hw)]
   split
   ·have:x≠n:=by rintro rfl;exact h v List.mem_cons_self
    simp[this]
   ·rfl
theorem o8{kindOf:Str→Option NameKind}{x:Str}:∀{binds:List (Str×Value)} {m:Str→Option Value},(∀ v,(x,v)∉binds)→bindC kindOf binds m x=m x
 | [],_,_=>rfl
 | (n,v)::r,m,h=>by
   unfold bindC
   rw[o8 fun w hw=>h w (List.mem_cons_of_mem _ hw)]
   split
   ·rfl
   ·have:x≠n:=by rintro rfl;exact h v List.mem_cons_self
    simp[this]
theorem nU{kindOf:Str→Option NameKind}{x:Str}{v:Value}:∀{P:List Str} {vs:List Value} {i:Nat} {m:Str→Option Value},P.Nodup→P[i]?=some x→vs[i]?=some v→kindOf x=some .local→
 bindL kindOf (P.zip vs) m x=some v
 | [],_,_,_,_,h,_,_=>by simp at h
 | _::_,[],_,_,_,_,h,_=>by simp at h
 | p::P,w::vs,0,m,nd,h1,h2,hk=>by
   simp at h1 h2;subst h1;subst h2
   show bindL kindOf ((p,w)::P.zip vs) m p=_
   unfold bindL
   rw[n8 fun v hv=>(List.nodup_cons.mp nd).1 (List.of_mem_zip hv).1,if_pos hk]
   simp
 | p::P,w::vs,i+1,m,nd,h1,h2,hk=>by
   show bindL kindOf ((p,w)::P.zip vs) m x=_
   unfold bindL
   exact nU (i:=i) (List.nodup_cons.mp nd).2 (by simpa using h1) (by simpa using h2) hk
theorem oA{kindOf:Str→Option NameKind}{x:Str}{v:Value}:∀{P:List Str} {vs:List Value} {i:Nat} {m:Str→Option Value},P.Nodup→P[i]?=some x→vs[i]?=some v→kindOf x≠some .local→
 bindC kindOf (P.zip vs) m x=some v
 | [],_,_,_,_,h,_,_=>by simp at h
 | _::_,[],_,_,_,_,h,_=>by simp at h
 | p::P,w::vs,0,m,nd,h1,h2,hk=>by
   simp at h1 h2;subst h1;subst h2
   show bindC kindOf ((p,w)::P.zip vs) m p=_
   unfold bindC
   rw[o8 fun v hv=>(List.nodup_cons.mp nd).1 (List.of_mem_zip hv).1,if_neg hk]
   simp
 | p::P,w::vs,i+1,m,nd,h1,h2,hk=>by
   show bindC kindOf ((p,w)::P.zip vs) m x=_
   unfold bindC
   exact oA (i:=i) (List.nodup_cons.mp nd).2 (by simpa using h1) (by simpa using h2) hk
def start(N:List Str)(vs:List V):St:=vs.map some++List.replicate (N.length-vs.length) none
def lS(CX:CXT)(P:Program)(w:World)(K:PySem.W.Frag)(mg:Str→Option Value)(base:Heap)(N:List Str)(qual:Str)(scope:Scope)(f:Addr)(cd:Value)(A:Around)(outer:List Env)(s:Shared)(H:Hp)(E:XK):Cx where
 prog:=P
 w:=w
 K:=K
 mg:=mg
 base:=base
 A:=A.deeper (envOfC qual scope s.heap.objs.size f cd)
 N:=N
 s₀:=s
 H₀:=H
 env:=envOfC qual scope s.heap.objs.size f cd
 outer:=outer
 stack:=envOfC qual scope s.heap.objs.size f cd::outer
 ex:=[]
 calm:=true
 fn:=fun _=>true
 pn:=[]
 xe:=fun e s'=>wpAny (model P w) (A.deeper (envOfC qual scope s.heap.objs.size f cd)) (leaving (envOfC qual scope s.heap.objs.size f cd) e) (fun _ s''=>CX outer H s E e s'') (fun e' s''=>CX outer H s E e' s'') s'
theorem qo{sc:Scope}{n:Nat}{x:Str}(h:sc.names.lookup x=some .cell):∃ c,(cellsFrom n sc.names []).lookup x=some c:=by
 have q:=PySem.W.cellsFrom_some sc.names n [] (.inl h)
 exact Option.isSome_iff_exists.mp q
theorem oz{CX:CXT}{P:Program}{w:World}{K:PySem.W.Frag}{mg:Str→Option Value}{base:Heap}{N ps:List Str}{qual:Str}{scope:Scope}{f:Addr}{cd:Value}{A:Around}{outer:List Env}{s s1:Shared}{H:Hp}{E:XK}{us:List Value}{vs:List V}
 (S:FnScope N ps scope) (hd:A.handled=none) (e0:Env0 P w K mg base A outer s H) (hl:vs.length=ps.length) (r:aR vs us)
 (x:InCallC s s.heap.objs.size (bindL (envOfC qual scope s.heap.objs.size f cd).kindOf (ps.zip us) fun _=>none) (cellsFrom (s.heap.objs.size+1) scope.names []) (bindC (envOfC qual scope s.heap.objs.size f cd).kindOf (ps.zip us) fun _=>none) s1) :
 Inv (lS CX P w K mg base N qual scope f cd A outer s H E) [] (start N vs) H s1:=by
 have hpl:ps.length≤N.length:=by have:=congrArg List.length S.pre;rw[List.length_take]at this;omega
 obtain⟨h1,tk,rfl,hk⟩:=x.done
 have noA:∀ b:Addr,b∉(lS CX P w K mg base N qual scope f cd A outer s H E).ex:=fun b z=>absurd (show b∈([]:List Addr) from z) (by simp)
 refine⟨⟨e0.mod,S.kind,rfl,rfl,Nat.le_refl _,fun y z c h1 h2=>?_,fun y hy=>?_,fun y c _ h=>?_,fun _=>hd,Around.frames_deeper e0.frames,.inr ⟨rfl,rfl⟩,fun b z=>absurd z (noA b),e0.bs,e0.bsz,fun b _ _=>noA b,fun b z=>absurd z (noA b),e0.funs,e0.frf⟩,
  rfl,e0.bare,Un.kept hk,⟨_,x.toInCall.ns,fun i y v h1 h2 h3=>?_⟩,fun y c h=>⟨_,x.cell y c h⟩,e0.hok.fresh (Nat.le_refl _),fun y c h=>?_,fun p hp=>absurd (show p∈([]:List (Addr×Obj)) from hp) (by simp),e0.hok.kept hk,?_⟩
 ·exact name_of_addr x.apart (PySem.mem_of_lookup h1) (PySem.mem_of_lookup h2)
 ·have hy:scope.names.lookup y=some .cell∨scope.names.lookup y=some .free:=hy
  rcases hy with hy|hy
  ·exact qo hy
  ·exact absurd rfl (S.nofree _ (PySem.mem_of_lookup hy))
 ·exact Nat.le_of_lt (x.above y c (PySem.mem_of_lookup h))
 ·have hi:i<vs.length:=by
   unfold start at h2
   by_cases hi:i<vs.length
   ·exact hi
   ·rw[List.getElem?_append_right (by simpa using hi)]at h2
    rw[List.getElem?_replicate]at h2
    split at h2<;>cases h2
  have ha:vs[i]?=some v:=by
   unfold start at h2
   rw[List.getElem?_append_left (by simpa using hi),List.getElem?_map]at h2
   cases e:vs[i]? with
   | none=>rw[e]at h2;cases h2
   | some a=>rw[e]at h2;cases h2;rfl
  obtain⟨u,hu,rv⟩:=r.get ha
  have hp:ps[i]?=some y:=by
   rw[← S.pre,List.getElem?_take_of_lt (by omega)];exact h1
  have ndP:ps.Nodup:=by rw[← S.pre];exact S.nd.sublist (List.take_sublist _ _)
  refine⟨u,rv,?_⟩
  rcases S.par y (List.mem_of_getElem? hp) with k|k
  ·exact .inl ⟨k,nU ndP hp hu k⟩
  ·obtain⟨c,e⟩:=qo (n:=s.heap.objs.size+1) k
   refine .inr ⟨.inl k,c,e,?_⟩
   have q:=x.cell y c e
   rw[oA ndP hp hu (by show scope.names.lookup y≠_;rw[k];decide)]at q
   exact q
 ·exact e0.hok.fresh (Nat.le_of_lt (x.above y c (PySem.mem_of_lookup h)))
 ·unfold start
  show _=N.length
  rw[List.length_append,List.length_map,List.length_replicate]
  omega
theorem vN{CX:CXT}{P:Program}{w:World}{K:PySem.W.Frag}{mg:Str→Option Value}{base:Heap}{k:Nat}{f:Addr}{name qual:Str}{params:Arguments}{body:List Stmt}{scope:Scope}{dV kV doc pm cdv ct oc:Value}{an od:Option Addr}
 {osl:Array (Option Value)} {N ps:List Str} {sp:Sp} (lk:K.lookup f=some ⟨oc,od,.func (PySem.W.fnOf name qual params body scope dV kV doc pm an cdv ct),osl⟩) (hcd:PySem.W.codeIn K cdv qual=true) (S:FnScope N ps scope)
 (len:∀ vs H Q E,sp vs H Q E→vs.length=ps.length)
 (hbody:∀(A:Around) (outer:List Env) (s:Shared) (H:Hp) (vs:List V) (Q:VK) (E:XK),Room k (A.deeper (envOfC qual scope s.heap.objs.size f cdv))→sp vs H Q E→
  ∃ t,PSs (lS CX P w K mg base N qual scope f cdv A outer s H E) body t∧t { nx:=fun _ H'=>Q .non H',rt:=Q} (start N vs) H) :
 FnOk P w K mg base CX (k+1) f (PySem.W.fnOf name qual params body scope dV kV doc pm an cdv ct) ps sp:=by
 refine⟨len,fun A outer s H args us vs Q E hr e0 hb r hsp=>?_⟩
 have hl:=len _ _ _ _ hsp
 have KX:K.In s.heap:=e0.mod.kin.keeps fun b o e=>(e0.bs b o e).1
 have lim:s.heap.NoLimit:=e0.mod.nolimit.keeps fun b o e=>(e0.bs b o e).1
 have hkind:∀ y∈ps.zip us,scope.names.lookup y.1=some .local∨(scope.names.lookup y.1=some .cell∧((cellsFrom (s.heap.objs.size+1) scope.names []).lookup y.1).isSome=true):=fun⟨n,v⟩ hy=>by
  rcases S.par n (List.of_mem_zip hy).1 with q|q
  ·exact .inl q
  ·exact .inr ⟨q,PySem.W.cellsFrom_some _ _ _ (.inl q)⟩
 refine codeAny_call_function hr.depth (KX _ _ lk) rfl S.co S.gen rfl (PySem.W.codeRec_of KX hcd) (hb _ _ _ _ ?_)
 refine wpAny_newFunctionEnv_cells S.kind hkind fun env he s1 x=>?_
 subst he
 refine⟨lim.keeps x.toInCall.keep,codeAny_func ?_⟩
 obtain⟨t,ht,hq⟩:=hbody A outer s H vs Q E (hr.deeper _) hsp
 have I:Inv (lS CX P w K mg base N qual scope f cdv A outer s H E) [] (start N vs) H s1:=oz S hr.hd e0 hl r x
 refine wpAny_mono (ht [] s1 (start N vs) H _ I hq) (fun fl s' hs=>?_) fun e s' hs=>hs
 have fin:∀{σ' : St} {H' : Hp} {v:V} {u:Value},Inv (lS CX P w K mg base N qual scope f cdv A outer s H E) [] σ' H' s'→aN v u→Q v H'→CE outer P w H s Q u s' :=
  fun {σ' H' v u} J rv q=>⟨v,H',J.os,J.bare,J.base,J.hok,rv,q⟩
 cases fl with
 | ret u =>
   obtain⟨v,σ',H',J,rv,q⟩:=hs
   exact fin J rv q
 | next =>
   obtain⟨σ',H',J,q⟩:=hs
   exact fin (v:=V.non) (u:=Value.none) J rfl q
 | brk =>
   obtain⟨_,_,_,q⟩:=hs
   exact False.elim q
 | cont =>
   obtain⟨_,_,_,q⟩:=hs
   exact False.elim q
end L2
namespace L2
open PySem PySem.Spec PyProof.Rows
section
variable {X:Cx}{x:Str}{p pos:Pos}{e:Expr}{es:List Expr}{t:TA}{id T:String}{r:List V→Hp→VK→Prop}
def tCB(r:List V→Hp→VK→Prop)(t:TA):TE:=fun σ H Q=>t σ H fun vs H1=>r vs H1 Q
theorem aA(hc:dF X (.builtin id) r)(hg:Gl X x)(hm:X.mg x=none)(hv:bootBuiltins x=some (.builtin id))(ha:PA X (e::es) t)(hn:x≠"__name__":=by decide)(hdb:(x==("__debug__":Str))=false:=by decide)
 (he:starEach (e::es) X.env=(false,eval e X.env)::starEach es X.env:=by rfl) (hpl:(backTo pos (starEach es X.env)).any (·.1)=false:=by rfl):PE X (.Call (.Name x p) (e::es) [] pos) (tCB r t):=by
 intro pins s σ H Q I h
 refine wpAny_Call_Name_kw (hZ I hg hm hv ?_ hn hdb)
 exact PyProof.Rows.callWith_builtin1 (thn (ha pos pins s σ H _ I h) fun us s1 ⟨vs,H1,I1,r1,q1⟩=>hc pins s1 σ H1 vs us Q I1 r1 q1) he hpl
theorem da(hc:dF X (.type T) r)(hg:Gl X x)(hm:X.mg x=none)(hv:bootBuiltins x=some (.type T))(ha:PA X (e::es) t)(hn:x≠"__name__":=by decide)(hdb:(x==("__debug__":Str))=false:=by decide)
 (he:starEach (e::es) X.env=(false,eval e X.env)::starEach es X.env:=by rfl) (hpl:(backTo pos (starEach es X.env)).any (·.1)=false:=by rfl):PE X (.Call (.Name x p) (e::es) [] pos) (tCB r t):=by
 intro pins s σ H Q I h
 refine wpAny_Call_Name_kw (hZ I hg hm hv ?_ hn hdb)
 exact PyProof.Rows.callWith_type1 (thn (ha pos pins s σ H _ I h) fun us s1 ⟨vs,H1,I1,r1,q1⟩=>hc pins s1 σ H1 vs us Q I1 r1 q1) he hpl
end
end L2
namespace HT
open PySem PyProof.Rows
def bN:List Int→List Int→Bool
 | [],[]=>false
 | [],_::_=>true
 | _::_,[]=>false
 | x::xs,y::ys=>if x=y then bN xs ys else decide (x<y)
theorem dX(x y:Int)(xs ys:List Int):bN (x::xs) (y::ys)=if x=y then bN xs ys else decide (x<y):=rfl
theorem iZ:bN [] []=false:=rfl
theorem mP(y:Int)(ys:List Int):bN [] (y::ys)=true:=rfl
theorem dC(x:Int)(xs:List Int):bN (x::xs) []=false:=rfl
theorem rq(A:Around)(s:Shared)(a:Int)(t:Tok)(c:Int)(u:Tok):∃ e,SeqAt.EqAt A s (.int a t) (.int c u) e∧(e=true↔a=c) :=
 ⟨(a==c),SeqAt.EqAt.int_int a t c u,by simp⟩
theorem xg(A:Around)(s:Shared)(a:Int)(t:Tok)(c:Int)(u:Tok)(prog:Program)(w:World)(E:Value→Shared→Prop)(Q:Value→Shared→Prop)(h:Q (.bool (decide (a<c))) s):
 wpAny (model prog w) A (richCompare .Lt (.int a t) (.int c u)) Q E s :=
 (PyProof.Rows.lt_int h:wpAny (model prog w) A (compareOp .Lt (.int a t) (.int c u)) Q E s)
section
open PySem.SeqAt
open PySem.AutoSeq1 (wpAny_loadPart')
open PySem.MeetsSeq PySem.MeetsSeq2 PySem.MeetsSeq3
theorem nu(l b:Addr)(items items2:Array Value)(n n2:Nat)(dd dd2:Option Addr)(sl sl2:Array (Option Value))(ns ms:List Int)(hi:IntsAre items.toList ns)(hj:IntsAre items2.toList ms):
 Meets (Builtin.«tuple.__lt__» ⟨[.ref l,.ref b],[]⟩)
  (fun _ R s=>s.heap.get? l=some { cls:=.type "tuple",dict:=dd,data:=.seq items n,slots:=sl}∧s.heap.get? b=some { cls:=.type "tuple",dict:=dd2,data:=.seq items2 n2,slots:=sl2}∧
   R (.ok (.ret (.bool (bN ns ms)))) s) :=
 .of_wp fun prog w A R s h=>by
  obtain⟨hp,g,d,tk,os⟩:=s;obtain⟨hl,hb,h⟩:=h
  have f2:=AutoSeq1.sub_tuple_tuple
  have z1:items.size=ns.length:=by rw[← hi.length];simp
  have z2:items2.size=ms.length:=by rw[← hj.length];simp
  wp_walk using wpAny_loadPart' hl,wpAny_loadPart' hb,wpAny_forIn_list _ (fun rest b s'=>b.1=none∧s' = ⟨hp,g,d,tk,os⟩∧∃(vs ws:List Value) (ns' ms' : List Int),rest=vs.zip ws∧
   IntsAre vs ns'∧IntsAre ws ms'∧ns'.length+items2.size=ms'.length+items.size∧R (.ok (.ret (.bool (bN ns' ms')))) ⟨hp,g,d,tk,os⟩) _
  case turn =>
   rintro⟨y,x⟩ rest b s' ⟨hb',rfl,vs,ws,ns',ms',hz,hvi,hwi,hlen,hR⟩
   cases hvi with
   | nil=>rw[List.zip_nil_left]at hz;cases hz
   | cons a t hvi' =>
     cases hwi with
     | nil=>rw[List.zip_nil_right]at hz;cases hz
     | cons c u hwi' =>
       rw[List.zip_cons_cons]at hz
       injection hz with hyx hrest
       injection hyx with hy hx
       subst hy hx
       rw[dX]at hR
       simp only[List.length_cons]at hlen
       obtain⟨e,he,hiff⟩:=rq A.in1 ⟨hp,g,d,tk,os⟩ a t c u
       refine wpAny_bind (he prog w _ _ ?_)
       cases e with
       | true =>
         rw[if_pos (hiff.mp rfl)]at hR
         wp_walk
         exact⟨rfl,rfl,_,_,_,_,hrest,hvi',hwi',by omega,hR⟩
       | false =>
         rw[if_neg (fun q=>absurd (hiff.mpr q) Bool.false_ne_true)]at hR
         have hri:=xg A.in1 ⟨hp,g,d,tk,os⟩ a t c u prog w
         wp_walk using hri
         exact⟨_,rfl,by simpa using hR⟩
  case fin =>
   rintro⟨b1,b2⟩ s' ⟨hb',rfl,vs,ws,ns',ms',hz,hvi,hwi,hlen,hR⟩
   simp only at hb'
   subst hb'
   have hv:bN ns' ms' = decide (items.size<items2.size):=by
    cases hvi with
    | nil =>
      cases hwi with
      | nil =>
        simp only[List.length_nil]at hlen
        rw[iZ]
        exact(decide_eq_false (by omega)).symm
      | cons c u hw =>
        simp only[List.length_nil,List.length_cons]at hlen
        rw[mP]
        exact(decide_eq_true (by omega)).symm
    | cons a t hv =>
      cases hwi with
      | nil =>
        simp only[List.length_nil,List.length_cons]at hlen
        rw[dC]
        exact(decide_eq_false (by omega)).symm
      | cons c u hw =>
        rw[List.zip_cons_cons]at hz
        cases hz
   rw[hv]at hR
   wp_walk
   exact⟨_,rfl,by simpa[Builtin.Tuple.tupleCompareSizes]using hR⟩
  case h =>
   exact⟨rfl,rfl,items.toList,items2.toList,ns,ms,rfl,hi,hj,by omega,h⟩
end
section
variable {prog:Program}{w:World}{A:Around}{E:Value→Shared→Prop}{s:Shared}
theorem sE{l b:Addr}{items items2:Array Value}{ns ms:List Int}{Q:Value→Shared→Prop}(hl:IsTup s.heap l items)(hb:IsTup s.heap b items2)(hi:IntsAre items.toList ns)(hj:IntsAre items2.toList ms)
 (hu:A.units<cLine) (h:Q (.bool (bN ns ms)) s):wpAny (model prog w) A (compareOp .Lt (.ref l) (.ref b)) Q E s:=by
 obtain⟨⟨cls,dd,data,sl⟩,ho,hc,n,hd⟩:=id hl
 obtain⟨⟨cls2,dd2,data2,sl2⟩,ho2,hc2,n2,hd2⟩:=id hb
 simp only at hc hd hc2 hd2
 subst hc hd hc2 hd2
 exact richCompare_meets_room (op:=.Lt) ⟨_,ho,rfl⟩ ⟨_,ho2,rfl⟩ PySem.F.slot_tuple_lt PySem.F.entry_tuple_lt (PySem.F.args_tuple_lt_2 _ _) (nu l b items items2 n n2 dd dd2 sl sl2 ns ms hi hj)
  ⟨ho,ho2,show Value.bool (bN ns ms)≠Value.notImplemented∧Q (.bool (bN ns ms)) s from⟨(fun x=>nomatch x),h⟩⟩ hu
def sIx(n d:Nat):Option Int→Nat
 | none=>d
 | some v=>if v<0 then(v+(n:Int)).toNat else min v.toNat n
theorem sQ(n d k:Nat):sIx n d (some (k:Int))=min k n:=by
 show(if(k:Int)<0 then((k:Int)+(n:Int)).toNat else min (k:Int).toNat n)=min k n
 rw[if_neg (by omega),Int.toNat_natCast]
theorem yT(n d:Nat)(hd:d≤n)(o:Option Int):sIx n d o≤n:=by
 cases o with
 | none=>exact hd
 | some v =>
   show(if v<0 then(v+(n:Int)).toNat else min v.toNat n)≤n
   by_cases hv:v<0
   ·rw[if_pos hv];omega
   ·rw[if_neg hv];exact Nat.min_le_right _ _
theorem tY(v:Int)(n d:Nat):(if v<0 then max (v+(n:Int)) 0 else min v (n:Int))=((sIx n d (some v):Nat):Int):=by
 show(if v<0 then max (v+(n:Int)) 0 else min v (n:Int))=(((if v<0 then(v+(n:Int)).toNat else min v.toNat n):Nat):Int)
 by_cases hv:v<0
 ·simp only[if_pos hv];omega
 ·simp only[if_neg hv];omega
theorem sx(lo hi:Option Int)(n:Nat):Builtin.Slice.sliceAdjust lo hi 1 (n:Int)=(((sIx n 0 lo:Nat):Int),((sIx n n hi:Nat):Int)):=by
 have h1 : ¬((1:Int)<0):=by omega
 unfold Builtin.Slice.sliceAdjust
 simp only[h1,if_false]
 refine Prod.ext ?_ ?_
 ·cases lo with
  | none=>rfl
  | some v=>exact tY v n 0
 ·cases hi with
  | none=>rfl
  | some v=>exact tY v n n
theorem sj(i j:Nat):Builtin.Slice.slicePlaces (i:Int) (j:Int) 1=j-i:=by
 unfold Builtin.Slice.slicePlaces
 have h1:(1:Int) > 0:=by omega
 simp only[h1,if_true,Int.ediv_one]
 split<;>omega
theorem me{v:Value}{o:Option Int}{Q:Option Int→Shared→Prop}(p:IsPart v o)(h:Q o s):wpAny (model prog w) A (Builtin.Slice.slicePartIndex v) Q E s:=by
 cases p with
 | none=>exact slicePart_none h
 | int i t=>exact slicePart_int h
theorem gj{sl:Addr}{vl vu:Value}{lo hi:Option Int}{n:Nat}{Q:Int×Int×Nat→Shared→Prop}(hs:s.heap.IsSliceOf sl vl vu .none)(pl:IsPart vl lo)(pu:IsPart vu hi)
 (h:Q (((sIx n 0 lo:Nat):Int),1,sIx n n hi-sIx n 0 lo) s):wpAny (model prog w) A (Builtin.Slice.sliceApplied (.ref sl) (pure (n:Int))) Q E s:=by
 obtain⟨os,hos,hcs,hds⟩:=id hs
 unfold Builtin.Slice.sliceApplied Builtin.Slice.sliceFields
 refine wpAny_bind (wpAny_bind (wpAny_field hos hds (x:=vl) rfl (wpAny_bind (wpAny_field hos hds (x:=vu) rfl (wpAny_bind (wpAny_field hos hds (x:=.none) rfl (wpAny_pure ?_)))))))
 refine wpAny_bind (slicePart_none ?_)
 show wpAny _ _ (if((1:Int)==0)=true then _ else _) _ _ s
 rw[if_neg (by decide)]
 refine wpAny_bind (me pl (wpAny_bind (me pu (wpAny_bind (wpAny_pure ?_)))))
 show wpAny _ _ (match Builtin.Slice.sliceAdjust lo hi 1 (n:Int) with | (lo,hi)=>pure (lo,(1:Int),Builtin.Slice.slicePlaces lo hi 1)) _ _ s
 rw[sx lo hi n]
 show wpAny _ _ (pure (((sIx n 0 lo:Nat):Int),(1:Int),Builtin.Slice.slicePlaces ((sIx n 0 lo:Nat):Int) ((sIx n n hi:Nat):Int) 1)) _ _ s
 rw[sj]
 exact wpAny_pure h
theorem w4(xs:Array Value)(i k:Nat):((List.range k).filterMap fun(m:Nat)=>xs[((i:Int)+(m:Int)*1).toNat]?).toArray=((xs.toList.drop i).take k).toArray:=by
 have e:(fun(m:Nat)=>xs[((i:Int)+(m:Int)*1).toNat]?)=fun m=>xs[i+m]?:=by
  funext m
  have:((i:Int)+(m:Int)*1).toNat=i+m:=by omega
  rw[this]
 rw[e]
 have:=pick_run xs i k
 rw[List.filterMap_map]at this
 have e2:((fun x=>xs[x]?)∘fun x=>i+x)=fun m=>xs[i+m]?:=rfl
 rw[e2]at this
 rw[this]
theorem jw{t sl:Addr}{items:Array Value}{vl vu:Value}{lo hi:Option Int}{Q:Value→Shared→Prop}(ht:IsTup s.heap t items)(hs:s.heap.IsSliceOf sl vl vu .none)(pl:IsPart vl lo)(pu:IsPart vu hi)
 (hw : ¬(sIx items.size 0 lo=0∧sIx items.size items.size hi=items.size))
 (h:Q (.ref s.heap.objs.size) { s with heap:=s.heap.push { cls:=.type "tuple",data:=.seq ((items.toList.drop (sIx items.size 0 lo)).take (sIx items.size items.size hi-sIx items.size 0 lo)).toArray}})
 (hsz:items.size≤sizeLine):wpAny (model prog w) A (getItem (.ref t) (.ref sl)) Q E s:=by
 have htake:sizeOk (.seq ((items.toList.drop (sIx items.size 0 lo)).take (sIx items.size items.size hi-sIx items.size 0 lo)).toArray):=by
  show((items.toList.drop (sIx items.size 0 lo)).take (sIx items.size items.size hi-sIx items.size 0 lo)).toArray.size≤sizeLine
  rw[List.size_toArray,List.length_take,List.length_drop,Array.length_toList]
  omega
 have hj:sIx items.size items.size hi≤items.size:=yT _ _ (Nat.le_refl _) hi
 obtain⟨os,hos,hcs,hds⟩:=id hs
 have hTs:s.TypeIs (.ref sl) "slice":=⟨os,hos,hcs⟩
 unfold getItem
 try with_reducible refine wpAny_holding ?_
 first | refine wpAny_bind (wpAny_pure ?_) | skip
 refine wpAny_bind (wpAny_sequenceKey ht.typeIs (by decide) ?_)
 refine wpAny_bind (wpAny_callSpecial?_slot (name:=Str.ofString "__getitem__") ht.typeIs PyProof.Rows.slot_tuple_getitem
  (wpAny_call_entry PyProof.Rows.slot_tuple_getitem ht.typeIs entry_tuple_getitem ?_ (args_tuple_getitem _ _)))
 show wpAny _ _ (Builtin.Tuple.tupleItemsOf (.ref t) >>= _) _ _ s
 refine wpAny_bind (tupleItemsOf_ ht ?_)
 refine wpAny_bind (wpAny_typeOf hTs ?_)
 rw[if_pos (by decide)]
 refine wpAny_bind (gj hs pl pu ?_)
 have hno : ¬((((sIx items.size 0 lo:Nat):Int)==0&&(1:Int)==1&&(sIx items.size items.size hi-sIx items.size 0 lo)==items.size)=true):=by
  intro q
  rw[Bool.and_eq_true,Bool.and_eq_true]at q
  have q1:((sIx items.size 0 lo:Nat):Int)=0:=eq_of_beq q.1.1
  have q2:sIx items.size items.size hi-sIx items.size 0 lo=items.size:=eq_of_beq q.2
  exact hw ⟨by omega,by omega⟩
 show wpAny _ _ (if(((sIx items.size 0 lo:Nat):Int)==0&&(1:Int)==1&&(sIx items.size items.size hi-sIx items.size 0 lo)==items.size)=true then _ else _) _ _ s
 rw[if_neg hno,w4]
 first
  | exact wpAny_bind (m:=Builtin.Tuple.tupleExact _) (wpAny_newObj_type (wpAny_pure ⟨_,rfl,wpAny_pure h⟩) htake)
  | exact wpAny_bind (m:=Builtin.Tuple.tupleExact _) (wpAny_newObj_type (wpAny_bind (wpAny_pure (wpAny_pure ⟨_,rfl,wpAny_pure h⟩))) htake)
  | exact wpAny_bind (wpAny_bind (m:=Builtin.Tuple.tupleExact _) (wpAny_newObj_type (wpAny_pure (wpAny_pure ⟨_,rfl,wpAny_pure h⟩)) htake))
  | exact wpAny_bind (wpAny_bind (m:=Builtin.Tuple.tupleExact _) (wpAny_newObj_type (wpAny_pure ⟨_,rfl,wpAny_pure h⟩) htake))
end
end HT
namespace L2
open PySem PySem.Spec PyProof.Rows
abbrev TO:=St→Hp→(Option Int→Hp→Prop)→Prop
def PO(X:Cx)(e:Option Expr)(t:TO):Prop :=
 ∀(pins:List (Addr×Obj)) (s:Shared) (σ:St) (H:Hp) (Q:Option Int→Hp→Prop),Inv X pins σ H s→t σ H Q→
  wpAny (model X.prog X.w) X.A (evalPart e X.env) (fun u s'=>∃ o H',Inv X pins σ H' s'∧IsPart u o∧Q o H') X.xe s
def xJ:TO:=fun _ H Q=>Q none H
def aay(t:TE):TO:=fun σ H Q=>t σ H fun x H1=>∃ i,x = .int i∧Q (some i) H1
theorem gL{ns:List Int}:∀{us:List Value},aR (ns.map V.int) us→IntsAre us ns:=by
 induction ns with
 | nil=>intro us r;rw[List.map_nil]at r;cases r;exact .nil
 | cons n ns ih =>
   intro us r
   rw[List.map_cons]at r
   cases r with
   | cons r1 r2 =>
     obtain⟨t,e⟩:=r1
     subst e
     exact .cons n t (ih r2)
section
variable {X:Cx}{e:Expr}{te:TE}{lo hi:Option Expr}{tl th:TO}{pos p2:Pos}
theorem xV:PO X none xJ:=by
 intro pins s σ H Q I h
 rw[evalPart_none]
 exact wpAny_pure ⟨none,H,I,.none,h⟩
theorem pF(h:PE X e te):PO X (some e) (aay te):=by
 intro pins s σ H Q I hw
 rw[evalPart_some]
 refine thn (h pins s σ H _ I hw) fun u s1 ⟨x,H1,I1,r1,q1⟩=>?_
 obtain⟨i,rfl,q⟩:=q1
 obtain⟨t,rfl⟩:=r1
 exact⟨some i,H1,I1,.int i t,q⟩
def SlR(X:Cx)(r:V→Option Int→Option Int→Hp→VK→Prop):Prop :=
 ∀(pins:List (Addr×Obj)) (s:Shared) (σ:St) (H:Hp) (x:V) (v vl vu:Value) (lo hi:Option Int) (sl:Addr) (Q:VK),Inv X pins σ H s→aN x v→s.heap.IsSliceOf sl vl vu .none→IsPart vl lo→IsPart vu hi→r x lo hi H Q→
  ∃ T id,typeLookup (.type T) "__getitem__"=pure (some (.builtin id))∧s.TypeIs v T∧wpAny (model X.prog X.w) X.A (getItem v (.ref sl)) (EP X pins σ Q) X.xe s
def tSl(r:V→Option Int→Option Int→Hp→VK→Prop)(te:TE)(tl th:TO):TE:=fun σ H Q=>te σ H fun x H1=>tl σ H1 fun l H2=>th σ H2 fun u H3=>r x l u H3 Q
theorem rF{r:V→Option Int→Option Int→Hp→VK→Prop}(hr:SlR X r)(he:PE X e te)(hl:PO X lo tl)(hu:PO X hi th):PE X (.Subscript e (.Slice lo hi none p2) pos) (tSl r te tl th):=by
 intro pins s σ H Q I h
 refine Subscript_ (thn (he pins s σ H _ I h) fun v s1 ⟨x,H1,I1,r1,q1⟩=>?_)
 refine wpAny_Slice (thn (hl pins s1 σ H1 _ I1 q1) fun vl s2 ⟨l,H2,I2,pl,q2⟩=>thn (hu pins s2 σ H2 _ I2 q2) fun vu s3 ⟨u,H3,I3,pu,q3⟩=>?_)
 rw[evalPart_none]
 refine wpAny_pure ?_
 have I4:Inv X pins σ H3 { s3 with heap:=s3.heap.push { cls:=.type "slice",data:=.fields #[vl,vu,.none]}}:=I3.kept (t':=s3.toks) fun b ob q=>Heap.get?_push_of_some _ q
 obtain⟨T,id,hT,ht,hg⟩:=hr pins { s3 with heap:=s3.heap.push { cls:=.type "slice",data:=.fields #[vl,vu,.none]}} σ H3 x v vl vu l u s3.heap.objs.size Q I4 r1 (Heap.IsSliceOf.new ..) pl pu q3
 show wpAny (model X.prog X.w) X.A (subscriptTail e (.Slice lo hi none p2) v (.ref s3.heap.objs.size)) (EP X pins σ Q) X.xe { s3 with heap:=s3.heap.push { cls:=.type "slice",data:=.fields #[vl,vu,.none]}}
 exact tail_any (ops:=[.ref s3.heap.objs.size,v]) ht hT hg (by with_unfolding_all rfl)
def nj(xs:List V)(lo hi:Option Int):List V:=(xs.drop (HT.sIx xs.length 0 lo)).take (HT.sIx xs.length xs.length hi-HT.sIx xs.length 0 lo)
theorem kG(xs:List V)(lo hi:Option Int):(nj xs lo hi).length≤xs.length:=by
 unfold nj
 rw[List.length_take,List.length_drop]
 omega
end
end L2
namespace L2
open PySem PySem.Spec PyProof.Rows
def ixN(n:Nat)(i:Int):Option Nat:=if 0≤i then(if i<n then some i.toNat else none) else if -(n:Int)≤i then some (i+n).toNat else none
def atI{α:Type}(xs:List α)(i:Int):Option α:=(ixN xs.length i).bind fun j=>xs[j]?
theorem tH{n:Nat}{i:Int}{j:Nat}(h:ixN n i=some j):seqIndex? i n=some j∧j<n∧-(n:Int)≤i∧i<n:=by
 unfold ixN at h
 by_cases h0:0≤i
 ·rw[if_pos h0]at h
  by_cases h1:i<n
  ·rw[if_pos h1]at h
   have e:i.toNat=j:=Option.some.inj h
   exact⟨by rw[seqIndex_of h0 h1,e],by omega,by omega,h1⟩
  ·rw[if_neg h1]at h;cases h
 ·rw[if_neg h0]at h
  by_cases h1 : -(n:Int)≤i
  ·rw[if_pos h1]at h
   have e:(i+n).toNat=j:=Option.some.inj h
   exact⟨by rw[seqIndex_neg (by omega) h1,e],by omega,h1,by omega⟩
  ·rw[if_neg h1]at h;cases h
theorem sU{α:Type}{xs:List α}{i:Int}{v:α}(h:atI xs i=some v):∃ j,seqIndex? i xs.length=some j∧xs[j]?=some v∧j<xs.length∧-(xs.length:Int)≤i∧i<xs.length:=by
 unfold atI at h
 cases e:ixN xs.length i with
 | none=>rw[e]at h;cases h
 | some j =>
   rw[e]at h
   obtain⟨h1,h2,h3,h4⟩:=tH e
   exact⟨j,h1,h,h2,h3,h4⟩
theorem ai{α:Type}{xs:List α}{j:Nat}{v:α}(h:xs[j]?=some v):atI xs (j:Int)=some v:=by
 have hj:j<xs.length:=(List.getElem?_eq_some_iff.mp h).1
 have e:ixN xs.length (j:Int)=some j:=by
  unfold ixN
  rw[if_pos (by omega),if_pos (by omega)];simp
 unfold atI;rw[e];exact h
def yj(b:Expr):Prop:=∀ o i,subscripted b false o i=operate [o,i] (getItem o i)
def IxR(X:Cx)(r:R2):Prop :=
 ∀(value slice:Expr) (pins:List (Addr×Obj)) (s:Shared) (σ:St) (H:Hp) (x y:V) (v u:Value) (Q:VK),Inv X pins σ H s→aN x v→aN y u→r x y H Q→
  subscripted slice false v u=operate [v,u] (getItem v u)→wpAny (model X.prog X.w) X.A (subscriptTail value slice v u) (EP X pins σ Q) X.xe s
def MtR(X:Cx)(id:String)(r:V→List V→Hp→VK→Prop):Prop :=
 ∀(pins:List (Addr×Obj)) (s:Shared) (σ:St) (H:Hp) (x:V) (xs:List V) (v:Value) (us:List Value) (Q:VK),Inv X pins σ H s→aN x v→aR xs us→r x xs H Q→
  wpAny (model X.prog X.w) X.A (call (.builtin id) (v::us)) (EP X pins σ Q) X.xe s
section
variable {X:Cx}{a b:Expr}{ta tb:TE}{pos:Pos}
theorem aq{r:R2}(hr:IxR X r)(ha:PE X a ta)(hb:PE X b tb)(hs:yj b):PE X (.Subscript a b pos) (tOp r ta tb):=by
 intro pins s σ H Q I h
 exact Subscript_ (y8 ha hb I h fun v u s2 x y H2 I2 rx ry q=>hr a b pins s2 σ H2 x y v u Q I2 rx ry q (hs _ _))
def z7(K:PySem.W.Frag):R2:=fun x y H Q=>∃ p xs i v,x = .ref p∧y = .int i∧SqL K H p xs∧atI xs i=some v∧Q v H
def aah(K:PySem.W.Frag):R2:=fun x y H Q=>∃ p xs i v,x = .ref p∧y = .int i∧SqT K H p xs∧atI xs i=some v∧Q v H
theorem x0:IxR X (z7 X.K):=by
 intro value slice pins s σ H x y v u Q I rx ry h hs
 obtain⟨p,xs,i,z,rfl,rfl,hq,he,q⟩:=h
 cases rx
 obtain⟨t,rfl⟩:=ry
 obtain⟨its,r,pl,hz⟩:=I.list hq
 obtain⟨j,h1,h2,h3,h4,h5⟩:=sU he
 obtain⟨w,ew,rw'⟩:=r.get h2
 have hl:=r.length
 have hn:=lO
 have fin:EP X pins σ Q w s:=⟨z,H,I,rw',q⟩
 by_cases h0:0≤i
 ·have hj:i.toNat=j:=by
   rw[seqIndex_of h0 h5]at h1
   exact Option.some.inj h1
  exact item_listR pl.isList h0 (by omega) (by rw[hj];simpa using ew) fin hs
 ·have hj:(i+(its.toArray.size:Int)).toNat=j:=by
   rw[seqIndex_neg (by omega) h4]at h1
   rw[List.size_toArray,← hl]
   exact Option.some.inj h1
  exact subscriptTail_builtinR (x:=w) pl.isList.typeIs slot_list_getitem.lookup
   (wpAny_getItem_list_neg (Q:=fun r s'=>r=w∧EP X pins σ Q r s') pl.isList (by omega) (by rw[List.size_toArray]<;>omega) (by omega) (by rw[hj];simpa using ew) ⟨rfl,fin⟩) hs
theorem zb:IxR X (aah X.K):=by
 intro value slice pins s σ H x y v u Q I rx ry h hs
 obtain⟨p,xs,i,z,rfl,rfl,hq,he,q⟩:=h
 cases rx
 obtain⟨t,rfl⟩:=ry
 obtain⟨its,r,pl,hz⟩:=I.tuple hq
 obtain⟨j,h1,h2,h3,h4,h5⟩:=sU he
 obtain⟨w,ew,rw'⟩:=r.get h2
 have hl:=r.length
 have hn:=lO
 have fin:EP X pins σ Q w s:=⟨z,H,I,rw',q⟩
 exact subscriptTail_builtinR (x:=w) pl.typeIs slot_tuple_getitem.lookup
  (getItem_tuple (j:=j) (Q:=fun r s'=>r=w∧EP X pins σ Q r s') pl (by omega) (by omega) (by rw[List.size_toArray,← hl];exact h1) (by simpa using ew) ⟨rfl,fin⟩) hs
theorem sH(its:List Value)(n j:Nat)(u:Value):Obj.mapSeq (·.setIfInBounds j u) { cls:=.type "list",data:=.seq its.toArray n}={ cls:=.type "list",data:=.seq (its.set j u).toArray n}:=by
 simp[Obj.mapSeq]
theorem Inv.lst{pins:List (Addr×Obj)}{σ:St}{H:Hp}{s:Shared}{p:Addr}{xs:List V}(I:Inv X pins σ H s)(h:H p=some (.lst xs)):
 ∃(its:List Value) (n:Nat),aR xs its∧s.heap.get? p=some { cls:=.type "list",data:=.seq its.toArray n}∧xs.length≤sizeLine:=by
 obtain⟨z,its,n,r,e⟩:=I.hok p _ h
 exact⟨its,n,r,e,z⟩
theorem Inv.lstUpd{pins:List (Addr×Obj)}{σ:St}{H:Hp}{s:Shared}{p:Addr}{xs ys:List V}{its its' : List Value}{n n' : Nat}{f:Obj→Obj}(I:Inv X pins σ H s)(h:H p=some (.lst xs))
 (ho:s.heap.get? p=some { cls:=.type "list",data:=.seq its.toArray n}) (hf:f { cls:=.type "list",data:=.seq its.toArray n}={ cls:=.type "list",data:=.seq its'.toArray n'}) (r:aR ys its') (hz:ys.length≤sizeLine) (t:Nat) :
 Inv X pins σ (upd H p (.lst ys)) { s with heap:=s.heap.update p f,toks:=t}:=by
 have e:(s.heap.update p f).get? p=some { cls:=.type "list",data:=.seq its'.toArray n'}:=by
  rw[Heap.get?_update_self f ho (by rw[hf]<;>rfl),hf]
 refine I.write (x:=p) (e:=p) (by rw[h];trivial) (.inl rfl) (fun b u hb q=>(Heap.get?_update_other _ _ (Ne.symm hb)).trans q) ⟨_,e⟩ ?_
 exact⟨hz,its',n',r,e⟩
def aax:V→V→V→Hp→(Hp→Prop)→Prop:=fun o i v H Q=>∃ p xs k j,o = .ref p∧i = .int k∧H p=some (.lst xs)∧ixN xs.length k=some j∧Q (upd H p (.lst (xs.set j v)))
theorem jL:yZ X aax:=by
 intro pins s σ H o i v ov iv u Q I ro ri rv h
 obtain⟨p,xs,k,j,rfl,rfl,hp,hj,q⟩:=h
 cases ro
 obtain⟨t,rfl⟩:=ri
 obtain⟨its,n,r,ho,hz⟩:=I.lst hp
 obtain⟨h1,h2,h3,h4⟩:=tH hj
 have hl:=r.length
 have hn:=lO
 have I' : Inv X pins σ (upd H p (.lst (xs.set j v))) { s with heap:=s.heap.update p (Obj.mapSeq (·.setIfInBounds j u))} :=
  I.lstUpd hp ho (sH its n j u) (r.set rv j) (by rw[List.length_set];exact hz) s.toks
 by_cases h0:0≤k
 ·have hk:k.toNat=j:=by
   rw[seqIndex_of h0 h4]at h1
   exact Option.some.inj h1
  exact PySem.W.ki_setAt ho h0 (by omega) (by rw[List.size_toArray,← hl];exact h4) (by rw[hk];exact⟨_,I',q⟩)
 ·have hk:(k+(its.toArray.size:Int)).toNat=j:=by
   rw[seqIndex_neg (by omega) h3]at h1
   rw[List.size_toArray,← hl]
   exact Option.some.inj h1
  exact PySem.W.ki_setBack ho (by omega) (by rw[List.size_toArray,← hl];exact h3) (by omega) (by rw[hk];exact⟨_,I',q⟩)
theorem pC(lo hi:Option Int)(n:Nat):(sliceBounds lo hi none n).1=((HT.sIx n 0 lo:Nat):Int)∧(sliceBounds lo hi none n).2.1=((HT.sIx n n hi:Nat):Int)∧(sliceBounds lo hi none n).2.2=1:=by
 refine⟨?_,?_,rfl⟩
 ·cases lo with
  | none=>simp[sliceBounds,HT.sIx]
  | some i =>
    simp only[sliceBounds,HT.sIx,Option.getD_none,show(1:Int) > 0 by decide,if_true]
    by_cases h:i<0
    ·simp only[h,if_true]<;>omega
    ·simp only[h,if_false]<;>omega
 ·cases hi with
  | none=>simp[sliceBounds,HT.sIx]
  | some i =>
    simp only[sliceBounds,HT.sIx,Option.getD_none,show(1:Int) > 0 by decide,if_true]
    by_cases h:i<0
    ·simp only[h,if_true]<;>omega
    ·simp only[h,if_false]<;>omega
theorem nD(its:List Value)(lo hi:Option Int):slicePick its.toArray lo hi none=((its.drop (HT.sIx its.length 0 lo)).take (HT.sIx its.length its.length hi-HT.sIx its.length 0 lo)).toArray:=by
 obtain⟨h1,h2,h3⟩:=pC lo hi its.toArray.size
 unfold slicePick
 rw[h1,h2,h3]
 simp only[sliceRange_one,pick_run,List.size_toArray]<;>rfl
def aas(K:PySem.W.Frag):V→Option Int→Option Int→Hp→VK→Prop:=fun x lo hi H Q=>∃ a xs,x = .ref a∧SqL K H a xs∧∀ p,H p=none→Q (.ref p) (upd H p (.lst (nj xs lo hi)))
theorem xP:SlR X (aas X.K):=by
 intro pins s σ H x v vl vu lo hi sl Q I rx hs pl pu h
 obtain⟨a,xs,rfl,hx,q⟩:=h
 cases rx
 obtain⟨its,r,ht,hz⟩:=I.list hx
 have hlen:=r.length
 refine⟨"list",_,slot_list_getitem.lookup,ht.isList.typeIs,?_⟩
 refine wpAny_getItem_list_slice ht.isList hs pl pu .none (by simp) ?_ (by rw[List.size_toArray]<;>omega)
 rw[nD,← hlen]
 refine⟨.ref s.heap.objs.size,_,I.laid (t':=s.toks) (o:=.lst (nj xs lo hi)) (fun b ob q=>Heap.get?_push_of_some _ q) (Nat.le_refl _) ?_,rfl,q _ (I.hok.fresh (Nat.le_refl _))⟩
 exact⟨Nat.le_trans (kG xs lo hi) hz,_,0,(r.drop (HT.sIx xs.length 0 lo)).take (HT.sIx xs.length xs.length hi-HT.sIx xs.length 0 lo),Heap.get?_push_size _ rfl⟩
def jC:V→Bool
 | .non=>true
 | .bl _=>true
 | .int _=>true
 | .str _=>true
 | _=>false
def eqV:V→V→Bool
 | .non,.non=>true
 | .bl a,.bl b=>a==b
 | .bl a,.int b=>(if a then 1 else 0)==b
 | .int a,.bl b=>a==(if b then 1 else 0)
 | .int a,.int b=>a==b
 | .str a,.str b=>a==b
 | _,_=>false
theorem yY{A:Around}{s:Shared}{y x:V}{u v:Value}(ry:aN y u)(rx:aN x v)(fy:jC y=true)(fx:jC x=true):SeqAt.EqAt A s u v (eqV y x):=by
 cases y with
 | non =>
   cases ry
   cases x with
   | non=>cases rx;exact SeqAt.EqAt.same _
   | bl b=>cases rx;exact SeqAt.EqAt.none_bool b
   | int b=>obtain⟨t,rfl⟩:=rx;exact SeqAt.EqAt.none_int b t
   | str b=>obtain⟨t,rfl⟩:=rx;exact SeqAt.EqAt.none_str b t
   | _=>exact absurd (show false=true from fx) Bool.false_ne_true
 | bl a =>
   cases ry
   cases x with
   | non=>cases rx;exact SeqAt.EqAt.bool_none a
   | bl b=>cases rx;exact SeqAt.EqAt.bool_bool a b
   | int b=>obtain⟨t,rfl⟩:=rx;exact SeqAt.EqAt.bool_int a b t
   | str b=>obtain⟨t,rfl⟩:=rx;exact SeqAt.EqAt.bool_str a b t
   | _=>exact absurd (show false=true from fx) Bool.false_ne_true
 | int a =>
   obtain⟨t',rfl⟩:=ry
   cases x with
   | non=>cases rx;exact SeqAt.EqAt.int_none a t'
   | bl b=>cases rx;exact SeqAt.EqAt.int_bool a t' b
   | int b=>obtain⟨t,rfl⟩:=rx;exact SeqAt.EqAt.int_int a t' b t
   | str b=>obtain⟨t,rfl⟩:=rx;exact SeqAt.EqAt.int_str a t' b t
   | _=>exact absurd (show false=true from fx) Bool.false_ne_true
 | str a =>
   obtain⟨t',rfl⟩:=ry
   cases x with
   | non=>cases rx;exact SeqAt.EqAt.str_none a t'
   | bl b=>cases rx;exact SeqAt.EqAt.str_bool a t' b
   | int b=>obtain⟨t,rfl⟩:=rx;exact SeqAt.EqAt.str_int a t' b t
   | str b=>obtain⟨t,rfl⟩:=rx;exact SeqAt.EqAt.str_str a t' b t
   | _=>exact absurd (show false=true from fx) Bool.false_ne_true
 | _=>exact absurd (show false=true from fy) Bool.false_ne_true
def eqU(x:V)(u:Value):Bool:=match u with
 | .none=>eqV .non x
 | .bool b=>eqV (.bl b) x
 | .int i _=>eqV (.int i) x
 | .str z _=>eqV (.str z) x
 | _=>false
theorem vD{x y:V}{u:Value}(r:aN y u)(f:jC y=true):eqU x u=eqV y x:=by
 cases y with
 | non=>cases r;rfl
 | bl b=>cases r;rfl
 | int i=>obtain⟨t,rfl⟩:=r;rfl
 | str z=>obtain⟨t,rfl⟩:=r;rfl
 | _=>exact absurd (show false=true from f) Bool.false_ne_true
theorem jt{x:V}:∀{xs:List V} {us:List Value},aR xs us→xs.all jC=true→us.any (eqU x)=xs.any fun y=>eqV y x
 | _,_,.nil,_=>rfl
 | y::xs,u::us,.cons r t,f=>by
   rw[List.all_cons,Bool.and_eq_true]at f
   rw[List.any_cons,List.any_cons,vD r f.1,jt t f.2]
theorem iz{A:Around}{s:Shared}{x:V}{v:Value}(rx:aN x v)(fx:jC x=true):∀{xs:List V} {us:List Value},aR xs us→xs.all jC=true→∀ u∈us,SeqAt.EqAt A s u v (eqU x u)
 | _,_,.nil,_=>fun u hu=>by cases hu
 | y::xs,u::us,.cons r t,f=>fun u' hu=>by
   rw[List.all_cons,Bool.and_eq_true]at f
   rcases List.mem_cons.mp hu with rfl|hu
   ·rw[vD r f.1];exact yY r rx f.1 fx
   ·exact iz rx fx t f.2 u' hu
def inV(x:V)(xs:List V):Bool:=xs.any fun y=>eqV y x
def rIn(K:PySem.W.Frag)(neg:Bool):R2:=fun x y H Q=>∃ p xs,y = .ref p∧(SqL K H p xs∨SqT K H p xs)∧jC x=true∧xs.all jC=true∧Q (.bl (if neg then !inV x xs else inV x xs)) H
theorem uA:OpR X (compareOp .In) (rIn X.K false):=by
 intro pins s σ H x y v u Q I rx ry h
 obtain⟨p,xs,rfl,hq,fx,fs,q⟩:=h
 cases ry
 rcases hq with hq|hq
 ·obtain⟨its,r,pl,hz⟩:=I.list hq
  refine SeqAt.in_listAt (eqU x) pl.isList (fun w hw=>iz rx fx r fs w (by simpa using hw)) ⟨.bl _,H,I,rfl,?_⟩
  rw[show its.toArray.any (eqU x)=its.any (eqU x) by simp,jt r fs]
  exact q
 ·obtain⟨its,r,pl,hz⟩:=I.tuple hq
  refine SeqAt.in_tupleAt (eqU x) pl (fun w hw=>iz rx fx r fs w (by simpa using hw)) ⟨.bl _,H,I,rfl,?_⟩
  rw[show its.toArray.any (eqU x)=its.any (eqU x) by simp,jt r fs]
  exact q
theorem pA:OpR X (compareOp .NotIn) (rIn X.K true):=by
 intro pins s σ H x y v u Q I rx ry h
 obtain⟨p,xs,rfl,hq,fx,fs,q⟩:=h
 cases ry
 rcases hq with hq|hq
 ·obtain⟨its,r,pl,hz⟩:=I.list hq
  refine SeqAt.notIn_listAt (eqU x) pl.isList (fun w hw=>iz rx fx r fs w (by simpa using hw)) ⟨.bl _,H,I,rfl,?_⟩
  rw[show its.toArray.any (eqU x)=its.any (eqU x) by simp,jt r fs]
  exact q
 ·obtain⟨its,r,pl,hz⟩:=I.tuple hq
  refine SeqAt.notIn_tupleAt (eqU x) pl (fun w hw=>iz rx fx r fs w (by simpa using hw)) ⟨.bl _,H,I,rfl,?_⟩
  rw[show its.toArray.any (eqU x)=its.any (eqU x) by simp,jt r fs]
  exact q
theorem pG:dF X (.builtin "len") (fun xs H Q=>∃ p ys,xs=[.ref p]∧(SqL X.K H p ys∨SqT X.K H p ys)∧Q (.int ys.length) H):=by
 intro pins s σ H xs us Q I r h
 obtain⟨p,ys,rfl,hq,q⟩:=h
 obtain⟨u,rfl,rx⟩:=gn r
 cases rx
 have hn:=lO
 rcases hq with hq|hq
 ·obtain⟨its,r',pl,hz⟩:=I.list hq
  have hlen:=r'.length
  exact Calls.call_len_list pl.isList (by simp only[List.size_toArray]<;>omega) ⟨.int ys.length,H,I.tok _,⟨s.toks+1,by rw[List.size_toArray,hlen]⟩,q⟩
 ·obtain⟨its,r',pl,hz⟩:=I.tuple hq
  have hlen:=r'.length
  exact len_tuple pl (by simp only[List.size_toArray]<;>omega) ⟨.int ys.length,H,I.tok _,⟨s.toks+1,by rw[List.size_toArray,hlen]⟩,q⟩
theorem pY:dF X (.type "list") (fun xs H Q=>∃ p ys,xs=[.ref p]∧(SqL X.K H p ys∨SqT X.K H p ys)∧∀ l,H l=none→Q (.ref l) (upd H l (.lst ys))):=by
 intro pins s σ H xs us Q I r h
 obtain⟨p,ys,rfl,hq,q⟩:=h
 obtain⟨u,rfl,rx⟩:=gn r
 cases rx
 have fin:∀(its:List Value),aR ys its→ys.length≤sizeLine→∀(h' : Heap) (c' : Nat),(∀ b o',s.heap.get? b=some o'→h'.get? b=some o')→
  h'.get? s.heap.objs.size=some { cls:=.type "list",dict:=none,data:=.seq its.toArray c',slots:=#[]}→EP X pins σ Q (.ref s.heap.objs.size) { s with heap:=h'}:=fun its r' hz h' c' kp e =>
  ⟨.ref s.heap.objs.size,_,I.laid (t':=s.toks) kp (Nat.le_refl _) (show aV X.prog X.w _ h' _ (.lst ys) from⟨hz,its,c',r',e⟩),rfl,q _ (I.hok.fresh (Nat.le_refl _))⟩
 rcases hq with hq|hq
 ·obtain⟨its,r',pl,hz⟩:=I.list hq
  have hlen:=r'.length
  obtain⟨o,ho,hc,n,hd⟩:=pl.isList
  exact call_list_seq p (.inl rfl) ho hc hd (fun h' c' kp e=>fin its r' hz h' c' kp e) (by simp only[List.size_toArray]<;>omega)
 ·obtain⟨its,r',pl,hz⟩:=I.tuple hq
  have hlen:=r'.length
  obtain⟨o,ho,hc,n,hd⟩:=pl
  exact call_list_seq p (.inr rfl) ho hc hd (fun h' c' kp e=>fin its r' hz h' c' kp e) (by simp only[List.size_toArray]<;>omega)
theorem nq:dF X (.type "tuple") (fun xs H Q=>∃ p ys,xs=[.ref p]∧((SqL X.K H p ys∧∀ l,H l=none→Q (.ref l) (upd H l (.tup ys)))∨(SqT X.K H p ys∧Q (.ref p) H))):=by
 intro pins s σ H xs us Q I r h
 obtain⟨p,ys,rfl,h⟩:=h
 obtain⟨u,rfl,rx⟩:=gn r
 cases rx
 rcases h with⟨hq,q⟩|⟨hq,q⟩
 ·obtain⟨its,r',pl,hz⟩:=I.list hq
  have hlen:=r'.length
  refine call_tuple_list pl.isList (fun h' kp=>?_) (by simp only[List.size_toArray]<;>omega)
  have I1:Inv X pins σ H { s with heap:=h'}:=I.kept (t':=s.toks) kp
  have I2:Inv X pins σ (upd H h'.objs.size (.tup ys)) { s with heap:=h'.push { cls:=.type "tuple",data:=.seq its.toArray}} :=
   I1.laid (t':=s.toks) (fun b o e=>Heap.get?_push_of_some _ e) (Nat.le_refl _) (show aV X.prog X.w _ _ _ (.tup ys) from⟨hz,its,r',IsTup.new _ _⟩)
  exact⟨.ref h'.objs.size,_,I2,rfl,q _ (I1.hok.fresh (Nat.le_refl _))⟩
 ·obtain⟨its,r',pl,hz⟩:=I.tuple hq
  exact call_tuple_same pl ⟨.ref p,H,I,rfl,q⟩
def tyV(K:PySem.W.Frag)(T:String)(x:V)(H:Hp):Prop:=match x with
 | .str _=>T="str"
 | .int _=>T="int"
 | .ref p=>(T="list"∧∃ xs,SqL K H p xs)∨(T="tuple"∧∃ o,K.lookup p=some o∧o.cls = .type "tuple"∧o.dict=none)∨
  (T="dict"∧((∃ kvs,H p=some (.dK kvs))∨∃ kvs,H p=some (.dT kvs)))∨(T="set"∧∃ S n,H p=some (.set S n))
 | _=>False
theorem vy{pins:List (Addr×Obj)}{σ:St}{H:Hp}{s:Shared}{T:String}{x:V}{v:Value}(I:Inv X pins σ H s)(r:aN x v)(ty:tyV X.K T x H):
 s.TypeIs v T∧∀ a,v = .ref a→∃ ob,s.heap.get? a=some ob∧ob.dict=none:=by
 cases x with
 | str z =>
   obtain⟨t,rfl⟩:=r
   cases(show T="str" from ty)
   exact⟨typeIs_str s z t,fun _ e=>nomatch e⟩
 | int i =>
   obtain⟨t,rfl⟩:=r
   cases(show T="int" from ty)
   exact⟨typeIs_int s i t,fun _ e=>nomatch e⟩
 | ref p =>
   cases r
   rcases ty with⟨rfl,xs,hq⟩|⟨rfl,o,hk,hc,hd⟩|⟨rfl,hk⟩|⟨rfl,S,n,hk⟩
   ·obtain⟨its,_,pl,_⟩:=I.list hq
    refine⟨pl.isList.typeIs,fun a e=>?_⟩
    cases e
    obtain⟨o,n,e,c,hd,_⟩:=pl
    exact⟨o,e,hd⟩
   ·refine⟨⟨o,I.kIn p o hk,hc⟩,fun a e=>?_⟩
    cases e
    exact⟨o,I.kIn _ o hk,hd⟩
   ·have z:∃ o,s.heap.get? p=some o∧o.ExactDict:=by
     rcases hk with⟨kvs,hk⟩|⟨kvs,hk⟩
     ·obtain⟨_,_,_,_,o,_,_,e,ex,_⟩:=I.hok p _ hk
      exact⟨o,e,ex⟩
     ·obtain⟨_,_,_,_,o,_,_,e,ex,_⟩:=I.hok p _ hk
      exact⟨o,e,ex⟩
    obtain⟨o,e,ex⟩:=z
    refine⟨⟨o,e,ex.1⟩,fun a e2=>?_⟩
    cases e2
    exact⟨o,e,ex.2.1⟩
   ·obtain⟨o,_,_,_,e,ex,_⟩:=I.hok p _ hk
    refine⟨⟨o,e,ex.1⟩,fun a e2=>?_⟩
    cases e2
    exact⟨o,e,ex.2.1⟩
 | _=>exact False.elim ty
def aaO(K:PySem.W.Frag)(T:String)(r:V→List V→Hp→VK→Prop)(to:TE):TE:=fun σ H Q=>to σ H fun x H1=>tyV K T x H1∧r x [] H1 Q
def tBM(K:PySem.W.Frag)(T:String)(r:V→List V→Hp→VK→Prop)(to:TE)(t:TA):TE:=fun σ H Q=>to σ H fun x H1=>tyV K T x H1∧t σ H1 fun xs H2=>r x xs H2 Q
variable {o e:Expr}{es:List Expr}{to:TE}{t:TA}{name:Str}{apos cpos:Pos}{T id:String}{r:V→List V→Hp→VK→Prop}
theorem zB(pa:PlainAttrs T)(slot:Slot T name id)(hty:typeOf (.builtin id)=pure (.type "method_descriptor"))(hm:MtR X id r)(ho:PE X o to)
 (hbase:attributeBase o name X.env (eval o X.env)=eval o X.env:=by rfl) (hline:(apos.endLine==cpos.line)=true:=by rfl):PE X (.Call (.Attribute o name apos) [] [] cpos) (aaO X.K T r to):=by
 intro pins s σ H Q I h
 refine wpAny_Call_method0_late hbase hline (thn (ho pins s σ H _ I h) fun v s1 ⟨x,H1,I1,r1,ty,q1⟩=>?_)
 obtain⟨h1,h2⟩:=vy I1 r1 ty
 exact⟨T,id,pa,slot,hty,h1,h2,Calls.callWith_builtin rfl (PySem.evalArgs_none (hm pins s1 σ H1 x [] v [] Q I1 r1 .nil q1))⟩
theorem kI(pa:PlainAttrs T)(slot:Slot T name id)(hty:typeOf (.builtin id)=pure (.type "method_descriptor"))(hm:MtR X id r)(ho:PE X o to)(ha:PA X (e::es) t)
 (hbase:attributeBase o name X.env (eval o X.env)=eval o X.env:=by rfl)
 (hfew:((backTo cpos (starEach (e::es) X.env)).all (fun x=>!x.1)&&(backToKw cpos (keywordEach [] X.env)).all (fun x=>x.1.isSome)
  && decide ((e::es).length+([]:List Keyword).length+(if([]:List Keyword).isEmpty then 0 else 1)<30))=true:=by rfl)
 (hline:(apos.endLine==cpos.line)=true:=by rfl) (hs:starEach (e::es) X.env=(false,eval e X.env)::starEach es X.env:=by rfl) (hplain:(backTo cpos (starEach es X.env)).any (·.1)=false:=by rfl) :
 PE X (.Call (.Attribute o name apos) (e::es) [] cpos) (tBM X.K T r to t):=by
 intro pins s σ H Q I h
 refine wpAny_Call_method_late hbase hfew hline rfl (thn (ho pins s σ H _ I h) fun v s1 ⟨x,H1,I1,r1,ty,q1⟩=>?_)
 obtain⟨h1,h2⟩:=vy I1 r1 ty
 refine⟨T,id,pa,slot,hty,h1,h2,?_⟩
 have hA:=ha cpos pins s1 σ H1 _ I1 q1
 rw[hs]at hA ⊢
 refine Calls.callWith_builtin (by show(false || (backTo cpos (starEach es X.env)).any (·.1))=false;rw[hplain]<;>rfl) (Calls.evalArgs_plain ?_)
 exact thn hA fun us s2 ⟨vs,H2,I2,r2,q2⟩=>hm pins s2 σ H2 x vs v us Q I2 r1 r2 q2
end
end L2
namespace L2
open PySem PySem.Spec PyProof.Rows
def MtM(X:Cx)(id:String)(r:V→List V→Hp→VK→Prop):Prop :=
 ∀(pins:List (Addr×Obj)) (s:Shared) (σ:St) (H:Hp) (x:V) (xs:List V) (v:Value) (us:List Value) (Q:VK),Inv X pins σ H s→aN x v→aR xs us→r x xs H Q→
  wpAny (model X.prog X.w) X.A (call (.builtin id) (v::us)) (EP X pins σ Q) X.xe s
theorem aR.one:∀{x:V} {us:List Value},aR [x] us→∃ u,us=[u]∧aN x u
 | _,_,.cons r .nil=>⟨_,rfl,r⟩
theorem aR.rep{xs:List V}{us:List Value}(h:aR xs us):∀ k:Nat,aR (List.replicate k xs).flatten (List.replicate k us).flatten
 | 0=>.nil
 | k+1=>by
   rw[List.replicate_succ,List.replicate_succ,List.flatten_cons,List.flatten_cons]
   exact aR.append h (aR.rep h k)
theorem o4(its:List Value):∀(k:Nat) (acc:List Value),
 List.foldl (fun x1 x2=>x1++x2) acc.toArray (List.replicate k its.toArray)=(acc++(List.replicate k its).flatten).toArray
 | 0,acc=>by simp
 | k+1,acc=>by
   have e:acc.toArray++its.toArray=(acc++its).toArray:=by simp
   have e2:(acc++its)++(List.replicate k its).flatten=acc++(List.replicate (k+1) its).flatten:=by
    rw[List.replicate_succ,List.flatten_cons,List.append_assoc]
   rw[← e2,← o4 its k (acc++its),← e,List.replicate_succ,List.foldl_cons]
section
variable {X:Cx}{pins:List (Addr×Obj)}{σ:St}{H:Hp}{s:Shared}{l b:Addr}{xs ys zs:List V}
theorem Inv.lset{its its' : List Value}{n:Nat}{f:Array Value→Array Value}{t' : Nat}(I:Inv X pins σ H s)(hH:H l=some (.lst xs))
 (e:s.heap.get? l=some { cls:=.type "list",data:=.seq its.toArray n}) (hf:f its.toArray=its'.toArray) (hv:aR ys its') (hz:ys.length≤sizeLine) :
 Inv X pins σ (upd H l (.lst ys)) { s with heap:=s.heap.update l (Obj.mapSeq f),toks:=t'}:=by
 have q:=PySem.IsL.update e f
 rw[hf]at q
 refine I.write (x:=l) (e:=l) (by rw[hH];exact trivial) (.inl rfl) (fun b' u hb hu=>(Heap.get?_update_other s.heap (Obj.mapSeq f) (Ne.symm hb)).trans hu) ⟨_,q⟩ ?_
 exact⟨hz,its',_,hv,q⟩
theorem Inv.lnew{its:List Value}{t' : Nat}(I:Inv X pins σ H s)(hv:aR ys its)(hz:ys.length≤sizeLine):
 Inv X pins σ (upd H s.heap.objs.size (.lst ys)) { s with heap:=s.heap.push { cls:=.type "list",data:=.seq its.toArray},toks:=t'} :=
 I.laid (fun _ _ q=>Heap.get?_push_of_some _ q) (Nat.le_refl _) ⟨hz,its,0,hv,Heap.get?_push_size _ rfl⟩
theorem Inv.fresh(I:Inv X pins σ H s):H s.heap.objs.size=none:=I.hok.fresh (Nat.le_refl _)
theorem Inv.lstM(I:Inv X pins σ H s)(hH:H l=some (.lst xs)):xs.length≤sizeLine∧∃(its:List Value) (n:Nat),aR xs its∧xs.length=its.length∧s.heap.get? l=some { cls:=.type "list",data:=.seq its.toArray n}:=by
 obtain⟨z,its,n,r,e⟩:=I.hok l _ hH
 exact⟨z,its,n,r,r.length,e⟩
theorem xt{n:Nat}(h:n≤sizeLine):Builtin.List.listTooLong n=false:=by
 unfold Builtin.List.listTooLong
 exact decide_eq_false (by omega)
end
section
variable {X:Cx}
def yn:V→List V→Hp→VK→Prop:=fun x vs H Q=>∃ l xs y,x = .ref l∧vs=[y]∧H l=some (.lst xs)∧xs.length<sizeLine∧Q .non (upd H l (.lst (xs++[y])))
theorem cV:MtM X "list.append" yn:=by
 intro pins s σ H x vs v us Q I rx rv h
 obtain⟨l,xs,y,rfl,rfl,hH,hz,q⟩:=h
 cases rx
 obtain⟨u,rfl,ru⟩:=rv.one
 obtain⟨z,its,n,r,hl,e⟩:=I.lstM hH
 refine call_meets F.slot_list_append ⟨_,e,rfl⟩ F.entry_list_append (F.args_list_append_2 _ _) (PySem.list_append l its.toArray n u (by rw[List.size_toArray];omega)) ⟨e,?_⟩
 refine⟨.non,_,I.lset (its':=its++[u]) hH e (by simp) (r.append (.cons ru .nil)) ?_,rfl,q⟩
 rw[List.length_append,List.length_singleton]
 omega
def aaQ:R2:=fun x y H Q=>∃ l k xs,x = .ref l∧y = .int k∧H l=some (.lst xs)∧-(2^63)≤k∧k<2^63∧xs.length*k.toNat≤sizeLine∧
 ∀ p,H p=none→Q (.ref p) (upd H p (.lst (List.replicate k.toNat xs).flatten))
theorem xL{α:Type}(xs:List α)(k:Nat):(List.replicate k xs).flatten.length=k*xs.length:=by
 induction k with
 | zero=>simp
 | succ k ih=>rw[List.replicate_succ,List.flatten_cons,List.length_append,ih,Nat.succ_mul,Nat.add_comm]
theorem wj:OpR X (binaryOp .Mult) aaQ:=by
 intro pins s σ H x y v u Q I rx ry h
 obtain⟨l,k,xs,rfl,rfl,hH,h1,h2,hz,q⟩:=h
 cases rx
 obtain⟨t,rfl⟩:=ry
 obtain⟨z,its,n,r,hl,e⟩:=I.lstM hH
 have hlen:its.toArray.size*k.toNat≤sizeLine:=by rw[List.size_toArray,← hl];exact hz
 have hcap : ¬ its.toArray.size*k.toNat > (2^63-1)/8:=by
  have:(sizeLine:Nat)≤(2^63-1)/8:=by decide
  omega
 have hfit : ¬(!Builtin.List.listFitsIndex k)=true:=by
  rw[fitsIndex_both h1 h2]
  exact Bool.false_ne_true
 have hlong : ¬ Builtin.List.listTooLong (its.toArray.size*k.toNat)=true:=by
  rw[xt hlen]
  exact Bool.false_ne_true
 have hnew:List.foldl (fun x1 x2=>x1++x2) #[] (List.replicate (if its.toArray.isEmpty=true then 0 else k.toNat) its.toArray)=(List.replicate k.toNat its).flatten.toArray:=by
  have f0:∀ m:Nat,List.foldl (fun x1 x2=>x1++x2) #[] (List.replicate m its.toArray)=(List.replicate m its).flatten.toArray:=fun m=>by
   have:=o4 its m []
   rw[List.nil_append]at this
   exact this
  rw[f0]
  cases its with
  | nil=>simp
  | cons a r'=>rw[if_neg (by simp)]
 refine wpAny_binaryOp_repeat_ref (T:="list") (U:="int") (by decide) ⟨_,e,rfl⟩ (fun s'=>typeIs_int s' k t) noFill_list_mul F.fills_int_mul F.slot_int_rmul repeat_list F.slot_int_index.lookup
  (call_meets F.slot_int_rmul (typeIs_int s k t) F.entry_int_rmul (F.args_int_rmul_2 _ _) (int___rmul___int_list k t l its.toArray n)
   ⟨e,rfl,⟨_,e,rfl⟩,call_meets F.slot_list_mul ⟨_,e,rfl⟩ F.entry_list_mul (F.args_list_mul_2 _ _) (AutoListH.list___mul___list_int_3 l its.toArray n k t hfit hcap hlong) ⟨e,?_⟩⟩)
 rw[hnew]
 exact⟨.ref _,_,I.lnew (t':=s.toks) (r.rep k.toNat) (by rw[xL,Nat.mul_comm];exact hz),rfl,q _ I.fresh⟩
end
section
variable {prog:Program}{w:World}{A:Around}{E:Value→Shared→Prop}{s:Shared}
end
section
variable {X:Cx}
end
end L2
namespace Att
open PySem PySem.W PySem.Calls PyProof.Rows
theorem kP{P:Params}{h:Heap}:∀(ns:List Int) (vs:List Value),WellAll P h vs (ns.map WData.int)→IntsAre vs ns:=by
 intro ns
 induction ns with
 | nil =>
   intro vs w
   rw[List.map_nil]at w
   cases w
   exact .nil
 | cons n ns ih =>
   intro vs w
   rw[List.map_cons]at w
   cases w with
   | cons a b =>
     cases a
     exact .cons _ _ (ih _ b)
theorem um{l:OpenLaw}{n:Nat}(hn:l.most=some n){P:Params}{h:Heap}{args:List WData}{vals:List Value}
 (hpre:l.row.toRowW.claim.pre args=true) (hwl:WellAll P h vals args) :
 ∃ a vs ns,vals=[Value.ref a]∧args=[WData.list (ns.map WData.int)]∧h.get? a=some { cls:=.type "list",data:=.seq vs.toArray}∧IntsAre vs ns∧ns.length≤n:=by
 have hsh:WShape.hasAll [] args [.list .int]=true:=(pre_splitW hpre).1
 have hc:l.pre.holds [] { args:=args}=true:=(pre_splitW hpre).2
 obtain⟨d,r,rfl,h1,h2⟩:=hasAllW_cons hsh
 obtain rfl:=hasAllW_nil h2
 obtain⟨xs,rfl,h3⟩:=hasW_list h1
 obtain⟨ns,rfl⟩:=items_int h3
 have hlen:ns.length≤n:=by
  unfold OpenLaw.pre at hc
  have h4:(WTm.not (.lt (.lit (.int (n:Int))) (.len (.arg 0)))).holds [] { args:=[.list (ns.map .int)]}=true:=by
   have h4:=(holds_andW hc).1
   rw[hn]at h4
   exact h4
  have h5:=condW_of h4 (w_not (w_lt w_lit (w_len_list (w_arg rfl))))
  rw[List.length_map]at h5
  refine Nat.le_of_not_lt fun q=>?_
  have q' : (n:Int)<((ns.length:Nat):Int):=by omega
  first
   | (rw[decide_eq_true q']at h5;exact absurd h5 (by decide))
   | (simp at h5;omega)
 cases hwl with
 | cons w1 w2 =>
   cases w2
   cases w1 with
   | list ho hall=>exact⟨_,_,ns,rfl,rfl,ho,kP ns _ hall,hlen⟩
theorem uz(l:OpenLaw)(args:List WData):l.row.toRowW.claim.post args (.bool true) args=true :=
 postW_of (r:=l.row.toRowW) (X:=(true==true))
  (show WShape.has [] (.bool true) .bool=true by first | rfl | decide | simp[WShape.has,WShape.arms,WShape.armsAll])
  (show(WTm.eq .res (.lit (.bool true))).value [] { args:=args,res:=some (.bool true),after:=args}=some (.bool (true==true)) from w_eq_bool (w_res rfl) w_lit) rfl
theorem qU{l:OpenLaw}{n:Nat}{q:Program}{loose:List Str}{XP:(Str→Option Value)→Heap→Prop}{YP:World→Heap→Prop}{d:DefRec}
 (hn:l.most=some n) (hdf:d.params.defaults=[])
 (call:∀(w:World) (s₀ s₁:Shared) (mg mb:Str→Option Value) (fa:Addr) (o:Obj) (pm cd doc:Value) (a:Addr) (vs:List Value) (ns:List Int),
  Ground q loose [] XP w s₀ mg mb s₁.heap→YP w s₁.heap→
  s₁.heap.get? fa=some o→o.data = .func (docDef d.name d.params d.body d.scope pm cd doc)→s₁.heap.CodeRec cd d.name→mg d.name=some (.ref fa)→
  s₁.heap.get? a=some { cls:=.type "list",data:=.seq vs.toArray}→IntsAre vs ns→ns.length≤n→s₁.gens = #[]→
  codeAny (model l.prog w) callerA (.call (.ref fa) ⟨[.ref a],[]⟩) (fun r s'=>r = .ok (.ret (.bool true))∧OldK s₁.heap s'.heap∧s'.os=s₁.os∧AllBare s'.gens) s₁) :
 WalkO q loose XP YP l.row.toRowW d [] (fun f vs=>PySem.call f vs):=by
 intro w s₀ s₁ mg mb G Y fa o pm cd doc dV kV ho hd hcd hD hmg hg args vals as hpre hlay hrd hwl hlo
 obtain rfl:dV = .none:=Dflts.none hD hdf
 obtain rfl:kV = .none:=Dflts.noKw hD
 obtain⟨a,vs,ns,rfl,rfl,hobj,hints,hlen⟩:=um hn hpre hwl
 refine enter_call (codeAny_mono (call w s₀ s₁ mg mb fa o pm cd doc a vs ns G Y ho (fd_plain hd) hcd hmg hobj hints hlen hg) fun r s' hq=>?_)
 obtain⟨rfl,h2,h3,h4⟩:=hq
 exact⟨.inl ⟨.bool true,.bool true,[],rfl,fun _=>rfl,.bool true,uz l _,fun _=>⟨List.Pairwise.nil,fun _ hm=>(nomatch hm)⟩⟩,h2,h3,h4⟩
section
variable {prog:Program}{w:World}{A:Around}{E:Value→Shared→Prop}{s:Shared}{K:Frag}
end
end Att
namespace L2
open PySem PySem.Spec PyProof.Rows
theorem nW:∀{vs:List Value} {ns:List Int},IntsAre vs ns→aR (ns.map V.int) vs
 | _,_,.nil=>.nil
 | _,_,.cons n t h=>.cons ⟨t,rfl⟩ (nW h)
end L2
namespace L2
open PySem PySem.Spec PyProof.Rows
end L2
namespace L2
open PySem PySem.Spec PyProof.Rows
def aw(s:Stmt):Arguments:=match s with
 | .FunctionDef _ a _ _ _ _ _ _ _ _=>a
 | _=>{ posonlyargs:=[],args:=[],vararg:=none,kwonlyargs:=[],kw_defaults:=[],kwarg:=none,defaults:=[]}
def av(s:Stmt):List Stmt:=match s with
 | .FunctionDef _ _ b _ _ _ _ _ _ _=>b
 | _=>[]
def ae(s:Stmt):Scope:=match s with
 | .FunctionDef _ _ _ _ _ _ sc _ _ _=>sc
 | _=>{ kind:=.function,names:=[],isGenerator:=false,isCoroutine:=false}
abbrev CX0:CXT:=fun _ _ _ _ _ _=>False
abbrev E0:XK:=fun _ _ _=>False
theorem aK{X:Cx}:ik CX0 X E0:=fun _ _ _ _ _ _ _ h=>h.elim
structure Fun(K:PySem.W.Frag)(x qual:Str)(st:Stmt)(f:Addr)(fd:FuncData):Prop where
 ex:∃(oc:Value) (od:Option Addr) (kV doc pm:Value) (an:Option Addr) (cdv ct:Value) (osl:Array (Option Value)),
  fd=PySem.W.fnOf x qual (aw st) (av st) (ae st) .none kV doc pm an cdv ct∧K.lookup f=some ⟨oc,od,.func fd,osl⟩∧PySem.W.codeIn K cdv qual=true
 kp:PySem.W.keepIn K (.ref f)=true
section
variable {P:Program}{w:World}{K:PySem.W.Frag}{mg:Str→Option Value}{base:Heap}
theorem Fun.ok{x qual:Str}{st:Stmt}{f:Addr}{fd:FuncData}{N ps:List Str}{k:Nat}{sp:Sp}(F:Fun K x qual st f fd)(S:FnScope N ps (ae st))(len:∀ vs H Q E,sp vs H Q E→vs.length=ps.length)
 (hbody:∀(cdv:Value) (A:Around) (outer:List Env) (s:Shared) (H:Hp) (vs:List V) (Q:VK) (E:XK),Room k (A.deeper (envOfC qual (ae st) s.heap.objs.size f cdv))→sp vs H Q E→
  ∃ t,PSs (lS CX0 P w K mg base N qual (ae st) f cdv A outer s H E).nox (av st) t∧t { nx:=fun _ H'=>Q .non H',rt:=Q} (start N vs) H):FnOk P w K mg base CX0 (k+1) f fd ps sp:=by
 obtain⟨oc,od,kV,doc,pm,an,cdv,ct,osl,rfl,lk,hcd⟩:=F.ex
 refine vN lk hcd S len fun A outer s H vs Q E hr hsp=>?_
 obtain⟨t,h,q⟩:=hbody cdv A outer s H vs Q E hr hsp
 exact⟨t,h.nox,q⟩
theorem Fun.binds{x qual:Str}{st:Stmt}{f:Addr}{fd:FuncData}{ps:List Str}(F:Fun K x qual st f fd)
 (h:∀(kV doc pm:Value) (an:Option Addr) (cdv ct:Value) (us:List Value),us.length=ps.length→bindArgs (PySem.W.fnOf x qual (aw st) (av st) (ae st) .none kV doc pm an cdv ct) ⟨us,[]⟩=pure (ps.zip us)):aI K fd ps []:=by
 obtain⟨oc,od,kV,doc,pm,an,cdv,ct,osl,rfl,lk,hcd⟩:=F.ex
 exact .all (h kV doc pm an cdv ct)
theorem aG{x qual:Str}{st:Stmt}{f:Addr}{oc:Value}{od an:Option Addr}{osl:Array (Option Value)}{kV doc pm cdv ct:Value}(l:K.lookup f=some ⟨oc,od,.func (PySem.W.fnOf x qual (aw st) (av st) (ae st) .none kV doc pm an cdv ct),osl⟩)
 (c:PySem.W.codeIn K cdv qual=true) (k:PySem.W.keepIn K (.ref f)=true):Fun K x qual st f (PySem.W.fnOf x qual (aw st) (av st) (ae st) .none kV doc pm an cdv ct):=⟨⟨oc,od,kV,doc,pm,an,cdv,ct,osl,rfl,l,c⟩,k⟩
end
theorem rh{A:Around}{k:Nat}(hr:Room k A):A.units+1<cLine:=Nat.lt_of_le_of_lt (Nat.add_le_add_left (by decide:1≤64) _) hr.units
theorem gf{n:Nat}(h:n≤1000):n<sizeLine:=Nat.lt_of_le_of_lt h (by decide)
section
variable {X:Cx}
theorem pv(i:Nat){x:Str}{pos:Pos}(hN:X.N[i]?=some x:=by rfl)(hv:Vis X.env.scope x:=by first | exact Or.inl rfl | exact Or.inr (Or.inl rfl) | exact Or.inr (Or.inr rfl))(hd:(x==("__debug__":Str))=false:=by decide)
 (hcd:(x==("__classdict__":Str))=false:=by decide):PE X (.Name x pos) (aav i):=zQ hN hv hd hcd
end
theorem cg{A B:Prop}(h:B):if false=true then A else B:=by
 rw[if_neg Bool.false_ne_true]
 exact h
theorem df{A B:Prop}(h:A):if true=true then A else B:=by
 rw[if_pos rfl]
 exact h
theorem sa{c A B:Prop}[Decidable c](h1:c→A)(h2 : ¬ c→B):if c then A else B:=by
 by_cases h:c
 ·rw[if_pos h]
  exact h1 h
 ·rw[if_neg h]
  exact h2 h
theorem vq{c A B:Prop}[Decidable c](hc:c)(h:B):if(!decide c)=true then A else B:=by
 rw[decide_eq_true hc]
 exact cg h
def am(H H' : Hp):Prop:=∀ b o,H b=some o→H' b=some o
theorem am.refl(H:Hp):am H H:=fun _ _ h=>h
theorem am.trans{H H1 H2:Hp}(a:am H H1)(b:am H1 H2):am H H2:=fun c o h=>b c o (a c o h)
theorem am.free{H H' : Hp}(e:am H H'){l:Addr}(h:H' l=Option.none):H l=Option.none:=by
 cases q:H l with
 | none=>rfl
 | some o =>
   rw[e l o q]at h
   cases h
theorem am.seq{K:PySem.W.Frag}{H H' : Hp}{a:Addr}{xs:List V}(e:am H H')(h:SqL K H a xs):SqL K H' a xs:=by
 rcases h with(h|⟨o,h⟩) | h
 ·exact .inl (.inl (e _ _ h))
 ·exact .inl (.inr ⟨o,e _ _ h⟩)
 ·exact .inr h
end L2
namespace L2
open PySem PySem.Spec PyProof.Rows
def cf(cells:List (Str×Addr)):List (Str×NameKind)→List (Str×Addr)→List (Str×Addr)
 | [],cs=>cs
 | (n,k)::r,cs=>cf cells r (if(k==NameKind.free)=true then(n,(cells.lookup n).getD 0)::cs else cs)
theorem lq{env:Env}{f:Str×NameKind→List (Str×Addr)→Sem (ForInStep (List (Str×Addr)))}
 (hf1:∀ n k cs c,(k==NameKind.free)=true→env.cells.lookup n=some c→f (n,k) cs=pure (.yield ((n,c)::cs)))
 (hf2:∀ n k cs,(k==NameKind.free)=false→f (n,k) cs=pure (.yield cs)) :
 ∀(names:List (Str×NameKind)) (cs:List (Str×Addr)),(∀ n k,(n,k)∈names→(k==NameKind.free)=true→∃ c,env.cells.lookup n=some c)→
  forIn names cs f=(pure (cf env.cells names cs):Sem (List (Str×Addr)))
 | [],cs,_=>by rw[List.forIn_nil];rfl
 | (n,k)::r,cs,h=>by
   have ih:=fun cs=>lq hf1 hf2 r cs fun m j hm=>h m j (List.mem_cons_of_mem _ hm)
   rw[List.forIn_cons]
   cases e:(k==NameKind.free) with
   | true =>
     obtain⟨c,hc⟩:=h n k List.mem_cons_self e
     rw[hf1 n k cs c e hc,pure_bind]
     show forIn r ((n,c)::cs) f=_
     rw[ih]
     conv=>rhs;unfold cf
     rw[if_pos e,hc]
     rfl
   | false =>
     rw[hf2 n k cs e,pure_bind]
     show forIn r cs f=_
     rw[ih]
     conv=>rhs;unfold cf
     rw[if_neg (by rw[e];exact Bool.false_ne_true)]
theorem gH{scope:Scope}{env:Env}(h:∀ n k,(n,k)∈scope.names→(k==NameKind.free)=true→∃ c,env.cells.lookup n=some c):closureFor scope env=pure (cf env.cells scope.names []):=by
 simp only[closureFor]
 rw[lq (env:=env) ?_ ?_ scope.names [] h]
 ·rfl
 ·intro n k cs c e hc
  show(if(k==NameKind.free)=true then _ else _)=_
  rw[if_pos e]
  unfold cellOf
  rw[hc]
  rfl
 ·intro n k cs e
  show(if(k==NameKind.free)=true then _ else _)=_
  rw[if_neg (by rw[e];exact Bool.false_ne_true)]
theorem fO{cells:List (Str×Addr)}{x:Str}{c:Addr}:∀{names:List (Str×NameKind)} {cs:List (Str×Addr)},(cf cells names cs).lookup x=some c→cs.lookup x=some c∨((x,NameKind.free)∈names∧(cells.lookup x).getD 0=c)
 | [],cs,h=>.inl h
 | (n,k)::r,cs,h=>by
   unfold cf at h
   rcases fO h with q|⟨q1,q2⟩
   ·by_cases e:(k==NameKind.free)=true
    ·rw[if_pos e]at q
     by_cases hx:x=n
     ·subst hx
      rw[List.lookup_cons_self]at q
      have hk:k=NameKind.free:=eq_of_beq e
      exact .inr ⟨by rw[hk];exact List.mem_cons_self,Option.some.inj q⟩
     ·have hb:(x==n)=false:=beq_eq_false_iff_ne.mpr hx
      simp only[List.lookup_cons,hb]at q
      exact .inl q
    ·rw[if_neg e]at q
     exact .inl q
   ·exact .inr ⟨List.mem_cons_of_mem _ q1,q2⟩
theorem fB{cells:List (Str×Addr)}{x:Str}:∀{names:List (Str×NameKind)} {cs:List (Str×Addr)},((x,NameKind.free)∈names∨∃ c,cs.lookup x=some c)→∃ c,(cf cells names cs).lookup x=some c
 | [],cs,h=>by
   rcases h with h|h
   ·cases h
   ·exact h
 | (n,k)::r,cs,h=>by
   unfold cf
   apply fB
   rcases h with h|⟨c,h⟩
   ·rcases List.mem_cons.mp h with h|h
    ·cases h
     right
     rw[if_pos (by rfl)]
     exact⟨_,List.lookup_cons_self⟩
    ·exact .inl h
   ·right
    by_cases e:(k==NameKind.free)=true
    ·rw[if_pos e]
     by_cases hx:x=n
     ·subst hx
      exact⟨_,List.lookup_cons_self⟩
     ·have hb:(x==n)=false:=beq_eq_false_iff_ne.mpr hx
      exact⟨c,by simp only[List.lookup_cons,hb];exact h⟩
    ·rw[if_neg e]
     exact⟨c,h⟩
theorem hU{env:Env}{x:Str}{k:NameKind}:∀{names:List (Str×NameKind)},
 (names.map fun(n,k)=>if(k==NameKind.free&&env.scope.kind == .function&&env.kindOf n==some .cell) then(n,NameKind.cell) else(n,k)).lookup x=some k→
  ∃ k0,names.lookup x=some k0∧(k=k0∨(k0 = .free∧k = .cell))
 | [],h=>by cases h
 | (n,j)::r,h=>by
   have ih:=@hU env x k r
   replace h:List.lookup x ((if(j==NameKind.free&&env.scope.kind == .function&&env.kindOf n==some .cell)=true then(n,NameKind.cell) else(n,j))::_)=some k:=h
   cases hx:x==n with
   | true =>
     by_cases hc:(j==NameKind.free&&env.scope.kind == .function&&env.kindOf n==some .cell)=true
     ·rw[if_pos hc]at h
      simp only[List.lookup_cons,hx]at h ⊢
      have hj:j=NameKind.free:=by
       rw[Bool.and_eq_true,Bool.and_eq_true]at hc
       exact eq_of_beq hc.1.1
      exact⟨j,rfl,.inr ⟨hj,(Option.some.inj h).symm⟩⟩
     ·rw[if_neg hc]at h
      simp only[List.lookup_cons,hx]at h ⊢
      exact⟨j,rfl,.inl (Option.some.inj h).symm⟩
   | false =>
     by_cases hc:(j==NameKind.free&&env.scope.kind == .function&&env.kindOf n==some .cell)=true
     ·rw[if_pos hc]at h
      simp only[List.lookup_cons,hx]at h ⊢
      exact ih h
     ·rw[if_neg hc]at h
      simp only[List.lookup_cons,hx]at h ⊢
      exact ih h
theorem jr{env:Env}{x:Str}:∀{names:List (Str×NameKind)},names.lookup x=some .free→
 (names.map fun(n,k)=>if(k==NameKind.free&&env.scope.kind == .function&&env.kindOf n==some .cell) then(n,NameKind.cell) else(n,k)).lookup x=some .cell∨
 (names.map fun(n,k)=>if(k==NameKind.free&&env.scope.kind == .function&&env.kindOf n==some .cell) then(n,NameKind.cell) else(n,k)).lookup x=some .free
 | [],h=>by cases h
 | (n,j)::r,h=>by
   have ih:=@jr env x r
   show List.lookup x ((if(j==NameKind.free&&env.scope.kind == .function&&env.kindOf n==some .cell)=true then(n,NameKind.cell) else(n,j))::_)=_∨
    List.lookup x ((if(j==NameKind.free&&env.scope.kind == .function&&env.kindOf n==some .cell)=true then(n,NameKind.cell) else(n,j))::_)=_
   cases hx:x==n with
   | true =>
     simp only[List.lookup_cons,hx]at h
     cases h
     by_cases hc:(NameKind.free==NameKind.free&&env.scope.kind == .function&&env.kindOf n==some .cell)=true
     ·rw[if_pos hc]
      simp only[List.lookup_cons,hx]
      exact .inl trivial
     ·rw[if_neg hc]
      simp only[List.lookup_cons,hx]
      exact .inr trivial
   | false =>
     simp only[List.lookup_cons,hx]at h
     by_cases hc:(j==NameKind.free&&env.scope.kind == .function&&env.kindOf n==some .cell)=true
     ·rw[if_pos hc]
      simp only[List.lookup_cons,hx]
      exact ih h
     ·rw[if_neg hc]
      simp only[List.lookup_cons,hx]
      exact ih h
def bO(X:Cx)(N:List Str)(scope:Scope)(xe:Value→Shared→Prop)(C:Addr)(s:Shared)(H:Hp)(fp:List Addr):Cx where
 prog:=X.prog
 w:=X.w
 K:=X.K
 mg:=X.mg
 base:=X.base
 A:=X.A
 N:=N
 s₀:=s
 H₀:=H
 env:=compEnvC scope (cf X.env.cells scope.names []) C X.env
 outer:=X.stack
 stack:=X.stack
 ex:=fp
 fn:=fun _=>false
 calm:=X.calm
 pn:=[]
 xe:=xe
def dv(σ:St)(js:List Nat):St:=js.map fun j=>(σ[j]?).getD none
structure CompText(X:Cx)(scope:Scope)(own frees:List Str)(js:List Nat):Prop where
 kind:scope.kind = .function
 nocell:∀ y∈scope.names,y.2≠.cell
 names:∀ y∈scope.names,y.2 = .local→scope.names.lookup y.1=some .local
 free:∀ y∈scope.names,y.2 = .free→X.env.scope.names.lookup y.1=some .cell∨X.env.scope.names.lookup y.1=some .free
 at_:js.map (fun j=>X.N[j]?)=frees.map some
 fr:∀ x∈frees,scope.names.lookup x=some .free
theorem lV{σ:St}{js:List Nat}{i:Nat}{v:V}(h:(dv σ js)[i]?=some (some v)):∃ j,js[i]?=some j∧σ[j]?=some (some v):=by
 unfold dv at h
 rw[List.getElem?_map]at h
 cases e:js[i]? with
 | none=>rw[e]at h;cases h
 | some j =>
   rw[e]at h
   have h' : (σ[j]?).getD none=some v:=Option.some.inj h
   refine⟨j,rfl,?_⟩
   cases q:σ[j]? with
   | none=>rw[q]at h';cases h'
   | some o=>rw[q]at h';rw[show o=some v from h']
section
variable {X:Cx}
theorem dw{pins:List (Addr×Obj)}{σ:St}{H:Hp}{s:Shared}{scope:Scope}{own frees:List Str}{js:List Nat}(I:Inv X pins σ H s)(T:CompText X scope own frees js):
 ∀ n k,(n,k)∈scope.names→(k==NameKind.free)=true→∃ c,X.env.cells.lookup n=some c:=fun n k hm e=>by
 have hk:k=NameKind.free:=eq_of_beq e
 exact I.ok.has n (T.free (n,k) hm hk)
theorem vO{pins:List (Addr×Obj)}{σ:St}{H:Hp}{s:Shared}{scope:Scope}{own frees:List Str}{js:List Nat}{fp:List Addr}{D C:Addr}{h1:Heap}{t1:Nat}{m:Str→Option Value}{xe:Value→Shared→Prop}
 (I:Inv X pins σ H s) (T:CompText X scope own frees js) (hf:∀ b∈fp,iU X pins H b) (hfo:∀ b∈fp,∃ o,s.heap.get? b=some o) (hD:s.heap.objs.size≤D) (hC:s.heap.objs.size≤C) (hDC:D≠C)
 (old:∀ b o,s.heap.get? b=some o→h1.get? b=some o) (hl:h1.get? D=some { cls:=.type "list",data:=.seq ([]:List Value).toArray 0}) (hn:h1.Ns C m) :
 Inv (bO X (own++frees) scope xe C s H fp) [] (List.replicate own.length none++dv σ js) (upd H D (.lst [])) { s with heap:=h1,toks:=t1}:=by
 have cells:∀ x c,(cf X.env.cells scope.names []).lookup x=some c→X.env.cells.lookup x=some c:=fun x c h=>by
  rcases fO h with q|⟨q1,q2⟩
  ·cases q
  ·obtain⟨c',hc'⟩:=dw I T x .free q1 rfl
   rw[hc']at q2
   rw[hc']
   exact congrArg some q2
 have lt_of:∀ b o,s.heap.get? b=some o→b<s.heap.objs.size:=fun b o e=>Heap.lt_size e
 have hcl:∀ x c,X.env.cells.lookup x=some c→c<s.heap.objs.size:=fun x c e=>by
  obtain⟨v,q⟩:=I.cell x c e
  exact q.lt
 have frlt:∀ b∈frs X.stack,b<s.heap.objs.size:=fun b hb=>by
  obtain⟨_,o,ho,_⟩:=I.stack.mem hb
  exact Heap.lt_size ho
 have hHD:H D=none:=I.hok.fresh hD
 have hHC:H C=none:=I.hok.fresh hC
 refine⟨⟨I.ok.mod,T.kind,I.ok.glob,I.ok.blt,hC,fun x y c a b=>I.ok.inj x y c (cells x c a) (cells y c b),fun x hx=>?_,fun x c z _=>(nomatch z),I.ok.hd,I.ok.frames,.inl rfl,fun b hb=>⟨?_,fun x c e z=>?_⟩,
  fun b o e=>I.bs b o e,Nat.le_trans I.ok.bsz I.sz,fun b o e hb=>?_,fun b hb z=>?_,I.stack,I.stkFree⟩,
  rfl,I.bare,Un.laid old hD hHD,⟨m,hn,fun i x v e1 e2 e3=>?_⟩,fun x c e=>?_,?_,fun x c e=>?_,fun p hp=>absurd (show p∈([]:List (Addr×Obj)) from hp) (by simp),?_,?_⟩
 ·
  have hx:(relabel scope X.env).names.lookup x=some .cell∨(relabel scope X.env).names.lookup x=some .free:=hx
  have hf0:(x,NameKind.free)∈scope.names:=by
   rcases hx with hx|hx
   ·obtain⟨k0,q,r⟩:=hU hx
    have hm:=PySem.mem_of_lookup q
    rcases r with r|⟨r,_⟩
    ·exact absurd r.symm (T.nocell _ hm)
    ·rw[r]at hm;exact hm
   ·obtain⟨k0,q,r⟩:=hU hx
    have hm:=PySem.mem_of_lookup q
    rcases r with r|⟨_,r⟩
    ·rw[← r]at hm;exact hm
    ·cases r
  exact fB (.inl hf0)
 ·
  obtain⟨o,ho⟩:=hfo b hb
  exact Nat.ne_of_lt (Nat.lt_of_lt_of_le (lt_of b o ho) hC)
 ·exact(hf b hb).2.2.2.2.1 x c (cells x c e) z
 ·
  obtain⟨_,_,_,f3,_,_⟩:=hf b hb
  rcases f3 with z|z
  ·exact I.ok.noex b o e z
  ·exact absurd (Nat.lt_of_lt_of_le (Heap.lt_size (I.ok.bs b o e).1) z) (Nat.lt_irrefl _)
 ·
  obtain⟨_,f1,f2,_⟩:=hf b hb
  rcases List.mem_cons.mp (I.stkSub b z) with q|q
  ·exact f1 q
  ·exact f2 q
 ·
  by_cases hi:i<own.length
  ·rw[List.getElem?_append_left (by simpa using hi),List.getElem?_replicate,if_pos hi]at e2
   cases e2
  ·rw[List.getElem?_append_right (by simpa using hi),List.length_replicate]at e2
   replace e1:(own++frees)[i]?=some x:=e1
   rw[List.getElem?_append_right (by omega)]at e1
   obtain⟨j,hj,hσ⟩:=lV e2
   have hN:X.N[j]?=some x:=by
    have q:=congrArg (fun l=>l[i-own.length]?) T.at_
    simp only[List.getElem?_map,hj,e1,Option.map_some]at q
    exact Option.some.inj q
   have hfx:=T.fr x (List.mem_of_getElem? e1)
   have hm:=PySem.mem_of_lookup hfx
   have hk:=T.free (x,.free) hm rfl
   obtain⟨m0,hn0,hl0⟩:=I.loc
   obtain⟨u,r,l⟩:=hl0 j x v hN hσ (by rcases hk with k|k;exact .inr (.inl k);exact .inr (.inr k))
   refine⟨u,r,.inr ⟨jr hfx,?_⟩⟩
   rcases l with⟨hkl,_⟩|⟨_,c,hc,hcell⟩
   ·have hkl:X.env.scope.names.lookup x=some .local:=hkl
    rcases hk with k|k<;>(rw[hkl]at k;cases k)
   ·obtain⟨c',hc'⟩:=fB (cells:=X.env.cells) (names:=scope.names) (cs:=[]) (x:=x) (.inl hm)
    have q:=cells x c' hc'
    rw[hc]at q
    cases q
    exact⟨c,hc',hcell.keeps old⟩
 ·
  obtain⟨v,q⟩:=I.cell x c (cells x c e)
  exact⟨v,q.keeps old⟩
 ·
  show upd H D (.lst []) C=none
  rw[ak (Ne.symm hDC)]
  exact hHC
 ·show upd H D (.lst []) c=none
  have e:=cells x c e
  rw[ak (Nat.ne_of_lt (Nat.lt_of_lt_of_le (hcl x c e) hD))]
  exact I.freeC x c e
 ·exact I.hok.laid old hD ⟨Nat.zero_le _,[],0,.nil,hl⟩
 ·show _=(own++frees).length
  have q:=congrArg List.length T.at_
  rw[List.length_map,List.length_map]at q
  rw[List.length_append,List.length_append,List.length_replicate]
  unfold dv
  rw[List.length_map,q]
theorem fV{pins:List (Addr×Obj)}{σ σ' : St}{H H' : Hp}{s s' : Shared}{scope:Scope}{N:List Str}{fp:List Addr}{C:Addr}{h' : Heap}{xe:Value→Shared→Prop}
 (I:Inv X pins σ H s) (hf:∀ b∈fp,iU X pins H b) (hC:s.heap.objs.size≤C) (J:Inv (bO X N scope xe C s H fp) [] σ' H' s') (sb:Heap.SameBut C s'.heap h'):Inv X pins σ H' { s' with heap:=h'}:=by
 have hHC:H' C=none:=J.free
 refine I.call' (ch:=fp) J.os ?_ ?_ J.bare (fun b hb=>?_)
 ·have u:Un (frs X.stack) fp H H' s.heap s'.heap:=J.base
  have ne:∀ b o,s.heap.get? b=some o→b≠C:=fun b o e=>Nat.ne_of_lt (Nat.lt_of_lt_of_le (Heap.lt_size e) hC)
  refine⟨fun b o e n hb hx=>(sb.2 b (ne b o e)).trans (u.keep b o e n hb hx),fun b o e n hb hx=>?_,u.free,fun b o e hx=>?_,u.tups,u.frzs,u.tbls⟩
  ·obtain⟨sl,q⟩:=u.slot b o e n hb hx
   exact⟨sl,(sb.2 b (ne b o e)).trans q⟩
  ·obtain⟨o',q⟩:=u.there b o e hx
   exact⟨o',(sb.2 b (ne b o e)).trans q⟩
 ·intro b ob e
  refine(J.hok b ob e).stay (fun c w' hc q=>(sb.2 c ?_).trans q) (fun _ q=>q) fun _ _ q=>q
  rintro rfl
  rcases hc with rfl|hc
  ·rw[hHC]at e;cases e
  ·rw[hHC]at hc;cases hc
 ·obtain⟨_,f1,_,f3,f4,f5⟩:=hf b hb
  exact⟨f3,f1,f4,f5⟩
end
section
variable {prog:Program}{w:World}{A:Around}{R:Result→Shared→Prop}{s:Shared}
abbrev tZ(ifs:List Expr)(env:Env):Sem Bool:=forIn ifs true fun c r=>if r=true then do let ok←isTrue c env (eval c env);pure (ForInStep.yield ok) else pure (ForInStep.yield r)
theorem pL{elt target iter:Expr}{ifs:List Expr}{scope:Scope}{pos:Pos}{it acc:Value}{env:Env}(I:Nat→Shared→Prop)
 (turn:∀ n s,I n s→wpAny (model prog w) A (pyNext it) (fun r s₁=>match r with
  | none=>R (.ok .next) s₁
  | some v=>wpAny (model prog w) A (letOwnedTupleGo target it v) (fun _ s₀=>wpAny (model prog w) A (assign target env v) (fun _ s₂ =>
   wpAny (model prog w) A (tZ ifs env) (fun ok s₃ =>
    if ok=true then wpAny (model prog w) A (eval elt env) (fun x s₄ =>
     wpAny (model prog w) A (call (.builtin "list.append") [acc,x]) (fun _ s₅=>∃ m,m<n∧I m s₅) (notedBy (model prog w) A env fun e s'=>R (.error e) s') s₄) (notedBy (model prog w) A env fun e s'=>R (.error e) s') s₃
    else ∃ m,m<n∧I m s₃) (notedBy (model prog w) A env fun e s'=>R (.error e) s') s₂) (notedBy (model prog w) A env fun e s'=>R (.error e) s') s₀) (notedBy (model prog w) A env fun e s'=>R (.error e) s') s₁) (notedBy (model prog w) A env fun e s'=>R (.error e) s') s)
 (n:Nat) (h:I n s) :
 codeAny (model prog w) A (.compLoop (.ListComp elt [⟨target,iter,ifs,0⟩] scope pos) 0 it acc env) R s:=by
 refine codeAny_loop rfl I (fun n s hI=>?_) n h
 show wpAny _ A ((compTurn (.ListComp elt [⟨target,iter,ifs,0⟩] scope pos) 0 it acc env).onRaise (fun x=>do noteFrame x env;theTreesLotGoes x)) _ _ s
 refine wpAny_noted ?_
 rw[compTurn_list]
 refine wpAny_bind (wpAny_standAt (wpAny_bind (wpAny_mono (turn n s hI) (fun r s₁ h₁=>?_) fun _ _ h'=>h')))
 cases r with
 | none=>exact wpAny_pure h₁
 | some v =>
   refine wpAny_bind (wpAny_mono h₁ (fun _ s₀ h₀=>?_) fun _ _ h'=>h')
   refine wpAny_bind (wpAny_mono h₀ (fun _ s₂ h₂=>wpAny_bind (wpAny_mono h₂ (fun ok s₃ h₃=>?_) fun _ _ h'=>h')) fun _ _ h'=>h')
   cases ok with
   | false=>exact wpAny_pure ⟨rfl,h₃⟩
   | true =>
     exact wpAny_bind (wpAny_bind (wpAny_mono h₃ (fun x s₄ h₄=>wpAny_bind (wpAny_mono h₄ (fun _ s₅ h₅=>wpAny_pure (wpAny_pure ⟨rfl,h₅⟩)) fun _ _ h'=>h')) fun _ _ h'=>h'))
end
def PTs(X:Cx)(ifs:List Expr)(t:TT):Prop :=
 ∀(pins:List (Addr×Obj)) (s:Shared) (σ:St) (H:Hp) (Q:Bool→Hp→Prop),Inv X pins σ H s→t σ H Q→wpAny (model X.prog X.w) X.A (tZ ifs X.env) (TP X pins σ Q) X.xe s
def aaC:TT:=fun _ H Q=>Q true H
theorem dk{X:Cx}:PTs X [] aaC:=fun _ _ _ H _ I h=>wpAny_tests_nil ⟨H,I,h⟩
theorem eC{X:Cx}{c:Expr}{t:TT}(h:PT X c t):PTs X [c] t:=fun pins s σ H Q I q=>wpAny_tests_one (h pins s σ H Q I q)
def ft(J:It)(g:TG)(tt:TT)(te:TE)(n:Nat)(fr:St)(D:Addr)(Q:Hp→Prop)(H1:Hp):Prop :=
 ∃ W:Nat→Nat→List V→Hp→Prop,(∃ m,W 0 m [] H1)∧∀ i m acc H,W i m acc H→H D=some (.lst acc)∧
   ((J.stop i H∧Q H)∨(J.go i H∧acc.length<sizeLine∧∃ N:List V→Hp→Prop,(∀ acc' H',N acc' H'→∃ m',m'<m∧W (i+1) m' acc' H')∧
     ∀ x H',J.yld i H x H'→g x (List.replicate n none++fr) H' fun σ2 H2=>σ2.drop n=fr∧tt σ2 H2 fun b H3 =>
     if b=true then te σ2 H3 fun v H4=>H4 D=some (.lst acc)∧N (acc++[v]) (upd H4 D (.lst (acc++[v])))
     else N acc H3))
def wx(wi:TI)(g:TG)(tt:TT)(te:TE)(n:Nat)(js:List Nat):TE:=fun σ H Q=>wi σ H fun J H1=>∀ D,H1 D=none→ft J g tt te n (dv σ js) D (fun H2=>Q (.ref D) H2) (upd H1 D (.lst []))
structure TurnX(A:Around)(cm:Bool)(P:Program)(w:World)(K:PySem.W.Frag)(tg:Expr)(J:It)(fp:List Addr)(it:Addr)(tn:Nat→Heap→Prop):Prop where
 mem:it∈fp
 obj:∀ i h,tn i h→∀ b∈fp,∃ o,h.get? b=some o∧∀ v,o.data≠.cell v
 keep:∀ i h h',tn i h→(∀ b∈fp,∀ o,h.get? b=some o→h'.get? b=some o)→tn i h'
 item:∀(X:Cx),X.prog=P→X.w=w→X.K=K→X.A=A→X.calm=cm→∀(i:Nat) (pins:List (Addr×Obj)) (s:Shared) (σ:St) (H:Hp) (E:Value→Shared→Prop),Inv X pins σ H s→(∀ b∈fp,iU X pins H b)→tn i s.heap→J.go i H→
  wpAny (model P w) X.A (pyNext (.ref it)) (fun r s1=>∃ u,r=some u∧
   wpAny (model P w) X.A (letOwnedTupleGo tg (.ref it) u) (fun _ s2=>∃ x H',Inv X pins σ H' s2∧aN x u∧J.yld i H x H'∧tn (i+1) s2.heap∧∀ b∈fp,H' b=none) E s1) E s
 done:∀(X:Cx),X.prog=P→X.w=w→X.K=K→X.A=A→X.calm=cm→∀(i:Nat) (pins:List (Addr×Obj)) (s:Shared) (σ:St) (H:Hp) (E:Value→Shared→Prop),Inv X pins σ H s→(∀ b∈fp,iU X pins H b)→tn i s.heap→J.stop i H→
  wpAny (model P w) X.A (pyNext (.ref it)) (fun r s1=>r=none∧Inv X pins σ H s1) E s
 self:∀(A:Around) (i:Nat) (s:Shared) (Q:Value→Shared→Prop) (E:Value→Shared→Prop),tn i s.heap→Q (.ref it) s→wpAny (model P w) A (pyIter (.ref it)) Q E s
theorem Turn.x{A:Around}{cm:Bool}{P:Program}{w:World}{K:PySem.W.Frag}{tg:Expr}{J:It}{fp:List Addr}{it:Addr}{tn:Nat→Heap→Prop}(T:Turn P w K tg J fp it tn)(hc:cm=true):TurnX A cm P w K tg J fp it tn :=
 ⟨T.mem,T.obj,T.keep,fun X a b c _ d=>T.item X a b c (d.trans hc),fun X a b c _ d=>T.done X a b c (d.trans hc),T.self⟩
section
variable {X:Cx}{elt iter tg:Expr}{ifs:List Expr}{scope:Scope}{pos:Pos}{own frees:List Str}{js:List Nat}{wi:TI}{g:TG}{tt:TT}{te:TE}
theorem jn{pins:List (Addr×Obj)}{σ:St}{H2:Hp}{s2:Shared}{it:Addr}{fp:List Addr}{tn:Nat→Heap→Prop}{J:It}{E:Value→Shared→Prop}{RR:Value→Addr→Result→Shared→Prop}{QQ:Addr→Hp→Prop}
 (T:CompText X scope own frees js)
 (hg:∀ C s H fp,PG (bO X (own++frees) scope (fun _ _=>False) C s H fp) tg g)
 (ht:∀ C s H fp,PTs (bO X (own++frees) scope (fun _ _=>False) C s H fp) ifs tt)
 (he:∀ C s H fp,PE (bO X (own++frees) scope (fun _ _=>False) C s H fp) elt te)
 (I2:Inv X pins σ H2 s2) (TT' : TurnX X.A X.calm X.prog X.w X.K tg J fp it tn) (st2:tn 0 s2.heap) (f2:∀ b∈fp,iU X pins H2 b)
 (hl:∀ D,H2 D=none→ft J g tt te own.length (dv σ js) D (QQ D) (upd H2 D (.lst [])))
 (hRR:∀ D C σ' H' s',s2.heap.objs.size≤C→Inv (bO X (own++frees) scope (fun _ _=>False) C s2 H2 fp) [] σ' H' s'→QQ D H'→RR (.ref D) C (.ok .next) s') :
 wpAny (model X.prog X.w) X.A (newList []) (fun acc s₃=>wpAny (model X.prog X.w) X.A (newFunctionEnv scope X.env.globals (cf X.env.cells scope.names []) [] X.env.qual none .none (some X.env)) (fun cenv s₄ =>
  codeAny (model X.prog X.w) X.A (.compStart (.ListComp elt [⟨tg,iter,ifs,0⟩] scope pos) 0 (.ref it) acc { cenv with scope:=relabel scope X.env}) (RR acc cenv.locals) s₄) E s₃) E s2:=by
 refine wpAny_newObj_type (wpAny_newFunctionEnv T.nocell (by intro y hy;simp at hy) (fun h₁ hns₁ hsb₁=>?_) T.kind)
 dsimp only at hns₁ hsb₁ ⊢
 generalize hH2:s2.heap.push { cls:=.type "list",dict:=none,data:=.seq ([]:List Value).toArray}=G2 at hns₁ hsb₁ ⊢
 have hC:G2.objs.size=s2.heap.objs.size+1:=by rw[← hH2,Heap.size_push]
 have hDC:s2.heap.objs.size≠G2.objs.size:=by rw[hC];exact Nat.ne_of_lt (Nat.lt_succ_self _)
 have hCle:s2.heap.objs.size≤G2.objs.size:=by rw[hC];exact Nat.le_succ _
 have below:∀ b,b<s2.heap.objs.size→b≠G2.objs.size:=fun b hb=>by rw[hC];exact Nat.ne_of_lt (Nat.lt_succ_of_lt hb)
 have old:∀ b o,s2.heap.get? b=some o→h₁.get? b=some o:=fun b o e=>hsb₁.extBut b o (below b (Heap.lt_size e)) (Heap.get?_push_of_some _ (hH2▸Heap.get?_push_of_some _ e))
 have hacc:h₁.get? s2.heap.objs.size=some { cls:=.type "list",data:=.seq ([]:List Value).toArray 0}:=hsb₁.extBut _ _ hDC (Heap.get?_push_of_some _ (hH2▸Heap.get?_push_size _ rfl))
 have fpo:∀ b∈fp,∃ o,s2.heap.get? b=some o:=fun b hb=>let⟨o,e,_⟩:=TT'.obj _ _ st2 b hb;⟨o,e⟩
 have st1:tn 0 h₁:=TT'.keep _ _ _ st2 fun b _ o e=>old b o e
 obtain⟨W,⟨m0,w0⟩,turn⟩:=hl s2.heap.objs.size (I2.hok.fresh (Nat.le_refl _))
 have hfx:∀{H' : Hp},(∀ b∈fp,H' b=none)→∀ b∈fp,iU (bO X (own++frees) scope (fun _ _=>False) G2.objs.size s2 H2 fp) [] H' b:=fun {H'} hn b hb=>by
  obtain⟨_,f1,f2',_,f4,_⟩:=f2 b hb
  obtain⟨o,ho⟩:=fpo b hb
  refine⟨hn b hb,below b (Heap.lt_size ho),fun z=>?_,.inl hb,fun x c e=>?_,fun p hp=>absurd (show p∈([]:List (Addr×Obj)) from hp) (by simp)⟩
  ·rcases List.mem_cons.mp (I2.stkSub b z) with q|q
   ·exact f1 q
   ·exact f2' q
  ·rcases fO (show(cf X.env.cells scope.names []).lookup x=some c from e) with q|⟨q1,q2⟩
   ·cases q
   ·obtain⟨c',hc'⟩:=dw I2 T x .free q1 rfl
    rw[hc']at q2
    have q2:c' = c:=q2
    rw[← q2]
    exact f4 x c' hc'
 have fp0:∀ b∈fp,upd H2 s2.heap.objs.size (.lst []) b=none:=fun b hb=>by
  obtain⟨o,ho⟩:=fpo b hb
  rw[ak (Nat.ne_of_lt (Heap.lt_size ho))]
  exact(f2 b hb).1
 have back:∀{σ6:St} {p6:List (Addr×Obj)} {H6:Hp} {s6:Shared},Inv (bO X (own++frees) scope (fun _ _=>False) G2.objs.size s2 H2 fp) p6 σ6 H6 s6→σ6.drop own.length=dv σ js→
  Inv (bO X (own++frees) scope (fun _ _=>False) G2.objs.size s2 H2 fp) [] (List.replicate own.length none++dv σ js) H6 s6:=fun {σ6 p6 H6 s6} I6 hd=>by
  have hl6:σ6.length=(own++frees).length:=I6.len
  have J6:=I6.pins_of (pins':=[]) fun p hp=>absurd hp (by simp)
  refine J6.weak ?_ fun i v e=>?_
  ·have q:=congrArg List.length hd
   rw[List.length_drop]at q
   rw[List.length_append]at hl6
   rw[List.length_append,List.length_replicate]
   omega
  ·by_cases hi:i<own.length
   ·rw[List.getElem?_append_left (by simpa using hi),List.getElem?_replicate,if_pos hi]at e
    cases e
   ·rw[List.getElem?_append_right (by simpa using hi),List.length_replicate,← hd,List.getElem?_drop]at e
    rw[show own.length+(i-own.length)=i by omega]at e
    exact e
 have loop:∀ s₃:Shared,s₃={ s2 with heap:=h₁,toks:=s2.toks+([]:List (Str×Value)).length}→
  codeAny (model X.prog X.w) X.A (.compLoop (.ListComp elt [⟨tg,iter,ifs,0⟩] scope pos) 0 (.ref it) (.ref s2.heap.objs.size) (compEnvC scope (cf X.env.cells scope.names []) G2.objs.size X.env))
   (RR (.ref s2.heap.objs.size) G2.objs.size) s₃:=by
  rintro s₃ rfl
  refine pL (fun n s'=>∃ i acc H',Inv (bO X (own++frees) scope (fun _ _=>False) G2.objs.size s2 H2 fp) [] (List.replicate own.length none++dv σ js) H' s'∧tn i s'.heap∧(∀ b∈fp,H' b=none)∧W i n acc H') ?_ m0
   ⟨0,[],upd H2 s2.heap.objs.size (.lst []),vO I2 T f2 fpo (Nat.le_refl _) hCle hDC old hacc hns₁,st1,fp0,w0⟩
  rintro n s3 ⟨i,acc,H3,I3,st3,fr3,w3⟩
  obtain⟨hD3,hcase⟩:=turn i n acc H3 w3
  rcases hcase with⟨stop,qn⟩|⟨go,hz,NN,hNN,step⟩
  ·refine wpAny_mono (TT'.done (bO X (own++frees) scope (fun _ _=>False) G2.objs.size s2 H2 fp) rfl rfl rfl rfl rfl i [] s3 _ H3 (fun _ _=>False) I3 (hfx fr3) st3 stop) (fun r s4 ⟨hr,I4⟩=>?_) fun _ _ z=>z.elim
   subst hr
   exact hRR _ _ _ H3 s4 hCle I4 qn
  ·refine wpAny_mono (TT'.item (bO X (own++frees) scope (fun _ _=>False) G2.objs.size s2 H2 fp) rfl rfl rfl rfl rfl i [] s3 _ H3 (fun _ _=>False) I3 (hfx fr3) st3 go) (fun r s4 ⟨u,hr,h4⟩=>?_) fun _ _ z=>z.elim
   subst hr
   refine wpAny_mono h4 (fun _ s5 ⟨x,H5,I5,r5,y5,st5,fr5⟩=>?_) fun _ _ z=>z.elim
   have I5':=I5.pinned (hfx fr5) (TT'.obj _ _ st5)
   refine wpAny_mono (hg _ _ _ _ _ s5 _ H5 x u _ I5' r5 (step x H5 y5)) (fun _ s6 ⟨σ6,H6,I6,hd6,q6⟩=>?_) fun _ _ z=>z.elim
   refine wpAny_mono (ht _ _ _ _ _ s6 σ6 H6 _ I6 q6) (fun ok s7 ⟨H7,I7,q7⟩=>?_) fun _ _ z=>z.elim
   have again:∀{H8:Hp} {s8:Shared},Inv (bO X (own++frees) scope (fun _ _=>False) G2.objs.size s2 H2 fp) ([]++kq fp s5.heap) σ6 H8 s8→tn (i+1) s8.heap∧∀ b∈fp,H8 b=none:=fun {H8 s8} I8=>by
    refine⟨TT'.keep _ _ _ st5 fun b hb o e=>(I8.pin (b,o) (List.mem_append_right _ (List.mem_append_right _ (eo hb e)))).1,fun b hb=>?_⟩
    obtain⟨o,e,d⟩:=TT'.obj _ _ st5 b hb
    exact(I8.pin (b,o) (List.mem_append_right _ (List.mem_append_right _ (eo hb e)))).2.1
   cases ok with
   | false =>
     rw[if_neg Bool.false_ne_true]
     obtain⟨m',hm,w7⟩:=hNN _ _ q7
     obtain⟨t7,n7⟩:=again I7
     exact⟨m',hm,i+1,acc,H7,back I7 hd6,t7,n7,w7⟩
   | true =>
     rw[if_pos rfl]
     refine wpAny_mono (he _ _ _ _ _ s7 σ6 H7 _ I7 q7) (fun xv s8 ⟨v,H8,I8,r8,hD8,q8⟩=>?_) fun _ _ z=>z.elim
     obtain⟨m',hm,w8⟩:=hNN _ _ q8
     refine wpAny_mono (cV (X:=bO X (own++frees) scope (fun _ _=>False) G2.objs.size s2 H2 fp) _ s8 σ6 H8 (.ref s2.heap.objs.size) [v] (.ref s2.heap.objs.size) [xv] (fun y H9=>y = .non∧H9=upd H8 s2.heap.objs.size (.lst (acc++[v]))) I8 rfl (.cons r8 .nil) ⟨_,acc,v,rfl,rfl,hD8,hz,rfl,rfl⟩)
      (fun _ s9 ⟨y,H9,I9,_,_,e9⟩=>?_) fun _ _ z=>z.elim
     subst e9
     obtain⟨t9,n9⟩:=again I9
     exact⟨m',hm,i+1,acc++[v],_,back I9 hd6,t9,n9,w8⟩
 exact codeAny_compStart_list (loop _ rfl) (TT'.self _ 0 _ _ _ st1 (loop _ rfl))
theorem dr(T:CompText X scope own frees js)(hc:X.calm=true)(hi:PI X tg iter wi)
 (hg:∀ C s H fp,PG (bO X (own++frees) scope (fun _ _=>False) C s H fp) tg g)
 (ht:∀ C s H fp,PTs (bO X (own++frees) scope (fun _ _=>False) C s H fp) ifs tt)
 (he:∀ C s H fp,PE (bO X (own++frees) scope (fun _ _=>False) C s H fp) elt te)
 (hs:∀ x,foldedSetIterable iter X.env x=pure x:=by intro _;rfl) :
 PE X (.ListComp elt [⟨tg,iter,ifs,0⟩] scope pos) (wx wi g tt te own.length js):=by
 intro pins s σ H Q I h
 rw[eval_ListComp]
 refine wpAny_comprehension_free (use:=none) rfl hs (gH (dw I T)) T.kind T.names ?_
 refine wpAny_mono (hi pins s σ H _ I h) (fun v s1 h1=>wpAny_mono h1 (fun itv s2 h2=>?_) fun _ _ z=>z) fun _ _ z=>z
 obtain⟨it,fp,tn,J,H2,e,I2,TT',st2,f2,hl⟩:=h2
 subst e
 refine jn (QQ:=fun D H'=>Q (.ref D) H') T hg ht he I2 (TT'.x hc) st2 f2 hl fun D C σ' H' s' hC J' q=>?_
 obtain⟨m,hn,_⟩:=J'.loc
 exact⟨m,hn,fun h' sb=>⟨.ref D,H',fV I2 f2 hC J' sb,rfl,q⟩⟩
def PIX(X:Cx)(tg iter:Expr)(wi:TI):Prop:=∀(pins:List (Addr×Obj)) (s:Shared) (σ:St) (H:Hp) (R:It→Hp→Prop),Inv X pins σ H s→wi σ H R→
 wpAny (model X.prog X.w) X.A (eval iter X.env) (fun v s1=>wpAny (model X.prog X.w) X.A (pyIter v) (fun itv s2=>∃(it:Addr) (fp:List Addr) (tn:Nat→Heap→Prop) (J:It) (H' : Hp),itv = .ref it∧Inv X pins σ H' s2∧TurnX X.A X.calm X.prog X.w X.K tg J fp it tn∧tn 0 s2.heap∧(∀ b∈fp,iU X pins H' b)∧R J H') X.xe s1) X.xe s
theorem vP(T:CompText X scope own frees js)(hi:PIX X tg iter wi)
 (hg:∀ C s H fp,PG (bO X (own++frees) scope (fun _ _=>False) C s H fp) tg g)
 (ht:∀ C s H fp,PTs (bO X (own++frees) scope (fun _ _=>False) C s H fp) ifs tt)
 (he:∀ C s H fp,PE (bO X (own++frees) scope (fun _ _=>False) C s H fp) elt te)
 (hs:∀ x,foldedSetIterable iter X.env x=pure x:=by intro _;rfl) :
 PE X (.ListComp elt [⟨tg,iter,ifs,0⟩] scope pos) (wx wi g tt te own.length js):=by
 intro pins s σ H Q I h
 rw[eval_ListComp]
 refine wpAny_comprehension_free (use:=none) rfl hs (gH (dw I T)) T.kind T.names ?_
 refine wpAny_mono (hi pins s σ H _ I h) (fun v s1 h1=>wpAny_mono h1 (fun itv s2 h2=>?_) fun _ _ z=>z) fun _ _ z=>z
 obtain⟨it,fp,tn,J,H2,e,I2,TT',st2,f2,hl⟩:=h2
 subst e
 refine jn (QQ:=fun D H'=>Q (.ref D) H') T hg ht he I2 TT' st2 f2 hl fun D C σ' H' s' hC J' q=>?_
 obtain⟨m,hn,_⟩:=J'.loc
 exact⟨m,hn,fun h' sb=>⟨.ref D,H',fV I2 f2 hC J' sb,rfl,q⟩⟩
def vH(i:Nat)(wi:TI)(g:TG)(tt:TT)(te:TE)(n:Nat)(js:List Nat):TS:=fun D σ H=>wx wi g tt te n js σ H fun v H1=>D.nx (σ.set i (some v)) H1
theorem e8{i:Nat}{x:Str}{pos' spos:Pos}(hN:X.N.Nodup)(hix:X.N[i]?=some x)(hx:X.env.scope.names.lookup x=some .local)(T:CompText X scope own frees js)(hc:X.calm=true)(hi:PI X tg iter wi)
 (hg:∀ C s H fp,PG (bO X (own++frees) scope (fun _ _=>False) C s H fp) tg g)
 (ht:∀ C s H fp,PTs (bO X (own++frees) scope (fun _ _=>False) C s H fp) ifs tt)
 (he:∀ C s H fp,PE (bO X (own++frees) scope (fun _ _=>False) C s H fp) elt te)
 (hsw:swapsWith (.ListComp elt [⟨tg,iter,ifs,0⟩] scope pos) (some (.Name x pos')) spos.line X.env=pure true:=by rfl)
 (hs:∀ x,foldedSetIterable iter X.env x=pure x:=by intro _;rfl) :
 PS X (.Assign [.Name x pos'] (.ListComp elt [⟨tg,iter,ifs,0⟩] scope pos) spos) (vH i wi g tt te own.length js):=by
 intro pins s σ H D I h
 rw[exec_Assign_Name_used _ _ _ _ hsw]
 refine wpAny_bind (wpAny_standAt (wpAny_bind ?_))
 show wpAny _ X.A (do let _←comprehension (.ListComp elt [⟨tg,iter,ifs,0⟩] scope pos) scope X.env _ (newList []) false (eval iter X.env) (some (assign (.Name x pos') X.env))) _ _ s
 refine wpAny_bind (wpAny_mono (wpAny_comprehension_free (use:=some (assign (.Name x pos') X.env)) (Q:=fun _ s'=>SP X pins D .next s') rfl hs (gH (dw I T)) T.kind T.names ?_) (fun _ s' hq=>wpAny_pure (wpAny_pure hq)) fun _ _ e=>e)
 refine wpAny_mono (hi pins s σ H _ I h) (fun v s1 h1=>wpAny_mono h1 (fun itv s2 h2=>?_) fun _ _ z=>z) fun _ _ z=>z
 obtain⟨it,fp,tn,J,H2,e,I2,TT',st2,f2,hl⟩:=h2
 subst e
 refine jn (QQ:=fun D' H'=>D.nx (σ.set i (some (.ref D'))) H') T hg ht he I2 (TT'.x hc) st2 f2 hl fun D' C σ' H' s' hC J' q=>?_
 have I3:Inv X pins σ H' s':=by
  obtain⟨hh,gg,dd,tt',oo⟩:=s'
  exact fV I2 f2 hC J' (Heap.SameBut.refl ..)
 obtain⟨m,hn,_⟩:=J'.loc
 obtain⟨oC,es,ep,hoC,hdC,rest⟩:=id hn
 have hHC:H' C=none:=J'.free
 have hlC:C≠X.env.locals:=Nat.ne_of_gt (Nat.lt_of_lt_of_le I2.lt hC)
 have hfC:C∉X.fs:=fun z=>by
  obtain⟨_,o,ho,_⟩:=I2.funs.mem z
  exact absurd (Nat.lt_of_lt_of_le (Heap.lt_size ho) hC) (Nat.lt_irrefl _)
 have I4:Inv X (pins++[(C,oC)]) σ H' s':=I3.pins_of fun p hp=>(List.mem_append.mp hp).elim (fun z=>I3.pin p (List.mem_append_right _ z)) fun z=>by
  have e:p=(C,oC):=by simpa using z
  subst e
  exact⟨hoC,hHC,hlC,hfC,fun v z=>by have z' : oC.data = .cell v:=z;rw[hdC]at z';cases z'⟩
 show wpAny _ X.A (assign (.Name x pos') X.env (.ref D')) _ _ _
 refine wpAny_assign_Name (im (v:=.ref D') I4 hN hix (.inl hx) rfl (fun s5 I5=>?_) (.inr hx))
 have e5:s5.heap.get? C=some oC:=(I5.pin (C,oC) (List.mem_append_right _ (List.mem_append_right _ (by simp)))).1
 refine⟨m,⟨oC,es,ep,e5,hdC,rest⟩,fun h' sb=>⟨_,H',?_,q⟩⟩
 have I6:Inv X pins (σ.set i (some (.ref D'))) H' s5:=I5.unpinned
 refine I6.turned (t':=s5.toks) (fun b o hb e=>(sb.2 b hb).trans e) hHC hlC (.inr (Nat.le_trans I2.sz hC)) (fun y c e=>?_) (fun p hp z=>?_)
 ·obtain⟨v,qc⟩:=I2.cell y c e
  exact Nat.ne_of_lt (Nat.lt_of_lt_of_le qc.lt hC)
 ·have hp2:=(I2.pin p hp).1
  exact absurd (Nat.lt_of_lt_of_le (Heap.lt_size hp2) (by rw[z];exact hC)) (Nat.lt_irrefl _)
end
section
variable {K:PySem.W.Frag}{a:Addr}{xs:List V}{g:TG}{tt:TT}{te:TE}{n:Nat}{fr:St}{D:Addr}{Q:Hp→Prop}{H1:Hp}
theorem dz(Pv:Nat→List V→Hp→Prop)(h0:Pv 0 [] H1)(hl:∀ i acc H,i≤xs.length→Pv i acc H→SqL K H a xs∧H D=some (.lst acc)∧acc.length≤i)(hz:xs.length≤sizeLine)
 (hs:∀ i x acc H,xs[i]?=some x→Pv i acc H→g x (List.replicate n none++fr) H fun σ2 H2=>σ2.drop n=fr∧tt σ2 H2 fun b H3 =>
  if b=true then te σ2 H3 fun v H4=>H4 D=some (.lst acc)∧Pv (i+1) (acc++[v]) (upd H4 D (.lst (acc++[v]))) else Pv (i+1) acc H3)
 (hd:∀ acc H,Pv xs.length acc H→Q H):ft (Itl K a) g tt te n fr D Q H1:=by
 refine⟨fun i m acc H=>m=xs.length-i∧i≤xs.length∧Pv i acc H,⟨xs.length,by simp,Nat.zero_le _,h0⟩,?_⟩
 rintro i m acc H ⟨rfl,hi,p⟩
 obtain⟨q,hD,ha⟩:=hl i acc H hi p
 refine⟨hD,?_⟩
 by_cases hlt:i<xs.length
 ·refine .inr ⟨⟨xs,xs[i],q,by simp[hlt]⟩,by omega,Pv (i+1),fun acc' H' p'=>⟨xs.length-(i+1),by omega,rfl,hlt,p'⟩,fun x H' y=>?_⟩
  obtain⟨e,y⟩:=y
  subst e
  exact hs i x acc _ (y xs q) p
 ·have e:i=xs.length:=by omega
  subst e
  exact .inl ⟨⟨xs,q,Nat.le_refl _⟩,hd acc H p⟩
theorem bL{lo:Int}{m:Nat}(Pv:Nat→List V→Hp→Prop)(h0:Pv 0 [] H1)(hl:∀ i acc H,i≤m→Pv i acc H→H D=some (.lst acc)∧acc.length≤i)(hz:m≤sizeLine)
 (hs:∀ i acc H,i<m→Pv i acc H→g (.int (lo+i)) (List.replicate n none++fr) H fun σ2 H2=>σ2.drop n=fr∧tt σ2 H2 fun b H3 =>
  if b=true then te σ2 H3 fun v H4=>H4 D=some (.lst acc)∧Pv (i+1) (acc++[v]) (upd H4 D (.lst (acc++[v]))) else Pv (i+1) acc H3)
 (hd:∀ acc H,Pv m acc H→Q H):ft (Itr lo m) g tt te n fr D Q H1:=by
 refine⟨fun i k acc H=>k=m-i∧i≤m∧Pv i acc H,⟨m,by simp,Nat.zero_le _,h0⟩,?_⟩
 rintro i k acc H ⟨rfl,hi,p⟩
 obtain⟨hD,ha⟩:=hl i acc H hi p
 refine⟨hD,?_⟩
 by_cases hlt:i<m
 ·refine .inr ⟨hlt,by omega,Pv (i+1),fun acc' H' p'=>⟨m-(i+1),by omega,rfl,hlt,p'⟩,fun x H' y=>?_⟩
  obtain⟨e,y⟩:=y
  subst e y
  exact hs i acc _ hlt p
 ·have e:i=m:=by omega
  subst e
  exact .inl ⟨Nat.le_refl _,hd acc H p⟩
end
end L2
namespace L2
open PySem PySem.Spec PyProof.Rows
def qw(scope osc:Scope)(N frees:List Str)(js:List Nat):Bool :=
 decide (scope.kind = .function)&&scope.names.all (fun y=>decide (y.2≠.cell))&&scope.names.all (fun y=>decide (y.2 = .local→scope.names.lookup y.1=some .local)) &&
 scope.names.all (fun y=>decide (y.2 = .free→osc.names.lookup y.1=some .cell∨osc.names.lookup y.1=some .free))&&decide (js.map (fun j=>N[j]?)=frees.map some)&&frees.all (fun x=>decide (scope.names.lookup x=some .free))
theorem aF{X:Cx}{scope:Scope}{own frees:List Str}{js:List Nat}(osc:Scope)(N:List Str)(h1:X.env.scope=osc:=by rfl)(h2:X.N=N:=by rfl)(h:qw scope osc N frees js=true:=by decide +kernel):CompText X scope own frees js:=by
 unfold qw at h
 simp only[Bool.and_eq_true,decide_eq_true_eq,List.all_eq_true]at h
 obtain⟨⟨⟨⟨⟨a,b⟩,c⟩,d⟩,e⟩,f⟩:=h
 exact⟨a,b,c,by rw[h1];exact d,by rw[h2];exact e,f⟩
mutual
inductive DatV(K:PySem.W.Frag)(H:Hp):V→PyData→Prop
 | non:DatV K H .non .none
 | bl (b:Bool):DatV K H (.bl b) (.bool b)
 | int (i:Int):DatV K H (.int i) (.int i)
 | str (x:Str):DatV K H (.str x) (.str x)
 | lst {a:Addr} {xs:List V} {ds:List PyData} (h:SqL K H a xs) (r:DatVs K H xs ds):DatV K H (.ref a) (.list ds)
 | tup {a:Addr} {xs:List V} {ds:List PyData} (h:SqT K H a xs) (r:DatVs K H xs ds):DatV K H (.ref a) (.tuple ds)
inductive DatVs(K:PySem.W.Frag)(H:Hp):List V→List PyData→Prop
 | nil:DatVs K H [] []
 | cons {x:V} {d:PyData} {xs:List V} {ds:List PyData} (h:DatV K H x d) (r:DatVs K H xs ds):DatVs K H (x::xs) (d::ds)
end
section
variable {X:Cx}{pins:List (Addr×Obj)}{σ:St}{H:Hp}{s:Shared}
mutual
theorem DatV.reads(I:Inv X pins σ H s):∀{v:V} {d:PyData} {u:Value},DatV X.K H v d→aN v u→∃ as,Reads s.heap u d as
 | _,_,u,.non,r=>by cases(show u=Value.none from r);exact⟨_,.none⟩
 | _,_,u,.bl b,r=>by cases(show u=Value.bool b from r);exact⟨_,.bool b⟩
 | _,_,u,.int i,r=>by obtain⟨t,rfl⟩:=(show ∃ t,u=Value.int i t from r);exact⟨_,.int i t⟩
 | _,_,u,.str x,r=>by obtain⟨t,rfl⟩:=(show ∃ t,u=Value.str x t from r);exact⟨_,.str x t⟩
 | _,_,u,.lst (a:=a) h rs,r=>by
   cases(show u=Value.ref a from r)
   obtain⟨its,rv,⟨o,n,e,c,_,d⟩,_⟩:=I.list h
   obtain⟨as,q⟩:=DatVs.reads I rs rv
   exact⟨_,.list e c d (by simpa using q)⟩
 | _,_,u,.tup (a:=a) h rs,r=>by
   cases(show u=Value.ref a from r)
   obtain⟨its,rv,⟨o,e,c,n,d⟩,_⟩:=I.tuple h
   obtain⟨as,q⟩:=DatVs.reads I rs rv
   exact⟨_,.tuple e c d (by simpa using q)⟩
theorem DatVs.reads(I:Inv X pins σ H s):∀{vs:List V} {ds:List PyData} {us:List Value},DatVs X.K H vs ds→aR vs us→∃ as,ReadsAll s.heap us ds as
 | _,_,_,.nil,.nil=>⟨_,.nil⟩
 | _,_,_,.cons h r,.cons rv rr=>by
   obtain⟨as,q⟩:=DatV.reads I h rv
   obtain⟨bs,q2⟩:=DatVs.reads I r rr
   exact⟨_,.cons q q2⟩
end
end
section
variable {X:Cx}
def zZ(K:PySem.W.Frag):R2:=fun x y H Q=>∃ d e,DatV K H x d∧DatV K H y e∧SeqAt.shaped d=true∧SeqAt.shaped e=true∧Q (.bl (PyData.eqv d e)) H
def aaj(K:PySem.W.Frag):R2:=fun x y H Q=>∃ d e,DatV K H x d∧DatV K H y e∧SeqAt.shaped d=true∧SeqAt.shaped e=true∧Q (.bl (!PyData.eqv d e)) H
theorem zP(hu:X.A.units+64<cLine):OpR X (compareOp .Eq) (zZ X.K):=by
 intro pins s σ H x y v u Q I rx ry h
 obtain⟨d,e,h1,h2,s1,s2,q⟩:=h
 obtain⟨as,ra⟩:=h1.reads I rx
 obtain⟨bs,rb⟩:=h2.reads I ry
 exact eq_dataH ra rb s1 s2 hu ⟨.bl _,H,I,rfl,q⟩
theorem yP(hu:X.A.units+64<cLine):OpR X (compareOp .NotEq) (aaj X.K):=by
 intro pins s σ H x y v u Q I rx ry h
 obtain⟨d,e,h1,h2,s1,s2,q⟩:=h
 obtain⟨as,ra⟩:=h1.reads I rx
 obtain⟨bs,rb⟩:=h2.reads I ry
 exact ne_dataH ra rb s1 s2 hu ⟨.bl _,H,I,rfl,q⟩
def aaf:V→Option Value
 | .ty n=>some (.type n)
 | .ref a=>some (.ref a)
 | _=>none
theorem yt{c:V}{u w:Value}(h:aaf c=some u)(r:aN c w):w=u:=by
 cases c with
 | ty n=>exact(show w=Value.type n from r).trans (Option.some.inj h)
 | ref a=>exact(show w=Value.ref a from r).trans (Option.some.inj h)
 | _=>cases h
theorem yc:MtR X "int.bit_length" (fun x xs H Q=>∃ i,x = .int i∧xs=[]∧Q (.int (Builtin.Int.intBits i)) H):=by
 intro pins s σ H x xs v us Q I rx rs h
 obtain⟨i,rfl,rfl,q⟩:=h
 obtain⟨t,rfl⟩:=rx
 cases rs
 exact call_int_bit_length ⟨.int _,H,I.tok _,⟨_,rfl⟩,q⟩
end
end L2
namespace L2
open PySem PySem.Spec PyProof.Rows
section
variable {X:Cx}
end
theorem dl{n:Nat}(h:Nat.ble n 1000=true):n≤sizeLine:=Nat.le_of_lt (gf (Nat.le_of_ble_eq_true h))
theorem nJ{j:Int}(h:decide (0<j)=true):0<j:=of_decide_eq_true h
theorem kS{c A B:Prop}[Decidable c](h : ¬ c)(hb:B):if decide c=true then A else B:=by
 rw[decide_eq_false h]
 exact cg hb
theorem sw{c A B:Prop}[Decidable c](h:c)(ha:A):if decide c=true then A else B:=by
 rw[decide_eq_true h]
 exact df ha
theorem am.new{H:Hp}{p:Addr}{o:HO}(h:H p=none):am H (upd H p o):=fun b u e=>by
 rw[ak (bi e h)]
 exact e
theorem am.put{H H2:Hp}{D:Addr}{o:HO}(s:am H H2)(h:H D=none):am H (upd H2 D o):=fun b u e=>by
 rw[ak (bi e h)]
 exact s b u e
theorem am.sqT{K:PySem.W.Frag}{H H' : Hp}{a:Addr}{xs:List V}(e:am H H')(h:SqT K H a xs):SqT K H' a xs:=by
 rcases h with(h|⟨o,h⟩) | h
 ·exact .inl (.inl (e _ _ h))
 ·exact .inl (.inr ⟨o,e _ _ h⟩)
 ·exact .inr h
def dL(H H' : Hp):Prop:=∀ b xs,H b=some (.tup xs)→H' b=some (.tup xs)
theorem am.tups{H H' : Hp}(s:am H H'):dL H H':=fun b xs e=>s b _ e
theorem dL.trans{H H1 H2:Hp}(a:dL H H1)(b:dL H1 H2):dL H H2:=fun c xs e=>b c xs (a c xs e)
theorem dL.put{H:Hp}{D:Addr}{o:HO}{ys:List V}(h:H D=some (.lst ys)):dL H (upd H D o):=fun b xs e=>by
 rw[ak (aO e h (by intro z;cases z))]
 exact e
theorem Paired.getP{α β:Type}{F:α→β→Prop}:∀{l:List α} {r:List β} {i:Nat} {x:α},Paired F l r→l[i]?=some x→∃ y,r[i]?=some y∧F x y
 | _,_,_,_,.nil,e=>by simp at e
 | _,_,0,_,.cons h _,e=>by
   simp at e
   subst e
   exact⟨_,rfl,h⟩
 | _,_,i+1,x,.cons _ t,e=>by
   obtain⟨y,h1,h2⟩:=Paired.getP (i:=i) (x:=x) t (by simpa using e)
   exact⟨y,by simpa using h1,h2⟩
theorem xi(ns:List Int)(lo hi:Option Int):nj (ns.map V.int) lo hi=((ns.drop (HT.sIx ns.length 0 lo)).take (HT.sIx ns.length ns.length hi-HT.sIx ns.length 0 lo)).map V.int:=by
 unfold nj
 rw[List.length_map,← List.map_drop,← List.map_take]
end L2
namespace L2
open PySem PySem.Spec PyProof.Rows
section
variable {X:Cx}{l:Expr}{tl:TE}{tg a b o e:Expr}{ta tb to:TE}{es:List Expr}
theorem sN(K:PySem.W.Frag)(hu:X.A.units+64<cLine)(h:X.K=K:=by rfl):OpR X (compareOp .Eq) (zZ K):=by subst h;exact zP hu
theorem w6(K:PySem.W.Frag)(hu:X.A.units+64<cLine)(h:X.K=K:=by rfl):OpR X (compareOp .NotEq) (aaj K):=by subst h;exact yP hu
def aa0(K:PySem.W.Frag):List V→Hp→VK→Prop:=fun xs H Q=>∃ p ys,xs=[.ref p]∧(SqL K H p ys∨SqT K H p ys)∧Q (.int ys.length) H
theorem gN(K:PySem.W.Frag)(h:X.K=K:=by rfl):dF X (.builtin "len") (aa0 K):=by subst h;exact pG
def aag(K:PySem.W.Frag):List V→Hp→VK→Prop:=fun xs H Q=>∃ p ys,xs=[.ref p]∧(SqL K H p ys∨SqT K H p ys)∧∀ l,H l=none→Q (.ref l) (upd H l (.lst ys))
theorem aaD(K:PySem.W.Frag)(h:X.K=K:=by rfl):dF X (.type "list") (aag K):=by subst h;exact pY
def aar(K:PySem.W.Frag):List V→Hp→VK→Prop:=fun xs H Q=>∃ p ys,xs=[.ref p]∧((SqL K H p ys∧∀ l,H l=none→Q (.ref l) (upd H l (.tup ys)))∨(SqT K H p ys∧Q (.ref p) H))
theorem xp(K:PySem.W.Frag)(h:X.K=K:=by rfl):dF X (.type "tuple") (aar K):=by subst h;exact nq
theorem ixL(K:PySem.W.Frag)(h:X.K=K:=by rfl):IxR X (z7 K):=by subst h;exact x0
theorem ixT(K:PySem.W.Frag)(h:X.K=K:=by rfl):IxR X (aah K):=by subst h;exact zb
theorem slL(K:PySem.W.Frag)(h:X.K=K:=by rfl):SlR X (aas K):=by subst h;exact xP
theorem inK(K:PySem.W.Frag)(h:X.K=K:=by rfl):OpR X (compareOp .In) (rIn K false):=by subst h;exact uA
theorem sI(K:PySem.W.Frag)(h:X.K=K:=by rfl):OpR X (compareOp .NotIn) (rIn K true):=by subst h;exact pA
theorem piL(K:PySem.W.Frag)(hl:PE X l tl)(h:X.K=K:=by rfl):PI X tg l (yK K tl):=by subst h;exact x6 hl
theorem pgT(K:PySem.W.Frag){k:Nat}{t:TGs}{n:Nat}{pos:Pos}(hc:X.calm=true)(hp:PGs X es t)(hn:(assignEach es X.env).length=n:=by rfl)(hst:(assignEach es X.env).findIdx? (·.1)=none:=by rfl)(h:X.K=K:=by rfl):
 PG X (.Tuple es k pos) (aau K n t):=by subst h;exact zN hc hp hn hst
theorem aai{x:Str}{T:String}{pos:Pos}(hg:Gl X x)(hm:X.mg x=none)(hv:bootBuiltins x=some (.type T))(hn:x≠"__name__":=by decide)(hd:(x==("__debug__":Str))=false:=by decide):PE X (.Name x pos) (tC (.ty T)) :=
 ye hg hm hv rfl hn hd
end
end L2
namespace L2
open PySem PySem.Spec PyProof.Rows
def Sec(e:Addr)(h:Heap):Prop:=∃ oe vs,h.get? e=some oe∧oe.data = .fields vs∧vs[2]?=some .none
def nG(od:Option Addr)(c:Value)(e:Addr)(h:Heap):Prop:=∃ oe vs,h.get? e=some oe∧oe.data = .fields vs∧vs[2]?=some c∧oe.dict=od
theorem wP(o:Obj)(f):(o.mapFields f).dict=o.dict:=by
 obtain⟨c,d,dt,sl⟩:=o
 cases dt<;>rfl
section
variable {M:Model}{A:Around}{E:Value→Shared→Prop}{s:Shared}{B:Heap}{env:Env}{outer l:List Env}{L e:Addr}{cls a0:Value}{Q:Unit→Shared→Prop}{od:Option Addr}{c:Value}
theorem pU{h:Heap}{T:Addr}{oT:Obj}{ts:Array Value}(f:Obj→Obj)(hT:h.get? T=some oT)(hd:oT.data = .fields ts):h.UpToSlots (h.update T f):=fun b o hb hn=>by
 have ne:T≠b:=fun z=>by
  rw[← z,hT]at hb
  cases hb
  exact hn ts hd
 exact⟨o.slots,(Heap.get?_update_other h f ne).trans hb⟩
theorem kg{h:Heap}{T:Addr}(f:Obj→Obj)(k:B.StaysIn h)(n:B.get? T=none):B.StaysIn (h.update T f):=fun b o hb=>by
 have ne:T≠b:=fun z=>by
  rw[← z,n]at hb
  cases hb
 exact(Heap.get?_update_other h f ne).trans (k b o hb)
theorem gK{h h' : Heap}(x:h.FunFrames B l)(u:h.UpToSlots h'):h'.FunFrames B l:=x.of_keeps fun b o hb hn =>
 let⟨_,q⟩:=u b o hb hn
 ⟨_,q,rfl⟩
theorem sP{fl:Value}(hk:B.StaysIn s.heap)(hn:B.get? e=none)(hl:s.heap.FunFrames B l)(ht:s.heap.TracedAtW B e cls a0 fl)(h2:nG od c e s.heap)
 (q:∀ h',Heap.FlyingW B l e cls a0 h'→nG od c e h'→s.heap.UpToSlots h'→Q () { s with heap:=h'}):wpAny M A (setFlight (.ref e) none) Q E s:=by
 obtain⟨oe,vs,T,oT,ts,ge,hc,de,f1,nT,Te,gT,dT,f3⟩:=ht
 have z3:3<ts.size:=(Array.getElem?_eq_some_iff.mp f3).1
 rw[setFlight]
 refine wpAny_bind (wpAny_field ge de f1 ?_)
 rw[if_pos (by simp)]
 refine wpAny_setField gT dT z3 ?_
 have up:=pU (Obj.mapFields (·.setIfInBounds 3 ((none:Option Addr).elim Value.none fun f=>rawInt f))) gT dT
 have ge':=(Heap.get?_update_other s.heap (Obj.mapFields (·.setIfInBounds 3 ((none:Option Addr).elim Value.none fun f=>rawInt f))) Te).trans ge
 have dT':=Obj.data_mapFields dT (·.setIfInBounds 3 ((none:Option Addr).elim Value.none fun f=>rawInt f))
 refine q _ ⟨kg _ hk nT,hn,gK hl up,oe,vs,T,_,_,ge',hc,de,f1,nT,Te,Heap.get?_update_self _ gT (Obj.isFreed_of_fields dT'),dT',by simp[z3]⟩ ?_ up
 obtain⟨o2,v2,g2,d2,k2,z2⟩:=h2
 rw[ge]at g2
 cases g2
 exact⟨oe,v2,ge',d2,k2,z2⟩
theorem vI{oe:Obj}{vs:Array Value}{head:Value}{hadNext:Bool}(hfr:A.frames=some (env::outer))(hl:s.heap.FunFrames B (env::outer))(hf:env.frame=some L)(ge:s.heap.get? e=some oe)(hk:B.StaysIn s.heap)(hn:B.get? e=none)
 (de:oe.data = .fields vs) (hz:1<vs.size) (h0:vs[0]?=some a0) (h2:vs[2]?=some c) (hz2:oe.dict=od)
 (q:∀ h',Heap.HeldW B (env::outer) e oe.cls a0 L h'→nG od c e h'→s.heap.UpToSlots h'→Q () { s with heap:=h'}) :
 wpAny M A (do let a←frameOf env;let pl←entryPlaceOf L hadNext;let b←EntryCells.newEntry head a .none (rawInt L) .none pl;setField (.ref e) 1 b) Q E s:=by
 have noFr:e∉(env::outer).filterMap (·.frame):=fun z=>by
  obtain⟨_,o,ho,nf⟩:=hl.mem z
  rw[ge]at ho
  cases ho
  exact nf vs de
 refine wpAny_bind (wpAny_frameOf_fun hfr hl hf fun h1 so=>wpAny_bind (wpAny_entryPlaceOf fun pl ip=>?_))
 rw[EntryCells.newEntry,newFields]
 refine wpAny_bind (wpAny_newObj_type ?_ (ip.sizeOk5 _ _ _ _ _))
 generalize hnw:({ cls:=.type "traceback",dict:=none,data:=.fields ([head,.ref L,.none,rawInt L,.none]++(if pl.isEmpty then List.replicate 6 Value.none else pl)).toArray}:Obj)=nw
 have dn:nw.data = .fields ([head,.ref L,.none,rawInt L,.none]++(if pl.isEmpty then List.replicate 6 Value.none else pl)).toArray:=by rw[← hnw]
 have ge1:h1.get? e=some oe:=(so.2.1 e noFr).trans ge
 have ge2:=Heap.get?_push_of_some (h:=h1) nw ge1
 have Te:h1.objs.size≠e:=Nat.ne_of_gt (Heap.lt_size ge1)
 refine wpAny_setField ge2 de hz ?_
 have de3:=Obj.data_mapFields de (·.setIfInBounds 1 (Value.ref h1.objs.size))
 have ge3:=Heap.get?_update_self (Obj.mapFields (·.setIfInBounds 1 (Value.ref h1.objs.size))) ge2 (Obj.isFreed_of_fields de3)
 have gT3:=(Heap.get?_update_other (h1.push nw) (Obj.mapFields (·.setIfInBounds 1 (Value.ref h1.objs.size))) (Ne.symm Te)).trans (Heap.get?_push_size h1 (by rw[← hnw];rfl))
 have up:s.heap.UpToSlots ((h1.push nw).update e (Obj.mapFields (·.setIfInBounds 1 (Value.ref h1.objs.size)))):=by
  have u1:s.heap.UpToSlots h1:=fun b o hb _=>so.2.2 b o hb
  exact(u1.trans (.of_keeps fun b o hb=>Heap.get?_push_of_some nw hb)).trans (pU _ ge2 de)
 have k1:B.StaysIn h1:=fun b o hb=>(so.2.1 b fun z=>by rw[(hl.mem z).1]at hb;cases hb).trans (hk b o hb)
 have k2:B.StaysIn (h1.push nw):=fun b o hb=>Heap.get?_push_of_some nw (k1 b o hb)
 refine q _ ⟨kg _ k2 hn,hn,gK hl up,_,_,h1.objs.size,nw,_,ge3,⟨Obj.cls_mapFields _ _,by rw[Array.getElem?_setIfInBounds_ne (by decide)];exact h0⟩,de3,by simp[hz],k1.fresh,Te,gT3,dn,?_⟩ ?_ up
 ·first | (simp;done) | (rcases ip with rfl | ⟨_,_,_,_,_,_,_,rfl⟩<;>simp)
 ·exact⟨_,_,ge3,de3,by rw[Array.getElem?_setIfInBounds_ne (by decide)];exact h2,(wP _ _).trans hz2⟩
theorem yG(hfr:A.frames=some (env::outer))(hf:env.frame=some L)(fl:Heap.FlyingW B (env::outer) e cls a0 s.heap)(h2:nG od c e s.heap)
 (q:∀ h',Heap.HeldW B (env::outer) e cls a0 L h'→nG od c e h'→s.heap.UpToSlots h'→Q () { s with heap:=h'}):wpAny M A (noteFrame (.ref e) env) Q E s:=by
 obtain⟨hk,hn,hl,oe,vs,T,oT,ts,ge,⟨hc,h0⟩,de,f1,nT,Te,gT,dT,f3⟩:=fl
 obtain⟨o2,v2,g2,d2,k2,z2⟩:=h2
 rw[ge]at g2
 cases g2
 rw[de]at d2
 cases d2
 cases hc
 rw[noteFrame]
 simp only[hf]
 refine wpAny_bind (wpAny_field ge de f1 ?_)
 rw[if_pos (by simp)]
 refine wpAny_bind (wpAny_field gT dT f3 ?_)
 rw[if_neg (by simp[rawInt])]
 refine wpAny_bind (wpAny_setField gT dT (Array.getElem?_eq_some_iff.mp f3).1 ?_)
 have up:=pU (Obj.mapFields (·.setIfInBounds 3 Value.none)) gT dT
 have ge':=(Heap.get?_update_other s.heap (Obj.mapFields (·.setIfInBounds 3 Value.none)) Te).trans ge
 exact vI (s:={ s with heap:=s.heap.update T (Obj.mapFields (·.setIfInBounds 3 Value.none))}) hfr (gK hl up) hf ge' (kg _ hk nT) hn de (Array.getElem?_eq_some_iff.mp f1).1 h0 k2 z2 fun h' x1 x2 x3=>q h' x1 x2 (up.trans x3)
theorem aaA(x:Heap.FlyingW B (env::outer) e cls a0 s.heap):Heap.FlyingW B outer e cls a0 s.heap :=
 let⟨k1,k2,⟨_,_,k3⟩,k4⟩:=x
 ⟨k1,k2,k3,k4⟩
theorem uT(hfr:A.frames=some (env::outer))(hf:env.frame=some L)(fl:Heap.FlyingW B (env::outer) e cls a0 s.heap)(h2:nG od c e s.heap)
 (q:∀ h',Heap.FlyingW B outer e cls a0 h'→nG od c e h'→s.heap.UpToSlots h'→Q () { s with heap:=h'}):wpAny M A (leaving env (.ref e)) Q E s:=by
 rw[leaving]
 refine wpAny_bind (yG hfr hf fl h2 fun h' x1 x2 x3=>?_)
 obtain⟨y1,y2,y3,y4⟩:=x1
 exact sP (s:={ s with heap:=h'}) y1 y2 y3 y4 x2 fun h'' z1 z2 z3=>q h'' (aaA (s:={ s with heap:=h''}) z1) z2 (x3.trans z3)
theorem uR{oe:Obj}{vs:Array Value}(hfr:A.frames=some (env::outer))(hf:env.frame=some L)(hk:B.StaysIn s.heap)(hn:B.get? e=none)(hl:s.heap.FunFrames B (env::outer))(ge:s.heap.get? e=some oe)(de:oe.data = .fields vs)
 (h0:vs[0]?=some a0) (h1:vs[1]?=some .none) (h2:vs[2]?=some c) (hz2:oe.dict=od)
 (q:∀ h',Heap.FlyingW B outer e oe.cls a0 h'→nG od c e h'→s.heap.UpToSlots h'→Q () { s with heap:=h'}):wpAny M A (leaving env (.ref e)) Q E s:=by
 rw[leaving,noteFrame]
 simp only[hf]
 refine wpAny_bind (wpAny_bind (wpAny_field ge de h1 ?_))
 rw[if_neg (by decide)]
 refine vI (a0:=a0) hfr hl hf ge hk hn de (Array.getElem?_eq_some_iff.mp h1).1 h0 h2 hz2 fun h' x1 x2 x3=>?_
 obtain⟨y1,y2,y3,y4⟩:=x1
 exact sP (s:={ s with heap:=h'}) y1 y2 y3 y4 x2 fun h'' z1 z2 z3=>q h'' (aaA (s:={ s with heap:=h''}) z1) z2 (x3.trans z3)
end
end L2
namespace L2
open PySem PySem.Spec PyProof.Rows
section
variable {P:Program}{w:World}{H H0 H1:Hp}{h h0 h1 h2:Heap}{a:Addr}{o:HO}{fs:List Addr}{B:Heap}
theorem aV.thing(x:aV P w H h a o):∃ ob,h.get? a=some ob:=by
 cases o with
 | lst xs=>obtain⟨_,_,_,_,e⟩:=x;exact⟨_,e⟩
 | tup xs=>obtain⟨_,_,_,ob,e,_⟩:=x;exact⟨ob,e⟩
 | dK kvs=>obtain⟨_,_,_,_,ob,_,_,e,_⟩:=x;exact⟨ob,e⟩
 | dT kvs=>obtain⟨_,_,_,_,ob,_,_,e,_⟩:=x;exact⟨ob,e⟩
 | set S n=>obtain⟨ob,_,_,_,e,_⟩:=x;exact⟨ob,e⟩
 | ins C dx fs=>obtain⟨_,_,_,e,_⟩:=x;exact⟨_,e⟩
 | own y=>exact x
 | xd fs=>obtain⟨_,⟨ob,_,_,e,_⟩,_⟩:=x;exact⟨ob,e⟩
 | rng lo hi=>obtain⟨_,_,_,e⟩:=x;exact⟨_,e⟩
 | frz ob u=>obtain⟨e,_⟩:=x;exact⟨_,e⟩
 | tbl ps=>obtain⟨_,e,_⟩:=x;exact⟨_,e⟩
 | met f y=>exact⟨_,(show h.get? a=some _ from x)⟩
 | ext φ=>obtain⟨_,e,_⟩:=x;exact e
def Cov(B:Heap)(fs:List Addr)(h0:Heap)(H:Hp)(h:Heap):Prop:=∀ b o,h.get? b=some o→(H b≠none∨∃ o',h0.get? b=some o')→b∉fs→B.get? b=some o
theorem qZ(un:Un fs [] H0 H1 h0 h1)(hok:HOk P w H1 h1)(nof:∀ b∈fs,H1 b=none)(fr:∀ b∈fs,∀ ob,h1.get? b=some ob→∀ vs,ob.data≠.fields vs)(cov:Cov B fs h0 H1 h1)
 (hB:B.StaysIn h2) (up:h1.UpToSlots h2):Un fs [] H0 H1 h0 h2∧HOk P w H1 h2∧Cov B fs h0 H1 h2:=by
 have inB:∀ b ob,h1.get? b=some ob→(H1 b≠none∨∃ o',h0.get? b=some o')→b∉fs→h2.get? b=some ob:=fun b ob e c n=>hB b ob (cov b ob e c n)
 have trk:∀ b u,H1 b=some u→b∉fs:=fun b u e z=>by
  rw[nof b z]at e
  cases e
 refine⟨⟨fun b ob e n hb hx=>inB b ob (un.keep b ob e n hb hx) (.inr ⟨ob,e⟩) hb,fun b ob e n hb hx=>?_,un.free,fun b ob e hx=>?_,un.tups,un.frzs,un.tbls⟩,fun b u e=>?_,fun b ob e c n=>?_⟩
 ·obtain⟨sl,q⟩:=un.slot b ob e n hb hx
  obtain⟨sl',q'⟩:=up b _ q (fr b hb _ q)
  exact⟨sl',q'⟩
 ·obtain⟨o',q⟩:=un.there b ob e hx
  by_cases hb:b∈fs
  ·obtain⟨sl',q'⟩:=up b _ q (fr b hb _ q)
   exact⟨_,q'⟩
  ·exact⟨o',inB b o' q (.inr ⟨ob,e⟩) hb⟩
 ·refine(hok b u e).stay (fun c v hc q=>?_) (fun _ q=>q) fun _ _ q=>q
  have hct:∃ z,H1 c=some z:=by
   rcases hc with hc|hc
   ·rw[hc]
    exact⟨u,e⟩
   ·exact⟨_,hc⟩
  obtain⟨z,hz⟩:=hct
  exact inB c v q (.inl (by rw[hz];simp)) (trk c z hz)
 ·have ht:∃ o1,h1.get? b=some o1:=by
   rcases c with c|⟨o',c⟩
   ·cases hz:H1 b with
    | none=>exact absurd hz c
    | some z=>exact(hok b z hz).thing
   ·exact un.there b o' c (by simp)
  obtain⟨o1,q⟩:=ht
  have q2:=cov b o1 q c n
  have q3:=hB b o1 q2
  rw[e]at q3
  rw[Option.some.inj q3]
  exact q2
end
def mD(ea:Addr)(cls:Value):HO:=.ext fun h=>∃ oe vs,h.get? ea=some oe∧oe.cls=cls∧oe.data = .fields vs∧vs[2]?=some .none
theorem xK{P:Program}{w:World}{H:Hp}{h:Heap}{ea:Addr}{cls:Value}(q:∃ oe vs,h.get? ea=some oe∧oe.cls=cls∧oe.data = .fields vs∧vs[2]?=some .none):aV P w H h ea (mD ea cls) :=
 ⟨q,let⟨oe,_,e,_⟩:=q;⟨oe,e⟩,fun h1 h2 ⟨oe,vs,e,c,d,z⟩ k=>⟨oe,vs,k oe e,c,d,z⟩⟩
def zr(E:XK)(cls:Value)(od:Option Addr)(c:Value)(H:Hp):Prop:=(c = .none∧(∃ C0:Addr,cls = .ref C0)∧E cls od H)∨∃ C e' C',cls = .ref C∧od=none∧c = .ref e'∧H e' = some (mD e' C')∧E (.int (C:Int) e') none H
def CX1(P:Program)(w:World):CXT:=fun outer H s E e s'=>∃(ea:Addr) (cls a0:Value) (od:Option Addr) (c:Value) (H' : Hp) (B:Heap),e = .ref ea∧s'.os=s.os∧AllBare s'.gens∧Un (frs outer) [] H H' s.heap s'.heap∧HOk P w H' s'.heap∧H' ea=none∧
 Cov B (frs outer) s.heap H' s'.heap∧Heap.FlyingW B outer ea cls a0 s'.heap∧nG od c ea s'.heap∧zr E cls od c H'
structure Out(X:Cx)(E:XK):Prop where
 stk:X.stack=X.env::X.outer
 fr:X.env.frame=some X.env.locals
 ex:X.ex=[]
 xe:∀ e s',wpAny (model X.prog X.w) X.A (leaving X.env e) (fun _ s''=>CX1 X.prog X.w X.outer X.H₀ X.s₀ E e s'') (fun e' s''=>CX1 X.prog X.w X.outer X.H₀ X.s₀ E e' s'') s'→X.xe e s'
def Thr(X:Cx)(E:XK):Prop:=∀(pins:List (Addr×Obj)) (σ:St) (H:Hp) (s:Shared) (h1:Heap) (ea C0:Addr) (vs:List Value),Inv X pins σ H s→Heap.MadeExcOf s.heap h1 ea (.ref C0) vs→E (.ref C0) none H→X.xe (.ref ea) { s with heap:=h1}
section
variable {X:Cx}{E:XK}{pins:List (Addr×Obj)}{σ:St}{H:Hp}{s:Shared}
theorem Inv.fsData(I:Inv X pins σ H s):∀ b∈X.fs,∀ ob,s.heap.get? b=some ob→∀ vs,ob.data≠.fields vs:=fun b hb ob e=>by
 obtain⟨_,o,ho,hnf⟩:=I.funs.mem hb
 rw[e]at ho
 cases ho
 exact hnf
theorem Inv.fsFree(I:Inv X pins σ H s)(hx:X.ex=[]):∀ b∈X.fs,H b=none:=fun b hb=>by
 obtain⟨_,o,ho,_⟩:=I.ok.funs.mem hb
 exact I.base.free b o ho (I.ok.frf b hb) (by rw[hx];simp)
theorem Cov.outer{B h0:Heap}{h:Heap}(I:Inv X pins σ H s)(cov:Cov B (frs X.stack) h0 H h)(k:∀ b o,X.s₀.heap.get? b=some o→∃ o',h0.get? b=some o'):Cov B X.fs X.s₀.heap H h:=fun b o e c n=>by
 refine cov b o e (c.imp id fun⟨o',q⟩=>k b o' q) fun z=>?_
 rcases List.mem_cons.mp (I.stkSub b z) with q|q
 ·subst q
  rcases c with c|⟨o',c⟩
  ·exact c I.free
  ·exact absurd (Nat.lt_of_lt_of_le (Heap.lt_size c) I.ok.above) (Nat.lt_irrefl _)
 ·exact n q
theorem sX(O:Out X E)(I:Inv X pins σ H s){B:Heap}{ea:Addr}{cls a0:Value}{od:Option Addr}{c:Value}{h2:Heap}(cov:Cov B X.fs X.s₀.heap H s.heap)(fl:Heap.FlyingW B X.outer ea cls a0 h2)(sc:nG od c ea h2)(up:s.heap.UpToSlots h2)(hn:H ea=none)(q:zr E cls od c H):
 CX1 X.prog X.w X.outer X.H₀ X.s₀ E (.ref ea) { s with heap:=h2}:=by
 have un:Un X.fs [] X.H₀ H X.s₀.heap s.heap:=by
  have u:=I.base
  rw[O.ex]at u
  exact u
 obtain⟨u2,ok2,c2⟩:=qZ un I.hok (I.fsFree O.ex) I.fsData cov fl.1 up
 exact⟨ea,cls,a0,od,c,H,B,rfl,I.os,I.bare,u2,ok2,hn,c2,fl,sc,q⟩
theorem Out.thrC(O:Out X E){ea:Addr}{oe:Obj}{vs:Array Value}{a0 c:Value}(I:Inv X pins σ H s)(ge:s.heap.get? ea=some oe)(de:oe.data = .fields vs)(h0:vs[0]?=some a0)(h1:vs[1]?=some .none)(h2:vs[2]?=some c)
 (hn:H ea=none) (new:X.s₀.heap.get? ea=none) (q:zr E oe.cls oe.dict c H):X.xe (.ref ea) s:=by
 refine O.xe _ _ ?_
 have hfr:X.A.frames=some (X.env::X.outer):=by rw[I.ok.frames,O.stk]
 have hl:s.heap.FunFrames (PySem.W.hideAll s.heap (ea::frs X.stack)) (X.env::X.outer):=by
  have z:=PySem.W.funFrames_hide (as:=ea::frs X.stack) I.stack fun env he b hb=>List.mem_cons_of_mem _ (List.mem_filterMap.mpr ⟨env,he,hb⟩)
  rw[O.stk]at z ⊢
  exact z
 refine uR hfr O.fr (fun b o e=>PySem.W.of_hideAll _ e) (PySem.W.hideAll_none _ (List.mem_cons_self ..)) hl ge de h0 h1 h2 rfl fun h3 fl sc up=>?_
 refine sX O I (Cov.outer I (h0:=X.s₀.heap) (fun b o e c n=>?_) fun b o e=>⟨o,e⟩) fl sc up hn q
 refine PySem.W.hideAll_get _ e fun z=>?_
 rcases List.mem_cons.mp z with z|z
 ·subst z
  rcases c with c|⟨o',c⟩
  ·exact c hn
  ·rw[new]at c
   cases c
 ·exact n z
theorem Out.thrG(O:Out X E){ea:Addr}{oe:Obj}{vs:Array Value}{a0:Value}(I:Inv X pins σ H s)(ge:s.heap.get? ea=some oe)(de:oe.data = .fields vs)(h0:vs[0]?=some a0)(h1:vs[1]?=some .none)(h2:vs[2]?=some .none)
 (hn:H ea=none) (new:X.s₀.heap.get? ea=none) (hcl:∃ C0:Addr,oe.cls = .ref C0) (q:E oe.cls oe.dict H):X.xe (.ref ea) s:=O.thrC I ge de h0 h1 h2 hn new (.inl ⟨rfl,hcl,q⟩)
theorem Out.thr(O:Out X E):Thr X E:=by
 intro pins σ H s h1 ea C0 vs I mk q
 have I1:Inv X pins σ H { s with heap:=h1}:=I.kept (t':=s.toks) mk.keeps
 have hn:H ea=none:=by
  cases hz:H ea with
  | none=>rfl
  | some z =>
    obtain⟨ob,e⟩:=(I.hok ea z hz).thing
    rw[mk.new]at e
    cases e
 obtain⟨t,ge,_,_⟩:=mk.there
 refine O.thrG I1 (a0:=.ref t) ge rfl rfl rfl rfl hn ?_ ⟨_,rfl⟩ q
 cases hz:X.s₀.heap.get? ea with
 | none=>rfl
 | some o =>
   obtain⟨o',e⟩:=I.base.there ea o hz (by rw[O.ex];simp)
   rw[mk.new]at e
   cases e
theorem Inv.threw{H' : Hp}{s' : Shared}(I:Inv X pins σ H s)(os:s'.os=s.os)(bare:AllBare s'.gens)(un:Un (frs X.stack) [] H H' s.heap s'.heap)(hok:HOk X.prog X.w H' s'.heap):Inv X pins σ H' s' :=
 I.call' (ch:=[]) os un hok bare fun b z=>absurd z (by simp)
theorem Out.passes(O:Out X E):ik (CX1 X.prog X.w) X E:=by
 intro pins σ H s e s' I q
 obtain⟨ea,cls,a0,od,c,H',B,rfl,os,bare,un,hok,hn,cov,fl,sc,qE⟩:=q
 have I1:=I.threw os bare un hok
 refine O.xe _ _ ?_
 have hfr:X.A.frames=some (X.env::X.outer):=by rw[I.ok.frames,O.stk]
 rw[O.stk]at fl
 refine uT hfr O.fr fl sc fun h2 fl2 sc2 up=>?_
 exact sX O I1 (Cov.outer I1 cov fun b o e=>I.base.there b o e (by rw[O.ex];simp)) fl2 sc2 up hn qE
end
theorem du{P:Program}{w:World}{K:PySem.W.Frag}{mg:Str→Option Value}{base:Heap}{N:List Str}{qual:Str}{scope:Scope}{f:Addr}{cd:Value}{A:Around}{outer:List Env}{s:Shared}{H:Hp}{E:XK}:
 Out (lS (CX1 P w) P w K mg base N qual scope f cd A outer s H E) E:=⟨rfl,rfl,rfl,fun _ _ h=>h⟩
theorem Fun.ok1{P:Program}{w:World}{K:PySem.W.Frag}{mg:Str→Option Value}{base:Heap}{x qual:Str}{st:Stmt}{f:Addr}{fd:FuncData}{N ps:List Str}{k:Nat}{sp:Sp}(F:Fun K x qual st f fd)(S:FnScope N ps (ae st))
 (len:∀ vs H Q E,sp vs H Q E→vs.length=ps.length)
 (hbody:∀(cdv:Value) (A:Around) (outer:List Env) (s:Shared) (H:Hp) (vs:List V) (Q:VK) (E:XK),Room k (A.deeper (envOfC qual (ae st) s.heap.objs.size f cdv))→sp vs H Q E→
  ∃ t,PSs (lS (CX1 P w) P w K mg base N qual (ae st) f cdv A outer s H E) (av st) t∧t { nx:=fun _ H'=>Q .non H',rt:=Q} (start N vs) H):FnOk P w K mg base (CX1 P w) (k+1) f fd ps sp:=by
 obtain⟨oc,od,kV,doc,pm,an,cdv,ct,osl,rfl,lk,hcd⟩:=F.ex
 exact vN lk hcd S len fun A outer s H vs Q E hr hsp=>hbody cdv A outer s H vs Q E hr hsp
section
variable {X:Cx}{E:XK}
def zD(C:Addr)(E:XK)(t:TA):TS:=fun _ σ H=>t σ H fun vs H1=>vs.length≤sizeLine∧E (.ref C) none H1
theorem qP{x:Str}{C:Addr}{bm:List Value}{B newId initId:String}{e:Expr}{es:List Expr}{ta:TA}{np cpos pos:Pos}(th:Thr X E)(hc:X.calm=true)(hg:Gl X x)(O:∀ h,X.K.In h→h.Ns mainGlobals X.mg→OwnCls x C bm newId X.mg h)
 (FB:ExcBaseFacts B newId initId bm) (ha:PA X (e::es) ta) (he:starEach (e::es) X.env=(false,eval e X.env)::starEach es X.env:=by rfl) (hpl:(backTo cpos (starEach es X.env)).any (·.1)=false:=by rfl)
 (hd:(x==("__debug__":Str))=false:=by decide):PS X (.Raise (some (.Call (.Name x np) (e::es) [] cpos)) none pos) (zD C E ta):=by
 intro pins s σ H D I h
 have OC:=O _ I.mod.kin I.mod.glob
 obtain⟨tl,N,nm,q,bs,hdct,sn,sub,ab,col,dd,k0,k1,k2,k3,k5,mN,hC,hN,hni,T⟩:=OC.obj
 refine wpAny_Raise_call_subT (C:=C) (nm:=nm) (q:=q) (N:=N) (bs:=bs) (bm:=tl) (hdct:=hdct) (sn:=sn) (sub:=sub) (ab:=ab) (col:=col) (dd:=dd) (k0:=k0) (k1:=k1) (k2:=k2) (k3:=k3) (k5:=k5)
  FB (mN:=mN) (T.hasType FB.hasBase) (I.ok.hd hc) (by rw[he];show(false || (backTo cpos (starEach es X.env)).any (·.1))=false;rw[hpl];rfl) hni (jJ I hg OC.bound ⟨rfl,?_⟩ hd)
 have hA:=ha cpos pins s σ H _ I h
 rw[he]at hA ⊢
 refine Calls.evalArgs_plain (wpAny_mono hA (fun us s1 ⟨vs,H1,I1,r1,z,q1⟩=>?_) fun _ _ y=>y)
 exact⟨rfl,by rw[← r1.length];exact z,I1.bk _ _ hC,hN.keeps I1.bk,T.keeps I1.bk,fun h' ea hm=>th pins σ H1 s1 h' ea _ us I1 hm q1⟩
end
end L2
namespace L2
open PySem PySem.Spec PyProof.Rows
theorem zg(K:PySem.W.Frag)(i:Int)(n:Nat)(v:Value):PySem.W.exmOne K (.int i n) v≠some true:=by
 unfold PySem.W.exmOne
 split
 ·unfold PySem.W.kitCls
  split
  ·split<;>simp[PySem.W.subIn]
  ·split<;>simp[PySem.W.subIn]
  ·simp
 ·simp
section
variable {X:Cx}{pins:List (Addr×Obj)}{σ:St}{H:Hp}{s:Shared}
theorem Inv.track{ea:Addr}{o:HO}(I:Inv X pins σ H s)(hn:H ea=none)(h0:X.s₀.heap.get? ea=none)(hL:ea≠X.env.locals)(hC:∀ x c,X.env.cells.lookup x=some c→c≠ea)(hp:∀ p∈X.pn++pins,p.1≠ea)
 (ok:aV X.prog X.w (upd H ea o) s.heap ea o):Inv X pins σ (upd H ea o) s:=by
 have ne:∀ b u,H b=some u→b≠ea:=fun b u e z=>by rw[z,hn]at e;cases e
 refine⟨I.ok,I.os,I.bare,⟨I.base.keep,I.base.slot,fun b ob e n hx=>?_,I.base.there,fun b xs e=>?_,fun b ob u e=>?_,fun b ps e=>?_⟩,I.loc,I.cell,?_,fun x c e=>?_,fun p hpp=>?_,fun b u e=>?_,I.len⟩
 ·rw[ak (fun z=>by rw[z,h0]at e;cases e)]
  exact I.base.free b ob e n hx
 ·have q:=I.base.tups b xs e
  rw[ak (ne b _ q)]
  exact q
 ·have q:=I.base.frzs b ob u e
  rw[ak (ne b _ q)]
  exact q
 ·obtain⟨more,q⟩:=I.base.tbls b ps e
  exact⟨more,by rw[ak (ne b _ q)];exact q⟩
 ·rw[ak (Ne.symm hL)]
  exact I.free
 ·rw[ak (hC x c e)]
  exact I.freeC x c e
 ·obtain⟨a1,a2,a3⟩:=I.pin p hpp
  exact⟨a1,by rw[ak (hp p hpp)];exact a2,a3⟩
 ·by_cases hb:b=ea
  ·subst hb
   rw[ag]at e
   cases e
   exact ok
  ·rw[ak hb]at e
   exact(I.hok b u e).stay (fun _ _ _ q=>q) (fun c q=>by rw[ak (ne c _ q)];exact q) fun c xs q=>by rw[ak (ne c _ q)];exact q
theorem Inv.recx{A' : Around}{pn' pins' : List (Addr×Obj)}{cm:Bool}{xe' : Value→Shared→Prop}(I:Inv X pins σ H s)(hA:A'.frames=X.A.frames)(hcm:cm=true→A'.handled=none)(hp:∀ p∈pn'++pins',p∈X.pn++pins):
 Inv { X with A:=A',calm:=cm,pn:=pn',xe:=xe'} pins' σ H s :=
 ⟨⟨I.ok.mod,I.ok.kind,I.ok.glob,I.ok.blt,I.ok.above,I.ok.inj,I.ok.has,I.ok.cab,hcm,hA.trans I.ok.frames,I.ok.stk,I.ok.exf,I.ok.bs,I.ok.bsz,I.ok.noex,I.ok.exfs,I.ok.funs,I.ok.frf⟩,
   I.os,I.bare,I.base,I.loc,I.cell,I.free,I.freeC,fun p z=>I.pin p (hp p z),I.hok,I.len⟩
theorem vh{M:Model}{A:Around}{E:Value→Shared→Prop}{i:Nat}{x:Str}{pos:Pos}{Q:Unit→Shared→Prop}(I:Inv X pins σ H s)(hN:X.N.Nodup)(hi:X.N[i]?=some x)(hx:X.env.scope.names.lookup x=some .local)
 (h:∀ s',Inv X pins (σ.set i none) H s'→Q () s'):wpAny M A (do bindName X.env x .none;unbindBehindTheSuite X.env x pos) Q E s:=by
 obtain⟨m,hn,hl⟩:=id I.loc
 have hcls:(X.env.scope.kind == .class || (X.env.scope.kind == .module&&X.env.locals != X.env.globals))=false:=by rw[I.ok.kind];rfl
 refine wpAny_nameGoes_keeps hx hn hcls fun h' v hn' hs=>?_
 have below:∀ b ob,X.s₀.heap.get? b=some ob→b≠X.env.locals:=fun b ob e=>Nat.ne_of_lt (Nat.lt_of_lt_of_le (Heap.lt_size e) I.ok.above)
 refine h _ ⟨I.ok,I.os,I.bare,⟨fun b ob e n hb hx=>(hs.2 b (below b ob e)).trans (I.base.keep b ob e n hb hx),fun b ob e n hb hx=>?_,I.base.free,fun b ob e hx=>?_,I.base.tups,I.base.frzs,I.base.tbls⟩,
  ⟨_,hn',fun j y v' e1 e2 e3=>?_⟩,fun y c e=>?_,I.free,I.freeC,fun p hp=>?_,fun b ob e=>?_,by rw[List.length_set];exact I.len⟩
 ·obtain⟨sl,e1⟩:=I.base.slot b ob e n hb hx
  exact⟨sl,(hs.2 b (below b ob e)).trans e1⟩
 ·obtain⟨o',e1⟩:=I.base.there b ob e hx
  exact⟨o',(hs.2 b (below b ob e)).trans e1⟩
 ·by_cases hj:j=i
  ·subst hj
   have hlt:j<σ.length:=by rw[I.len];exact(List.getElem?_eq_some_iff.mp hi).1
   rw[List.getElem?_set_self hlt]at e2
   cases e2
  ·rw[List.getElem?_set_ne (Ne.symm hj)]at e2
   obtain⟨u',r',q⟩:=hl j y v' e1 e2 e3
   refine⟨u',r',?_⟩
   rcases q with⟨k,e⟩|⟨k,c,e,z⟩
   ·have hyx:y≠x:=fun e'=>hj (mR hN e1 (e'▸hi))
    exact .inl ⟨k,by simp[hyx,e]⟩
   ·exact .inr ⟨k,c,e,z.sameBut hs (I.cne y c e)⟩
 ·obtain⟨w',z⟩:=I.cell y c e
  exact⟨w',z.sameBut hs (I.cne y c e)⟩
 ·obtain⟨e,n,ne,nf,d⟩:=I.pin p hp
  exact⟨(hs.2 p.1 ne).trans e,n,ne,nf,d⟩
 ·refine(I.hok b ob e).stay (fun c v hc q=>(hs.2 c ?_).trans q) (fun _ q=>q) fun _ _ q=>q
  intro z
  subst z
  have hf:H X.env.locals=none:=I.free
  rcases hc with hc|hc
  ·rw[← hc,hf]at e
   cases e
  ·rw[hf]at hc
   cases hc
end
def yB(o:Addr→Value→Option Addr→HO)(K:PySem.W.Frag)(C i k:Nat)(tb:XK→TS)(th:Addr→TS):TS:=fun D σ H=>∃ E:XK,tb E D σ H∧∀ cls od H',E cls od H'→PySem.W.exmOne K cls (.ref C)=some true∧
 ∀ ea,H' ea=none→th ea { nx:=fun σ2 H2=>D.nx (σ2.set i none) H2,rt:=fun _ _=>False} ((List.replicate k none).set i (some (.ref ea))) (upd H' ea (o ea cls od))
abbrev aaT:=yB fun ea cls _=>mD ea cls
section
variable {X:Cx}
theorem xF(oo:Addr→Value→Option Addr→HO)(hoo:∀{H:Hp} {h:Heap} {ea:Addr} {cls:Value} {od:Option Addr},(∃ oe vs,h.get? ea=some oe∧oe.cls=cls∧oe.data = .fields vs∧vs[2]?=some .none∧oe.dict=od)→aV X.prog X.w H h ea (oo ea cls od))
 {x n:Str} {i:Nat} {C:Addr} {body rest:List Stmt} {b0:Stmt} {np hpos pos:Pos} {tb:XK→TS} {th:Addr→TS} (K:PySem.W.Frag) (hst:X.stack=X.env::X.outer) (hf:X.env.frame=some X.env.locals) (hexs:X.ex=[]) (hN:X.N.Nodup) (hi:X.N[i]?=some n)
 (hx:X.env.scope.names.lookup n=some .local) (hg:Gl X x) (hm:X.mg x=some (.ref C))
 (hb:∀ E pn xe,ik (CX1 X.prog X.w) { X with pn:=pn,xe:=xe} E→PSs { X with pn:=pn,xe:=xe} body (tb E))
 (hh:∀ ea pn,PSs { X with A:=X.A.mark (some (.ref ea)),calm:=false,pn:=pn,xe:=fun _ _=>False} (b0::rest) (th ea)) (hK:X.K=K:=by rfl) (hdb:(x==("__debug__":Str))=false:=by decide) :
 PS X (.Try body [.ExceptHandler (some (.Name x np)) (some n) (b0::rest) hpos] [] [] pos) (yB oo K C i X.N.length tb th):=by
 subst hK
 intro pins s σ H D I h
 obtain⟨E,htb,hE⟩:=h
 refine wpAny_Try_except ?_
 have hfr:X.A.frames=some (X.env::X.outer):=by rw[I.ok.frames,hst]
 have I' : Inv { X with pn:=X.pn++pins,xe:=fun e s1=>∃ pins' σ' H0 s0,Inv { X with pn:=X.pn++pins} pins' σ' H0 s0∧CX1 X.prog X.w X.stack H0 s0 E e s1} [] σ H s :=
  I.recx (A':=X.A) (cm:=X.calm) rfl I.ok.hd fun p hp=>by simpa using hp
 have hpass:ik (CX1 X.prog X.w) { X with pn:=X.pn++pins,xe:=fun e s1=>∃ pins' σ' H0 s0,Inv { X with pn:=X.pn++pins} pins' σ' H0 s0∧CX1 X.prog X.w X.stack H0 s0 E e s1} E:=by
  intro pins' σ' H0 s0 e s1 J q
  exact⟨pins',σ',H0,s0,J.recx (A':=X.A) (cm:=X.calm) (pn':=X.pn++pins) rfl J.ok.hd fun p hp=>hp,q⟩
 have toX:∀{pins' σ' H' s'},Inv { X with pn:=X.pn++pins} pins' σ' H' s'→Inv X pins σ' H' s':=fun {pins' σ' H' s'} J=>by
  have z:=J.recx (A':=X.A) (cm:=X.calm) (pn':=X.pn) (pins':=pins) (xe':=X.xe) rfl J.ok.hd fun p hp=>List.mem_append_left _ hp
  exact z
 have toX' : ∀{pins' σ' H' s'} {xe' : Value→Shared→Prop},Inv { X with pn:=X.pn++pins,xe:=xe'} pins' σ' H' s'→Inv X pins σ' H' s':=fun {pins' σ' H' s' xe'} J=>by
  have z:=J.recx (A':=X.A) (cm:=X.calm) (pn':=X.pn) (pins':=pins) (xe':=X.xe) rfl J.ok.hd fun p hp=>List.mem_append_left _ hp
  exact z
 refine wpAny_mono (hb E _ _ hpass [] s σ H D I' htb) (fun f s1 q=>?_) fun e s1 q=>?_
 ·cases f with
  | next =>
    obtain⟨σ',H',J,q⟩:=q
    exact wpAny_execs_nil ⟨σ',H',toX' J,q⟩
  | brk =>
    obtain⟨σ',H',J,q⟩:=q
    exact⟨σ',H',toX' J,q⟩
  | cont =>
    obtain⟨σ',H',J,q⟩:=q
    exact⟨σ',H',toX' J,q⟩
  | ret u =>
    obtain⟨v,σ',H',J,r,q⟩:=q
    exact⟨v,σ',H',toX' J,r,q⟩
 ·obtain⟨pins',σ',H0,s0,I0,ea,cls,a0,od,c,H1,B,rfl,os,bare,un,hok,hn,cov,fl,sc,qE⟩:=q
  rcases qE with⟨rfl,_,qE⟩|⟨C9,e9,C8,rfl,rfl,rfl,_,qE⟩
  case inr=>exact absurd (hE _ _ _ qE).1 (zg _ _ _ _)
  obtain⟨hex,hth⟩:=hE cls od H1 qE
  have J1:Inv { X with pn:=X.pn++pins} pins' σ' H1 s1:=I0.threw os bare un hok
  have nof:∀ b∈frs X.stack,H1 b=none:=J1.stkFree
  have frd:∀{h' : Heap},s1.heap.UpToSlots h'→∀ b∈frs X.stack,∀ ob,h'.get? b=some ob→∀ vs,ob.data≠.fields vs:=fun {h'} up b hb ob e vs z=>by
   obtain⟨_,o,ho,hnf⟩:=J1.stack.mem hb
   obtain⟨sl,q⟩:=up b o ho hnf
   rw[e]at q
   cases q
   exact hnf vs z
  have at_:∀{h' : Heap},B.StaysIn h'→s1.heap.UpToSlots h'→Inv X pins σ' H1 { s1 with heap:=h'}:=fun {h'} hB up=>by
   obtain⟨u2,ok2,_⟩:=qZ un hok nof (frd (Heap.UpToSlots.refl _)) cov hB up
   exact toX (I0.threw (s':={ s1 with heap:=h'}) os bare u2 ok2)
  have eNo:ea∉frs X.stack:=fun z=>by
   obtain⟨oe,vs,e,_,d,_⟩:=fl.first
   exact frd (Heap.UpToSlots.refl _) ea z oe e vs d
  have new0:s0.heap.get? ea=none:=by
   cases hz:s0.heap.get? ea with
   | none=>rfl
   | some o =>
     obtain⟨oe,vs,e,_⟩:=fl.first
     have q:=cov ea oe e (.inr ⟨o,hz⟩) eNo
     rw[fl.2.1]at q
     cases q
  have fl' : Heap.FlyingW B (X.env::X.outer) ea cls a0 s1.heap:=by
   rw[hst]at fl
   exact fl
  refine yG hfr hf fl' sc fun h4 held4 sc4 up4=>?_
  obtain⟨g1,g2,g3,g4⟩:=held4
  refine sP (s:={ s1 with heap:=h4}) g1 g2 g3 g4 sc4 fun h5 fl5 sc5 up5=>?_
  have up15:=up4.trans up5
  have J5:=at_ fl5.1 up15
  have hfm:(X.A.mark (some (.ref ea))).frames=X.A.frames:=rfl
  have J5' : Inv { X with A:=X.A.mark (some (.ref ea)),calm:=false,pn:=X.pn,xe:=fun _ _=>False} pins σ' H1 { s1 with heap:=h5}:=J5.recx hfm (fun z=>nomatch z) fun p hp=>hp
  refine wpAny_handleBy_cons (codeAny_handlers_test (jJ J5' hg hm ?_ hdb)) (by intro q;cases q)
  obtain⟨ob,hob,hobc⟩:=fl5.there
  have LT:PySem.W.Looks (model X.prog X.w) h5 (typeOf (.ref ea)) cls:=hobc▸(PySem.W.Looks.ld hob).andThen .now
  refine PySem.W.Looks.here (s:={ s1 with heap:=h5}) (PySem.W.exm_one (K:=X.K) J5.kIn LT hex) ?_
  refine codeAny_handlers_suite_as ?_
  obtain⟨k1,k2,k3,k4⟩:=fl5
  refine sP (s:={ s1 with heap:=h5}) k1 k2 k3 k4.at sc5 fun h6 fl6 sc6 up6=>?_
  have up16:=up15.trans up6
  have J6:=at_ fl6.1 up16
  obtain⟨oe,vs,e6,c6,d6,_⟩:=fl6.first
  have z6:vs[2]?=some .none∧oe.dict=od:=by
   obtain⟨o2,v2,g2,d2,z2,y2⟩:=sc6
   rw[e6]at g2
   cases g2
   rw[d6]at d2
   cases d2
   exact⟨z2,y2⟩
  have ne0:ea≠X.env.locals:=fun z=>by
   obtain⟨m,⟨o,_,_,ho,hd,_⟩,_⟩:=J6.loc
   rw[← z]at ho
   rw[e6]at ho
   cases ho
   rw[d6]at hd
   cases hd
  have J7:Inv X pins σ' (upd H1 ea (oo ea cls od)) { s1 with heap:=h6}:=by
   refine J6.track hn ?_ ne0 (fun y c e z=>?_) (fun p hp z=>?_) (hoo ⟨oe,vs,e6,c6,d6,z6.1,z6.2⟩)
   ·cases hz:X.s₀.heap.get? ea with
    | none=>rfl
    | some o =>
      obtain⟨o',q⟩:=I0.base.there ea o hz (show ea∉X.ex by rw[hexs];simp)
      rw[new0]at q
      cases q
   ·obtain⟨v,o,ho,hd⟩:=J6.cell y c e
    rw[z,e6]at ho
    cases ho
    rw[d6]at hd
    cases hd
   ·have q:=(I0.pin p (List.mem_append_left _ hp)).1
    rw[z,new0]at q
    cases q
  have J8:Inv { X with A:=X.A.mark (some (.ref ea)),calm:=false,pn:=X.pn,xe:=fun _ _=>False} pins (List.replicate X.N.length none) (upd H1 ea (oo ea cls od)) { s1 with heap:=h6}:=by
   have z:Inv X pins (List.replicate X.N.length none) (upd H1 ea (oo ea cls od)) { s1 with heap:=h6}:=J7.weak (by rw[List.length_replicate,J7.len]) fun j v e=>by
    rw[List.getElem?_replicate]at e
    split at e<;>cases e
   exact z.recx hfm (fun z=>nomatch z) fun p hp=>hp
  refine im (X:={ X with A:=X.A.mark (some (.ref ea)),calm:=false,pn:=X.pn,xe:=fun _ _=>False}) (v:=.ref ea) J8 hN hi (.inl hx) rfl (fun s9 J9=>?_) (.inr hx)
  refine wpAny_mono (hh _ _ pins s9 _ _ _ J9 (hth ea hn)) (fun f s10 q=>?_) fun _ _ z=>z.elim
  cases f with
  | next =>
    obtain⟨σ2,H2,J10,q⟩:=q
    have J11:Inv X pins σ2 H2 s10:=by
     have z:=J10.recx (A':=X.A) (cm:=X.calm) (pn':=X.pn) (pins':=pins) (xe':=X.xe) hfm.symm I.ok.hd fun p hp=>hp
     exact z
    exact vh J11 hN hi hx fun s12 J12=>⟨_,H2,J12,q⟩
  | brk=>obtain⟨_,_,_,q⟩:=q;exact q.elim
  | cont=>obtain⟨_,_,_,q⟩:=q;exact q.elim
  | ret u=>obtain⟨_,_,_,_,_,q⟩:=q;exact q.elim
theorem zS{x n:Str}{i:Nat}{C:Addr}{body rest:List Stmt}{b0:Stmt}{np hpos pos:Pos}{tb:XK→TS}{th:Addr→TS}(K:PySem.W.Frag)(hst:X.stack=X.env::X.outer)(hf:X.env.frame=some X.env.locals)(hexs:X.ex=[])(hN:X.N.Nodup)(hi:X.N[i]?=some n)
 (hx:X.env.scope.names.lookup n=some .local) (hg:Gl X x) (hm:X.mg x=some (.ref C))
 (hb:∀ E pn xe,ik (CX1 X.prog X.w) { X with pn:=pn,xe:=xe} E→PSs { X with pn:=pn,xe:=xe} body (tb E))
 (hh:∀ ea pn,PSs { X with A:=X.A.mark (some (.ref ea)),calm:=false,pn:=pn,xe:=fun _ _=>False} (b0::rest) (th ea)) (hK:X.K=K:=by rfl) (hdb:(x==("__debug__":Str))=false:=by decide) :
 PS X (.Try body [.ExceptHandler (some (.Name x np)) (some n) (b0::rest) hpos] [] [] pos) (aaT K C i X.N.length tb th):=xF (fun ea cls _=>mD ea cls) (fun⟨oe,vs,e,c,d,z,_⟩=>xK ⟨oe,vs,e,c,d,z⟩) K hst hf hexs hN hi hx hg hm hb hh hK hdb
end
end L2
namespace L2
open PySem PySem.Spec PySem.Calls PyProof.Rows PySem.W PySem.Builtin PySem.Builtin.ObjectAttr PySem.Builtin.Getset_descriptor
structure ExcCls(K:Frag)(D:Addr):Prop where
 ga:findIn K (.ref D) "__getattribute__"=some (some (.builtin "BaseException.__getattribute__"))
 gh:findIn K (.ref D) "__getattr__"=some none
 cl:findIn K (.ref D) "__class__"=some (some (.builtin "object.__class__"))
 gt:specialIn K (.builtin "object.__class__") "__get__"=some (some (.builtin "getset_descriptor.__get__"))
 tk:takesIn K (.builtin "object.__class__")=some true
 mr:mroIn K D (.type "object")=some true
 mb:mroIn K D (.type "BaseException")=some true
 is_:(clsIn K D).isSome=true
def tI(x:Addr)(D:Value)(h:Heap):Prop:=∃ ox,h.get? x=some ox∧ox.cls=D
section
variable {K:Frag}{x D:Addr}
theorem tI.ty{M:Model}{h:Heap}{V:Value}(q:tI x V h):Looks M h (typeOf (.ref x)) V:=by
 obtain⟨ox,e,c⟩:=q
 exact c▸(Looks.ld e).andThen .now
theorem rS{M:Model}{h:Heap}{C:Addr}{name:Str}{at_ g:Value}(X:K.In h)(ha:findIn K (.ref C) name=some (some at_))(hg:specialIn K at_ "__get__"=some (some g))(hd:takesIn K at_=some true):
 Looks M h (find (.ref x) (.ref C) name) (.bind g at_):=by
 refine(looks_findIn X ha).andThen (Looks.andThen (show Looks M h (getOf (some at_)) (some g) from looks_specialIn X hg) ?_)
 have L3:=looks_takesIn (M:=M) X hd
 have L4:Looks M h (dataDescriptor? (some at_) (some g)) (some (g,at_)):=L3.andThen .now
 exact L4.andThen (Looks.tag .now)
section
variable {prog:Program}{w:World}{A:Around}{E:Value→Shared→Prop}{s:Shared}
theorem rX{M:Model}{nameV:Value}{Q:Unit→Shared→Prop}{hh:Heap}{gg:Array GenState}{dd:Drawn}{tt:Nat}{oo:OsState}(S:Looks M hh (isInstance (.ref x) (.type "BaseException")) true)(hq:Q () ⟨hh,gg,dd,tt,oo⟩):
 wpAny M A (checkBuiltinCall "BaseException.__getattribute__" ⟨[.ref x,nameV],[]⟩) Q E ⟨hh,gg,dd,tt,oo⟩:=by
 have hk:builtinKind "BaseException.__getattribute__"=some .slot:=by decide +kernel
 have hsplit:splitId "BaseException.__getattribute__"=some ("BaseException","__getattribute__"):=by decide +kernel
 have ha:=F.args_bexc_ga (.ref x) nameV
 simp only[checkBuiltinCall,hk,hsplit]
 refine wpAny_bind (S.at ?_)
 repeat (first | wp_step)
 exact hq
theorem ux{Q:Option Value→Shared→Prop}(C:ExcCls K D)(X:K.In s.heap)(q:tI x (.ref D) s.heap)(h:Q (some (.ref D)) { s with toks:=s.toks+1}):wpAny (model prog w) A (getAttr? (.ref x) "__class__") Q E s:=by
 obtain⟨hh,gg,dd,tt,oo⟩:=s
 have L0:=q.ty (M:=model prog w)
 have L1:=looks_findIn (M:=model prog w) X C.ga
 have L2:=rS (M:=model prog w) (x:=x) X C.cl C.gt C.tk
 have L3:=looks_findIn (M:=model prog w) X C.gh
 have L4:=looks_mroIn (M:=model prog w) X C.mr
 have L5:=looks_mroIn (M:=model prog w) X C.mb
 have S5:Looks (model prog w) hh (isInstance (.ref x) (.type "BaseException")) true:=L0.andThen L5
 unfold getAttr? getAttrBy? getAttrBy
 refine wpAny_bind (wpAny_mkText (wpAny_bind (wpAny_attempt (wpAny_holding (wpAny_bind (L0.at (wpAny_bind (L1.at ?_))))))))
 show wpAny _ _ (getAttrByItsOwn (.ref x) (.str "__class__" tt) (.ref D) (.builtin "BaseException.__getattribute__") false false) _ _ _
 unfold getAttrByItsOwn
 refine wpAny_bind (Looks.at (show Looks (model prog w) hh (hookBefore (.ref D)) none from L3) ?_)
 refine wpAny_bind (wpAny_attempt (wpAny_holding ?_))
 show wpAny _ _ (boundAndCalled _ _ _) _ _ _
 unfold boundAndCalled
 rw[F.attrBase_ValueError.ga.bind (.ref x)]
 refine wpAny_bind (wpAny_pure ?_)
 show wpAny _ _ (call (.builtin "BaseException.__getattribute__") [.ref x,.str "__class__" tt]) _ _ _
 refine wpAny_call (codeAny_call_builtin F.attrBase_ValueError.ga.plain F.entry_bexc_ga ?_)
 refine rX S5 ?_
 refine wpAny_bind (wpAny_pure (wpAny_bind (wpAny_pure (wpAny_bind (L0.at (wpAny_bind (L2.at ?_)))))))
 show wpAny _ _ (holding [_] (call (.builtin "getset_descriptor.__get__") [.builtin "object.__class__",.ref x,.ref D]) >>= ret) _ _ _
 refine wpAny_bind (wpAny_holding (wpAny_call ?_))
 refine codeAny_call_builtin KF.slot_gs.plain KF.entry_gs (KF.slot_gs.check _ _ _ _ _ _ _ _ KF.type_class (KF.args_gs _ _ _) ?_)
 (unfold Builtin.«getset_descriptor.__get__» descrGet;rw[dga_obj])
 refine wpAny_bind (wpAny_pure ?_)
 (unfold descrGetter descrCheckInstance descrNameAndClass isInstance;simp only[KF.owner_class])
 repeat lk
 refine⟨Code.quiet_builtin _ (by decide +kernel),codeAny_builtin KF.entry_class ?_⟩
 (unfold Builtin.«object.__class__» shownTypeOf)
 repeat lk
 exact h
end
theorem vU(C:ExcCls K D):KitX K (.ref x) (.ref D) (tI x (.ref D)) where
 ty:=fun _ _ _ q=>q.ty
 it:=fun M h X _=>by
  have z:=C.is_
  unfold clsIn at z
  split at z
  ·rename_i ho
   intro A1 Q1 E1 s1 k q
   (unfold isType;unfold loadHead)
   exact wpAny_bind (wpAny_loadPart (k _ _ (X _ _ ho)) (wpAny_pure q))
  ·cases z
 ne:=fun h tp dd its n sl X htp=>by
  have z:=C.is_
  refine Bool.eq_false_iff.mpr fun q=>?_
  cases Value.ref.inj (beq_iff_eq.mp q)
  unfold clsIn at z
  split at z
  ·rename_i ho
   cases(X _ _ ho).symm.trans htp
  ·cases z
 ca:=fun X q k=>ux C X q k
end
def aaw(K:Frag):List V→Hp→VK→Prop:=fun xs H Q=>∃ x c D u b,xs=[.ref x,c]∧aaf c=some u∧H x=some (mD x (.ref D))∧ExcCls K D∧kitOne K (.ref D) u=some b∧Q (.bl b) H
theorem jQ{X:Cx}(K:Frag)(hK:X.K=K:=by rfl):dF X (.builtin "isinstance") (aaw K):=by
 subst hK
 intro pins s σ H xs us Q I r h
 obtain⟨x,c,D,u,b,rfl,rc,ty,C,e,q⟩:=h
 cases r with
 | cons r1 r2 =>
   cases r2 with
   | cons r2 r3 =>
     cases r3
     cases yt rc r2
     cases(show _=Value.ref x from r1)
     obtain⟨⟨oe,vs,e1,e2,_⟩,_⟩:=(show aV X.prog X.w H s.heap x (mD x (.ref D)) from I.hok x _ ty)
     exact kia_one (vU C) I.kIn ⟨oe,e1,e2⟩ e (fun z=>nomatch z) fun tk=>⟨.bl b,H,I.tok tk,rfl,q⟩
end L2
namespace L2
open PySem PySem.Spec PyProof.Rows
section
variable {X:Cx}
theorem yR:OpR X (compareOp .IsNot) (fun x y H Q=>∃ a b,x = .bl a∧y = .bl b∧Q (.bl (!(a==b))) H):=by
 intro pins s σ H x y v u Q I rx ry h
 obtain⟨a,b,rfl,rfl,q⟩:=h
 cases rx
 cases ry
 refine wpAny_isNot_plain rfl ⟨.bl _,H,I,?_,q⟩
 cases a<;>cases b<;>rfl
def aaK(K:PySem.W.Frag):V→V→Hp→VK→Prop:=fun o i H Q=>∃ p xs j v,o = .ref p∧i = .int ((j:Nat):Int)∧SqL K H p xs∧xs[j]?=some v∧Q v H
theorem zX(K:PySem.W.Frag)(hK:X.K=K:=by rfl):zY X (aaK K):=by
 subst hK
 intro pins s σ H o i ov iv Q I ro ri h
 obtain⟨p,xs,j,v,rfl,rfl,hq,e,q⟩:=h
 cases ro
 obtain⟨t,rfl⟩:=ri
 obtain⟨its,r,pl,hz⟩:=I.list hq
 obtain⟨u,eu,ru⟩:=r.get e
 have hj:j<xs.length:=(List.getElem?_eq_some_iff.mp e).1
 have hn:=lO
 exact wpAny_getItem_list pl.isList (by omega) (by omega) (by simpa using eu) ⟨v,H,I,ru,q⟩
def aaM(K:PySem.W.Frag):R2:=fun x y H Q=>∃ l b xs zs,x = .ref l∧y = .ref b∧SqL K H l xs∧SqL K H b zs∧xs.length+zs.length≤sizeLine∧∀ p,H p=none→Q (.ref p) (upd H p (.lst (xs++zs)))
theorem zy(K:PySem.W.Frag)(hK:X.K=K:=by rfl):OpR X (binaryOp .Add) (aaM K):=by
 subst hK
 intro pins s σ H x y v u Q I rx ry h
 obtain⟨l,b,xs,zs,rfl,rfl,hH,hB,hz,q⟩:=h
 cases rx
 cases ry
 obtain⟨its,r,pl,_⟩:=I.list hH
 obtain⟨its2,r2,pl2,_⟩:=I.list hB
 obtain⟨⟨cls,dd,data,sl⟩,n,e,hc,_,hd⟩:=pl
 obtain⟨⟨cls2,dd2,data2,sl2⟩,n2,e2,hc2,_,hd2⟩:=pl2
 simp only at hc hd hc2 hd2
 subst hc hd hc2 hd2
 have l1:=r.length
 have l2:=r2.length
 have ea:its.toArray++its2.toArray=(its++its2).toArray:=by simp
 refine concat_meets ⟨_,e,rfl⟩ ⟨_,e2,rfl⟩ noFill_list_add seq_list_add PySem.F.slot_list_add PySem.F.entry_list_add (PySem.F.args_list_add_2 _ _)
  (list_addW l b its.toArray its2.toArray n n2 dd dd2 sl sl2 (by rw[List.size_toArray,List.size_toArray];omega)) ⟨e,e2,?_⟩
 rw[ea]
 exact⟨.ref _,_,I.lnew (t':=s.toks) (r.append r2) (by rw[List.length_append];omega),rfl,q _ I.fresh⟩
end
section
variable {X:Cx}{tg:Expr}
theorem kZ{iter:Expr}{body:List Stmt}{wi:TI}{g:TG}{tb:TS}{pos:Pos}(hc:X.calm=true)(hi:PI X tg iter wi)(hg:PG X.nox tg g)(hb:PSs X.nox body tb)(hs:∀ x,foldedSetIterable iter X.env x=pure x:=by intro _;rfl):
 PS X (.For tg iter body [] pos) (cI wi g tb):=by
 intro pins s σ H D I h
 refine wpAny_For (thn (hi pins s σ H _ I h) fun v s1 h1=>thn h1 fun itv s2 h2=>?_) hs
 obtain⟨it,fp,tn,J,H2,e,I2,T,st2,f2,W,⟨m0,w0⟩,turn⟩:=h2
 subst e
 have stat:∀{H' : Hp},(∀ b∈fp,H' b=none)→∀ b∈fp,iU X.nox pins H' b:=fun hn b hb=>⟨hn b hb,(f2 b hb).2⟩
 refine codeAny_forLoop_any (fun n s'=>∃ i σ' H',Inv X.nox pins σ' H' s'∧tn i s'.heap∧(∀ b∈fp,H' b=none)∧W i n σ' H') ?_ m0 ⟨0,σ,H2,I2.wish _,st2,fun b hb=>(f2 b hb).1,w0⟩
 rintro n s3 ⟨i,σ3,H3,I3,st3,fr3,w3⟩
 rcases turn i n σ3 H3 w3 with⟨stop,qn⟩|⟨go,N,hN,step⟩
 ·refine wpAny_mono (T.done X.nox rfl rfl rfl hc i pins s3 σ3 H3 (fun _ _=>False) I3 (stat fr3) st3 stop) (fun r s4 ⟨hr,I4⟩=>?_) fun _ _ z=>z.elim
  subst hr
  exact wpAny_execs_nil ⟨σ3,H3,I4.unwish,qn⟩
 ·refine wpAny_mono (T.item X.nox rfl rfl rfl hc i pins s3 σ3 H3 (fun _ _=>False) I3 (stat fr3) st3 go) (fun r s4 ⟨u,hr,h4⟩=>?_) fun _ _ z=>z.elim
  subst hr
  refine wpAny_mono h4 (fun _ s5 ⟨x,H5,I5,r5,y5,st5,fr5⟩=>?_) fun _ _ z=>z.elim
  have I5':=I5.pinned (stat fr5) (T.obj _ _ st5)
  refine wpAny_mono (hg _ s5 σ3 H5 x u _ I5' r5 (step x H5 y5)) (fun _ s6 ⟨σ6,H6,I6,q6⟩=>?_) fun _ _ z=>z.elim
  refine wpAny_mono (hb _ s6 σ6 H6 _ I6 q6) (fun f s7 q7=>?_) fun _ _ z=>z.elim
  have again:∀{σ7:St} {H7:Hp},Inv X.nox (pins++kq fp s5.heap) σ7 H7 s7→N σ7 H7→∃ m,m<n∧∃ i σ' H',Inv X.nox pins σ' H' s7∧tn i s7.heap∧(∀ b∈fp,H' b=none)∧W i m σ' H':=fun {σ7 H7} I7 n7=>by
   obtain⟨m',hm,w7⟩:=hN σ7 H7 n7
   refine⟨m',hm,i+1,σ7,H7,I7.unpinned,T.keep _ _ _ st5 fun b hb o e=>(I7.pin (b,o) (List.mem_append_right _ (List.mem_append_right _ (eo hb e)))).1,fun b hb=>?_,w7⟩
   obtain⟨o,e,d⟩:=T.obj _ _ st5 b hb
   exact(I7.pin (b,o) (List.mem_append_right _ (List.mem_append_right _ (eo hb e)))).2.1
  cases f with
  | next=>obtain⟨σ7,H7,I7,n7⟩:=q7;exact again I7 n7
  | cont=>obtain⟨σ7,H7,I7,n7⟩:=q7;exact again I7 n7
  | brk=>obtain⟨σ7,H7,I7,q7⟩:=q7;exact⟨σ7,H7,I7.unpinned.unwish,q7⟩
  | ret v=>obtain⟨x7,σ7,H7,I7,r7,q7⟩:=q7;exact⟨x7,σ7,H7,I7.unpinned.unwish,r7,q7⟩
theorem pe{P:Program}{w:World}{X:Cx}:ik (CX1 P w) X (fun _ _ _=>False):=by
 intro pins σ H s e s' I q
 obtain⟨_,_,_,_,_,_,_,_,_,_,_,_,_,_,_,_,z⟩:=q
 rcases z with⟨_,_,z⟩|⟨_,_,_,_,_,_,_,z⟩
 ·exact z.elim
 ·exact z.elim
end
theorem eQ{X:Cx}{x:Str}{C:Addr}{pos:Pos}(hg:Gl X x)(hm:X.mg x=some (.ref C))(hd:(x==("__debug__":Str))=false:=by decide):PE X (.Name x pos) (tC (.ref C)):=xN hg hm rfl hd
theorem wO{K:PySem.W.Frag}{h:Heap}{mg:Str→Option Value}{x:Str}{C:Addr}{bmB:List Value}{newId:String}(X:K.In h)(G:h.Ns mainGlobals mg)(e:PySem.W.nsIn K mainGlobals x=some (some (.ref C)))(q:PySem.W.excIn K C bmB newId=true):
 OwnCls x C bmB newId mg h:=by
 refine⟨PySem.W.mg_of X G e,?_⟩
 unfold PySem.W.excIn at q
 split at q
 ·rename_i od cd sl look
  split at q
  ·rename_i Cx bm j0 j1 j2 j3 nw j5 hmro hsl
   simp only[Bool.and_eq_true,beq_iff_eq,Bool.not_eq_true']at q
   obtain⟨⟨⟨⟨⟨rfl,rfl⟩,hdel⟩,ht⟩,hok⟩,hni⟩:=q
   obtain⟨nm,bs,mro,ns,qn,hd,sn,sub,ab,col,del⟩:=cd
   (dsimp only at hmro hdel hok hni;subst hmro hdel)
   have hs2:sl = #[j0,j1,j2,j3,some (.builtin nw),j5]:=by
    obtain⟨l⟩:=sl
    simp only at hsl
    rw[hsl]
   subst hs2
   exact⟨bm,ns,nm,qn,bs,hd,sn,sub,ab,col,od,j0,j1,j2,j3,j5,_,X _ _ look,.of_isNs (PySem.W.isNs_of_in X hok),PySem.W.nsMap_none_of_in X hok hni,PySem.W.tail_of_in X ht⟩
  ·cases q
 ·cases q
end L2
namespace L2
theorem vB{K:PySem.W.Frag}{C:PySem.Addr}(h:PySem.W.hasDictIn K C=true):(PySem.W.clsIn K C).isSome=true:=by
 obtain⟨cd,e,_⟩:=PySem.W.any_some h
 rw[e]
 rfl
end L2
namespace L2
theorem lA{α:Type}:∀ us:List α,us.length=1→∃ a,us=[a]
 | [_],_=>⟨_,rfl⟩
theorem eU{α:Type}:∀ us:List α,us.length=2→∃ a b,us=[a,b]
 | [_,_],_=>⟨_,_,rfl⟩
theorem mK{α:Type}:∀ us:List α,us.length=3→∃ a b c,us=[a,b,c]
 | [_,_,_],_=>⟨_,_,_,rfl⟩
theorem aa5{α:Type}:∀ us:List α,us.length=4→∃ a b c d,us=[a,b,c,d]
 | [_,_,_,_],_=>⟨_,_,_,_,rfl⟩
end L2
namespace L2
open PySem PySem.Spec PyProof.Rows
structure RoomH(ea:Addr)(k:Nat)(A:Around):Prop where
 hd:A.handled=some (.ref ea)
 dp:A.depth+3*k+5<recursionLimit
 un:A.units+16*k+200<cLine
theorem Room.mark{k:Nat}{A:Around}(r:Room k A)(ea:Addr):RoomH ea k (A.mark (some (.ref ea))):=⟨rfl,r.dp,r.un⟩
theorem RoomH.deeper{ea:Addr}{k:Nat}{A:Around}(r:RoomH ea (k+1) A)(env:Env):RoomH ea k (A.deeper env) :=
 ⟨r.hd,by have:=r.dp;show A.depth+1+3*k+5<_;omega,by have:=r.un;show A.units+3+16*k+200<_;omega⟩
structure FnH(ea:Addr)(P:Program)(w:World)(K:PySem.W.Frag)(mg:Str→Option Value)(base:Heap)(k:Nat)(f:Addr)(fd:FuncData)(ps:List Str)(sp:Sp):Prop where
 len:∀ vs H Q E,sp vs H Q E→vs.length=ps.length
 run:∀(A:Around) (outer:List Env) (s:Shared) (H:Hp) (args:Args) (us:List Value) (vs:List V) (Q:VK) (E:XK),RoomH ea k A→Env0 P w K mg base A outer s H→BindsTo s fd args (ps.zip us)→aR vs us→sp vs H Q E→
  codeAny (model P w) A (.call (.ref f) args) (CR CX0 outer P w H s Q E) s
def cxH(P:Program)(w:World)(K:PySem.W.Frag)(mg:Str→Option Value)(base:Heap)(N:List Str)(qual:Str)(scope:Scope)(f:Addr)(cd:Value)(A:Around)(outer:List Env)(s:Shared)(H:Hp)(E:XK):Cx :=
 { lS CX0 P w K mg base N qual scope f cd { A with handled:=none} outer s H E with A:=A.deeper (envOfC qual scope s.heap.objs.size f cd),calm:=false,xe:=fun _ _=>False}
theorem zL{ea:Addr}{P:Program}{w:World}{K:PySem.W.Frag}{mg:Str→Option Value}{base:Heap}{k:Nat}{f:Addr}{name qual:Str}{params:Arguments}{body:List Stmt}{scope:Scope}{dV kV doc pm cdv ct oc:Value}{an od:Option Addr}
 {osl:Array (Option Value)} {N ps:List Str} {sp:Sp} (lk:K.lookup f=some ⟨oc,od,.func (PySem.W.fnOf name qual params body scope dV kV doc pm an cdv ct),osl⟩) (hcd:PySem.W.codeIn K cdv qual=true) (S:FnScope N ps scope)
 (len:∀ vs H Q E,sp vs H Q E→vs.length=ps.length)
 (hbody:∀(A:Around) (outer:List Env) (s:Shared) (H:Hp) (vs:List V) (Q:VK) (E:XK),RoomH ea k (A.deeper (envOfC qual scope s.heap.objs.size f cdv))→sp vs H Q E→
  ∃ t,PSs (cxH P w K mg base N qual scope f cdv A outer s H E) body t∧t { nx:=fun _ H'=>Q .non H',rt:=Q} (start N vs) H) :
 FnH ea P w K mg base (k+1) f (PySem.W.fnOf name qual params body scope dV kV doc pm an cdv ct) ps sp:=by
 refine⟨len,fun A outer s H args us vs Q E hr e0 hb r hsp=>?_⟩
 have hl:=len _ _ _ _ hsp
 have KX:K.In s.heap:=e0.mod.kin.keeps fun b o e=>(e0.bs b o e).1
 have lim:s.heap.NoLimit:=e0.mod.nolimit.keeps fun b o e=>(e0.bs b o e).1
 have hkind:∀ y∈ps.zip us,scope.names.lookup y.1=some .local∨(scope.names.lookup y.1=some .cell∧((cellsFrom (s.heap.objs.size+1) scope.names []).lookup y.1).isSome=true):=fun⟨n,v⟩ hy=>by
  rcases S.par n (List.of_mem_zip hy).1 with q|q
  ·exact .inl q
  ·exact .inr ⟨q,PySem.W.cellsFrom_some _ _ _ (.inl q)⟩
 refine codeAny_call_function (by have:=hr.dp;omega) (KX _ _ lk) rfl S.co S.gen rfl (PySem.W.codeRec_of KX hcd) (hb _ _ _ _ ?_)
 refine wpAny_newFunctionEnv_cells S.kind hkind fun env he s1 x=>?_
 subst he
 refine⟨lim.keeps x.toInCall.keep,codeAny_func ?_⟩
 obtain⟨t,ht,hq⟩:=hbody A outer s H vs Q E (hr.deeper _) hsp
 have e1:Env0 P w K mg base { A with handled:=none} outer s H:=⟨e0.frames,e0.mod,e0.bs,e0.bsz,e0.funs,e0.frf,e0.hok,e0.bare⟩
 have I0:Inv (lS CX0 P w K mg base N qual scope f cdv { A with handled:=none} outer s H E) [] (start N vs) H s1:=oz S rfl e1 hl r x
 have I:Inv (cxH P w K mg base N qual scope f cdv A outer s H E) [] (start N vs) H s1:=by
  have z:=I0.recx (A':=A.deeper (envOfC qual scope s.heap.objs.size f cdv)) (cm:=false) (pn':=[]) (pins':=[]) (xe':=fun _ _=>False) rfl (fun z=>nomatch z) fun p hp=>hp
  exact z
 refine wpAny_mono (ht [] s1 (start N vs) H _ I hq) (fun fl s' hs=>?_) fun e s' hs=>hs.elim
 have fin:∀{σ' : St} {H' : Hp} {v:V} {u:Value},Inv (cxH P w K mg base N qual scope f cdv A outer s H E) [] σ' H' s'→aN v u→Q v H'→CE outer P w H s Q u s' :=
  fun {σ' H' v u} J rv q=>⟨v,H',J.os,J.bare,J.base,J.hok,rv,q⟩
 cases fl with
 | ret u =>
   obtain⟨v,σ',H',J,rv,q⟩:=hs
   exact fin J rv q
 | next =>
   obtain⟨σ',H',J,q⟩:=hs
   exact fin (v:=V.non) (u:=Value.none) J rfl q
 | brk =>
   obtain⟨_,_,_,q⟩:=hs
   exact False.elim q
 | cont =>
   obtain⟨_,_,_,q⟩:=hs
   exact False.elim q
theorem Fun.okH{ea:Addr}{P:Program}{w:World}{K:PySem.W.Frag}{mg:Str→Option Value}{base:Heap}{x qual:Str}{st:Stmt}{f:Addr}{fd:FuncData}{N ps:List Str}{k:Nat}{sp:Sp}(F:Fun K x qual st f fd)(S:FnScope N ps (ae st))
 (len:∀ vs H Q E,sp vs H Q E→vs.length=ps.length)
 (hbody:∀(cdv:Value) (A:Around) (outer:List Env) (s:Shared) (H:Hp) (vs:List V) (Q:VK) (E:XK),RoomH ea k (A.deeper (envOfC qual (ae st) s.heap.objs.size f cdv))→sp vs H Q E→
  ∃ t,PSs (cxH P w K mg base N qual (ae st) f cdv A outer s H E) (av st) t∧t { nx:=fun _ H'=>Q .non H',rt:=Q} (start N vs) H):FnH ea P w K mg base (k+1) f fd ps sp:=by
 obtain⟨oc,od,kV,doc,pm,an,cdv,ct,osl,rfl,lk,hcd⟩:=F.ex
 exact zL lk hcd S len fun A outer s H vs Q E hr hsp=>hbody cdv A outer s H vs Q E hr hsp
section
variable {X:Cx}{ea:Addr}{k:Nat}{f:Addr}{fd:FuncData}{ps:List Str}{sp:Sp}{dvs:List V}{ds:List Value}{x:Str}{p pos:Pos}{e:Expr}{es:List Expr}{t:TA}
theorem xB(F:FnH ea X.prog X.w X.K X.mg X.base k f fd ps sp)(hr:RoomH ea k X.A)(hg:Gl X x)(hm:X.mg x=some (.ref f))(hk:PySem.W.keepIn X.K (.ref f)=true)(hb:aI X.K fd ps ds)(hd:aR dvs ds)
 (ha:PA X (e::es) t) (hdb:(x==("__debug__":Str))=false:=by decide) (he:starEach (e::es) X.env=(false,eval e X.env)::starEach es X.env:=by rfl) (hpl:(backTo pos (starEach es X.env)).any (·.1)=false:=by rfl) :
 PE X (.Call (.Name x p) (e::es) [] pos) (yC sp dvs (fun _ _ _=>False) t):=by
 intro pins s σ H Q I h
 refine wpAny_Call_Name_kw (jJ I hg hm ?_ hdb)
 refine PySem.W.callWith_K (h₀:=X.base) I.ok.mod.kin hk (thn (ha pos pins s σ H _ I h) fun us s1 ⟨vs,H1,I1,r,q⟩=>⟨I1.kIn,?_⟩) he hpl
 have r2:aR (vs++dvs) (us++ds):=r.append hd
 have hl:(us++ds).length=ps.length:=by rw[← r2.length];exact F.len _ _ _ _ q
 refine wpAny_call (codeAny_mono (F.run X.A X.stack s1 H1 ⟨us,[]⟩ (us++ds) (vs++dvs) Q _ hr I1.env0 (hb s1 us I1.kIn hl) r2 q) fun r s' hq=>?_)
 cases r with
 | error e=>exact False.elim hq
 | ok fl =>
   cases fl with
   | ret u=>exact I1.after hq
   | next=>exact False.elim hq
   | brk=>exact False.elim hq
   | cont=>exact False.elim hq
end
section
variable {prog:Program}{w:World}{A:Around}{E:Value→Shared→Prop}{s:Shared}
theorem nz:entryFor table "proto.unchain"=some Builtin.«proto.unchain»:=entryFor_of_fast (by kernel_rfl)
theorem sg{α:Type}{e ea:Addr}{oe:Obj}{vs:Array Value}{Q:α→Shared→Prop}(hh:A.handled=some (.ref ea))(ne:ea≠e)(ge:s.heap.get? e=some oe)(de:oe.data = .fields vs)(hz:2<vs.size)(h2:Sec ea s.heap)
 (q:E (.ref e) { s with heap:=s.heap.update e (Obj.mapFields (·.setIfInBounds 2 (.ref ea)))}):wpAny (model prog w) A (raiseNew (.ref e):Sem α) Q E s:=by
 obtain⟨oh,hs,gh,dh,zh⟩:=h2
 rw[raiseNew]
 refine wpAny_bind (wpAny_handled ?_)
 rw[hh]
 dsimp only
 rw[if_pos (by simp[ne])]
 refine wpAny_bind (wpAny_holding (wpAny_runValue (codeAny_builtin nz ?_)))
 show wpAny _ _ (field (.ref ea) 2 >>= _) _ _ s
 refine wpAny_bind (wpAny_field gh dh zh ?_)
 refine wpAny_bind (wpAny_pure ?_)
 refine wpAny_pure ?_
 show wpAny _ _ (setField (.ref e) 2 (.ref ea) >>= fun _=>throw (.ref e)) _ _ s
 exact wpAny_bind (wpAny_setField (s:=s) (x:=.ref ea) ge de hz (wpAny_throw q))
theorem lL{it ea:Addr}{x left step:Int}{Q:Option Value→Shared→Prop}(hh:A.handled=some (.ref ea))(h2:Sec ea s.heap)(hit:IsRangeIter s.heap it x left step)(hleft:left≤0)
 (hQ:∀ h',Heap.ExtBut it s.heap h'→Q none { s with heap:=h'}):wpAny (model prog w) A (pyNext (.ref it)) Q E s:=by
 have hT:s.TypeIs (.ref it) "range_iterator":=⟨_,hit,rfl⟩
 rw[pyNext]
 refine wpAny_bind (wpAny_attempt (wpAny_callSpecial?_slot (name:=Str.ofString "__next__") hT F.slot_range_iterator_next (wpAny_call_entry F.slot_range_iterator_next hT F.entry_range_iterator_next ?_ (F.args_range_iterator_next_1 _))))
 show wpAny _ _ (field (.ref it) 0 >>= fun _=>_) _ _ s
 refine wpAny_bind (wpAny_field hit rfl (x:=rawInt x) rfl ?_)
 show wpAny _ _ (field (.ref it) 1 >>= fun _=>_) _ _ s
 refine wpAny_bind (wpAny_field hit rfl (x:=rawInt left) rfl ?_)
 show wpAny _ _ (field (.ref it) 2 >>= fun _=>_) _ _ s
 refine wpAny_bind (wpAny_field hit rfl (x:=rawInt step) rfl ?_)
 show wpAny _ _ (if left≤0 then _ else _) _ _ s
 rw[if_pos hleft]
 refine wpAny_bind (wpAny_rule (wpAny_bind ?_))
 show wpAny _ _ (newExc (.type "StopIteration") [] >>= fun _=>_) _ _ _
 refine wpAny_bind ?_
 simp only[newExc,newTuple]
 refine wpAny_bind (wpAny_newObj_type ?_ (by size_fits))
 refine wpAny_bind (m:=firstArgMember _ _) (wpAny_of_eq (a:=Value.none) (by first | rfl | (simp only[firstArgMember];rfl)) (wpAny_newObj_type ?_ (by size_fits)))
 obtain⟨oh,hs,gh,dh,zh⟩:=h2
 have lt:=Heap.lt_size gh
 refine sg hh ?_ (Heap.get?_push_size _ rfl) rfl (by simp;omega) ⟨oh,hs,Heap.get?_push_of_some _ (Heap.get?_push_of_some _ gh),dh,zh⟩ ?_
 ·rw[Heap.size_push]
  exact Nat.ne_of_lt (Nat.lt_succ_of_lt lt)
 ·have g0:=Heap.get?_push_size (s.heap.push { cls:=.type "tuple",data:=.seq #[]}) (o:={ cls:=.type "StopIteration",data:=.fields (#[.ref s.heap.objs.size,.none,.none,.none,.bool false,.none]++ownMembersOf (.type "StopIteration") [])}) rfl
  have g1:=Heap.get?_update_self (Obj.mapFields (·.setIfInBounds 2 (.ref ea))) g0 (Obj.isFreed_of_fields (Obj.data_mapFields rfl _))
  refine wpAny_bind (wpAny_isInstance (T:="StopIteration") (b:=true) ⟨_,g1,Obj.cls_mapFields _ _⟩ isSubtype_stop ?_)
  refine wpAny_pure (hQ _ fun b o hb g=>?_)
  have nb:(s.heap.push { cls:=.type "tuple",data:=.seq #[]}).objs.size≠b:=by
   rw[Heap.size_push]
   exact Nat.ne_of_gt (Nat.lt_succ_of_lt (Heap.lt_size g))
  exact(Heap.get?_update_other _ _ nb).trans (Heap.get?_push_of_some _ (Heap.get?_push_of_some _ g))
end
def zj(ea:Addr)(C:Value)(lo:Int)(n:Nat):It:=⟨(Itr lo n).go,(Itr lo n).yld,fun i H=>(Itr lo n).stop i H∧H ea=some (mD ea C)⟩
theorem qS{A:Around}{P:Program}{w:World}{K:PySem.W.Frag}{tg:Expr}{ea:Addr}{C:Value}(hh:A.handled=some (.ref ea))(it:Addr)(lo:Int)(n:Nat):
 TurnX A false P w K tg (zj ea C lo n) [it] it (fun i h=>IsRangeIter h it (lo+(i:Int)*1) ((n:Int)-(i:Int)) 1):=by
 have T0:=lW (P:=P) (w:=w) (K:=K) (tg:=tg) it lo n
 refine⟨T0.mem,T0.obj,T0.keep,?_,?_,T0.self⟩
 ·intro X hP hw hK hA hc i pins s σ H E I hf st hg
  subst hP hw hK
  obtain⟨f0,f1,f2,f3,f4,f5⟩:=hf it (by simp)
  have hg' : i<n:=hg
  refine wpAny_pyNext_range_item st (by omega) fun h' st' sb=>?_
  have I1:Inv X pins σ H { s with heap:=h',toks:=s.toks+1}:=I.turned (fun b o hb e=>(sb.2 b hb).trans e) f0 f1 f3 f4 f5
  have st2:IsRangeIter h' it (lo+((i+1:Nat):Int)*1) ((n:Int)-((i+1:Nat):Int)) 1:=by
   rw[show lo+((i+1:Nat):Int)*1=lo+(i:Int)*1+1 by omega,show(n:Int)-((i+1:Nat):Int)=(n:Int)-(i:Int)-1 by omega]
   exact st'
  refine⟨_,rfl,xw (s:={ s with heap:=h',toks:=s.toks+1}) (n:="range_iterator") st2 rfl rfl (by decide) ⟨.int (lo+i),H,I1,⟨s.toks,?_⟩,⟨rfl,rfl⟩,st2,fun b hb=>(hf b hb).1⟩⟩
  rw[Int.mul_one]
 ·intro X hP hw hK hA hc i pins s σ H E I hf st hg
  subst hP hw hK hA
  obtain⟨f0,f1,f2,f3,f4,f5⟩:=hf it (by simp)
  obtain⟨hg,he⟩:=hg
  obtain⟨⟨oe,vs,e1,_,e3,e4⟩,_⟩:=(show aV X.prog X.w H s.heap ea (mD ea C) from I.hok ea _ he)
  exact lL hh ⟨oe,vs,e1,e3,e4⟩ st (by have:n≤i:=hg;omega) fun h' eb=>⟨rfl,I.turned (t':=s.toks) (fun b o hb e=>eb b o hb e) f0 f1 f3 f4 f5⟩
def aat(ea:Addr)(C:Value)(ta:TA):TI:=fun σ H R=>ta σ H fun vs H1=>∃ j:Int,vs=[.int j]∧-(2^62)≤j∧j<2^62∧R (zj ea C 0 j.toNat) H1
theorem uk{X:Cx}{tg:Expr}{ea:Addr}{C:Value}{a:Expr}{ta:TA}{p pos:Pos}(hh:X.A.handled=some (.ref ea))(hc:X.calm=false)(hg:Gl X "range")(hm:X.mg "range"=none)(ha:PA X [a] ta)(hs:starEach [a] X.env=[(false,eval a X.env)]:=by rfl):
 PIX X tg (.Call (.Name "range" p) [a] [] pos) (aat ea C ta):=by
 intro pins s σ H R I h
 refine Call_ (hZ I hg hm boot_range (PyProof.Rows.callWith_type1 (thn (ha pos pins s σ H _ I h) fun us s1 ⟨vs,H1,I1,r1,q1⟩=>?_) hs rfl))
 obtain⟨j,e,q1,q2,q⟩:=q1
 subst e
 cases r1 with
 | cons r rr =>
   cases rr
   obtain⟨t,rfl⟩:=r
   refine call_range_1 ?_
   refine wpAny_pyIter_range (IsRange.new ..) (small_one (by omega) (by omega) q1 q2) ?_
   generalize hr:({ cls:=.type "range",data:=.fields #[.int 0 _,.int j t,.int 1 _]}:Obj)=ro
   have I2:Inv X pins σ H1 { s1 with heap:=s1.heap.push ro,toks:=s1.toks+1+1}:=I1.kept fun b o e=>Heap.get?_push_of_some _ e
   refine⟨(s1.heap.push ro).objs.size,[(s1.heap.push ro).objs.size],_,_,H1,rfl,I2.kept (t':=s1.toks+1+1) fun b o e=>Heap.get?_push_of_some _ e,hc.symm▸qS (C:=C) hh _ 0 j.toNat,?_,fun b hb=>?_,q⟩
   ·have e1:(0:Int)+((0:Nat):Int)*1=0:=by simp
    have e2:((j.toNat:Nat):Int)-((0:Nat):Int)=Builtin.Range.rangeSize 0 j 1:=by rw[rangeSize_one];split<;>omega
    show IsRangeIter _ _ (0+((0:Nat):Int)*1) (((j.toNat:Nat):Int)-((0:Nat):Int)) 1
    rw[e1,e2]
    exact Heap.get?_push_size _ rfl
   ·have e:b=(s1.heap.push ro).objs.size:=by simpa using hb
    subst e
    exact I2.fpOk (Nat.le_refl _) (I2.hok.fresh (Nat.le_refl _))
theorem qA{ea:Addr}{C:Value}{m n:Nat}{g:TG}{tt:TT}{te:TE}{fr:St}{D:Addr}{Q:Hp→Prop}{H1:Hp}{lo:Int}(Pv:Nat→List V→Hp→Prop)(h0:Pv 0 [] H1)(hl:∀ i acc H,i≤m→Pv i acc H→H D=some (.lst acc)∧acc.length≤i)(hz:m≤sizeLine)
 (hs:∀ i acc H,i<m→Pv i acc H→g (.int (lo+i)) (List.replicate n none++fr) H fun σ2 H2=>σ2.drop n=fr∧tt σ2 H2 fun b H3 =>
  if b=true then te σ2 H3 fun v H4=>H4 D=some (.lst acc)∧Pv (i+1) (acc++[v]) (upd H4 D (.lst (acc++[v]))) else Pv (i+1) acc H3)
 (hd:∀ acc H,Pv m acc H→H ea=some (mD ea C)∧Q H):ft (zj ea C lo m) g tt te n fr D Q H1:=by
 refine⟨fun i k acc H=>k=m-i∧i≤m∧Pv i acc H,⟨m,by simp,Nat.zero_le _,h0⟩,?_⟩
 rintro i k acc H ⟨rfl,hi,p⟩
 obtain⟨hD,ha⟩:=hl i acc H hi p
 refine⟨hD,?_⟩
 by_cases hlt:i<m
 ·refine .inr ⟨hlt,by omega,Pv (i+1),fun acc' H' p'=>⟨m-(i+1),by omega,rfl,hlt,p'⟩,fun x H' y=>?_⟩
  obtain⟨e,y⟩:=y
  subst e y
  exact hs i acc _ hlt p
 ·have e:i=m:=by omega
  subst e
  obtain⟨h1,h2⟩:=hd acc H p
  exact .inl ⟨⟨Nat.le_refl _,h1⟩,h2⟩
end L2
namespace L2
open PySem PySem.Spec PyProof.Rows
section
variable {X:Cx}{pins:List (Addr×Obj)}{σ:St}{H:Hp}{s:Shared}{h' : Heap}
theorem Inv.yields{t' : Nat}{wr:List Addr}{T:Addr}{o:HO}(I:Inv X pins σ H s)(k:∀ b u,b∉wr→s.heap.get? b=some u→h'.get? b=some u)(hf:∀ b∈wr,iU X pins H b)(hT:s.heap.objs.size≤T)
 (new:aV X.prog X.w (upd H T o) h' T o):Inv X pins σ (upd H T o) { s with heap:=h',toks:=t'}:=by
 have hTn:H T=none:=I.hok.fresh hT
 have nT:∀ b u,H b=some u→b≠T:=fun b u e=>bi e hTn
 have nw:∀ b u,H b=some u→b∉wr:=fun b u e hb=>by rw[(hf b hb).1]at e;cases e
 refine I.step (g':=s.gens) (d':=s.drawn) (ch:=wr) (fun b hb=>?_) (fun b o _ _ hc e _=>k b o hc e) (fun b o _ _ hc e _=>⟨o.slots,k b o hc e⟩) (fun b u hc e n=>?_)
  (fun b o hc e=>⟨o,k b o hc e⟩) (fun b xs e=>?_) (fun b ob xs e=>?_) (fun b ps e=>⟨#[],?_⟩) (fun m hm=>?_) (fun b u e=>?_) I.bare
 ·obtain⟨_,f1,_,f3,f4,f5⟩:=hf b hb
  exact⟨f3,f1,f4,f5⟩
 ·rw[ak (Nat.ne_of_lt (Nat.lt_of_lt_of_le (Heap.lt_size e) hT))];exact n
 ·rw[ak (nT b _ e)];exact e
 ·rw[ak (nT b _ e)];exact e
 ·rw[ak (nT b _ e),e];simp
 ·obtain⟨o,es,ep,ho,r⟩:=hm
  exact⟨o,es,ep,k _ o (fun hb=>(hf _ hb).2.1 rfl) ho,r⟩
 ·by_cases hb:b=T
  ·subst hb;rw[ag]at e;cases e;exact new
  ·rw[ak hb]at e
   refine(I.hok b u e).stay (fun c v hc q=>k c v ?_ q) (fun c q=>by rw[ak (nT c _ q)];exact q) fun c xs q=>by rw[ak (nT c _ q)];exact q
   rcases hc with z|z
   ·rw[z];exact nw b u e
   ·exact nw c _ z
theorem Inv.turnedL{t' : Nat}{wr:List Addr}(I:Inv X pins σ H s)(k:∀ b u,b∉wr→s.heap.get? b=some u→h'.get? b=some u)(hf:∀ b∈wr,iU X pins H b):Inv X pins σ H { s with heap:=h',toks:=t'}:=by
 have nw:∀ b u,H b=some u→b∉wr:=fun b u e hb=>by rw[(hf b hb).1]at e;cases e
 refine I.step (g':=s.gens) (d':=s.drawn) (ch:=wr) (fun b hb=>?_) (fun b o _ _ hc e _=>k b o hc e) (fun b o _ _ hc e _=>⟨o.slots,k b o hc e⟩) (fun _ _ _ _ n=>n)
  (fun b o hc e=>⟨o,k b o hc e⟩) (fun _ _ e=>e) (fun _ _ _ e=>e) (fun b ps e=>⟨#[],by rw[e];simp⟩) (fun m hm=>?_) (fun b u e=>?_) I.bare
 ·obtain⟨_,f1,_,f3,f4,f5⟩:=hf b hb
  exact⟨f3,f1,f4,f5⟩
 ·obtain⟨o,es,ep,ho,r⟩:=hm
  exact⟨o,es,ep,k _ o (fun hb=>(hf _ hb).2.1 rfl) ho,r⟩
 ·refine(I.hok b u e).stay (fun c v hc q=>k c v ?_ q) (fun _ q=>q) fun _ _ q=>q
  rcases hc with z|z
  ·rw[z];exact nw b u e
  ·exact nw c _ z
end
def Itz(K:PySem.W.Frag)(a b:Addr):It :=
 ⟨fun i H=>∃ xs ys x y,SqL K H a xs∧SqL K H b ys∧xs[i]?=some x∧ys[i]?=some y,
  fun i H v H'=>∃ T x y,v = .ref T∧H T=none∧H' = upd H T (.tup [x,y])∧(∀ xs,SqL K H a xs→xs[i]?=some x)∧∀ ys,SqL K H b ys→ys[i]?=some y,
  fun i H=>∃ xs ys,SqL K H a xs∧SqL K H b ys∧(xs.length≤i∨ys.length≤i)⟩
theorem wf{P:Program}{w:World}{K:PySem.W.Frag}{elts:List Expr}{k:Nat}{pos:Pos}(a b z TI TO i1 i2:Addr)(D:ZipApart z TI TO i1 i2 a b):
 Turn P w K (.Tuple elts k pos) (Itz K a b) [z,TI,TO,i1,i2] z (fun i h=>IsZip h z TI TO .none∧IsPair h TI (.ref i1) (.ref i2)∧(∃ u v,IsPair h TO u v)∧h.IsListIter i1 a i∧h.IsListIter i2 b i) where
 mem:=by simp
 obj:=fun i h st c hc=>by
  obtain⟨hz,hI,⟨u,v,hO⟩,⟨o1,ho1,_,d1⟩,o2,ho2,_,d2⟩:=st
  have hc' : c=z∨c=TI∨c=TO∨c=i1∨c=i2:=by simpa using hc
  rcases hc' with rfl|rfl|rfl|rfl|rfl
  ·exact⟨_,hz,fun v z=>by cases z⟩
  ·exact⟨_,hI,fun v z=>by cases z⟩
  ·exact⟨_,hO,fun v z=>by cases z⟩
  ·exact⟨o1,ho1,fun v z=>by rw[d1]at z;cases z⟩
  ·exact⟨o2,ho2,fun v z=>by rw[d2]at z;cases z⟩
 keep:=fun i h h' st k=>by
  obtain⟨hz,hI,⟨u,v,hO⟩,h1,h2⟩:=st
  exact⟨k z (by simp) _ hz,k TI (by simp) _ hI,⟨u,v,k TO (by simp) _ hO⟩,h1.at fun o e=>k i1 (by simp) o e,h2.at fun o e=>k i2 (by simp) o e⟩
 item:=by
  intro X hP hw hK hc i pins s σ H E I hf st hg
  subst hP hw hK
  obtain⟨xs,ys,x,y,hq,hq2,hx,hy⟩:=hg
  obtain⟨its,rv,p,hzl⟩:=I.list hq
  obtain⟨its2,rv2,p2,hzl2⟩:=I.list hq2
  obtain⟨u,hu,ru⟩:=rv.get hx
  obtain⟨u2,hu2,ru2⟩:=rv2.get hy
  obtain⟨hz,hI,⟨v1,v2,hO⟩,h1,h2⟩:=st
  refine wpAny_pyNext_zip_item D hz hI hO h1 h2 p.isList p2.isList (x:=u) (y:=u2) (by simpa using hu) (by simpa using hu2) fun h3 hz3 hO3 h13 h23 hT hsz hk=>?_
  refine⟨_,rfl,wpAny_letOwnedTupleGo_zip hz3 fun h4 hz4 hs4=>?_⟩
  have lt:∀{c o},s.heap.get? c=some o→s.heap.objs.size≠c:=fun e=>Nat.ne_of_gt (Heap.lt_size e)
  have hT4:h4.get? s.heap.objs.size=some { cls:=.type "tuple",data:=.seq #[u,u2]}:=(hs4.2 _ (lt hz)).trans hT
  have kk:∀ c o,c∉[z,TO,i1,i2]→s.heap.get? c=some o→h4.get? c=some o:=fun c o hc q=>by
   have c1:c≠z:=fun e=>hc (by simp[e])
   exact(hs4.2 c c1).trans (hk c o c1 (fun e=>hc (by simp[e])) (fun e=>hc (by simp[e])) (fun e=>hc (by simp[e])) q)
  have hsub:∀ c∈[z,TO,i1,i2],c∈[z,TI,TO,i1,i2]:=fun c hc=>by
   have hc' : c=z∨c=TO∨c=i1∨c=i2:=by simpa using hc
   rcases hc' with rfl|rfl|rfl|rfl<;>simp
  refine⟨.ref s.heap.objs.size,upd H s.heap.objs.size (.tup [x,y]),I.yields (wr:=[z,TO,i1,i2]) (t':=s.toks) kk (fun c hc=>hf c (hsub c hc)) (Nat.le_refl _) ?_,rfl,
   ⟨_,x,y,rfl,I.fresh,rfl,fun zs hy=>by rw[I.list_inj hy hq];exact hx,fun zs hz=>by rw[I.list_inj hz hq2];exact hy⟩,⟨hz4,(hs4.2 _ D.TIz).trans (hk _ _ D.TIz D.TITO D.TIi1 D.TIi2 hI),⟨u,u2,(hs4.2 _ D.TOz).trans hO3⟩,?_,?_⟩,fun c hc=>?_⟩
  ·exact⟨dl rfl,[u,u2],.cons ru (.cons ru2 .nil),⟨_,hT4,rfl,_,rfl⟩⟩
  ·exact h13.at fun o q=>(hs4.2 _ D.i1z).trans q
  ·exact h23.at fun o q=>(hs4.2 _ D.i2z).trans q
  ·rw[ak]
   ·exact(hf c hc).1
   ·have hc' : c=z∨c=TI∨c=TO∨c=i1∨c=i2:=by simpa using hc
    rcases hc' with rfl|rfl|rfl|rfl|rfl
    ·exact Ne.symm (lt hz)
    ·exact Ne.symm (lt hI)
    ·exact Ne.symm (lt hO)
    ·obtain⟨o,q,_⟩:=h1
     exact Ne.symm (lt q)
    ·obtain⟨o,q,_⟩:=h2
     exact Ne.symm (lt q)
 done:=by
  intro X hP hw hK hc i pins s σ H E I hf st hg
  subst hP hw hK
  obtain⟨xs,ys,hq,hq2,hx⟩:=hg
  obtain⟨its,rv,p,hzl⟩:=I.list hq
  obtain⟨its2,rv2,p2,hzl2⟩:=I.list hq2
  obtain⟨hz,hI,⟨v1,v2,hO⟩,h1,h2⟩:=st
  have hl:=rv.length
  have hl2:=rv2.length
  have hsub:∀ c∈[z,TO,i1,i2],c∈[z,TI,TO,i1,i2]:=fun c hc=>by
   have hc' : c=z∨c=TO∨c=i1∨c=i2:=by simpa using hc
   rcases hc' with rfl|rfl|rfl|rfl<;>simp
  refine wpAny_pyNext_zip_end (I.ok.hd hc) D hz hI hO h1 h2 p.isList p2.isList (hx.imp (fun q=>by simp;omega) fun q=>by simp;omega) fun h' kk=>⟨rfl,I.turnedL (wr:=[z,TO,i1,i2]) (t':=s.toks) (fun c o hc q=>?_) fun c hc=>hf c (hsub c hc)⟩
  exact kk c o (fun e=>hc (by simp[e])) (fun e=>hc (by simp[e])) (fun e=>hc (by simp[e])) (fun e=>hc (by simp[e])) q
 self:=fun _ _ _ _ _ st h=>wpAny_pyIter_zip st.1 h
theorem uh{n a b:Nat}(la:a<n)(lb:b<n):ZipApart (n+4) (n+2) (n+3) n (n+1) a b:=by
 have k:∀{x y:Nat},x<y∨y<x→x≠y:=fun h=>by omega
 constructor<;>exact k (by omega)
section
variable {X:Cx}{elts:List Expr}{n:Nat}{tp:Pos}
def aa7(K:PySem.W.Frag)(ta:TA):TI:=fun σ H R=>ta σ H fun vs H1=>∃ a b,vs=[.ref a,.ref b]∧(∃ xs,SqL K H1 a xs)∧(∃ ys,SqL K H1 b ys)∧R (Itz K a b) H1
theorem zm(K:PySem.W.Frag){a b:Expr}{ta:TA}{p pos:Pos}(hg:Gl X "zip")(hm:X.mg "zip"=none)(ha:PA X [a,b] ta)(hs:starEach [a,b] X.env=[(false,eval a X.env),(false,eval b X.env)]:=by rfl)(hs2:starEach [b] X.env=[(false,eval b X.env)]:=by rfl)(hK:X.K=K:=by rfl):
 PI X (.Tuple elts n tp) (.Call (.Name "zip" p) [a,b] [] pos) (aa7 K ta):=by
 subst hK
 intro pins s σ H R I h
 refine Call_ (hZ I hg hm boot_zip (PyProof.Rows.callWith_type1 (thn (ha pos pins s σ H _ I h) fun us s1 ⟨vs,H1,I1,r1,q1⟩=>?_) (by rw[hs,hs2]) (by rw[hs2];rfl)))
 obtain⟨a,b,e,⟨xs,hq⟩,⟨ys,hq2⟩,q⟩:=q1
 subst e
 cases r1 with
 | cons r rr =>
   cases rr with
   | cons r' rr =>
     cases rr
     cases r
     cases r'
     obtain⟨its,rv,pl,hz⟩:=I1.list hq
     obtain⟨its2,rv2,pl2,hz2⟩:=I1.list hq2
     refine call_zip_2 pl.isList pl2.isList fun h' hzz hI hO h1 h2 hsz hk=>?_
     have I2:Inv X pins σ H1 { s1 with heap:=h'}:=I1.kept (t':=s1.toks) hk
     have la:a<s1.heap.objs.size:=by obtain⟨_,q,_⟩:=pl.isList;exact Heap.lt_size q
     have lb:b<s1.heap.objs.size:=by obtain⟨_,q,_⟩:=pl2.isList;exact Heap.lt_size q
     refine wpAny_pyIter_zip hzz ⟨_,[s1.heap.objs.size+4,s1.heap.objs.size+2,s1.heap.objs.size+3,s1.heap.objs.size,s1.heap.objs.size+1],_,_,H1,rfl,I2,
      wf a b _ _ _ _ _ (uh la lb),⟨hzz,hI,⟨_,_,hO⟩,h1,h2⟩,fun c hc=>?_,q⟩
     have hc' : c=s1.heap.objs.size+4∨c=s1.heap.objs.size+2∨c=s1.heap.objs.size+3∨c=s1.heap.objs.size∨c=s1.heap.objs.size+1:=by simpa using hc
     have hcs:s1.heap.objs.size≤c:=by
      rcases hc' with rfl|rfl|rfl|rfl|rfl
      ·exact Nat.le_add_right _ _
      ·exact Nat.le_add_right _ _
      ·exact Nat.le_add_right _ _
      ·exact Nat.le_refl _
      ·exact Nat.le_add_right _ _
     exact I1.fpOk hcs (I1.hok.fresh hcs)
end
section
variable {K:PySem.W.Frag}{a b:Addr}{xs ys:List V}{g:TG}{tt:TT}{te:TE}{n:Nat}{fr:St}{D:Addr}{Q:Hp→Prop}{H1:Hp}
theorem wS(hxy:xs.length=ys.length)(Pv:Nat→List V→Hp→Prop)(h0:Pv 0 [] H1)(hl:∀ i acc H,i≤xs.length→Pv i acc H→SqL K H a xs∧SqL K H b ys∧H D=some (.lst acc)∧acc.length≤i)(hz:xs.length≤sizeLine)
 (hs:∀ i x y T acc H,xs[i]?=some x→ys[i]?=some y→Pv i acc H→H T=none→g (.ref T) (List.replicate n none++fr) (upd H T (.tup [x,y])) fun σ2 H2=>σ2.drop n=fr∧tt σ2 H2 fun b H3 =>
  if b=true then te σ2 H3 fun v H4=>H4 D=some (.lst acc)∧Pv (i+1) (acc++[v]) (upd H4 D (.lst (acc++[v]))) else Pv (i+1) acc H3)
 (hd:∀ acc H,Pv xs.length acc H→Q H):ft (Itz K a b) g tt te n fr D Q H1:=by
 refine⟨fun i m acc H=>m=xs.length-i∧i≤xs.length∧Pv i acc H,⟨xs.length,by simp,Nat.zero_le _,h0⟩,?_⟩
 rintro i m acc H ⟨rfl,hi,p⟩
 obtain⟨q,q2,hD,ha⟩:=hl i acc H hi p
 refine⟨hD,?_⟩
 by_cases hlt:i<xs.length
 ·have hlt2:i<ys.length:=by omega
  refine .inr ⟨⟨xs,ys,xs[i],ys[i],q,q2,by simp[hlt],by simp[hlt2]⟩,by omega,Pv (i+1),fun acc' H' p'=>⟨xs.length-(i+1),by omega,rfl,hlt,p'⟩,fun v H' y=>?_⟩
  obtain⟨T,x,z,rfl,hT,rfl,y1,y2⟩:=y
  exact hs i x z T acc _ (y1 xs q) (y2 ys q2) p hT
 ·have e:i=xs.length:=by omega
  subst e
  exact .inl ⟨⟨xs,ys,q,q2,.inl (Nat.le_refl _)⟩,hd acc H p⟩
end
end L2
namespace L2
open PySem PySem.Spec PyProof.Rows
section
variable {X:Cx}
theorem qQ:dF X (.type "range") (fun xs H Q=>∃ j:Int,xs=[.int j]∧∀ p,H p=none→Q (.ref p) (upd H p (.rng 0 j))):=by
 intro pins s σ H xs us Q I r h
 obtain⟨j,rfl,q⟩:=h
 obtain⟨u,rfl,t,rfl⟩:=gn r
 refine call_range_1 ⟨.ref s.heap.objs.size,_,I.laid (t':=s.toks+1+1) (fun b o e=>Heap.get?_push_of_some _ e) (Nat.le_refl _) ?_,rfl,q _ I.fresh⟩
 exact⟨_,_,_,Heap.get?_push_size _ rfl⟩
def ni(n:Nat):List V:=(List.range n).map fun i=>V.int ((i:Nat):Int)
theorem yH(hc:X.calm=true):dF X (.type "list") (fun xs H Q=>∃ p,∃ n:Nat,xs=[.ref p]∧H p=some (.rng 0 (n:Int))∧n≤900∧∀ l,H l=none→Q (.ref l) (upd H l (.lst (ni n)))):=by
 intro pins s σ H xs us Q I r h
 obtain⟨p,n,rfl,hp,hn,q⟩:=h
 obtain⟨u,rfl,rx⟩:=gn r
 cases rx
 obtain⟨t,u,v,e⟩:=(show aV X.prog X.w H s.heap p (.rng 0 (n:Int)) from I.hok p _ hp)
 have hsz:Builtin.Range.rangeSize 0 (n:Int) 1=(n:Int):=by rw[rangeSize_one];split<;>omega
 refine call_list_range (I.ok.hd hc) e (small_one (by omega) (by omega) (by omega) (by omega)) hsz (Nat.le_trans hn (by decide)) fun h' tk acc c kp e' hacc=>?_
 refine⟨.ref s.heap.objs.size,_,I.laid (t':=tk) kp (Nat.le_refl _) ?_,rfl,q _ I.fresh⟩
 have hl:acc.toList.length=n:=by rw[Array.length_toList];exact hacc.1
 have hz:(ni n).length≤sizeLine:=by
  unfold ni
  rw[List.length_map,List.length_range]
  exact Nat.le_of_lt (gf (by omega))
 refine⟨hz,acc.toList,c,?_,by simpa using e'⟩
 have key:∀(ys:List Value) (k:Nat),(∀ j v,ys[j]?=some v→∃ t,v=Value.int (((k+j:Nat)):Int) t)→aR ((List.range' k ys.length).map fun i=>V.int ((i:Nat):Int)) ys:=by
  intro ys
  induction ys with
  | nil=>intro k _;exact .nil
  | cons y r ih =>
    intro k hy
    obtain⟨t,ht⟩:=hy 0 y rfl
    refine .cons ⟨t,by simpa using ht⟩ (ih (k+1) fun j v hv=>?_)
    obtain⟨t',ht'⟩:=hy (j+1) v (by simpa using hv)
    exact⟨t',by rw[ht'];congr 2;omega⟩
 have z:=key acc.toList 0 fun j v hv=>by
  obtain⟨t,ht⟩:=hacc.2 j v (by simpa using hv)
  exact⟨t,by rw[ht];congr 1;omega⟩
 rw[hl]at z
 unfold ni
 rw[List.range_eq_range']
 exact z
theorem aaq(K:PySem.W.Frag)(hc:X.calm=true)(hK:X.K=K:=by rfl):dF X (.builtin "sum") (fun xs H Q=>∃(p:Addr) (ns:List Int),xs=[.ref p]∧SqL K H p (ns.map V.int)∧Q (.int ns.sum) H):=by
 subst hK
 intro pins s σ H xs us Q I r h
 obtain⟨p,ns,rfl,hq,q⟩:=h
 obtain⟨u,rfl,rx⟩:=gn r
 cases rx
 obtain⟨its,rv,pl,hz⟩:=I.list hq
 have hi:∀{ns:List Int} {its:List Value},aR (ns.map V.int) its→∃ xs:Array (Int×Tok),its.toArray=intItems xs∧xs.toList.map (·.1)=ns:=by
  intro ns
  induction ns with
  | nil=>intro its r;cases r;exact⟨#[],by simp[intItems],rfl⟩
  | cons a l ih =>
    intro its r
    cases r with
    | cons r1 r2 =>
      obtain⟨t,rfl⟩:=r1
      obtain⟨xs,h1,h2⟩:=ih r2
      refine⟨#[(a,t)]++xs,?_,by simp[h2]⟩
      have h1':=congrArg Array.toList h1
      simp only[intItems,Array.toList_map,List.toList_toArray]at h1'
      simp[intItems,h1',Array.map_append]
 obtain⟨ar,e1,e2⟩:=hi rv
 have hl:s.heap.IsList p (intItems ar):=e1▸pl.isList
 refine sum_intListG (I.ok.hd hc) hl fun h' tk t' hk=>?_
 have e3:preSum (numAt ar) ar.size=ns.sum:=by rw[preSum_eq,List.take_of_length_le (by simp),e2]
 rw[e3]
 exact⟨.int ns.sum,H,I.kept hk,⟨t',rfl⟩,q⟩
end
end L2
namespace L2
open PySem PySem.Spec PyProof.Rows
section
variable {X:Cx}
end
end L2
namespace L2
open PySem PySem.Spec PyProof.Rows
section
variable {X:Cx}
end
end L2
namespace HT
open PySem PyProof.Rows
section
variable {prog:Program}{w:World}{A:Around}{E:Value→Shared→Prop}{s:Shared}
theorem iV{t sl:Addr}{items:Array Value}{vl vu:Value}{lo hi:Option Int}{Q:Value→Shared→Prop}(ht:IsTup s.heap t items)(hs:s.heap.IsSliceOf sl vl vu .none)(pl:IsPart vl lo)(pu:IsPart vu hi)
 (hw:sIx items.size 0 lo=0∧sIx items.size items.size hi=items.size) (h:Q (.ref t) s):wpAny (model prog w) A (getItem (.ref t) (.ref sl)) Q E s:=by
 obtain⟨os,hos,hcs,hds⟩:=id hs
 have hTs:s.TypeIs (.ref sl) "slice":=⟨os,hos,hcs⟩
 unfold getItem
 try with_reducible refine wpAny_holding ?_
 first | refine wpAny_bind (wpAny_pure ?_) | skip
 refine wpAny_bind (wpAny_sequenceKey ht.typeIs (by decide) ?_)
 refine wpAny_bind (wpAny_callSpecial?_slot (name:=Str.ofString "__getitem__") ht.typeIs PyProof.Rows.slot_tuple_getitem
  (wpAny_call_entry PyProof.Rows.slot_tuple_getitem ht.typeIs entry_tuple_getitem ?_ (args_tuple_getitem _ _)))
 show wpAny _ _ (Builtin.Tuple.tupleItemsOf (.ref t) >>= _) _ _ s
 refine wpAny_bind (tupleItemsOf_ ht ?_)
 refine wpAny_bind (wpAny_typeOf hTs ?_)
 rw[if_pos (by decide)]
 refine wpAny_bind (gj hs pl pu ?_)
 have hyes:(((sIx items.size 0 lo:Nat):Int)==0&&(1:Int)==1&&(sIx items.size items.size hi-sIx items.size 0 lo)==items.size)=true:=by
  rw[hw.1,hw.2]
  simp
 show wpAny _ _ (if(((sIx items.size 0 lo:Nat):Int)==0&&(1:Int)==1&&(sIx items.size items.size hi-sIx items.size 0 lo)==items.size)=true then _ else _) _ _ s
 rw[if_pos hyes]
 refine wpAny_bind ?_
 unfold Builtin.Tuple.tupleIsExact
 refine wpAny_bind (wpAny_typeOf ht.typeIs (wpAny_pure ?_))
 rw[if_pos (by decide)]
 exact wpAny_bind (wpAny_rule (wpAny_pure ⟨_,rfl,wpAny_pure h⟩))
end
end HT
namespace L2
open PySem PySem.Spec PyProof.Rows
section
variable {X:Cx}
def zT:V→Option Int→Option Int→Hp→VK→Prop:=fun x lo hi H Q=>∃ a xs,x = .ref a∧H a=some (.tup xs)∧∀ p H',am H H'→H' p=some (.tup (nj xs lo hi))→Q (.ref p) H'
theorem aa8:SlR X zT:=by
 intro pins s σ H x v vl vu lo hi sl Q I rx hs pl pu h
 obtain⟨a,xs,rfl,hx,q⟩:=h
 cases rx
 obtain⟨its,r,ht,hz⟩:=I.tuple (SqT.of hx)
 have hlen:its.toArray.size=xs.length:=by rw[List.size_toArray];exact r.length.symm
 refine⟨"tuple",_,PyProof.Rows.slot_tuple_getitem.lookup,ht.typeIs,?_⟩
 by_cases hw:HT.sIx xs.length 0 lo=0∧HT.sIx xs.length xs.length hi=xs.length
 ·refine HT.iV ht hs pl pu (by rw[hlen];exact hw) ⟨.ref a,H,I,rfl,q a H (am.refl _) ?_⟩
  unfold nj
  rw[hw.1,hw.2,List.drop_zero,Nat.sub_zero,List.take_length]
  exact hx
 ·refine HT.jw ht hs pl pu (by rw[hlen];exact hw) ?_ (by rw[hlen];exact hz)
  rw[hlen]
  refine⟨.ref s.heap.objs.size,_,I.laid (t':=s.toks) (o:=.tup (nj xs lo hi)) (fun b ob q=>Heap.get?_push_of_some _ q) (Nat.le_refl _) ?_,rfl,q _ _ (am.new (I.hok.fresh (Nat.le_refl _))) ag⟩
  exact⟨Nat.le_trans (kG xs lo hi) hz,_,(r.drop (HT.sIx xs.length 0 lo)).take (HT.sIx xs.length xs.length hi-HT.sIx xs.length 0 lo),IsTup.new _ _⟩
end
end L2
namespace Ring
open PySem
abbrev Tie:=Int×Int×Int
def bit(S:Int)(k:Nat):Bool:=decide (S/2^k%2=1)
def aB(S:Int):List Nat:=(List.range (Builtin.Int.intBits S)).filter (bit S)
def mI(e:List Int)(i:Int):List Int:=e.set i.toNat (e.getD i.toNat 0+1)
def step(ts:List Tie)(e:List Int)(k:Nat):List Int:=match ts[k]? with
 | some t=>mI (mI e t.1) t.2.1
 | none=>e
def gc(p:Nat)(ts:List Tie)(S:Int):List Int:=(aB S).foldl (step ts) (List.replicate p 0)
def m7(p:Nat)(ts:List Tie)(S:Int):List Nat:=(List.range p).filter fun i=>decide ((gc p ts S).getD i 0%2=1)
def deg(ts:List Tie)(k i:Nat):Int:=match ts[k]? with
 | some t=>(if t.1=(i:Int) then 1 else 0)+(if t.2.1=(i:Int) then 1 else 0)
 | none=>0
theorem gy(e:List Int)(i:Int):(mI e i).length=e.length:=by unfold mI;rw[List.length_set]
theorem vF(ts:List Tie)(e:List Int)(k:Nat):(step ts e k).length=e.length:=by
 unfold step
 split
 ·rw[gy,gy]
 ·rfl
theorem qH(e:List Int)(j:Int)(i:Nat)(h0:0≤j)(h1:j<e.length):(mI e j).getD i 0=e.getD i 0+if j=(i:Int) then 1 else 0:=by
 unfold mI
 rw[List.getD_eq_getElem?_getD,List.getD_eq_getElem?_getD,List.getD_eq_getElem?_getD]
 by_cases h:j=(i:Int)
 ·have hi:j.toNat=i:=by omega
  rw[if_pos h,hi,List.getElem?_set_self (by omega)]
  rfl
 ·have hi:j.toNat≠i:=by omega
  rw[if_neg h,List.getElem?_set_ne hi]
  omega
structure InWeb(p:Nat)(ts:List Tie):Prop where
 ends:∀ t∈ts,0≤t.1∧t.1<(p:Int)∧0≤t.2.1∧t.2.1<(p:Int)
theorem vQ{p:Nat}{ts:List Tie}(W:InWeb p ts)(e:List Int)(k i:Nat)(he:e.length=p):(step ts e k).getD i 0=e.getD i 0+deg ts k i:=by
 unfold step deg
 cases h:ts[k]? with
 | none=>simp
 | some t =>
   obtain⟨a0,a1,b0,b1⟩:=W.ends t (List.mem_of_getElem? h)
   dsimp only
   rw[qH _ _ _ b0 (by rw[gy,he];exact b1),qH _ _ _ a0 (by rw[he];exact a1)]
   omega
def jV(ts:List Tie)(ks:List Nat)(i:Nat):Int:=(ks.map fun k=>deg ts k i).sum
theorem qm{p:Nat}{ts:List Tie}(W:InWeb p ts)(i:Nat):∀(ks:List Nat) (e:List Int),e.length=p→(ks.foldl (step ts) e).getD i 0=e.getD i 0+jV ts ks i
 | [],e,_=>by simp[jV]
 | k::r,e,he=>by
   rw[List.foldl_cons,qm W i r _ (by rw[vF,he]),vQ W e k i he]
   unfold jV
   rw[List.map_cons,List.sum_cons]
   omega
theorem xr{p:Nat}{ts:List Tie}(W:InWeb p ts)(S:Int)(i:Nat):(gc p ts S).getD i 0=jV ts (aB S) i:=by
 unfold gc
 rw[qm W i _ _ (by simp)]
 have e:(List.replicate p (0:Int)).getD i 0=0:=by
  rw[List.getD_eq_getElem?_getD,List.getElem?_replicate]
  split<;>rfl
 rw[e]
 omega
theorem dS(m k:Nat):bit (m:Int) k=m.testBit k:=by
 unfold bit
 rw[Nat.testBit_eq_decide_div_mod_eq]
 have e:((m:Int)/2^k%2=1)↔(m/2^k%2=1):=by
  have h2:((2:Int)^k)=((2^k:Nat):Int):=by simp
  rw[h2,← Int.natCast_ediv]
  omega
 simp only[e]
theorem qD(m:Nat):Builtin.Int.intBits (m:Int)=if m=0 then 0 else m.log2+1:=by
 unfold Builtin.Int.intBits
 by_cases h:m=0
 ·simp[h]
 ·simp[h]
theorem eE{m n:Nat}(h:m<2^n):Builtin.Int.intBits (m:Int)≤n:=by
 rw[qD]
 split
 ·exact Nat.zero_le _
 ·rename_i h0
  exact(Nat.log2_lt h0).mpr h
theorem lN{m k:Nat}(h:Builtin.Int.intBits (m:Int)≤k):bit (m:Int) k=false:=by
 rw[dS]
 rw[qD]at h
 by_cases h0:m=0
 ·simp[h0]
 ·rw[if_neg h0]at h
  exact Nat.testBit_lt_two_pow (Nat.lt_of_lt_of_le Nat.lt_log2_self (Nat.pow_le_pow_right (by decide) h))
theorem jD(f:Nat→Bool)(a:Nat):∀ d,(∀ k,a≤k→f k=false)→(List.range (a+d)).filter f=(List.range a).filter f
 | 0,_=>rfl
 | d+1,h=>by
   rw[← Nat.add_assoc,List.range_succ,List.filter_append,jD f a d h]
   have e:[a+d].filter f=[]:=by rw[List.filter_cons,if_neg (by rw[h _ (by omega)];simp)];rfl
   rw[e,List.append_nil]
theorem dP{m n:Nat}(h:m<2^n):aB (m:Int)=(List.range n).filter fun k=>m.testBit k:=by
 unfold aB
 have hb:=eE h
 obtain⟨d,hd⟩:=Nat.exists_eq_add_of_le hb
 have e:(fun k=>m.testBit k)=bit (m:Int):=funext fun k=>(dS m k).symm
 rw[e]
 conv=>rhs;rw[hd]
 exact(jD _ _ d fun k hk=>lN hk).symm
theorem jK{m n:Nat}(h:m<2^n){k:Nat}(hk:k∈aB (m:Int)):k<n:=by
 rw[dP h]at hk
 exact List.mem_range.mp (List.mem_filter.mp hk).1
theorem lE(ts:List Tie)(i:Nat)(f:Nat→Bool):∀ ks:List Nat,jV ts (ks.filter f) i=(ks.map fun k=>if f k=true then deg ts k i else 0).sum
 | []=>rfl
 | k::r=>by
   have ih:=lE ts i f r
   rw[List.map_cons,List.sum_cons,← ih]
   cases h:f k with
   | true =>
     rw[List.filter_cons,if_pos h]
     unfold jV
     rw[List.map_cons,List.sum_cons]
     simp
   | false =>
     rw[List.filter_cons,if_neg (by rw[h];simp)]
     simp
theorem vA{a b x y:Nat}(q:x/2+2*(y/2)=a/2+b/2)(h:x%2+2*(y%2)=a%2+b%2):x+2*y=a+b:=by omega
theorem yg{u v:Nat}(hu:u=0∨u=1)(hv:v=0∨v=1):(u^^^v)+2*(u&&&v)=u+v:=by
 rcases hu with rfl|rfl<;>rcases hv with rfl|rfl<;>rfl
theorem x9:∀ a b:Nat,(a^^^b)+2*(a&&&b)=a+b:=by
 intro a
 induction a using Nat.strongRecOn with
 | ind a ih =>
   intro b
   by_cases h:a=0
   ·subst h
    simp
   ·have q:=ih (a/2) (by omega) (b/2)
    rw[← Nat.xor_div_two,← Nat.and_div_two]at q
    refine vA q ?_
    have e1:(a^^^b)%2=a%2^^^b%2:=Nat.xor_mod_two_pow (n:=1)
    have e2:(a&&&b)%2=a%2&&&b%2:=Nat.and_mod_two_pow (n:=1)
    rw[e1,e2]
    exact yg (Nat.mod_two_eq_zero_or_one a) (Nat.mod_two_eq_zero_or_one b)
theorem xor_int(a b:Nat):Builtin.bitXor (a:Int) (b:Int)=((a^^^b:Nat):Int):=by
 have h:(a:Int)+b-2*((a&&&b:Nat):Int)=((a^^^b:Nat):Int):=by
  have q:=x9 a b
  omega
 have e:=PyProof.Rows.bitXor_and (a:Int) (b:Int)
 rw[e,PyProof.Rows.bitAnd_pp (by omega) (by omega)]
 simpa using h
end Ring
namespace Ring
open PySem L2
def yf(t:Tie):List V:=[.int t.1,.int t.2.1,.int t.2.2]
def jq(H:Hp)(x:V)(t:Tie):Prop:=∃ b,x = .ref b∧H b=some (.tup (yf t))
structure WebAt(H:Hp)(w:Addr)(p:Nat)(ts:List Tie):Prop where
 ex:∃ b xs,H w=some (.tup [.int (p:Int),.ref b])∧H b=some (.tup xs)∧Paired (jq H) xs ts
structure Web(p:Nat)(ts:List Tie):Prop where
 inw:InWeb p ts
 len:ts.length≤24
 pts:p≤10
theorem jq.tups{H H' : Hp}(s:dL H H'){x:V}{t:Tie}(h:jq H x t):jq H' x t:=by
 obtain⟨b,e,h⟩:=h
 exact⟨b,e,s _ _ h⟩
theorem WebAt.tups{H H' : Hp}{w:Addr}{p:Nat}{ts:List Tie}(s:dL H H')(h:WebAt H w p ts):WebAt H' w p ts:=by
 obtain⟨b,xs,h1,h2,h3⟩:=h.ex
 exact⟨b,xs,s _ _ h1,s _ _ h2,Paired.imp' (fun _ _ z=>z.tups s) h3⟩
theorem WebAt.same{H H' : Hp}{w:Addr}{p:Nat}{ts:List Tie}(s:am H H')(h:WebAt H w p ts):WebAt H' w p ts:=h.tups s.tups
def aJ(l:List Nat):List V:=l.map fun k=>V.int ((k:Nat):Int)
theorem lB(l:List Nat)(k:Nat):aJ (l++[k])=aJ l++[.int (k:Int)]:=by unfold aJ;rw[List.map_append];rfl
theorem bA(l:List Nat):(aJ l).length=l.length:=by unfold aJ;rw[List.length_map]
theorem iR{l:List Nat}{i:Nat}{x:V}(h:(aJ l)[i]?=some x):∃ k,l[i]?=some k∧x = .int (k:Int):=by
 unfold aJ at h
 rw[List.getElem?_map]at h
 obtain⟨k,e,q⟩:=Option.map_eq_some_iff.mp h
 exact⟨k,e,q.symm⟩
theorem bz(f:Nat→Bool)(i:Nat):(List.range (i+1)).filter f=(List.range i).filter f++(if f i=true then[i] else[]):=by
 rw[List.range_succ,List.filter_append]
 congr 1
 cases h:f i with
 | true=>rw[List.filter_cons,if_pos h,if_pos rfl];rfl
 | false=>rw[List.filter_cons,if_neg (by rw[h];simp),if_neg (by simp)];rfl
def iu(f:Nat→Bool)(H:Hp)(D:Addr)(i:Nat)(acc:List V)(H2:Hp):Prop:=am H H2∧H2 D=some (.lst acc)∧acc=aJ ((List.range i).filter f)
section
variable {f:Nat→Bool}{H H2 H3:Hp}{D:Addr}{i:Nat}{acc:List V}
theorem iu.start(hD:H D=none):iu f H D 0 [] (upd H D (.lst [])):=⟨am.new hD,ag,rfl⟩
theorem iu.len(p:iu f H D i acc H2):H2 D=some (.lst acc)∧acc.length≤i:=by
 refine⟨p.2.1,?_⟩
 rw[p.2.2,bA]
 exact Nat.le_trans (List.length_filter_le _ _) (by rw[List.length_range];exact Nat.le_refl _)
theorem iu.yes(p:iu f H D i acc H2)(hD:H D=none)(s:am H2 H3)(hf:f i=true):H3 D=some (.lst acc)∧iu f H D (i+1) (acc++[.int (i:Int)]) (upd H3 D (.lst (acc++[.int (i:Int)]))):=by
 refine⟨s _ _ p.2.1,(p.1.trans s).put hD,ag,?_⟩
 rw[bz,if_pos hf,lB,← p.2.2]
theorem iu.no(p:iu f H D i acc H2)(s:am H2 H3)(hf:f i=false):iu f H D (i+1) acc H3:=by
 refine⟨p.1.trans s,s _ _ p.2.1,?_⟩
 rw[bz,if_neg (by rw[hf];simp),List.append_nil]
 exact p.2.2
end
def bc(ts:List Tie)(k:Nat):Tie:=ts.getD k (0,0,0)
def jp(e:List Int)(t:Tie):List Int:=mI (mI e t.1) t.2.1
theorem oN{ts:List Tie}:∀(ks:List Nat) (e:List Int),(∀ k∈ks,k<ts.length)→(ks.map (bc ts)).foldl jp e=ks.foldl (step ts) e
 | [],_,_=>rfl
 | k::r,e,h=>by
   rw[List.map_cons,List.foldl_cons,List.foldl_cons,oN r _ fun j hj=>h j (List.mem_cons_of_mem _ hj)]
   have hk:=h k List.mem_cons_self
   have e1:ts[k]?=some (bc ts k):=by
    unfold bc
    rw[List.getD_eq_getElem?_getD]
    simp[hk]
   have e2:step ts e k=jp e (bc ts k):=by
    unfold step jp
    rw[e1]
   rw[e2]
theorem ph{p:Nat}{ts:List Tie}{m:Nat}(h:m<2^ts.length):gc p ts (m:Int)=((aB (m:Int)).map (bc ts)).foldl jp (List.replicate p 0):=by
 unfold gc
 rw[oN _ _ fun k hk=>jK h hk]
theorem ul(e:List Int)(t:Tie):(jp e t).length=e.length:=by unfold jp;rw[gy,gy]
theorem jW:∀(l:List Tie) (e:List Int),(l.foldl jp e).length=e.length
 | [],_=>rfl
 | t::r,e=>by rw[List.foldl_cons,jW r,ul]
def iq(l:List Int):List V:=l.map V.int
theorem j7{l:List Int}{i:Nat}(h:i<l.length):(iq l)[i]?=some (.int (l.getD i 0)):=by
 unfold iq
 rw[List.getElem?_map,List.getD_eq_getElem?_getD]
 simp[h]
theorem mh(l:List Int)(i:Nat):(iq l).set i (.int (l.getD i 0+1))=iq (mI l (i:Int)):=by
 unfold iq mI
 rw[Int.toNat_natCast,List.map_set]
theorem w5(p:Nat):(List.replicate p [V.int 0]).flatten=iq (List.replicate p 0):=by
 induction p with
 | zero=>rfl
 | succ p ih=>rw[List.replicate_succ,List.flatten_cons,ih,List.replicate_succ];rfl
theorem kW{n j:Nat}(h:j<n):ixN n (j:Int)=some j:=by
 unfold ixN
 rw[if_pos (by omega),if_pos (by omega),Int.toNat_natCast]
def gB(k:Nat):PyData:=.int (k:Int)
theorem gp{K:PySem.W.Frag}{H:Hp}:∀ l:List Nat,DatVs K H (aJ l) (l.map gB)
 | []=>.nil
 | _::r=>.cons (.int _) (gp r)
theorem mf:∀ l:List Nat,PyData.canLayAll0 (l.map gB)=true
 | []=>rfl
 | _::r=>by
   have ih:=mf r
   simp only[List.map_cons,PyData.canLayAll0,ih,Bool.and_true]
   rfl
theorem oX:∀ l:List Nat,PyData.depthAll (l.map gB)=0
 | []=>rfl
 | _::r=>by
   have ih:=oX r
   show max (PyData.depth (PyData.int _)) (PyData.depthAll (r.map _))=0
   rw[ih]
   rfl
theorem fP(l:List Nat):SeqAt.shaped (.list (l.map gB))=true:=by
 unfold SeqAt.shaped
 have e:(PyData.list (l.map gB)).canLay0=PyData.canLayAll0 (l.map gB):=by simp[PyData.canLay0]
 rw[e,mf,Bool.true_and]
 refine decide_eq_true ?_
 have e2:PyData.depth (PyData.list (l.map gB))=PyData.depthAll (l.map gB)+1:=by simp[PyData.depth]
 rw[e2,oX]
 decide
theorem sY(l:List Nat):PyData.eqv (.list (l.map gB)) (.list [])=decide (l=[]):=by
 cases l with
 | nil=>rfl
 | cons a r=>rfl
theorem wF(S:Int)(k:Nat):decide (V.int (Builtin.bitAnd (S/2^k) 1)=V.int 1)=bit S k:=by
 unfold bit
 rw[PyProof.Rows.bitAnd_m1]
 rw[Bool.eq_iff_iff]
 simp
theorem yx(x:Int):decide (V.int x=V.int 1)=decide (x=1):=by
 rw[Bool.eq_iff_iff]
 simp
end Ring
namespace Ring
open PySem L2
structure GoodTie(p:Int)(t:Tie):Prop where
 a0:0≤t.1
 a1:t.1<p
 b0:0≤t.2.1
 b1:t.2.1<p
 ne:t.1≠t.2.1
 l0:1≤t.2.2
 l1:t.2.2≤1000000000000000000000000000000
structure GoodWeb(p:Nat)(ts:List Tie):Prop where
 p1:1≤p
 p2:p≤10
 len:ts.length≤24
 ties:∀ t∈ts,GoodTie (p:Int) t
theorem GoodWeb.web{p:Nat}{ts:List Tie}(g:GoodWeb p ts):Web p ts:=⟨⟨fun t ht=>let z:=g.ties t ht;⟨z.a0,z.a1,z.b0,z.b1⟩⟩,g.len,g.p2⟩
def lT(p:Int)(H:Hp)(D:Addr)(n:Nat)(H2:Hp):Prop:=am H H2∧∃ acc ts,H2 D=some (.lst acc)∧Paired (jq H2) acc ts∧acc.length=n∧∀ t∈ts,GoodTie p t
section
variable {p:Int}{H H2 H3:Hp}{D b:Addr}{n:Nat}{t:Tie}
theorem lT.start(hD:H D=none):lT p H D 0 (upd H D (.lst [])):=⟨am.new hD,[],[],ag,.nil,rfl,fun t ht=>nomatch ht⟩
theorem lT.push(h:lT p H D n H2)(hD:H D=none)(s:am H2 H3)(g:GoodTie p t)(hb:H3 b=some (.tup (yf t))):
 ∃ acc,H3 D=some (.lst acc)∧acc.length=n∧lT p H D (n+1) (upd H3 D (.lst (acc++[.ref b]))):=by
 obtain⟨s2,acc,ts,hd,pr,hn,gt⟩:=h
 have hd3:H3 D=some (.lst acc):=s _ _ hd
 refine⟨acc,hd3,hn,(s2.trans s).put hD,acc++[.ref b],ts++[t],ag,?_,by rw[List.length_append,List.length_singleton,hn],fun u hu=>?_⟩
 ·exact Paired.snoc (Paired.imp' (fun _ _ z=>z.tups (s.tups.trans (dL.put hd3))) pr) ⟨b,rfl,dL.put hd3 _ _ hb⟩
 ·rcases List.mem_append.mp hu with hu|hu
  ·exact gt u hu
  ·cases List.mem_singleton.mp hu
   exact g
theorem lT.fin{q:Nat}(h:lT (q:Int) H D n H2):∃ acc ts,H2 D=some (.lst acc)∧ts.length=n∧(∀ t∈ts,GoodTie (q:Int) t)∧∀ l,H2 l=none→∀ w,upd H2 l (.tup acc) w=none→
 am H (upd (upd H2 l (.tup acc)) w (.tup [.int (q:Int),.ref l]))∧WebAt (upd (upd H2 l (.tup acc)) w (.tup [.int (q:Int),.ref l])) w q ts:=by
 obtain⟨s2,acc,ts,hd,pr,hn,gt⟩:=h
 refine⟨acc,ts,hd,by rw[← pr.length,hn],gt,fun l hl w hw=>?_⟩
 have n1:am H2 (upd H2 l (.tup acc)):=am.new hl
 have n2:=n1.trans (am.new (o:=.tup [.int (q:Int),.ref l]) hw)
 refine⟨s2.trans n2,l,acc,ag,?_,Paired.imp' (fun _ _ z=>z.tups n2.tups) pr⟩
 rw[ak (bi ag hw),ag]
end
theorem vM{p o r:Int}(h:0≤o)(h1:o<p)(r0:0≤r)(r1:r<p-1):0≤(o+1+r)%p∧(o+1+r)%p<p∧o≠(o+1+r)%p:=by
 have hp:0<p:=by omega
 refine⟨Int.emod_nonneg _ (by omega),Int.emod_lt_of_pos _ hp,?_⟩
 by_cases hlt:o+1+r<p
 ·rw[Int.emod_eq_of_lt (by omega) hlt]
  omega
 ·have e:(o+1+r)%p=o+1+r-p:=by
   rw[← Int.sub_emod_right,Int.emod_eq_of_lt (by omega) (by omega)]
  rw[e]
  omega
theorem fb{n:Nat}(h:n≤24):n≤sizeLine:=Nat.le_of_lt (gf (by omega))
theorem jg{n:Nat}(h:n≤900):n<sizeLine:=gf (by omega)
theorem lm{ns:List Int}{k:Nat}(h:k<ns.length):(ns.map V.int)[k]?=some (.int (ns.getD k 0)):=by
 rw[List.getElem?_map,List.getD_eq_getElem?_getD]
 simp[h]
theorem fG(x m:Int)(h:0<m):0≤x%m∧x%m<m:=⟨Int.emod_nonneg _ (by omega),Int.emod_lt_of_pos _ h⟩
end Ring
namespace RM
def bx(f:Nat→Bool):Nat→Bool
 | 0=>false
 | n+1=>bx f n^^f n
theorem bX{f g:Nat→Bool}:∀{n:Nat},(∀ k,k<n→f k=g k)→bx f n=bx g n
 | 0,_=>rfl
 | n+1,h=>by
   unfold bx
   rw[bX fun k hk=>h k (by omega),h n (by omega)]
theorem gl(f g:Nat→Bool):∀ n,bx (fun k=>f k^^g k) n=(bx f n^^bx g n)
 | 0=>rfl
 | n+1=>by
   unfold bx
   rw[gl f g n]
   cases bx f n<;>cases bx g n<;>cases f n<;>cases g n<;>rfl
theorem jb:∀ n,bx (fun _=>false) n=false
 | 0=>rfl
 | n+1=>by unfold bx;rw[jb n];rfl
theorem jF(c:Bool)(f:Nat→Bool):∀ n,bx (fun k=>c&&f k) n=(c&&bx f n)
 | 0=>by cases c<;>rfl
 | n+1=>by
   unfold bx
   rw[jF c f n]
   cases c<;>simp
theorem o6(f:Nat→Nat→Bool)(n:Nat):∀ m,bx (fun x=>bx (fun k=>f x k) n) m=bx (fun k=>bx (fun x=>f x k) m) n
 | 0=>by
   show false=_
   rw[← jb n]
   rfl
 | m+1=>by
   show(bx (fun x=>bx (fun k=>f x k) n) m^^bx (fun k=>f m k) n)=_
   rw[o6 f n m,← gl]
   rfl
theorem gC{f:Nat→Bool}{n:Nat}(h:∀ k,k<n→f k=false):bx f n=false:=by
 rw[bX (g:=fun _=>false) h,jb]
theorem ju{f:Nat→Bool}{a:Nat}:∀{n:Nat},a<n→(∀ k,k<n→k≠a→f k=false)→bx f n=f a
 | 0,h,_=>absurd h (Nat.not_lt_zero _)
 | n+1,h,z=>by
   unfold bx
   by_cases e:a=n
   ·subst e
    rw[gC fun k hk=>z k (by omega) (by omega)]
    simp
   ·rw[ju (a:=a) (by omega) fun k hk hn=>z k (by omega) hn,z n (by omega) (fun q=>e q.symm)]
    simp
theorem gG(C:Nat→Bool){a m:Nat}(h:a<m):bx (fun x=>C x&&decide (a=x)) m=C a:=by
 rw[ju h fun k _ hk=>by simp[Ne.symm hk]]
 simp
structure Net where
 p:Nat
 n:Nat
 a:Nat→Nat
 b:Nat→Nat
 al:∀ k,k<n→a k<p
 bl:∀ k,k<n→b k<p
 ne:∀ k,k<n→a k≠b k
variable (N:Net)
def Net.inc(k x:Nat):Bool:=decide (N.a k=x)^^decide (N.b k=x)
def Net.bd(m x:Nat):Bool:=bx (fun k=>m.testBit k&&N.inc k x) N.n
def Net.Even(m:Nat):Prop:=∀ x,x<N.p→N.bd m x=false
variable {N}
theorem dO(m q x:Nat):N.bd (m^^^q) x=(N.bd m x^^N.bd q x):=by
 unfold Net.bd
 rw[← gl]
 refine bX fun k _=>?_
 rw[Nat.testBit_xor]
 cases m.testBit k<;>cases q.testBit k<;>cases N.inc k x<;>rfl
theorem jv(x:Nat):N.bd 0 x=false:=by
 unfold Net.bd
 exact gC fun k _=>by simp
theorem fY{k:Nat}(h:k<N.n)(x:Nat):N.bd (2^k) x=N.inc k x:=by
 unfold Net.bd
 rw[ju h fun j _ hj=>by simp[Nat.testBit_two_pow,Ne.symm hj]]
 simp[Nat.testBit_two_pow]
theorem Even.xor{m q:Nat}(h:N.Even m)(h' : N.Even q):N.Even (m^^^q):=fun x hx=>by rw[dO,h x hx,h' x hx];rfl
theorem we{m:Nat}(C:Nat→Bool)(h:∀ k,k<N.n→m.testBit k=true→C (N.a k)=C (N.b k)):bx (fun x=>C x&&N.bd m x) N.p=false:=by
 have e:bx (fun x=>C x&&N.bd m x) N.p=bx (fun x=>bx (fun k=>C x&&(m.testBit k&&N.inc k x)) N.n) N.p :=
  bX fun x _=>(jF (C x) _ N.n).symm
 rw[e,o6]
 refine gC fun k hk=>?_
 have e2:bx (fun x=>C x&&(m.testBit k&&N.inc k x)) N.p=(m.testBit k&&(C (N.a k)^^C (N.b k))):=by
  rw[← gG C (N.al k hk),← gG C (N.bl k hk),← gl,← jF]
  refine bX fun x _=>?_
  unfold Net.inc
  cases C x<;>cases m.testBit k<;>cases decide (N.a k=x)<;>cases decide (N.b k=x)<;>rfl
 rw[e2]
 cases hb:m.testBit k with
 | false=>rfl
 | true=>rw[h k hk hb];simp
def cZ(L:Nat→Nat)(u v:Nat):Nat→Nat:=fun x=>if L x=max (L u) (L v) then min (L u) (L v) else L x
theorem yo{L:Nat→Nat}{u v x y:Nat}(h:L x=L y):cZ L u v x=cZ L u v y:=by unfold cZ;rw[h]
theorem u9(L:Nat→Nat)(u v:Nat):cZ L u v u=cZ L u v v:=by
 unfold cZ
 split<;>split<;>omega
theorem oW{L:Nat→Nat}{u v:Nat}(h:L u=L v):cZ L u v=L:=by
 funext x
 unfold cZ
 rw[h]
 split<;>omega
theorem rK{L:Nat→Nat}{u v x y:Nat}(h:cZ L u v x=cZ L u v y):L x=L y∨(L x=L u∧L y=L v)∨(L x=L v∧L y=L u):=by
 unfold cZ at h
 have mm:(max (L u) (L v)=L u∧min (L u) (L v)=L v)∨(max (L u) (L v)=L v∧min (L u) (L v)=L u):=by
  rcases Nat.le_total (L u) (L v) with q|q
  ·exact .inr ⟨Nat.max_eq_right q,Nat.min_eq_left q⟩
  ·exact .inl ⟨Nat.max_eq_left q,Nat.min_eq_right q⟩
 rcases mm with⟨e1,e2⟩|⟨e1,e2⟩
 ·rw[e1,e2]at h
  split at h
  ·rename_i hx
   split at h
   ·rename_i hy
    exact .inl (hx.trans hy.symm)
   ·exact .inr (.inl ⟨hx,h.symm⟩)
  ·split at h
   ·rename_i hy
    exact .inr (.inr ⟨h,hy⟩)
   ·exact .inl h
 ·rw[e1,e2]at h
  split at h
  ·rename_i hx
   split at h
   ·rename_i hy
    exact .inl (hx.trans hy.symm)
   ·exact .inr (.inr ⟨hx,h.symm⟩)
  ·split at h
   ·rename_i hy
    exact .inr (.inl ⟨h,hy⟩)
   ·exact .inl h
theorem xC{L:Nat→Nat}{u v x:Nat}(h:L x≤x):cZ L u v x≤x:=by
 unfold cZ
 split<;>omega
theorem vj{L:Nat→Nat}{u v:Nat}(h:∀ x,L (L x)=L x)(x:Nat):cZ L u v (cZ L u v x)=cZ L u v x:=by
 have hu:=h u
 have hv:=h v
 have hx:=h x
 have hlo:L (min (L u) (L v))=min (L u) (L v):=by
  rcases Nat.le_total (L u) (L v) with q|q
  ·rw[Nat.min_eq_left q];exact hu
  ·rw[Nat.min_eq_right q];exact hv
 unfold cZ
 split
 ·rw[hlo]
  split<;>omega
 ·rw[hx]
  split<;>omega
def Net.labs(N:Net)(S:Nat→Bool):Nat→Nat→Nat
 | 0=>fun x=>x
 | k+1=>if S k=true then cZ (Net.labs N S k) (N.a k) (N.b k) else Net.labs N S k
variable {S:Nat→Bool}
theorem px:∀(k x:Nat),N.labs S k x≤x
 | 0,_=>Nat.le_refl _
 | k+1,x=>by
   unfold Net.labs
   split
   ·exact xC (px k x)
   ·exact px k x
theorem cS:∀(k x:Nat),N.labs S k (N.labs S k x)=N.labs S k x
 | 0,_=>rfl
 | k+1,x=>by
   by_cases hs:S k=true
   ·have e:N.labs S (k+1)=cZ (N.labs S k) (N.a k) (N.b k):=by
     conv=>lhs;unfold Net.labs
     rw[if_pos hs]
    rw[e]
    exact vj (cS k) x
   ·have e:N.labs S (k+1)=N.labs S k:=by
     conv=>lhs;unfold Net.labs
     rw[if_neg hs]
    rw[e]
    exact cS k x
theorem oO{x y k:Nat}(h:N.labs S k x=N.labs S k y):∀ d,N.labs S (k+d) x=N.labs S (k+d) y
 | 0=>h
 | d+1=>by
   have ih:=oO h d
   show N.labs S (k+d+1) x=N.labs S (k+d+1) y
   unfold Net.labs
   split
   ·exact yo ih
   ·exact ih
theorem fL{j k:Nat}(h:j<k)(hs:S j=true):N.labs S k (N.a j)=N.labs S k (N.b j):=by
 obtain⟨d,rfl⟩:=Nat.exists_eq_add_of_le (Nat.succ_le_of_lt h)
 refine oO ?_ d
 show N.labs S (j+1) (N.a j)=N.labs S (j+1) (N.b j)
 unfold Net.labs
 rw[if_pos hs]
 exact u9 _ _ _
inductive Net.Conn(N:Net)(S:Nat→Bool)(k u:Nat):Nat→Prop
 | refl:Net.Conn N S k u u
 | fwd {j:Nat} (h:Net.Conn N S k u (N.a j)) (hj:j<k) (hs:S j=true):Net.Conn N S k u (N.b j)
 | bwd {j:Nat} (h:Net.Conn N S k u (N.b j)) (hj:j<k) (hs:S j=true):Net.Conn N S k u (N.a j)
theorem Net.Conn.trans{k u v w:Nat}(h:N.Conn S k u v)(h' : N.Conn S k v w):N.Conn S k u w:=by
 induction h' with
 | refl=>exact h
 | fwd _ hj hs ih=>exact .fwd ih hj hs
 | bwd _ hj hs ih=>exact .bwd ih hj hs
theorem Net.Conn.mono{k l u v:Nat}(h:N.Conn S k u v)(hkl:k≤l):N.Conn S l u v:=by
 induction h with
 | refl=>exact .refl
 | fwd _ hj hs ih=>exact .fwd ih (by omega) hs
 | bwd _ hj hs ih=>exact .bwd ih (by omega) hs
theorem bK:∀(k u v:Nat),N.labs S k u=N.labs S k v→N.Conn S k u v
 | 0,u,v,h=>by
   have e:u=v:=h
   subst e
   exact .refl
 | k+1,u,v,h=>by
   unfold Net.labs at h
   split at h
   ·rename_i hs
    rcases rK h with q|⟨q1,q2⟩|⟨q1,q2⟩
    ·exact(bK k u v q).mono (by omega)
    ·have c1:=(bK k u _ q1).mono (Nat.le_succ k)
     have c2:=(bK k _ v q2.symm).mono (Nat.le_succ k)
     exact Net.Conn.trans (.fwd c1 (by omega) hs) c2
    ·have c1:=(bK k u _ q1).mono (Nat.le_succ k)
     have c2:=(bK k _ v q2.symm).mono (Nat.le_succ k)
     exact Net.Conn.trans (.bwd c1 (by omega) hs) c2
   ·exact(bK k u v h).mono (by omega)
def Net.lab(N:Net)(k:Nat):Nat→Nat:=N.labs (fun _=>true) k
def Net.inF(N:Net)(k:Nat):Bool:=!decide (N.lab k (N.a k)=N.lab k (N.b k))
theorem qu(k:Nat):N.lab (k+1)=if N.inF k=true then cZ (N.lab k) (N.a k) (N.b k) else N.lab k:=by
 show N.labs (fun _=>true) (k+1)=_
 unfold Net.labs
 rw[if_pos rfl]
 unfold Net.inF
 by_cases h:N.lab k (N.a k)=N.lab k (N.b k)
 ·rw[if_neg (by simp[h])]
  exact oW h
 ·rw[if_pos (by simp[h])]
  rfl
theorem eY{m:Nat}(hf:∀ k,m.testBit k=true→k<N.n∧N.inF k=true)(he:N.Even m):m=0:=by
 by_cases h0:m=0
 ·exact h0
 exfalso
 have hK:m.testBit m.log2=true:=Nat.testBit_log2 h0
 obtain⟨hKn,hKf⟩:=hf _ hK
 generalize hKe:m.log2=K at hK hKn hKf
 have hlt:m<2^(K+1):=by rw[← hKe];exact Nat.lt_log2_self
 have hcl:=we (N:=N) (m:=m^^^2^K) (fun x=>decide (N.lab K x=N.lab K (N.a K))) fun k hk hb=>by
  have hkK:k<K:=by
   rw[Nat.testBit_xor,Nat.testBit_two_pow]at hb
   by_cases e:K=k
   ·subst e
    simp[hK]at hb
   ·have hb' : m.testBit k=true:=by simpa[e]using hb
    have:k<K+1:=by
     by_cases q:k<K+1
     ·exact q
     ·have z:=Nat.testBit_lt_two_pow (Nat.lt_of_lt_of_le hlt (Nat.pow_le_pow_right (by decide) (show K+1≤k by omega)))
      rw[hb']at z
      cases z
    omega
  have e:N.lab K (N.a k)=N.lab K (N.b k):=fL (S:=fun _=>true) hkK rfl
  show decide (N.lab K (N.a k)=_)=decide (N.lab K (N.b k)=_)
  rw[e]
 have e:bx (fun x=>decide (N.lab K x=N.lab K (N.a K))&&N.bd (m^^^2^K) x) N.p=bx (fun x=>decide (N.lab K x=N.lab K (N.a K))&&N.inc K x) N.p :=
  bX fun x hx=>by rw[dO,he x hx,fY hKn];simp
 rw[e]at hcl
 have e2:bx (fun x=>decide (N.lab K x=N.lab K (N.a K))&&N.inc K x) N.p=(decide (N.lab K (N.a K)=N.lab K (N.a K))^^decide (N.lab K (N.b K)=N.lab K (N.a K))):=by
  rw[← gG (fun x=>decide (N.lab K x=N.lab K (N.a K))) (N.al K hKn),← gG (fun x=>decide (N.lab K x=N.lab K (N.a K))) (N.bl K hKn),← gl]
  refine bX fun x _=>?_
  unfold Net.inc
  cases decide (N.lab K x=N.lab K (N.a K))<;>cases decide (N.a K=x)<;>cases decide (N.b K=x)<;>rfl
 rw[e2]at hcl
 unfold Net.inF at hKf
 have hne : ¬ N.lab K (N.b K)=N.lab K (N.a K):=fun q=>by rw[q]at hKf;simp at hKf
 simp[hne]at hcl
def Net.trail(N:Net):Nat→Nat→Nat
 | 0=>fun _=>0
 | k+1=>if N.inF k=true then fun v=>if N.lab k v=max (N.lab k (N.a k)) (N.lab k (N.b k)) then Net.trail N k v^^^(Net.trail N k (N.a k)^^^Net.trail N k (N.b k)^^^2^k) else Net.trail N k v
   else Net.trail N k
theorem gm:∀(k v j:Nat),(N.trail k v).testBit j=true→j<k∧N.inF j=true
 | 0,v,j,h=>by simp[Net.trail]at h
 | k+1,v,j,h=>by
   have ih:=gm k
   unfold Net.trail at h
   split at h
   ·rename_i hf
    dsimp only at h
    split at h
    ·rw[Nat.testBit_xor,Nat.testBit_xor,Nat.testBit_xor,Nat.testBit_two_pow]at h
     by_cases e:k=j
     ·subst e
      exact⟨by omega,hf⟩
     ·have z : ¬((N.trail k v).testBit j=false∧(N.trail k (N.a k)).testBit j=false∧(N.trail k (N.b k)).testBit j=false):=by
       rintro⟨z1,z2,z3⟩
       simp[z1,z2,z3,e]at h
      cases h1:(N.trail k v).testBit j with
      | true=>obtain⟨q,r⟩:=ih v j h1;exact⟨by omega,r⟩
      | false=>cases h2:(N.trail k (N.a k)).testBit j with
        | true=>obtain⟨q,r⟩:=ih _ j h2;exact⟨by omega,r⟩
        | false=>cases h3:(N.trail k (N.b k)).testBit j with
          | true=>obtain⟨q,r⟩:=ih _ j h3;exact⟨by omega,r⟩
          | false=>exact absurd ⟨h1,h2,h3⟩ z
    ·obtain⟨q,r⟩:=ih v j h;exact⟨by omega,r⟩
   ·obtain⟨q,r⟩:=ih v j h;exact⟨by omega,r⟩
theorem xo(a b c d e f g h:Bool)(hlh:(d^^f)=(g^^h)):((a^^g)^^(((c^^d)^^(e^^f))^^(c^^e)))=(a^^h):=by
 have e1:(((c^^d)^^(e^^f))^^(c^^e))=(d^^f):=by cases c<;>cases d<;>cases e<;>cases f<;>rfl
 rw[e1,hlh]
 cases a<;>cases g<;>cases h<;>rfl
theorem mv:∀(k:Nat),k≤N.n→∀ v x,N.bd (N.trail k v) x=(decide (v=x)^^decide (N.lab k v=x))
 | 0,_,v,x=>by
   show N.bd 0 x=(decide (v=x)^^decide (v=x))
   rw[jv]
   simp
 | k+1,hk,v,x=>by
   have ih:=mv k (by omega)
   rw[qu]
   unfold Net.trail
   by_cases hf:N.inF k=true
   ·rw[if_pos hf,if_pos hf]
    by_cases hm:N.lab k v=max (N.lab k (N.a k)) (N.lab k (N.b k))
    ·have e:cZ (N.lab k) (N.a k) (N.b k) v=min (N.lab k (N.a k)) (N.lab k (N.b k)):=by unfold cZ;rw[if_pos hm]
     show N.bd (if N.lab k v=_ then _ else _) x=_
     rw[if_pos hm,e,dO,dO,dO,fY (by omega),ih,ih,ih]
     unfold Net.inc
     refine xo _ false _ _ _ _ _ _ ?_
     rw[hm]
     rcases Nat.le_total (N.lab k (N.a k)) (N.lab k (N.b k)) with q|q
     ·rw[Nat.max_eq_right q,Nat.min_eq_left q,Bool.xor_comm]
     ·rw[Nat.max_eq_left q,Nat.min_eq_right q]
    ·have e:cZ (N.lab k) (N.a k) (N.b k) v=N.lab k v:=by unfold cZ;rw[if_neg hm]
     show N.bd (if N.lab k v=_ then _ else _) x=_
     rw[if_neg hm,e,ih]
   ·rw[if_neg hf,if_neg hf]
    exact ih v x
def Net.ring(N:Net)(c:Nat):Nat:=N.trail N.n (N.a c)^^^N.trail N.n (N.b c)^^^2^c
theorem wX{c:Nat}(h:c<N.n):N.lab N.n (N.a c)=N.lab N.n (N.b c):=fL (S:=fun _=>true) h rfl
theorem iK{c:Nat}(h:c<N.n):N.Even (N.ring c):=fun x _=>by
 unfold Net.ring
 rw[dO,dO,fY h,mv _ (Nat.le_refl _),mv _ (Nat.le_refl _),wX h]
 unfold Net.inc
 cases decide (N.a c=x)<;>cases decide (N.b c=x)<;>cases decide (N.lab N.n (N.b c)=x)<;>rfl
theorem iD{c j:Nat}(h:(N.ring c).testBit j=true):j=c∨(j<N.n∧N.inF j=true):=by
 unfold Net.ring at h
 rw[Nat.testBit_xor,Nat.testBit_xor,Nat.testBit_two_pow]at h
 by_cases e:c=j
 ·exact .inl e.symm
 ·right
  cases h1:(N.trail N.n (N.a c)).testBit j with
  | true=>exact gm _ _ _ h1
  | false=>cases h2:(N.trail N.n (N.b c)).testBit j with
    | true=>exact gm _ _ _ h2
    | false=>simp[h1,h2,e]at h
theorem rE{c:Nat}(hf:N.inF c=false):(N.ring c).testBit c=true:=by
 unfold Net.ring
 rw[Nat.testBit_xor,Nat.testBit_xor,Nat.testBit_two_pow]
 cases h1:(N.trail N.n (N.a c)).testBit c with
 | true=>obtain⟨_,q⟩:=gm _ _ _ h1;rw[hf]at q;cases q
 | false=>cases h2:(N.trail N.n (N.b c)).testBit c with
   | true=>obtain⟨_,q⟩:=gm _ _ _ h2;rw[hf]at q;cases q
   | false=>simp
theorem uG{j:Nat}(h:j<N.n)(hf:N.inF j=true):(N.trail N.n (N.a j)).testBit j=true∨(N.trail N.n (N.b j)).testBit j=true:=by
 have z:N.ring j=0:=eY (fun k hk=>by
  rcases iD hk with rfl|q
  ·exact⟨h,hf⟩
  ·exact q) (iK h)
 have b:(N.ring j).testBit j=false:=by rw[z];simp
 unfold Net.ring at b
 rw[Nat.testBit_xor,Nat.testBit_xor,Nat.testBit_two_pow]at b
 cases h1:(N.trail N.n (N.a j)).testBit j with
 | true=>exact .inl rfl
 | false=>cases h2:(N.trail N.n (N.b j)).testBit j with
   | true=>exact .inr rfl
   | false=>simp[h1,h2]at b
end RM
namespace RM
def cnt(f:Nat→Bool):Nat→Nat
 | 0=>0
 | n+1=>cnt f n+(if f n=true then 1 else 0)
theorem fk{f g:Nat→Bool}:∀{n:Nat},(∀ k,k<n→f k=g k)→cnt f n=cnt g n
 | 0,_=>rfl
 | n+1,h=>by
   unfold cnt
   rw[fk fun k hk=>h k (by omega),h n (by omega)]
theorem m8{f g:Nat→Bool}{h:Nat}(hg:g h=true):∀{p:Nat},h<p→(∀ x,x<p→f x=(g x && !decide (x=h)))→cnt g p=cnt f p+1
 | 0,hh,_=>absurd hh (Nat.not_lt_zero _)
 | p+1,hh,e=>by
   unfold cnt
   by_cases q:h=p
   ·subst q
    have z:cnt g h=cnt f h:=fk fun k hk=>by rw[e k (by omega)];simp[show k≠h by omega]
    rw[z,if_pos hg,e h (by omega)]
    simp
   ·rw[m8 hg (by omega) fun x hx=>e x (by omega),e p (by omega)]
    simp[Ne.symm q]
    omega
theorem iP(f:Nat→Bool):∀ n,((List.range n).filter f).length=cnt f n
 | 0=>rfl
 | n+1=>by
   rw[List.range_succ,List.filter_append,List.length_append,iP f n]
   show _=cnt f n+(if f n=true then 1 else 0)
   cases h:f n with
   | true=>rw[List.filter_cons,if_pos h];rfl
   | false=>rw[List.filter_cons,if_neg (by rw[h];simp)];rfl
theorem lg(f:Nat→Bool):∀ n,cnt f n+cnt (fun k=>!f k) n=n
 | 0=>rfl
 | n+1=>by
   have ih:=lg f n
   unfold cnt
   cases h:f n<;>simp<;>omega
theorem uc{f:Nat→Bool}:∀{n:Nat},(∀ k,k<n→f k=true)→cnt f n=n
 | 0,_=>rfl
 | n+1,h=>by
   unfold cnt
   rw[uc fun k hk=>h k (by omega),if_pos (h n (by omega))]
variable {N:Net}{S:Nat→Bool}
def Net.root(N:Net)(S:Nat→Bool)(k x:Nat):Bool:=decide (N.labs S k x=x)
theorem iM(k:Nat):N.labs S (k+1)=if S k=true then cZ (N.labs S k) (N.a k) (N.b k) else N.labs S k:=by
 conv=>lhs;unfold Net.labs
theorem jP{k x:Nat}(h:x<N.p):N.labs S k x<N.p:=Nat.lt_of_le_of_lt (px k x) h
theorem uY{L:Nat→Nat}{u v:Nat}(hr:∀ x,L (L x)=L x)(hne:L u≠L v)(x:Nat):decide (cZ L u v x=x)=(decide (L x=x) && !decide (x=max (L u) (L v))):=by
 have hhi:L (max (L u) (L v))=max (L u) (L v):=by
  rcases Nat.le_total (L u) (L v) with q|q
  ·rw[Nat.max_eq_right q];exact hr v
  ·rw[Nat.max_eq_left q];exact hr u
 have hlo:L (min (L u) (L v))=min (L u) (L v):=by
  rcases Nat.le_total (L u) (L v) with q|q
  ·rw[Nat.min_eq_left q];exact hr u
  ·rw[Nat.min_eq_right q];exact hr v
 unfold cZ
 by_cases h:L x=max (L u) (L v)
 ·rw[if_pos h]
  have h1 : ¬ min (L u) (L v)=x:=fun z=>by
   rw[← z,hlo]at h
   omega
  by_cases h2:x=max (L u) (L v)
  ·simp[h1,h2]
   omega
  ·have h3 : ¬ L x=x:=fun z=>h2 (z.symm.trans h)
   simp[h1,h3]
 ·rw[if_neg h]
  have h2 : ¬ x=max (L u) (L v):=fun z=>h (by rw[z];exact hhi)
  simp[h2]
theorem sB{k:Nat}(hk:k<N.n):cnt (N.root S k) N.p=cnt (N.root S (k+1)) N.p+(if(S k && !decide (N.labs S k (N.a k)=N.labs S k (N.b k)))=true then 1 else 0):=by
 cases hs:S k with
 | false =>
   have e:N.root S (k+1)=N.root S k:=by unfold Net.root;rw[iM,if_neg (by rw[hs];simp)]
   rw[e];simp
 | true =>
   by_cases h:N.labs S k (N.a k)=N.labs S k (N.b k)
   ·have e:N.root S (k+1)=N.root S k:=by unfold Net.root;rw[iM,if_pos hs,oW h]
    rw[e];simp[h]
   ·have hhi:N.labs S k (max (N.labs S k (N.a k)) (N.labs S k (N.b k)))=max (N.labs S k (N.a k)) (N.labs S k (N.b k)):=by
     rcases Nat.le_total (N.labs S k (N.a k)) (N.labs S k (N.b k)) with q|q
     ·rw[Nat.max_eq_right q];exact cS _ _
     ·rw[Nat.max_eq_left q];exact cS _ _
    have h1:=jP (S:=S) (k:=k) (N.al k hk)
    have h2:=jP (S:=S) (k:=k) (N.bl k hk)
    rw[m8 (f:=N.root S (k+1)) (g:=N.root S k) (h:=max (N.labs S k (N.a k)) (N.labs S k (N.b k))) (decide_eq_true hhi) (by omega) fun x _=>by
     unfold Net.root
     rw[iM,if_pos hs]
     exact uY (cS k) h x]
    simp[h]
def Net.chords(N:Net):List Nat:=(List.range N.n).filter fun k=>!N.inF k
theorem hV{c:Nat}:c∈N.chords↔c<N.n∧N.inF c=false:=by
 unfold Net.chords
 rw[List.mem_filter,List.mem_range]
 simp
theorem cJ{m n:Nat}(h:∀ k,m.testBit k=true→k<n):m<2^n:=Nat.lt_pow_two_of_testBit m fun k hk=>by
 cases q:m.testBit k with
 | false=>rfl
 | true=>exact absurd (h k q) (by omega)
theorem bS{m n k:Nat}(h:m<2^n)(hb:m.testBit k=true):k<n:=by
 by_cases q:k<n
 ·exact q
 ·have z:=Nat.testBit_lt_two_pow (Nat.lt_of_lt_of_le h (Nat.pow_le_pow_right (by decide) (show n≤k by omega)))
  rw[hb]at z
  cases z
theorem wm{m q:Nat}(hm:m<2^N.n)(hq:q<2^N.n)(em:N.Even m)(eq:N.Even q)(h:∀ c,c<N.n→N.inF c=false→m.testBit c=q.testBit c):m=q:=by
 have z:m^^^q=0:=eY (N:=N) (fun k hk=>by
  have hk':=bS (Nat.xor_lt_two_pow hm hq) hk
  refine⟨hk',?_⟩
  cases hf:N.inF k with
  | true=>rfl
  | false =>
    rw[Nat.testBit_xor,h k hk' hf]at hk
    simp at hk) (Even.xor em eq)
 have e:m=m^^^q^^^q:=by rw[Nat.xor_assoc,Nat.xor_self,Nat.xor_zero]
 rw[e,z,Nat.zero_xor]
theorem pV{c:Nat}(h:c<N.n):N.ring c<2^N.n:=cJ fun k hk=>by
 rcases iD hk with rfl|⟨q,_⟩
 ·exact h
 ·exact q
theorem lz{c d:Nat}(hc:N.inF c=false)(hd:N.inF d=false):(N.ring c).testBit d=decide (c=d):=by
 by_cases e:c=d
 ·subst e;rw[rE hc];simp
 ·cases q:(N.ring c).testBit d with
  | false=>simp[e]
  | true=>rcases iD q with rfl | ⟨_,r⟩
          ·exact absurd rfl e
          ·rw[hd]at r;cases r
end RM
namespace Ring
open PySem L2
def cF(f:Nat→Bool):Nat→Nat
 | 0=>0
 | n+1=>(if f n=true then 2^n else 0)+cF f n
theorem kX(f:Nat→Bool):∀ n,cF f n<2^n
 | 0=>by show 0<1;decide
 | n+1=>by
   have ih:=kX f n
   have e:2^(n+1)=2^n+2^n:=by rw[Nat.pow_succ];omega
   unfold cF
   split<;>omega
theorem fH(f:Nat→Bool)(j:Nat):∀ n,(cF f n).testBit j=(decide (j<n)&&f j)
 | 0=>by simp[cF]
 | n+1=>by
   have ih:=fH f j n
   have hl:=kX f n
   unfold cF
   by_cases h:f n=true
   ·rw[if_pos h]
    rcases Nat.lt_trichotomy j n with q|q|q
    ·rw[Nat.testBit_two_pow_add_gt q,ih]
     simp[q,show j<n+1 by omega]
    ·subst q
     rw[Nat.testBit_two_pow_add_eq,ih]
     simp[h]
    ·have z:2^n+cF f n<2^j:=Nat.lt_of_lt_of_le (show 2^n+cF f n<2^(n+1) by rw[Nat.pow_succ];omega) (Nat.pow_le_pow_right (by decide) q)
     rw[Nat.testBit_lt_two_pow z]
     simp[show ¬ j<n+1 by omega]
   ·rw[if_neg h,Nat.zero_add,ih]
    by_cases q:j=n
    ·subst q
     have h' : f j=false:=by simpa using h
     simp[h']
    ·by_cases r:j<n
     ·simp[r,show j<n+1 by omega]
     ·simp[r,show ¬ j<n+1 by omega]
theorem wT(n:Nat):cF (fun _=>true) n=2^n-1:=by
 induction n with
 | zero=>rfl
 | succ n ih =>
   unfold cF
   rw[ih,if_pos rfl,Nat.pow_succ]
   have:=Nat.two_pow_pos n
   omega
theorem xZ(n j:Nat):(2^n-1).testBit j=decide (j<n):=by
 rw[← wT,fH]
 simp
theorem zO{a b x y:Nat}(q:x/2+y/2=a/2+b/2)(h:x%2+y%2=a%2+b%2):x+y=a+b:=by omega
theorem za{u v:Nat}(hu:u=0∨u=1)(hv:v=0∨v=1):(u ||| v)+(u&&&v)=u+v:=by
 rcases hu with rfl|rfl<;>rcases hv with rfl|rfl<;>rfl
theorem zC:∀ a b:Nat,(a ||| b)+(a&&&b)=a+b:=by
 intro a
 induction a using Nat.strongRecOn with
 | ind a ih =>
   intro b
   by_cases h:a=0
   ·subst h
    simp
   ·have q:=ih (a/2) (by omega) (b/2)
    rw[← Nat.or_div_two,← Nat.and_div_two]at q
    refine zO q ?_
    have e1:(a ||| b)%2=a%2 ||| b%2:=Nat.or_mod_two_pow (n:=1)
    have e2:(a&&&b)%2=a%2&&&b%2:=Nat.and_mod_two_pow (n:=1)
    rw[e1,e2]
    exact za (Nat.mod_two_eq_zero_or_one a) (Nat.mod_two_eq_zero_or_one b)
theorem xl(a b:Nat):Builtin.bitOr (a:Int) (b:Int)=((a ||| b:Nat):Int):=by
 have q:=zC a b
 rw[PyProof.Rows.bitOr_and,PyProof.Rows.bitAnd_pp (by omega) (by omega)]
 have h:(a:Int)+b-((a&&&b:Nat):Int)=((a ||| b:Nat):Int):=by omega
 simpa using h
theorem kU(k:Nat):(1:Int)*2^(k:Int).toNat=((2^k:Nat):Int):=by
 rw[Int.toNat_natCast,Int.one_mul]
 simp
theorem db{ts:List Tie}{k:Nat}(h:k<ts.length):bc ts k∈ts:=by
 unfold bc
 rw[List.getD_eq_getElem?_getD]
 simp[h]
theorem jT{ts:List Tie}{k:Nat}(h:k<ts.length):ts[k]?=some (bc ts k):=by
 unfold bc
 rw[List.getD_eq_getElem?_getD]
 simp[h]
def ad(p:Nat)(ts:List Tie)(g:GoodWeb p ts):RM.Net where
 p:=p
 n:=ts.length
 a:=fun k=>(bc ts k).1.toNat
 b:=fun k=>(bc ts k).2.1.toNat
 al:=fun k hk=>by
  have z:=g.ties _ (db hk)
  have z0:=z.a0
  have z1:=z.a1
  omega
 bl:=fun k hk=>by
  have z:=g.ties _ (db hk)
  have z0:=z.b0
  have z1:=z.b1
  omega
 ne:=fun k hk e=>by
  have z:=g.ties _ (db hk)
  have z0:=z.a0
  have z1:=z.b0
  exact z.ne (by omega)
theorem tM{p:Nat}{ts:List Tie}{g:GoodWeb p ts}{k:Nat}(h:k<ts.length):(bc ts k).1=(((ad p ts g).a k:Nat):Int):=by
 have z:=(g.ties _ (db h)).a0
 show _=(((bc ts k).1.toNat:Nat):Int)
 omega
theorem tw{p:Nat}{ts:List Tie}{g:GoodWeb p ts}{k:Nat}(h:k<ts.length):(bc ts k).2.1=(((ad p ts g).b k:Nat):Int):=by
 have z:=(g.ties _ (db h)).b0
 show _=(((bc ts k).2.1.toNat:Nat):Int)
 omega
theorem xW{p:Nat}{ts:List Tie}{g:GoodWeb p ts}{k:Nat}(h:k<ts.length)(x:Nat):deg ts k x%2=if(ad p ts g).inc k x=true then 1 else 0:=by
 unfold deg RM.Net.inc
 rw[jT h]
 dsimp only
 rw[tM (g:=g) h,tw (g:=g) h]
 generalize (ad p ts g).a k=u
 generalize (ad p ts g).b k=v
 by_cases h1:u=x
 ·by_cases h2:v=x
  ·simp[h1,h2]
  ·have h2' : ¬((v:Int)=(x:Int)):=by omega
   simp[h1,h2,h2']
 ·have h1' : ¬((u:Int)=(x:Int)):=by omega
  by_cases h2:v=x
  ·simp[h1,h2,h1']
  ·have h2' : ¬((v:Int)=(x:Int)):=by omega
   simp[h1,h2,h1',h2']
theorem vx{p:Nat}{ts:List Tie}{g:GoodWeb p ts}(m x:Nat):∀ n,n≤ts.length→((List.range n).map fun k=>if m.testBit k=true then deg ts k x else 0).sum%2=if RM.bx (fun k=>m.testBit k&&(ad p ts g).inc k x) n=true then 1 else 0
 | 0,_=>rfl
 | n+1,h=>by
   have ih:=vx (g:=g) m x n (by omega)
   have hd:=xW (g:=g) (k:=n) (by omega) x
   rw[List.range_succ,List.map_append,List.sum_append]
   show(_+((if m.testBit n=true then deg ts n x else 0)+0))%2=if(RM.bx _ n^^(m.testBit n&&(ad p ts g).inc n x))=true then 1 else 0
   generalize ((List.range n).map fun k=>if m.testBit k=true then deg ts k x else 0).sum=u at ih ⊢
   generalize RM.bx (fun k=>m.testBit k&&(ad p ts g).inc k x) n=v at ih ⊢
   generalize (ad p ts g).inc n x=i at hd ⊢
   generalize deg ts n x=d at hd ⊢
   cases m.testBit n<;>cases v<;>cases i<;>simp at ih hd ⊢ <;> omega
theorem tm{p:Nat}{ts:List Tie}(g:GoodWeb p ts){m:Nat}(hm:m<2^ts.length){x:Nat}:decide ((gc p ts (m:Int)).getD x 0%2=1)=(ad p ts g).bd m x:=by
 rw[xr g.web.inw,dP hm,lE]
 have h:=vx (g:=g) m x ts.length (Nat.le_refl _)
 rw[h]
 show _=RM.bx _ ts.length
 generalize RM.bx (fun k=>m.testBit k&&(ad p ts g).inc k x) ts.length=v
 cases v<;>simp
theorem rj{p:Nat}{ts:List Tie}(g:GoodWeb p ts){m:Nat}(hm:m<2^ts.length):m7 p ts (m:Int)=[]↔(ad p ts g).Even m:=by
 unfold m7
 rw[List.filter_eq_nil_iff]
 constructor
 ·intro h x hx
  have q:=h x (List.mem_range.mpr hx)
  rw[tm g hm]at q
  simpa using q
 ·intro h x hx
  rw[tm g hm,h x (List.mem_range.mp hx)]
  simp
def eJ(f:Nat→Nat)(n:Nat):List V:=(List.range n).map fun x=>V.int ((f x:Nat):Int)
theorem dE(f:Nat→Nat)(n:Nat):(eJ f n).length=n:=by unfold eJ;rw[List.length_map,List.length_range]
theorem bF{f:Nat→Nat}{n x:Nat}(h:x<n):(eJ f n)[x]?=some (.int ((f x:Nat):Int)):=by
 unfold eJ
 rw[List.getElem?_map,List.getElem?_range h]
 rfl
theorem lj{f:Nat→Nat}{n x:Nat}{v:V}(h:(eJ f n)[x]?=some v):x<n∧v = .int ((f x:Nat):Int):=by
 have hx:x<n:=by
  have:=(List.getElem?_eq_some_iff.mp h).1
  rwa [dE]at this
 rw[bF hx]at h
 exact⟨hx,(Option.some.inj h).symm⟩
theorem oG(f:Nat→Nat)(n:Nat):eJ f (n+1)=eJ f n++[.int ((f n:Nat):Int)]:=by
 unfold eJ
 rw[List.range_succ,List.map_append]
 rfl
theorem vL(p:Nat):(List.replicate p [V.int 0]).flatten=eJ (fun _=>0) p:=by
 induction p with
 | zero=>rfl
 | succ p ih =>
   rw[oG,← ih,List.replicate_succ',List.flatten_append]
   rfl
def p5(f:Nat→Nat)(H:Hp)(D:Addr)(i:Nat)(acc:List V)(H2:Hp):Prop:=am H H2∧H2 D=some (.lst acc)∧acc=eJ f i
section
variable {f:Nat→Nat}{H H2 H3:Hp}{D:Addr}{i:Nat}{acc:List V}{v:V}
theorem p5.start(hD:H D=none):p5 f H D 0 [] (upd H D (.lst [])):=⟨am.new hD,ag,rfl⟩
theorem p5.len(p:p5 f H D i acc H2):H2 D=some (.lst acc)∧acc.length≤i:=⟨p.2.1,by rw[p.2.2,dE];exact Nat.le_refl _⟩
theorem p5.next(p:p5 f H D i acc H2)(hD:H D=none)(s:am H2 H3)(hv:v = .int ((f i:Nat):Int)):H3 D=some (.lst acc)∧p5 f H D (i+1) (acc++[v]) (upd H3 D (.lst (acc++[v]))):=by
 refine⟨s _ _ p.2.1,(p.1.trans s).put hD,ag,?_⟩
 rw[oG,← p.2.2,hv]
end
theorem oR{N:RM.Net}{m:Nat}:∀ n,((List.range n).filter fun k=>m.testBit k).foldl (fun L k=>RM.cZ L (N.a k) (N.b k)) (fun x=>x)=N.labs (fun k=>m.testBit k) n
 | 0=>rfl
 | n+1=>by
   rw[bz,List.foldl_append,oR n,RM.iM]
   split<;>rfl
end Ring
namespace RM
end RM
namespace Ring
open PySem L2
def eF(L:Nat→Nat)(p s:Nat):List Nat:=(List.range p).filter fun x=>decide (L x=s)
def eA(L:Nat→Nat)(p:Nat):List Nat:=(List.range p).filter fun x=>decide (L x=x)
def yL(D:Addr)(H0 H:Hp)(y:V)(l:List Nat):Prop:=∃ b,y = .ref b∧b≠D∧H0 b=none∧H b=some (.lst (aJ l))
def mo(L:Nat→Nat)(p:Nat)(H:Hp)(D:Addr)(i:Nat)(H2:Hp):Prop:=am H H2∧∃ ys,H2 D=some (.lst ys)∧Paired (yL D H H2) ys ((eA L i).map (eF L p))∧ys.length≤i
section
variable {L:Nat→Nat}{p i:Nat}{H H2 H3:Hp}{D b:Addr}
theorem mo.start(hD:H D=none):mo L p H D 0 (upd H D (.lst [])):=⟨am.new hD,[],ag,.nil,Nat.le_refl _⟩
theorem lR:eA L (i+1)=eA L i++(if L i=i then[i] else[]):=by
 unfold eA
 rw[bz]
 by_cases h:L i=i<;>simp[h]
theorem mo.skip(h:mo L p H D i H2)(hn : ¬ L i=i):mo L p H D (i+1) H2:=by
 obtain⟨s,ys,hd,pr,hl⟩:=h
 refine⟨s,ys,hd,?_,by omega⟩
 rw[lR,if_neg hn,List.append_nil]
 exact pr
theorem mo.push(h:mo L p H D i H2)(hD:H D=none)(hr:L i=i)(s:am H2 H3)(hb:H2 b=none)(hb3:H3 b=some (.lst (aJ (eF L p i)))):
 ∃ ys,H3 D=some (.lst ys)∧ys.length≤i∧mo L p H D (i+1) (upd H3 D (.lst (ys++[.ref b]))):=by
 obtain⟨s2,ys,hd,pr,hl⟩:=h
 have hd3:=s _ _ hd
 have hbD:b≠D:=fun e=>by rw[e,hd]at hb;cases hb
 refine⟨ys,hd3,hl,(s2.trans s).put hD,ys++[.ref b],ag,?_,by rw[List.length_append,List.length_singleton];omega⟩
 rw[lR,if_pos hr,List.map_append]
 refine Paired.snoc (Paired.imp' (fun _ _ ⟨e,he,hn,h0,q⟩=>⟨e,he,hn,h0,by rw[ak hn];exact s _ _ q⟩) pr) ?_
 exact⟨b,rfl,hbD,s2.free hb,by rw[ak hbD];exact hb3⟩
end
def kH(p:Nat)(ts:List Tie)(g:GoodWeb p ts)(ks:List Nat):Nat→Nat:=ks.foldl (fun L k=>RM.cZ L ((ad p ts g).a k) ((ad p ts g).b k)) fun x=>x
theorem rH{p:Nat}{ts:List Tie}{g:GoodWeb p ts}{ks:List Nat}{k:Nat}:kH p ts g (ks++[k])=RM.cZ (kH p ts g ks) ((ad p ts g).a k) ((ad p ts g).b k):=by
 unfold kH
 rw[List.foldl_append]
 rfl
def bf(p:Nat)(ts:List Tie)(g:GoodWeb p ts)(m:Nat):Nat→Nat:=(ad p ts g).labs (fun k=>m.testBit k) ts.length
theorem sM{p:Nat}{ts:List Tie}{g:GoodWeb p ts}{m:Nat}(hm:m<2^ts.length):kH p ts g (aB (m:Int))=bf p ts g m:=by
 unfold kH bf
 rw[dP hm]
 exact oR _
theorem xE(a b:Nat):(if(b:Int)<(a:Int) then(b:Int) else(a:Int))=((min a b:Nat):Int):=by
 split<;>omega
theorem tJ(a b:Nat):(if(b:Int) > (a:Int) then(b:Int) else(a:Int))=((max a b:Nat):Int):=by
 split<;>omega
theorem eW(a b:Nat):decide (V.int (a:Int)=V.int (b:Int))=decide (a=b):=by
 rw[Bool.eq_iff_iff]
 simp
 omega
end Ring
namespace RM
variable {N:Net}{S:Nat→Bool}
variable {pt r j:Nat}{l:List Nat}
end RM
namespace Ring
open PySem L2
theorem sy{p:Nat}{f:Nat→Bool}:((List.range p).filter f).Pairwise (· < ·):=List.Pairwise.filter _ List.pairwise_lt_range
theorem mX(l:List Nat):aJ l=(l.map fun x=>((x:Nat):Int)).map V.int:=by unfold aJ;rw[List.map_map];rfl
theorem jI(u:Nat)(l:List Nat):inV (.int (u:Int)) (aJ l)=decide (u∈l):=by
 unfold inV aJ
 rw[List.any_map,Bool.eq_iff_iff,List.any_eq_true]
 simp only[Function.comp,decide_eq_true_eq]
 constructor
 ·rintro⟨x,hx,h⟩
  have e:((x:Nat):Int)=(u:Int):=eq_of_beq h
  have:x=u:=by omega
  exact this▸hx
 ·intro h
  exact⟨u,h,by simp[eqV]⟩
theorem kl(l:List Nat):(aJ l).all jC=true:=by
 unfold aJ
 rw[List.all_map,List.all_eq_true]
 intro x _
 rfl
theorem and_int(a b:Nat):Builtin.bitAnd (a:Int) (b:Int)=((a&&&b:Nat):Int):=by
 rw[PyProof.Rows.bitAnd_pp (by omega) (by omega)]
 simp
end Ring
namespace RM
variable {N:Net}
end RM
namespace Ring
open PySem L2
def orT(T:Nat→Nat):Nat→Nat
 | 0=>0
 | n+1=>orT T n ||| T n
theorem sZ(T:Nat→Nat)(j:Nat):∀ n,(orT T n).testBit j=true↔∃ x,x<n∧(T x).testBit j=true
 | 0=>by simp[orT]
 | n+1=>by
   unfold orT
   rw[Nat.testBit_or,Bool.or_eq_true,sZ T j n]
   constructor
   ·rintro(⟨x,hx,h⟩|h)
    ·exact⟨x,by omega,h⟩
    ·exact⟨n,by omega,h⟩
   ·rintro⟨x,hx,h⟩
    by_cases e:x=n
    ·subst e;exact .inr h
    ·exact .inl ⟨x,by omega,h⟩
section
variable {p:Nat}{ts:List Tie}{g:GoodWeb p ts}
def fQ(p:Nat)(ts:List Tie)(g:GoodWeb p ts):Nat:=cF (ad p ts g).inF ts.length
theorem sF:orT ((ad p ts g).trail ts.length) p=fQ p ts g:=by
 refine Nat.eq_of_testBit_eq fun j=>?_
 unfold fQ
 rw[fH,Bool.eq_iff_iff,sZ]
 simp only[Bool.and_eq_true,decide_eq_true_eq]
 constructor
 ·rintro⟨x,_,h⟩
  exact RM.gm _ _ _ h
 ·rintro⟨h1,h2⟩
  rcases RM.uG (N:=ad p ts g) h1 h2 with h|h
  ·exact⟨_,(ad p ts g).al j h1,h⟩
  ·exact⟨_,(ad p ts g).bl j h1,h⟩
theorem rM(j:Nat):((2^ts.length-1)^^^fQ p ts g).testBit j=(decide (j<ts.length) && !(ad p ts g).inF j):=by
 unfold fQ
 rw[Nat.testBit_xor,xZ,fH]
 cases decide (j<ts.length)<;>cases(ad p ts g).inF j<;>rfl
theorem nO:(2^ts.length-1)^^^fQ p ts g<2^ts.length:=Nat.xor_lt_two_pow (by have:=Nat.two_pow_pos ts.length;omega) (kX _ _)
theorem qz:aB (((2^ts.length-1)^^^fQ p ts g:Nat):Int)=(ad p ts g).chords:=by
 rw[dP nO]
 unfold RM.Net.chords
 refine List.filter_congr fun k hk=>?_
 have:=List.mem_range.mp hk
 rw[rM]
 simp[this]
end
theorem yb(n:Nat):((2:Int)^n-1)=((2^n-1:Nat):Int):=by
 have h:((2:Int)^n)=((2^n:Nat):Int):=by simp
 have:=Nat.two_pow_pos n
 omega
theorem y6{S:Int}{l:List Nat}(h:∀ c∈l,S≠((c:Nat):Int)):inV (.int S) (aJ l)=false:=by
 unfold inV aJ
 rw[List.any_map,List.any_eq_false]
 intro x hx z
 exact h x hx (eq_of_beq z).symm
theorem ja{c:Nat}:∀{n:Nat},c<n→(List.range n).filter (fun k=>decide (k=c))=[c]
 | 0,h=>absurd h (Nat.not_lt_zero _)
 | n+1,h=>by
   rw[bz]
   by_cases e:c=n
   ·subst e
    have z:(List.range c).filter (fun k=>decide (k=c))=[]:=by
     rw[List.filter_eq_nil_iff]
     intro x hx
     have:=List.mem_range.mp hx
     simp
     omega
    rw[z]
    simp
   ·rw[ja (by omega)]
    simp[Ne.symm e]
theorem qb{l:List Nat}{i:Nat}{k:Nat}(h:l[i]?=some k):(aJ l)[i]?=some (.int (k:Int)):=by
 unfold aJ
 rw[List.getElem?_map,h]
 rfl
theorem wy(l:List Nat):PyData.eqv (.list (l.map gB)) (.list (l.map gB))=true:=SeqAt.eqv_refl _ (by
 have e:(PyData.list (l.map gB)).canLay0=PyData.canLayAll0 (l.map gB):=by simp[PyData.canLay0]
 rw[e,mf])
end Ring
namespace Ring
open PySem L2
section
variable {f:Nat→Bool}{l:List Nat}{H H2 H3:Hp}{D:Addr}{i k:Nat}{acc:List V}
end
def ny(f:Nat→Int)(l:List Nat)(H:Hp)(D:Addr)(i:Nat)(acc:List V)(H2:Hp):Prop:=am H H2∧H2 D=some (.lst acc)∧acc=((l.take i).map f).map V.int
section
variable {f:Nat→Int}{l:List Nat}{H H2 H3:Hp}{D:Addr}{i k:Nat}{acc:List V}{v:V}
theorem ny.start(hD:H D=none):ny f l H D 0 [] (upd H D (.lst [])):=⟨am.new hD,ag,rfl⟩
theorem ny.len(p:ny f l H D i acc H2):H2 D=some (.lst acc)∧acc.length≤i:=by
 refine⟨p.2.1,?_⟩
 rw[p.2.2,List.length_map,List.length_map,List.length_take]
 omega
theorem ny.next(p:ny f l H D i acc H2)(hD:H D=none)(s:am H2 H3)(hk:l[i]?=some k)(hv:v = .int (f k)):H3 D=some (.lst acc)∧ny f l H D (i+1) (acc++[v]) (upd H3 D (.lst (acc++[v]))):=by
 refine⟨s _ _ p.2.1,(p.1.trans s).put hD,ag,?_⟩
 rw[List.take_add_one,hk,List.map_append,List.map_append,← p.2.2,hv]
 rfl
theorem ny.fin(p:ny f l H D l.length acc H2):H2 D=some (.lst ((l.map f).map V.int)):=by rw[p.2.1,p.2.2,List.take_length]
end
end Ring
namespace RM
theorem lu(f:Nat→Bool):∀ n,bx f n=decide (cnt f n%2=1)
 | 0=>rfl
 | n+1=>by
   unfold bx cnt
   rw[lu f n]
   by_cases h:f n=true
   ·rw[h,if_pos rfl]
    by_cases q:cnt f n%2=1
    ·have q' : ¬(cnt f n+1)%2=1:=by omega
     simp[q,q']
    ·have q' : (cnt f n+1)%2=1:=by omega
     simp[q,q']
   ·have h' : f n=false:=by simpa using h
    rw[h',if_neg (by decide)]
    simp
end RM
namespace Ring
open PySem L2
def rB(ts:List Tie)(m:Nat):Int:=((aB (m:Int)).map fun k=>(bc ts k).2.2).sum
def ve(ts:List Tie)(f:Nat→Bool):Nat→Int
 | 0=>0
 | n+1=>ve ts f n+(if f n=true then(bc ts n).2.2 else 0)
theorem kE(ts:List Tie)(f:Nat→Bool):∀ n,(((List.range n).filter f).map fun k=>(bc ts k).2.2).sum=ve ts f n
 | 0=>rfl
 | n+1=>by
   rw[bz,List.map_append,List.sum_append,kE ts f n]
   show _=ve ts f n+(if f n=true then(bc ts n).2.2 else 0)
   split<;>simp
theorem vc{ts:List Tie}{m:Nat}(hm:m<2^ts.length):rB ts m=ve ts (fun k=>m.testBit k) ts.length:=by
 unfold rB
 rw[dP hm]
 exact kE ts _ _
section
variable {p:Nat}{ts:List Tie}(g:GoodWeb p ts)
include g
end
section
variable {p:Nat}{ts:List Tie}
end
end Ring
namespace L2
open PySem PySem.Spec PyProof.Rows
end L2
namespace Ring
open PySem L2
end Ring
namespace RM
def sm(f:Nat→Nat):Nat→Nat
 | 0=>0
 | n+1=>sm f n+f n
theorem dD{f g:Nat→Nat}:∀{n:Nat},(∀ k,k<n→f k=g k)→sm f n=sm g n
 | 0,_=>rfl
 | n+1,h=>by
   show sm f n+f n=sm g n+g n
   rw[dD fun k hk=>h k (by omega),h n (by omega)]
theorem j6(f g:Nat→Nat):∀ n,sm (fun k=>f k+g k) n=sm f n+sm g n
 | 0=>rfl
 | n+1=>by
   show sm (fun k=>f k+g k) n+(f n+g n)=sm f n+f n+(sm g n+g n)
   rw[j6 f g n]
   omega
theorem lc:∀ n,sm (fun _=>0) n=0
 | 0=>rfl
 | n+1=>by
   show sm (fun _=>0) n+0=0
   rw[lc n]
theorem sT(f:Nat→Nat→Nat)(n:Nat):∀ p,sm (fun x=>sm (fun k=>f x k) n) p=sm (fun k=>sm (fun x=>f x k) p) n
 | 0=>(lc n).symm
 | p+1=>by
   show sm (fun x=>sm (fun k=>f x k) n) p+sm (fun k=>f p k) n=sm (fun k=>sm (fun x=>f x k) p+f p k) n
   rw[sT f n p,j6]
theorem eR(f:Nat→Bool):∀ n,cnt f n=sm (fun k=>if f k=true then 1 else 0) n
 | 0=>rfl
 | n+1=>by
   show cnt f n+(if f n=true then 1 else 0)=sm (fun k=>if f k=true then 1 else 0) n+(if f n=true then 1 else 0)
   rw[eR f n]
theorem tU{f g:Nat→Nat}:∀{n:Nat},(∀ k,k<n→f k≤g k)→sm f n≤sm g n
 | 0,_=>Nat.le_refl _
 | n+1,h=>by
   have h1:=tU (f:=f) (g:=g) (n:=n) fun k hk=>h k (by omega)
   have h2:=h n (by omega)
   show sm f n+f n≤sm g n+g n
   omega
theorem xz{f g:Nat→Nat}{n:Nat}(h:∀ k,k<n→f k≤g k)(e:sm f n=sm g n):∀ k,k<n→f k=g k:=by
 induction n with
 | zero=>exact fun k hk=>absurd hk (Nat.not_lt_zero _)
 | succ n ih =>
   intro k hk
   have h1:=tU (f:=f) (g:=g) (n:=n) fun k hk=>h k (by omega)
   have h2:=h n (by omega)
   have e:sm f n+f n=sm g n+g n:=e
   by_cases hkn:k=n
   ·subst hkn
    omega
   ·exact ih (fun j hj=>h j (by omega)) (by omega) k (by omega)
theorem xu{f g:Nat→Bool}{n:Nat}(h:∀ k,k<n→f k=true→g k=true):cnt f n≤cnt g n:=by
 rw[eR,eR]
 refine tU fun k hk=>?_
 by_cases hf:f k=true
 ·rw[if_pos hf,if_pos (h k hk hf)]
  exact Nat.le_refl _
 ·rw[if_neg hf]
  exact Nat.zero_le _
theorem rm{f g:Nat→Bool}{n:Nat}(h:∀ k,k<n→f k=true→g k=true)(e:cnt f n=cnt g n):∀ k,k<n→g k=true→f k=true:=fun k hk hg=>by
 rw[eR,eR]at e
 have q:=xz (n:=n) (fun k hk=>by
  by_cases hf:f k=true
  ·rw[if_pos hf,if_pos (h k hk hf)]
   exact Nat.le_refl _
  ·rw[if_neg hf]
   exact Nat.zero_le _) e k hk
 rw[if_pos hg]at q
 by_cases hf:f k=true
 ·exact hf
 ·rw[if_neg hf]at q
  omega
theorem ir{f:Nat→Bool}:∀{n:Nat},0<cnt f n→∃ k,k<n∧f k=true
 | 0,h=>absurd h (Nat.lt_irrefl _)
 | n+1,h=>by
   by_cases hf:f n=true
   ·exact⟨n,by omega,hf⟩
   ·have h:0<cnt f n+(if f n=true then 1 else 0):=h
    rw[if_neg hf]at h
    obtain⟨k,hk,q⟩:=ir (f:=f) (n:=n) (by omega)
    exact⟨k,by omega,q⟩
theorem iL{f:Nat→Bool}{k:Nat}(hf:f k=true):∀{n:Nat},k<n→0<cnt f n
 | 0,h=>absurd h (Nat.not_lt_zero _)
 | n+1,h=>by
   show 0<cnt f n+(if f n=true then 1 else 0)
   by_cases hk:k=n
   ·subst hk
    rw[if_pos hf]
    omega
   ·have:=iL hf (n:=n) (by omega)
    omega
theorem gW{f:Nat→Bool}:∀{n:Nat},2≤cnt f n→∃ c d,c<d∧d<n∧f c=true∧f d=true
 | 0,h=>absurd h (by show ¬ 2≤0;omega)
 | n+1,h=>by
   have h:2≤cnt f n+(if f n=true then 1 else 0):=h
   by_cases hf:f n=true
   ·rw[if_pos hf]at h
    obtain⟨k,hk,q⟩:=ir (f:=f) (n:=n) (by omega)
    exact⟨k,n,hk,by omega,q,hf⟩
   ·rw[if_neg hf]at h
    obtain⟨c,d,h1,h2,h3,h4⟩:=gW (f:=f) (n:=n) (by omega)
    exact⟨c,d,h1,by omega,h3,h4⟩
theorem ln{f:Nat→Bool}{u v:Nat}(hu:f u=true)(hv:f v=true)(ne:u≠v):∀{n:Nat},u<n→v<n→2≤cnt f n
 | 0,h,_=>absurd h (Nat.not_lt_zero _)
 | n+1,h1,h2=>by
   show 2≤cnt f n+(if f n=true then 1 else 0)
   by_cases e1:u=n
   ·subst e1
    have:=iL hv (n:=u) (by omega)
    rw[if_pos hu]
    omega
   ·by_cases e2:v=n
    ·subst e2
     have:=iL hu (n:=v) (by omega)
     rw[if_pos hv]
     omega
    ·have:=ln hu hv ne (n:=n) (by omega) (by omega)
     omega
theorem pE(a:Nat):∀ n,cnt (fun x=>decide (a=x)) n=if a<n then 1 else 0
 | 0=>rfl
 | n+1=>by
   show cnt (fun x=>decide (a=x)) n+(if decide (a=n)=true then 1 else 0)=_
   rw[pE a n]
   by_cases e:a=n
   ·subst e
    simp
   ·have d:(if decide (a=n)=true then 1 else 0)=0:=if_neg (by simpa using e)
    rw[d]
    by_cases h:a<n
    ·rw[if_pos h,if_pos (by omega)]
    ·rw[if_neg h,if_neg (by omega)]
theorem py{f g:Nat→Bool}:∀{n:Nat},(∀ x,x<n→¬(f x=true∧g x=true))→cnt (fun x=>f x^^g x) n=cnt f n+cnt g n
 | 0,_=>rfl
 | n+1,h=>by
   show cnt (fun x=>f x^^g x) n+(if(f n^^g n)=true then 1 else 0)=cnt f n+(if f n=true then 1 else 0)+(cnt g n+(if g n=true then 1 else 0))
   rw[py fun x hx=>h x (by omega)]
   have q:=h n (by omega)
   cases hf:f n<;>cases hg:g n
   ·simp
   ·simp
    omega
   ·simp
    omega
   ·exact absurd ⟨hf,hg⟩ q
variable {N:Net}
def Net.dg(N:Net)(m x:Nat):Nat:=cnt (fun k=>m.testBit k&&N.inc k x) N.n
theorem tj(m x:Nat):N.bd m x=decide (N.dg m x%2=1):=lu _ _
theorem jo{m x:Nat}(e:N.Even m)(hx:x<N.p):N.dg m x%2=0:=by
 have h:=e x hx
 rw[tj]at h
 have:=of_decide_eq_false h
 omega
theorem eV{k x:Nat}(hk:k<N.n):N.inc k x=true↔(N.a k=x∨N.b k=x):=by
 have ne:=N.ne k hk
 unfold Net.inc
 by_cases h1:N.a k=x
 ·have h2 : ¬ N.b k=x:=fun z=>ne (h1.trans z.symm)
  simp[h1,h2]
 ·by_cases h2:N.b k=x
  ·simp[h1,h2]
  ·simp[h1,h2]
theorem yz{k:Nat}(hk:k<N.n):cnt (N.inc k) N.p=2:=by
 have ne:=N.ne k hk
 have e:cnt (N.inc k) N.p=cnt (fun x=>decide (N.a k=x)^^decide (N.b k=x)) N.p:=rfl
 rw[e,py fun x _ ⟨h1,h2⟩=>ne ((of_decide_eq_true h1).trans (of_decide_eq_true h2).symm),pE,pE,if_pos (N.al k hk),if_pos (N.bl k hk)]
theorem rQ(m:Nat):sm (fun x=>N.dg m x) N.p=2*cnt (fun k=>m.testBit k) N.n:=by
 have e:sm (fun x=>N.dg m x) N.p=sm (fun x=>sm (fun k=>if(m.testBit k&&N.inc k x)=true then 1 else 0) N.n) N.p:=dD fun x _=>eR _ _
 rw[e,sT,eR]
 have d:∀ n,2*sm (fun k=>if m.testBit k=true then 1 else 0) n=sm (fun k=>(if m.testBit k=true then 1 else 0)+(if m.testBit k=true then 1 else 0)) n:=fun n=>by
  rw[j6]
  omega
 rw[d]
 refine dD fun k hk=>?_
 by_cases h:m.testBit k=true
 ·rw[if_pos h]
  have q:=yz hk
  rw[eR]at q
  show _=2
  exact(dD fun x _=>by rw[h,Bool.true_and]).trans q
 ·rw[if_neg h]
  have h' : m.testBit k=false:=by simpa using h
  have:sm (fun x=>if(m.testBit k&&N.inc k x)=true then 1 else 0) N.p=sm (fun _=>0) N.p:=dD fun x _=>by rw[h'];rfl
  rw[this,lc]
theorem yF{q m:Nat}(h:∀ k,q.testBit k=true→m.testBit k=true)(x:Nat):N.dg q x≤N.dg m x:=xu fun k _ hq=>by
 rw[Bool.and_eq_true]at hq ⊢
 exact⟨h k hq.1,hq.2⟩
theorem o7{m k x:Nat}(hk:k<N.n)(hb:m.testBit k=true)(hx:N.a k=x∨N.b k=x):0<N.dg m x:=iL (k:=k) (by rw[hb,Bool.true_and];exact(eV hk).mpr hx) hk
theorem li{m x:Nat}(h:0<N.dg m x):∃ k,k<N.n∧m.testBit k=true∧(N.a k=x∨N.b k=x):=by
 obtain⟨k,hk,q⟩:=ir h
 rw[Bool.and_eq_true]at q
 exact⟨k,hk,q.1,(eV hk).mp q.2⟩
theorem qx{m x y:Nat}(h:N.dg m x=0)(c:N.Conn (fun k=>m.testBit k) N.n x y):y=x:=by
 induction c with
 | refl=>rfl
 | fwd _ hj hs ih=>exact absurd (o7 hj hs (.inl ih)) (by omega)
 | bwd _ hj hs ih=>exact absurd (o7 hj hs (.inr ih)) (by omega)
theorem uU{S:Nat→Bool}{k u v:Nat}(hk:k≤N.n)(c:N.Conn S k u v):∃ t,(∀ j,t.testBit j=true→j<k∧S j=true)∧∀ x,N.bd t x=(decide (u=x)^^decide (v=x)):=by
 induction c with
 | refl=>exact⟨0,fun j hj=>by simp at hj,fun x=>by rw[jv];simp⟩
 | fwd _ hj hs ih =>
   rename_i j _
   obtain⟨t,h1,h2⟩:=ih
   refine⟨t^^^2^j,fun i hi=>?_,fun x=>?_⟩
   ·rw[Nat.testBit_xor,Nat.testBit_two_pow]at hi
    by_cases e:j=i
    ·subst e
     exact⟨hj,hs⟩
    ·rw[decide_eq_false e,Bool.xor_false]at hi
     exact h1 i hi
   ·rw[dO,h2,fY (by omega)]
    unfold Net.inc
    cases decide (u=x)<;>cases decide (N.a j=x)<;>cases decide (N.b j=x)<;>rfl
 | bwd _ hj hs ih =>
   rename_i j _
   obtain⟨t,h1,h2⟩:=ih
   refine⟨t^^^2^j,fun i hi=>?_,fun x=>?_⟩
   ·rw[Nat.testBit_xor,Nat.testBit_two_pow]at hi
    by_cases e:j=i
    ·subst e
     exact⟨hj,hs⟩
    ·rw[decide_eq_false e,Bool.xor_false]at hi
     exact h1 i hi
   ·rw[dO,h2,fY (by omega)]
    unfold Net.inc
    cases decide (u=x)<;>cases decide (N.a j=x)<;>cases decide (N.b j=x)<;>rfl
def Net.Ring(N:Net)(m:Nat):Prop:=m≠0∧N.Even m∧∀ q,(∀ k,q.testBit k=true→m.testBit k=true)→N.Even q→q=0∨q=m
section
variable {m s:Nat}
theorem yq(hm:m<2^N.n)(ev:N.Even m)(C:Nat→Bool)(hC:∀ x,x<N.p→C x=decide (N.labs (fun k=>m.testBit k) N.n x=s))(h2:2≤cnt C N.p)
 (tie:∀ k,k<N.n→m.testBit k=true→C (N.a k)=true) (hl:cnt C N.p=cnt (fun k=>m.testBit k) N.n):N.Ring m:=by
 have inC:∀ k,k<N.n→m.testBit k=true→C (N.a k)=true∧C (N.b k)=true:=fun k hk hb=>by
  have h:=tie k hk hb
  refine⟨h,?_⟩
  rw[hC _ (N.al k hk)]at h
  rw[hC _ (N.bl k hk)]
  rw[fL (S:=fun k=>m.testBit k) hk hb]at h
  exact h
 have pos:∀ x,x<N.p→C x=true→0<N.dg m x:=fun x hx hc=>by
  cases hz:N.dg m x with
  | succ d=>omega
  | zero =>
    exfalso
    obtain⟨y,hy,hcy,hne⟩:∃ y,y<N.p∧C y=true∧y≠x:=by
     obtain⟨c,d,h1,h3,h4,h5⟩:=gW h2
     by_cases e:c=x
     ·exact⟨d,h3,h5,by omega⟩
     ·exact⟨c,by omega,h4,e⟩
    rw[hC x hx]at hc
    rw[hC y hy]at hcy
    exact hne (qx hz (bK _ _ _ ((of_decide_eq_true hc).trans (of_decide_eq_true hcy).symm)))
 have two:∀ x,x<N.p→(if C x=true then 2 else 0)=N.dg m x:=by
  refine xz (fun x hx=>?_) ?_
  ·by_cases hc:C x=true
   ·rw[if_pos hc]
    have h1:=pos x hx hc
    have h3:=jo ev hx
    omega
   ·rw[if_neg hc]
    exact Nat.zero_le _
  ·rw[rQ,← hl,eR]
   have d:∀ n,2*sm (fun k=>if C k=true then 1 else 0) n=sm (fun k=>(if C k=true then 1 else 0)+(if C k=true then 1 else 0)) n:=fun n=>by
    rw[j6]
    omega
   rw[d]
   exact dD fun x _=>by split<;>rfl
 obtain⟨c0,hc0,hcc⟩:=ir (f:=C) (n:=N.p) (by omega)
 refine⟨fun z=>?_,ev,fun q hq eq=>?_⟩
 ·have h:=pos c0 hc0 hcc
  obtain⟨k,_,hb,_⟩:=li h
  rw[z]at hb
  simp at hb
 ·by_cases hq0:q=0
  ·exact .inl hq0
  ·right
   have full:∀ x,x<N.p→0<N.dg q x→∀ k,k<N.n→m.testBit k=true→(N.a k=x∨N.b k=x)→q.testBit k=true:=fun x hx h k hk hb hx2=>by
    have h1:=yF (N:=N) hq x
    have h3:=jo eq hx
    have h4:=two x hx
    have h5:N.dg q x=N.dg m x:=by
     by_cases hc:C x=true
     ·rw[if_pos hc]at h4
      omega
     ·rw[if_neg hc]at h4
      omega
    have h6:=rm (f:=fun k=>q.testBit k&&N.inc k x) (g:=fun k=>m.testBit k&&N.inc k x) (n:=N.n) (fun k _ z=>by
     rw[Bool.and_eq_true]at z ⊢
     exact⟨hq k z.1,z.2⟩) h5 k hk (by rw[hb,Bool.true_and];exact(eV hk).mpr hx2)
    rw[Bool.and_eq_true]at h6
    exact h6.1
   obtain⟨k0,hb0⟩:∃ k,q.testBit k=true:=Nat.exists_testBit_of_ne_zero hq0
   have hk0:k0<N.n:=bS hm (hq k0 hb0)
   have spread:∀{y},N.Conn (fun k=>m.testBit k) N.n (N.a k0) y→0<N.dg q y:=fun {y} c=>by
    induction c with
    | refl=>exact o7 hk0 hb0 (.inl rfl)
    | fwd _ hj hs ih=>exact o7 hj (full _ (N.al _ hj) ih _ hj hs (.inl rfl)) (.inr rfl)
    | bwd _ hj hs ih=>exact o7 hj (full _ (N.bl _ hj) ih _ hj hs (.inr rfl)) (.inl rfl)
   refine Nat.eq_of_testBit_eq fun k=>?_
   cases hb:m.testBit k with
   | false =>
     cases hz:q.testBit k with
     | false=>rfl
     | true =>
       have:=hq k hz
       rw[hb]at this
       cases this
   | true =>
     have hk:=bS hm hb
     have e1:=(inC k hk hb).1
     have e2:=(inC k0 hk0 (hq k0 hb0)).1
     rw[hC _ (N.al k hk)]at e1
     rw[hC _ (N.al k0 hk0)]at e2
     exact full _ (N.al k hk) (spread (bK _ _ _ ((of_decide_eq_true e2).trans (of_decide_eq_true e1).symm))) k hk hb (.inl rfl)
theorem mJ(hm:m<2^N.n)(r:N.Ring m):∃ k0,k0<N.n∧m.testBit k0=true∧∀ k,k<N.n→m.testBit k=true→N.labs (fun k=>m.testBit k) N.n (N.a k)=N.labs (fun k=>m.testBit k) N.n (N.a k0):=by
 obtain⟨h0,ev,mn⟩:=r
 obtain⟨k0,hb0⟩:=Nat.exists_testBit_of_ne_zero h0
 have hk0:=bS hm hb0
 refine⟨k0,hk0,hb0,?_⟩
 generalize hs:N.labs (fun k=>m.testBit k) N.n (N.a k0)=s
 have bit:∀ k,(Ring.cF (fun k=>m.testBit k&&decide (N.labs (fun k=>m.testBit k) N.n (N.a k)=s)) N.n).testBit k=(decide (k<N.n)&&(m.testBit k&&decide (N.labs (fun k=>m.testBit k) N.n (N.a k)=s))):=fun k=>Ring.fH _ k _
 have sub:∀ k,(Ring.cF (fun k=>m.testBit k&&decide (N.labs (fun k=>m.testBit k) N.n (N.a k)=s)) N.n).testBit k=true→m.testBit k=true:=fun k hk=>by
  rw[bit,Bool.and_eq_true,Bool.and_eq_true]at hk
  exact hk.2.1
 have evn:N.Even (Ring.cF (fun k=>m.testBit k&&decide (N.labs (fun k=>m.testBit k) N.n (N.a k)=s)) N.n):=fun x hx=>by
  have e:N.bd (Ring.cF (fun k=>m.testBit k&&decide (N.labs (fun k=>m.testBit k) N.n (N.a k)=s)) N.n) x=(decide (N.labs (fun k=>m.testBit k) N.n x=s)&&N.bd m x):=by
   unfold Net.bd
   rw[← jF]
   refine bX fun k hk=>?_
   rw[bit,decide_eq_true hk,Bool.true_and]
   cases hb:m.testBit k with
   | false=>simp
   | true =>
     cases hi:N.inc k x with
     | false=>simp
     | true =>
       have el:N.labs (fun k=>m.testBit k) N.n (N.a k)=N.labs (fun k=>m.testBit k) N.n x:=by
        rcases(eV hk).mp hi with z|z
        ·rw[z]
        ·rw[← z]
         exact fL (S:=fun k=>m.testBit k) hk hb
       rw[el]
       simp
  rw[e,ev x hx,Bool.and_false]
 rcases mn _ sub evn with q|q
 ·have:=bit k0
  rw[q,hb0,hs,decide_eq_true hk0]at this
  simp at this
 ·intro k hk hb
  have h:=bit k
  rw[q,hb,decide_eq_true hk]at h
  exact of_decide_eq_true (by simpa using h.symm)
theorem pc(S:Nat→Bool):∀ k,k≤N.n→cnt (N.root S k) N.p+cnt (fun j=>S j && !decide (N.labs S j (N.a j)=N.labs S j (N.b j))) k=N.p
 | 0,_=>by
   show cnt (N.root S 0) N.p+0=N.p
   rw[uc (f:=N.root S 0) fun x _=>decide_eq_true rfl]
   rfl
 | k+1,hk=>by
   have ih:=pc S k (by omega)
   have st:=sB (N:=N) (S:=S) (k:=k) (by omega)
   show cnt (N.root S (k+1)) N.p+(cnt (fun j=>S j && !decide (N.labs S j (N.a j)=N.labs S j (N.b j))) k+if(S k && !decide (N.labs S k (N.a k)=N.labs S k (N.b k)))=true then 1 else 0)=N.p
   omega
theorem qF(hm:m<2^N.n)(r:N.Ring m)(C:Nat→Bool)(hC:∀ x,x<N.p→C x=decide (N.labs (fun k=>m.testBit k) N.n x=s))
 (tie:∀ k,k<N.n→m.testBit k=true→C (N.a k)=true):2≤cnt C N.p∧cnt C N.p=cnt (fun k=>m.testBit k) N.n∧∀ x,x<N.p→C x=false→N.labs (fun k=>m.testBit k) N.n x=x∧∀ y,N.labs (fun k=>m.testBit k) N.n y=x→y=x:=by
 obtain⟨h0,ev,mn⟩:=r
 obtain⟨k0,hb0⟩:=Nat.exists_testBit_of_ne_zero h0
 have hk0:=bS hm hb0
 have inC:∀ k,k<N.n→m.testBit k=true→C (N.a k)=true∧C (N.b k)=true:=fun k hk hb=>by
  have h:=tie k hk hb
  refine⟨h,?_⟩
  rw[hC _ (N.al k hk)]at h
  rw[hC _ (N.bl k hk),← fL (S:=fun k=>m.testBit k) hk hb]
  exact h
 have h2:2≤cnt C N.p:=ln (inC k0 hk0 hb0).1 (inC k0 hk0 hb0).2 (N.ne k0 hk0) (N.al k0 hk0) (N.bl k0 hk0)
 have none:∀ x,x<N.p→C x=false→N.dg m x=0:=fun x hx hc=>by
  cases hz:N.dg m x with
  | zero=>rfl
  | succ d =>
    exfalso
    obtain⟨k,hk,hb,hx2⟩:=li (N:=N) (m:=m) (x:=x) (by omega)
    rcases hx2 with e|e
    ·have:=(inC k hk hb).1
     rw[e,hc]at this
     cases this
    ·have:=(inC k hk hb).2
     rw[e,hc]at this
     cases this
 have solo:∀ x,x<N.p→C x=false→N.labs (fun k=>m.testBit k) N.n x=x∧∀ y,N.labs (fun k=>m.testBit k) N.n y=x→y=x:=fun x hx hc=>by
  have hz:=none x hx hc
  have r1:N.labs (fun k=>m.testBit k) N.n x=x:=qx hz (bK _ _ _ (cS _ _).symm)
  exact⟨r1,fun y hy=>qx hz (bK _ _ _ (r1.trans hy.symm))⟩
 refine⟨h2,?_,solo⟩
 have pos:∀ x,x<N.p→C x=true→0<N.dg m x:=fun x hx hc=>by
  cases hz:N.dg m x with
  | succ d=>omega
  | zero =>
    exfalso
    obtain⟨y,hy,hcy,hne⟩:∃ y,y<N.p∧C y=true∧y≠x:=by
     obtain⟨c,d,h1,h3,h4,h5⟩:=gW h2
     by_cases e:c=x
     ·exact⟨d,h3,h5,by omega⟩
     ·exact⟨c,by omega,h4,e⟩
    rw[hC x hx]at hc
    rw[hC y hy]at hcy
    exact hne (qx hz (bK _ _ _ ((of_decide_eq_true hc).trans (of_decide_eq_true hcy).symm)))
 have ge:cnt C N.p≤cnt (fun k=>m.testBit k) N.n:=by
  have h:sm (fun x=>if C x=true then 2 else 0) N.p≤sm (fun x=>N.dg m x) N.p:=tU fun x hx=>by
   by_cases hc:C x=true
   ·rw[if_pos hc]
    have h1:=pos x hx hc
    have h3:=jo ev hx
    omega
   ·rw[if_neg hc]
    exact Nat.zero_le _
  rw[rQ]at h
  have d:sm (fun x=>if C x=true then 2 else 0) N.p=2*cnt C N.p:=by
   rw[eR]
   have d:∀ n,2*sm (fun k=>if C k=true then 1 else 0) n=sm (fun k=>(if C k=true then 1 else 0)+(if C k=true then 1 else 0)) n:=fun n=>by
    rw[j6]
    omega
   rw[d]
   exact dD fun x _=>by split<;>rfl
  omega
 refine Nat.le_antisymm ge (Nat.le_of_not_lt fun more=>?_)
 have hroots:=pc (N:=N) (fun k=>m.testBit k) N.n (Nat.le_refl _)
 have hr:cnt (N.root (fun k=>m.testBit k) N.n) N.p+cnt C N.p=N.p+1:=by
  have hc0:=(inC k0 hk0 hb0).1
  rw[hC _ (N.al k0 hk0)]at hc0
  have hs:=of_decide_eq_true hc0
  have hsp:s<N.p:=by rw[← hs];exact jP (N.al k0 hk0)
  have hss:N.labs (fun k=>m.testBit k) N.n s=s:=by rw[← hs];exact cS _ _
  have e:cnt (N.root (fun k=>m.testBit k) N.n) N.p=cnt (fun x=>!C x^^decide (s=x)) N.p:=fk fun x hx=>by
   unfold Net.root
   cases hc:C x with
   | false =>
     have ne : ¬ s=x:=fun z=>by
      have:=hC x hx
      rw[hc,← z,hss]at this
      simp at this
     rw[decide_eq_true (solo x hx hc).1,decide_eq_false ne]
     rfl
   | true =>
     have h:=hC x hx
     rw[hc]at h
     have h:=of_decide_eq_true h.symm
     rw[h]
     simp
  rw[e,py fun x hx ⟨z1,z2⟩=>by
   have z2:=of_decide_eq_true z2
   have:=hC x hx
   rw[← z2,hss]at this
   rw[← z2,this]at z1
   simp at z1,pE,if_pos hsp]
  have:=lg C N.p
  omega
 have split:cnt (fun k=>m.testBit k) N.n=cnt (fun j=>m.testBit j && !decide (N.labs (fun k=>m.testBit k) j (N.a j)=N.labs (fun k=>m.testBit k) j (N.b j))) N.n+cnt (fun j=>m.testBit j&&decide (N.labs (fun k=>m.testBit k) j (N.a j)=N.labs (fun k=>m.testBit k) j (N.b j))) N.n:=by
  rw[← py fun x _ ⟨z1,z2⟩=>by
   rw[Bool.and_eq_true]at z1 z2
   have:=z1.2
   rw[z2.2]at this
   cases this]
  refine fk fun k _=>?_
  cases m.testBit k<;>cases decide (N.labs (fun k=>m.testBit k) k (N.a k)=N.labs (fun k=>m.testBit k) k (N.b k))<;>rfl
 obtain⟨c,d,hcd,hd,hc1,hd1⟩:=gW (f:=fun j=>m.testBit j&&decide (N.labs (fun k=>m.testBit k) j (N.a j)=N.labs (fun k=>m.testBit k) j (N.b j))) (n:=N.n) (by omega)
 have whole:∀ j,j<N.n→(m.testBit j&&decide (N.labs (fun k=>m.testBit k) j (N.a j)=N.labs (fun k=>m.testBit k) j (N.b j)))=true→∀ i,m.testBit i=true→i≤j:=fun j hj h i hi=>by
  rw[Bool.and_eq_true]at h
  obtain⟨t,t1,t2⟩:=uU (Nat.le_of_lt hj) (bK _ _ _ (of_decide_eq_true h.2))
  have own:(t^^^2^j).testBit j=true:=by
   rw[Nat.testBit_xor,Nat.testBit_two_pow,decide_eq_true rfl]
   cases hz:t.testBit j with
   | false=>rfl
   | true=>exact absurd (t1 j hz).1 (Nat.lt_irrefl _)
  have sub:∀ k,(t^^^2^j).testBit k=true→m.testBit k=true:=fun k hk=>by
   rw[Nat.testBit_xor,Nat.testBit_two_pow]at hk
   by_cases e:j=k
   ·subst e
    exact h.1
   ·rw[decide_eq_false e,Bool.xor_false]at hk
    exact(t1 k hk).2
  have evn:N.Even (t^^^2^j):=fun x hx=>by
   rw[dO,t2,fY hj]
   unfold Net.inc
   cases decide (N.a j=x)<;>cases decide (N.b j=x)<;>rfl
  rcases mn _ sub evn with q|q
  ·rw[q]at own
   simp at own
  ·rw[← q,Nat.testBit_xor,Nat.testBit_two_pow]at hi
   by_cases e:j=i
   ·omega
   ·rw[decide_eq_false e,Bool.xor_false]at hi
    exact Nat.le_of_lt (t1 i hi).1
 have h1:m.testBit d=true:=by
  rw[Bool.and_eq_true]at hd1
  exact hd1.1
 have:=whole c (by omega) hc1 d h1
 omega
end
end RM
namespace Ring
open PySem L2
def cw(L:Nat→Nat)(p:Nat):List Nat:=(eA L p).filter fun s=>decide (1<(eF L p s).length)
def y9(L:Nat→Nat)(p k:Nat):List Nat→Bool
 | [s]=>decide ((eF L p s).length=k)
 | _=>false
def kM(p:Nat)(ts:List Tie)(g:GoodWeb p ts)(m:Nat):Bool:=decide (m7 p ts (m:Int)=[])&&y9 (bf p ts g m) p (aB (m:Int)).length (cw (bf p ts g m) p)
theorem fi(L:Nat→Nat)(p s:Nat):(eF L p s).length=RM.cnt (fun x=>decide (L x=s)) p:=RM.iP _ _
theorem jz{m n:Nat}(hm:m<2^n):(aB (m:Int)).length=RM.cnt (fun k=>m.testBit k) n:=by
 rw[dP hm]
 exact RM.iP _ _
theorem uO{f:Nat→Bool}{n c:Nat}(hc:c<n)(h:∀ k,k<n→f k=decide (k=c)):(List.range n).filter f=[c]:=by
 rw[← ja hc]
 exact List.filter_congr fun k hk=>h k (List.mem_range.mp hk)
theorem uf{p:Nat}{ts:List Tie}(g:GoodWeb p ts){m:Nat}(hm:m<2^ts.length):kM p ts g m=true↔(ad p ts g).Ring m:=by
 have eL:bf p ts g m=(ad p ts g).labs (fun k=>m.testBit k) (ad p ts g).n:=rfl
 have ep:(ad p ts g).p=p:=rfl
 constructor
 ·intro h
  unfold kM at h
  rw[Bool.and_eq_true]at h
  obtain⟨h1,h2⟩:=h
  have ev:=(rj g hm).mp (of_decide_eq_true h1)
  unfold y9 at h2
  split at h2
  ·rename_i s hs
   have h2:=of_decide_eq_true h2
   have hmem:s∈cw (bf p ts g m) p:=by rw[hs];exact List.mem_singleton.mpr rfl
   unfold cw at hmem
   have hlen:=of_decide_eq_true (List.mem_filter.mp hmem).2
   refine RM.yq (s:=s) hm ev (fun x=>decide (bf p ts g m x=s)) (fun x _=>by rw[eL]) ?_ (fun k hk hb=>?_) ?_
   ·rw[ep,← fi]
    exact hlen
   ·
    have hak:=(ad p ts g).al k hk
    have hbk:=(ad p ts g).bl k hk
    have e:bf p ts g m ((ad p ts g).b k)=bf p ts g m ((ad p ts g).a k):=(RM.fL (S:=fun k=>m.testBit k) hk hb).symm
    have hr:bf p ts g m (bf p ts g m ((ad p ts g).a k))=bf p ts g m ((ad p ts g).a k):=RM.cS _ _
    have hlt:bf p ts g m ((ad p ts g).a k)<p:=RM.jP hak
    have ht:bf p ts g m ((ad p ts g).a k)∈cw (bf p ts g m) p:=by
     unfold cw eA
     refine List.mem_filter.mpr ⟨List.mem_filter.mpr ⟨List.mem_range.mpr hlt,decide_eq_true hr⟩,decide_eq_true ?_⟩
     rw[fi]
     exact RM.ln (u:=(ad p ts g).a k) (v:=(ad p ts g).b k) (decide_eq_true rfl) (decide_eq_true e) ((ad p ts g).ne k hk) hak hbk
    rw[hs]at ht
    exact decide_eq_true (List.mem_singleton.mp ht)
   ·rw[ep,← fi,h2]
    exact jz hm
  ·cases h2
 ·intro r
  obtain⟨k0,hk0,hb0,hall⟩:=RM.mJ hm r
  generalize hs:(ad p ts g).labs (fun k=>m.testBit k) (ad p ts g).n ((ad p ts g).a k0)=s at hall
  obtain⟨h2,hl,solo⟩:=RM.qF (s:=s) hm r (fun x=>decide (bf p ts g m x=s)) (fun x _=>by rw[eL]) (fun k hk hb=>decide_eq_true (hall k hk hb))
  have hsp:s<p:=by rw[← hs];exact RM.jP ((ad p ts g).al k0 hk0)
  have hss:bf p ts g m s=s:=by rw[eL,← hs];exact RM.cS _ _
  have ht:cw (bf p ts g m) p=[s]:=by
   unfold cw eA
   rw[List.filter_filter]
   refine uO hsp fun x hx=>?_
   by_cases e:x=s
   ·subst e
    rw[decide_eq_true hss,fi,decide_eq_true rfl,Bool.and_true]
    exact decide_eq_true h2
   ·rw[decide_eq_false e]
    by_cases hx2:bf p ts g m x=x
    ·have hc:decide (bf p ts g m x=s)=false:=decide_eq_false (by rw[hx2];exact e)
     obtain⟨_,q⟩:=solo x hx hc
     have : ¬ 1<(eF (bf p ts g m) p x).length:=fun z=>by
      rw[fi]at z
      obtain⟨c,d,h1,_,h3,h4⟩:=RM.gW z
      have h3:=q c (of_decide_eq_true h3)
      have h4:=q d (of_decide_eq_true h4)
      omega
     rw[decide_eq_false this,Bool.false_and]
    ·rw[decide_eq_false hx2,Bool.and_false]
  unfold kM
  rw[decide_eq_true ((rj g hm).mpr r.2.1),ht,Bool.true_and]
  refine decide_eq_true ?_
  rw[fi,jz hm]
  exact hl
theorem rY{p:Nat}{ts:List Tie}{g:GoodWeb p ts}{m:Nat}(ev:m7 p ts (m:Int)=[]):kM p ts g m=y9 (bf p ts g m) p (aB (m:Int)).length (cw (bf p ts g m) p):=by
 unfold kM
 rw[decide_eq_true ev,Bool.true_and]
theorem wK(u v:Bool):decide (V.bl u=V.bl v)=decide (u=v):=decide_eq_decide.mpr ⟨fun z=>V.bl.inj z,fun z=>by rw[z]⟩
def zA(H:Hp)(y:V)(l:List Nat):Prop:=∃ b,y = .ref b∧H b=some (.lst (aJ l))
def mL(f:List Nat→Bool)(ls:List (List Nat))(H:Hp)(D:Addr)(i:Nat)(acc:List V)(H2:Hp):Prop:=am H H2∧H2 D=some (.lst acc)∧Paired (zA H) acc ((ls.take i).filter f)
section
variable {f:List Nat→Bool}{ls:List (List Nat)}{H H2 H3:Hp}{D:Addr}{i:Nat}{acc:List V}{y:V}{l:List Nat}
theorem mL.start(hD:H D=none):mL f ls H D 0 [] (upd H D (.lst [])):=⟨am.new hD,ag,.nil⟩
theorem mL.len(h:mL f ls H D i acc H2):H2 D=some (.lst acc)∧acc.length≤i:=⟨h.2.1,by
 rw[h.2.2.length]
 exact Nat.le_trans (List.length_filter_le _ _) (by rw[List.length_take];omega)⟩
theorem mL.yes(h:mL f ls H D i acc H2)(hD:H D=none)(hl:ls[i]?=some l)(hf:f l=true)(hy:zA H y l):H2 D=some (.lst acc)∧mL f ls H D (i+1) (acc++[y]) (upd H2 D (.lst (acc++[y]))):=by
 refine⟨h.2.1,h.1.put hD,ag,?_⟩
 rw[List.take_add_one,hl,List.filter_append]
 show Paired _ _ (_++List.filter f [l])
 rw[List.filter_cons,if_pos hf]
 exact Paired.snoc h.2.2 hy
theorem mL.no(h:mL f ls H D i acc H2)(hl:ls[i]?=some l)(hf:f l=false):mL f ls H D (i+1) acc H2:=by
 refine⟨h.1,h.2.1,?_⟩
 rw[List.take_add_one,hl,List.filter_append]
 show Paired _ _ (_++List.filter f [l])
 rw[List.filter_cons,if_neg (by rw[hf];exact Bool.false_ne_true)]
 simpa using h.2.2
end
end Ring
namespace L2
open PySem PySem.Spec PyProof.Rows
section
variable {prog:Program}{w:World}{A:Around}{E:Value→Shared→Prop}{s:Shared}
theorem sL{it t:Addr}{i:Nat}{items:Array Value}{x:Value}{Q:Value→Shared→Prop}(hit:s.heap.IsTupleIter it t i)(ht:s.heap.IsTuple t items)(hx:items[i]?=some x)
 (q:∀ h',h'.IsTupleIter it t (i+1)→Heap.SameBut it s.heap h'→Q x { s with heap:=h'}):wpAny (model prog w) A (Builtin.SmallTypes.nextOf (.ref it)) Q E s:=by
 obtain⟨o,ho,hc,hd⟩:=id hit
 obtain⟨ot,hot,_,nt,hdt⟩:=ht
 rw[Builtin.SmallTypes.nextOf]
 refine wpAny_bind (wpAny_callSpecial?_slot (name:=Str.ofString "__next__") hit.typeIs F.slot_tuple_iterator_next (wpAny_call_entry F.slot_tuple_iterator_next hit.typeIs F.entry_tuple_iterator_next ?_ (F.args_tuple_iterator_next_1 _)))
 show wpAny _ _ (field (.ref it) 0 >>= fun _=>_) _ _ s
 refine wpAny_bind (wpAny_field ho hd (x:=.ref t) rfl ?_)
 show wpAny _ _ (if(Value.ref t==Value.none)=true then _ else _) _ _ s
 rw[if_neg (by simp)]
 show wpAny _ _ (field (.ref it) 1 >>= fun _=>_) _ _ s
 refine wpAny_bind (wpAny_field ho hd (x:=.int i 0) rfl ?_)
 show wpAny _ _ (seqItems? (.ref t) >>= fun _=>_) _ _ s
 refine wpAny_bind (wpAny_seqItems hot hdt ?_)
 simp only[Int.toNat_natCast,hx]
 refine wpAny_bind (wpAny_setField ho hd (by simp) (wpAny_pure ⟨x,rfl,wpAny_pure (q _ ?_ (Heap.SameBut.update ..))⟩))
 refine⟨_,Heap.get?_update_self _ ho (Obj.isFreed_of_fields (Obj.data_mapFields hd _)),(Obj.cls_mapFields ..).trans hc,?_⟩
 rw[Obj.data_mapFields hd]
 simp[rawInt]
theorem uZ{it t:Addr}{i:Nat}{items:Array Value}{Q:Value→Shared→Prop}(hh:A.handled=none)(hit:s.heap.IsTupleIter it t i)(ht:s.heap.IsTuple t items)(hx:items[i]?=none)
 (q:∀ h' e,Heap.ExtBut it s.heap h'→(∃ o,h'.get? e=some o∧o.cls = .type "StopIteration")→E (.ref e) { s with heap:=h'}):wpAny (model prog w) A (Builtin.SmallTypes.nextOf (.ref it)) Q E s:=by
 obtain⟨o,ho,hc,hd⟩:=id hit
 obtain⟨ot,hot,_,nt,hdt⟩:=ht
 rw[Builtin.SmallTypes.nextOf]
 refine wpAny_bind (wpAny_callSpecial?_slot (name:=Str.ofString "__next__") hit.typeIs F.slot_tuple_iterator_next (wpAny_call_entry F.slot_tuple_iterator_next hit.typeIs F.entry_tuple_iterator_next ?_ (F.args_tuple_iterator_next_1 _)))
 show wpAny _ _ (field (.ref it) 0 >>= fun _=>_) _ _ s
 refine wpAny_bind (wpAny_field ho hd (x:=.ref t) rfl ?_)
 show wpAny _ _ (if(Value.ref t==Value.none)=true then _ else _) _ _ s
 rw[if_neg (by simp)]
 show wpAny _ _ (field (.ref it) 1 >>= fun _=>_) _ _ s
 refine wpAny_bind (wpAny_field ho hd (x:=.int i 0) rfl ?_)
 show wpAny _ _ (seqItems? (.ref t) >>= fun _=>_) _ _ s
 refine wpAny_bind (wpAny_seqItems hot hdt ?_)
 simp only[Int.toNat_natCast,hx]
 refine wpAny_bind (wpAny_rule (wpAny_bind (wpAny_setField ho hd (by simp) ?_)))
 show wpAny _ _ (newExc (.type "StopIteration") [] >>= fun _=>_) _ _ _
 refine wpAny_bind ?_
 simp only[newExc,newTuple]
 refine wpAny_bind (wpAny_newObj_type ?_ (by size_fits))
 refine wpAny_bind (m:=firstArgMember _ _) (wpAny_of_eq (a:=Value.none) (by first | rfl | (simp only[firstArgMember];rfl)) (wpAny_newObj_type ?_ (by size_fits)))
 exact wpAny_raiseNew_none hh (q _ _ (((Heap.SameBut.update ..).extBut.push _).push _) ⟨_,Heap.get?_push_size _ rfl,rfl⟩)
theorem kL(hh:A.handled=none)(it t:Addr)(hne:t≠it)(items:Array Value):
 Draws prog w A it [it,t] items.size (fun i v=>items[i]?=some v) (fun i h=>h.IsTupleIter it t i∧h.IsTuple t items) where
 live:=fun _ _ st=>let⟨o,ho,_⟩:=st.1;⟨o,ho⟩
 frame:=fun _ _ _ st hk=>⟨st.1.at fun o e=>hk it (by simp) o e,st.2.at fun o e=>hk t (by simp) o e⟩
 item:=fun i s Q E hi st hQ=>sL st.1 st.2 (x:=items[i]) (by simp[hi]) fun h' hit' hs'=>hQ _ h' s.toks (by simp[hi]) ⟨hit',st.2.extBut hs'.extBut hne⟩ hs'
 done:=fun s Q E st hE=>uZ hh st.1 st.2 (by simp) hE
end
open AutoSeq1 (wpAny_loadPart') in
theorem j8(l:Addr)(items:Array Value)(n:Nat)(dct:Option Addr)(sl:Array (Option Value)):
 Meets (Builtin.«enumerate.__new__» ⟨[.type "enumerate",.ref l],[]⟩) (fun _ R s=>s.heap.get? l=some { cls:=.type "tuple",dict:=dct,data:=.seq items n,slots:=sl}∧
  R (.ok (.ret (.ref (s.heap.push { cls:=.type "tuple_iterator",data:=.fields #[.ref l,.int 0 0]}).objs.size)))
    { s with heap:=(s.heap.push { cls:=.type "tuple_iterator",data:=.fields #[.ref l,.int 0 0]}).push { cls:=.type "enumerate",data:=.fields #[.none,.bool false,.ref s.heap.objs.size,rawInt 0,.none,.none]}}) :=
 .of_wp fun prog w A R s h=>by
  obtain⟨hp,g,d,tk,os⟩:=s
  obtain⟨hl,h⟩:=h
  have hsub:=sub_enumerate
  have hL:Heap.IsTuple (Shared.heap ⟨hp,g,d,tk,os⟩) l items:=⟨_,hl,rfl,n,rfl⟩
  wp_walk using wpAny_loadPart' hl
  refine wpAny_stack_any fun st=>wpAny_pure ?_
  split
  ·rename_i c _ _ _ _ _
   cases(c==Value.type "enumerate")
   ·wp_walk using wpAny_loadPart' hl,wpAny_pyIter_tuple hL
    exact⟨_,rfl,h⟩
   ·wp_walk using wpAny_loadPart' hl,wpAny_pyIter_tuple hL
    exact⟨_,rfl,h⟩
  ·wp_walk using wpAny_loadPart' hl,wpAny_pyIter_tuple hL
   exact⟨_,rfl,h⟩
section
variable {prog:Program}{w:World}{A:Around}{E:Value→Shared→Prop}{s:Shared}
theorem sJ{l:Addr}{items:Array Value}{Q:Value→Shared→Prop}(hL:s.heap.IsTuple l items)
 (h:∀ h',IsEnum h' (s.heap.objs.size+1) s.heap.objs.size 0 .none→h'.IsTupleIter s.heap.objs.size l 0→h'.objs.size=s.heap.objs.size+2→(∀ b o,s.heap.get? b=some o→h'.get? b=some o)→Q (.ref (s.heap.objs.size+1)) { s with heap:=h'}) :
 wpAny (model prog w) A (call (.type "enumerate") [.ref l]) Q E s:=by
 obtain⟨⟨c,dct,dt,sl⟩,hl,hc,n,hd⟩:=hL
 replace hc:c = .type "tuple":=hc
 replace hd:dt = .seq items n:=hd
 subst hc hd
 refine callType_new F.called_enumerate (by decide) (F.typeCall_enumerate_1 _) (F.newCall_enumerate_1 _) (fun obj=>F.args_object_init_2 obj _) F.entry_enumerate_new (j8 l items n dct sl) ⟨hl,?_⟩
 have hz:(s.heap.push { cls:=.type "tuple_iterator",data:=.fields #[.ref l,.int 0 0]}).objs.size=s.heap.objs.size+1:=Heap.size_push ..
 show _∧_
 rw[hz]
 have he:IsEnum ((s.heap.push { cls:=.type "tuple_iterator",data:=.fields #[.ref l,.int 0 0]}).push { cls:=.type "enumerate",data:=.fields #[.none,.bool false,.ref s.heap.objs.size,rawInt 0,.none,.none]}) (s.heap.objs.size+1) s.heap.objs.size 0 .none:=by
  have z:=Heap.get?_push_size (s.heap.push { cls:=.type "tuple_iterator",data:=.fields #[.ref l,.int 0 0]}) (o:={ cls:=.type "enumerate",data:=.fields #[.none,.bool false,.ref s.heap.objs.size,rawInt 0,.none,.none]}) rfl
  rw[hz]at z
  exact z
 exact⟨⟨_,he,rfl⟩,h _ he ⟨_,Heap.get?_push_of_some _ (Heap.get?_push_size _ rfl),rfl,rfl⟩ (by rw[Heap.size_push,hz]) fun b o x=>Heap.get?_push_of_some _ (Heap.get?_push_of_some _ x)⟩
end
def uK(K:PySem.W.Frag)(a:Addr):It :=
 ⟨fun i H=>∃ xs x,SqT K H a xs∧xs[i]?=some x,fun i H v H'=>∃ T x,v = .ref T∧H T=none∧H' = upd H T (.tup [.int (i:Int),x])∧∀ xs,SqT K H a xs→xs[i]?=some x,fun i H=>∃ xs,SqT K H a xs∧xs.length=i⟩
theorem sC{P:Program}{w:World}{K:PySem.W.Frag}{elts:List Expr}{k:Nat}{pos:Pos}(a e it:Addr)(hne:e≠it):
 Turn P w K (.Tuple elts k pos) (uK K a) [e,it] e (fun i h=>(∃ old,IsEnum h e it (i:Int) old)∧h.IsTupleIter it a i) where
 mem:=by simp
 obj:=fun i h st b hb=>by
  obtain⟨⟨old,he⟩,o,ho,c,d⟩:=st
  have hb' : b=e∨b=it:=by simpa using hb
  rcases hb' with rfl|rfl
  ·exact⟨_,he,fun v z=>by cases z⟩
  ·exact⟨o,ho,fun v z=>by rw[d]at z;cases z⟩
 keep:=fun i h h' st k=>by
  obtain⟨⟨old,he⟩,hit⟩:=st
  exact⟨⟨old,k e (by simp) _ he⟩,hit.at fun o x=>k it (by simp) o x⟩
 item:=by
  intro X hP hw hK hc i pins s σ H E I hf st hg
  subst hP hw hK
  obtain⟨xs,x,hq,hx⟩:=hg
  obtain⟨its,rv,p,hz⟩:=I.tuple hq
  obtain⟨u,hu,ru⟩:=rv.get hx
  obtain⟨⟨old,he⟩,hit⟩:=st
  have pT:s.heap.IsTuple a its.toArray:=p
  have hai:a≠it:=fun z=>by
   obtain⟨o1,h1,_,_,d1⟩:=pT
   obtain⟨o2,h2,_,d2⟩:=hit
   rw[z,h2]at h1
   cases h1
   rw[d2]at d1
   cases d1
  have hae:e∉[it,a]:=fun z=>by
   have z' : e=it∨e=a:=by simpa using z
   rcases z' with z' | z'
   ·exact hne z'
   ·obtain⟨o1,h1,_,_,d1⟩:=pT
    rw[← z',he]at h1
    cases h1
    cases d1
  refine wpAny_pyNext_enum_itemD (kL (A:=X.A.in1) (I.ok.hd hc) it a hai its.toArray) he ⟨hit,pT⟩ (by have:=(List.getElem?_eq_some_iff.mp hu).1;simpa using this) hne hae fun y h1 tk hy ho hit1 hT hsz hk=>?_
  have hyu:y=u:=by
   have z:its.toArray[i]?=some u:=by simpa using hu
   rw[hy]at z
   exact Option.some.inj z
  subst hyu
  refine⟨_,rfl,wpAny_letOwnedTupleGo_enum ho fun h2 he2 hs2=>?_⟩
  have hTe:s.heap.objs.size≠e:=Nat.ne_of_gt (Heap.lt_size he)
  have hT2:h2.get? s.heap.objs.size=some { cls:=.type "tuple",data:=.seq #[.int i tk,y]}:=(hs2.2 _ hTe).trans hT
  refine⟨.ref s.heap.objs.size,upd H s.heap.objs.size (.tup [.int (i:Int),x]),I.yields (wr:=[e,it]) (t':=tk+1) (fun b o hb q=>?_) hf (Nat.le_refl _) ?_,rfl,⟨_,x,rfl,I.fresh,rfl,fun ys hy=>by rw[I.tuple_inj hy hq];exact hx⟩,⟨⟨y,by simpa using he2⟩,?_⟩,fun b hb=>?_⟩
  ·have h1' : b≠e:=fun z=>hb (by simp[z])
   have h2' : b≠it:=fun z=>hb (by simp[z])
   exact(hs2.2 b h1').trans (hk b o h1' h2' q)
  ·exact⟨dl rfl,[.int i tk,y],.cons ⟨_,rfl⟩ (.cons ru .nil),⟨_,hT2,rfl,_,rfl⟩⟩
  ·exact hit1.1.at fun o q=>(hs2.2 it (Ne.symm hne)).trans q
  ·rw[ak]
   ·exact(hf b hb).1
   ·have hb' : b=e∨b=it:=by simpa using hb
    rcases hb' with rfl|rfl
    ·exact Ne.symm hTe
    ·obtain⟨o,q,_⟩:=hit
     exact Nat.ne_of_lt (Heap.lt_size q)
 done:=by
  intro X hP hw hK hc i pins s σ H E I hf st hg
  subst hP hw hK
  obtain⟨xs,hq,hx⟩:=hg
  obtain⟨its,rv,p,hz⟩:=I.tuple hq
  obtain⟨⟨old,he⟩,hit⟩:=st
  have pT:s.heap.IsTuple a its.toArray:=p
  have hai:a≠it:=fun z=>by
   obtain⟨o1,h1,_,_,d1⟩:=pT
   obtain⟨o2,h2,_,d2⟩:=hit
   rw[z,h2]at h1
   cases h1
   rw[d2]at d1
   cases d1
  obtain⟨f0,f1,f2,f3,f4,f5⟩:=hf it (by simp)
  have hl:=rv.length
  have hi:i=its.toArray.size:=by rw[List.size_toArray];omega
  subst hi
  exact wpAny_pyNext_enum_endD (kL (A:=X.A.in1) (I.ok.hd hc) it a hai its.toArray) he ⟨hit,pT⟩ fun h' eb=>⟨rfl,I.turned (t':=s.toks) (fun b o hb e=>eb b o hb e) f0 f1 f3 f4 f5⟩
 self:=fun _ _ _ _ _ st h=>by
  obtain⟨⟨old,he⟩,_⟩:=st
  exact wpAny_pyIter_enum he h
section
variable {X:Cx}{elts:List Expr}{n:Nat}{tp:Pos}
def zH(K:PySem.W.Frag)(ta:TA):TI:=fun σ H R=>ta σ H fun vs H1=>∃ a,vs=[.ref a]∧(∃ xs,SqT K H1 a xs)∧R (uK K a) H1
theorem mQ(K:PySem.W.Frag){a:Expr}{ta:TA}{p pos:Pos}(hg:Gl X "enumerate")(hm:X.mg "enumerate"=none)(ha:PA X [a] ta)(hs:starEach [a] X.env=[(false,eval a X.env)]:=by rfl)(hK:X.K=K:=by rfl):
 PI X (.Tuple elts n tp) (.Call (.Name "enumerate" p) [a] [] pos) (zH K ta):=by
 subst hK
 intro pins s σ H R I h
 refine Call_ (hZ I hg hm boot_enumerate (PyProof.Rows.callWith_type1 (thn (ha pos pins s σ H _ I h) fun us s1 ⟨vs,H1,I1,r1,q1⟩=>?_) hs rfl))
 obtain⟨a,e,⟨xs,hq⟩,q⟩:=q1
 subst e
 cases r1 with
 | cons r rr =>
   cases rr
   cases r
   obtain⟨its,rv,pl,hz⟩:=I1.tuple hq
   refine sJ (show s1.heap.IsTuple a its.toArray from pl) fun h' he hit hsz hk=>?_
   have I2:Inv X pins σ H1 { s1 with heap:=h'}:=I1.kept (t':=s1.toks) hk
   refine wpAny_pyIter_enum he ⟨_,[s1.heap.objs.size+1,s1.heap.objs.size],_,_,H1,rfl,I2,sC a _ _ (Nat.succ_ne_self _),⟨⟨_,he⟩,hit⟩,fun b hb=>?_,q⟩
   have hb' : b=s1.heap.objs.size+1∨b=s1.heap.objs.size:=by simpa using hb
   have hbs:s1.heap.objs.size≤b:=by
    rcases hb' with rfl|rfl
    ·exact Nat.le_succ _
    ·exact Nat.le_refl _
   exact I1.fpOk hbs (I1.hok.fresh hbs)
end
section
variable {K:PySem.W.Frag}{a:Addr}{xs:List V}{g:TG}{tt:TT}{te:TE}{n:Nat}{fr:St}{D:Addr}{Q:Hp→Prop}{H1:Hp}
theorem rW(Pv:Nat→List V→Hp→Prop)(h0:Pv 0 [] H1)(hl:∀ i acc H,i≤xs.length→Pv i acc H→SqT K H a xs∧H D=some (.lst acc)∧acc.length≤i)(hz:xs.length≤sizeLine)
 (hs:∀ i x T acc H,xs[i]?=some x→Pv i acc H→H T=none→g (.ref T) (List.replicate n none++fr) (upd H T (.tup [.int (i:Int),x])) fun σ2 H2=>σ2.drop n=fr∧tt σ2 H2 fun b H3 =>
  if b=true then te σ2 H3 fun v H4=>H4 D=some (.lst acc)∧Pv (i+1) (acc++[v]) (upd H4 D (.lst (acc++[v]))) else Pv (i+1) acc H3)
 (hd:∀ acc H,Pv xs.length acc H→Q H):ft (uK K a) g tt te n fr D Q H1:=by
 refine⟨fun i m acc H=>m=xs.length-i∧i≤xs.length∧Pv i acc H,⟨xs.length,by simp,Nat.zero_le _,h0⟩,?_⟩
 rintro i m acc H ⟨rfl,hi,p⟩
 obtain⟨q,hD,ha⟩:=hl i acc H hi p
 refine⟨hD,?_⟩
 by_cases hlt:i<xs.length
 ·refine .inr ⟨⟨xs,xs[i],q,by simp[hlt]⟩,by omega,Pv (i+1),fun acc' H' p'=>⟨xs.length-(i+1),by omega,rfl,hlt,p'⟩,fun v H' y=>?_⟩
  obtain⟨T,x,rfl,hT,rfl,y⟩:=y
  exact hs i x T acc _ (y xs q) p hT
 ·have e:i=xs.length:=by omega
  subst e
  exact .inl ⟨⟨xs,q,rfl⟩,hd acc H p⟩
end
end L2
namespace RM
variable {N:Net}
def Net.cut(N:Net)(C:Nat→Bool):Nat:=Ring.cF (fun k=>C (N.a k)^^C (N.b k)) N.n
def Net.par(N:Net)(q m:Nat):Bool:=bx (fun k=>q.testBit k&&m.testBit k) N.n
theorem kY(q r m:Nat):N.par (q^^^r) m=(N.par q m^^N.par r m):=by
 unfold Net.par
 rw[← gl]
 refine bX fun k _=>?_
 rw[Nat.testBit_xor]
 cases q.testBit k<;>cases r.testBit k<;>cases m.testBit k<;>rfl
theorem nh(m:Nat):N.par 0 m=false:=gC fun k _=>by simp
theorem ud{k:Nat}(h:k<N.n)(m:Nat):N.par (2^k) m=m.testBit k:=by
 unfold Net.par
 rw[ju h fun j _ hj=>by simp[Nat.testBit_two_pow,Ne.symm hj]]
 simp[Nat.testBit_two_pow]
theorem po(C:Nat→Bool)(k:Nat):(N.cut C).testBit k=(decide (k<N.n)&&(C (N.a k)^^C (N.b k))):=Ring.fH _ k _
theorem zn(C:Nat→Bool):N.cut C<2^N.n:=Ring.kX _ _
theorem uH{C D:Nat→Bool}(h:∀ x,x<N.p→C x=D x):N.cut C=N.cut D:=by
 refine Nat.eq_of_testBit_eq fun k=>?_
 rw[po,po]
 by_cases hk:k<N.n
 ·rw[h _ (N.al k hk),h _ (N.bl k hk)]
 ·rw[decide_eq_false hk]
  rfl
theorem qK{k:Nat}(hk:k<N.n)(hf:N.inF k=true):N.ring k=0:=eY (fun j hj=>by
 rcases iD hj with e|e
 ·subst e
  exact⟨hk,hf⟩
 ·exact e) (iK hk)
theorem uX{m:Nat}(k:Nat):(m^^^N.cut fun x=>N.par (N.trail N.n x) m).testBit k=if k<N.n then N.par (N.ring k) m else m.testBit k:=by
 rw[Nat.testBit_xor,po]
 by_cases hk:k<N.n
 ·rw[if_pos hk,decide_eq_true hk,Bool.true_and]
  unfold Net.ring
  rw[kY,kY,ud hk]
  cases m.testBit k<;>cases N.par (N.trail N.n (N.a k)) m<;>cases N.par (N.trail N.n (N.b k)) m<;>rfl
 ·rw[if_neg hk,decide_eq_false hk]
  simp
theorem qg{m k:Nat}(hm:m<2^N.n)(h:(m^^^N.cut fun x=>N.par (N.trail N.n x) m).testBit k=true):k<N.n∧N.inF k=false∧N.par (N.ring k) m=true:=by
 rw[uX]at h
 by_cases hk:k<N.n
 ·rw[if_pos hk]at h
  refine⟨hk,?_,h⟩
  cases hf:N.inF k with
  | false=>rfl
  | true =>
    rw[qK hk hf,nh]at h
    cases h
 ·rw[if_neg hk]at h
  exact absurd (bS hm h) hk
end RM
namespace Ring
def orM(ks:List Nat):Nat:=ks.foldl (fun m k=>m ||| 2^k) 0
theorem vw(ks:List Nat)(j:Nat):∀ m,(ks.foldl (fun m k=>m ||| 2^k) m).testBit j=(m.testBit j || decide (j∈ks)):=by
 induction ks with
 | nil=>intro m;simp
 | cons k r ih =>
   intro m
   rw[List.foldl_cons,ih,Nat.testBit_or,Nat.testBit_two_pow]
   by_cases h:k=j
   ·subst h
    simp
   ·have h' : ¬ j=k:=fun z=>h z.symm
    simp[h,h']
theorem gP(ks:List Nat)(j:Nat):(orM ks).testBit j=decide (j∈ks):=by
 unfold orM
 rw[vw]
 simp
theorem qJ(ks:List Nat){t:Nat}(h:t∉ks):orM (ks++[t])=orM ks^^^2^t:=Nat.eq_of_testBit_eq fun j=>by
 rw[Nat.testBit_xor,gP,gP,Nat.testBit_two_pow]
 by_cases e:t=j
 ·subst e
  simp[h]
 ·have e' : ¬ j=t:=fun z=>e z.symm
  simp[e,e']
theorem rZ(f:Nat→Bool)(n:Nat):orM ((List.range n).filter f)=cF f n:=Nat.eq_of_testBit_eq fun j=>by
 rw[gP,fH,Bool.eq_iff_iff]
 simp
end Ring
namespace RM
variable {N:Net}
inductive Net.Walk(N:Net):List Nat→Nat→List Nat→Prop
 | one {v:Nat}:Net.Walk N [] v []
 | snoc {pre ks:List Nat} {v w t:Nat} (h:Net.Walk N pre v ks) (ht:t<N.n) (hn:t∉ks) (j:(N.a t=v∧N.b t=w)∨(N.b t=v∧N.a t=w)):Net.Walk N (pre++[v]) w (ks++[t])
theorem Net.Walk.len{pre ks:List Nat}{v:Nat}(h:N.Walk pre v ks):pre.length=ks.length:=by
 induction h with
 | one=>rfl
 | snoc _ _ _ _ ih=>rw[List.length_append,List.length_append,ih];rfl
theorem Net.Walk.lt{pre ks:List Nat}{v:Nat}(h:N.Walk pre v ks):∀ t∈ks,t<N.n:=by
 induction h with
 | one=>exact fun t ht=>nomatch ht
 | snoc _ ht _ _ ih =>
   intro s hs
   rcases List.mem_append.mp hs with q|q
   ·exact ih s q
   ·have e:=List.mem_singleton.mp q
    rw[e]
    exact ht
theorem Net.Walk.bd{pre ks:List Nat}{v:Nat}(h:N.Walk pre v ks):∀ i u,(pre++[v])[i]?=some u→∀ x,N.bd (Ring.orM (ks.drop i)) x=(decide (u=x)^^decide (v=x)):=by
 induction h with
 | one =>
   rename_i v
   intro i u hu x
   match i,hu with
   | 0,hu =>
     have e:v=u:=Option.some.inj hu
     subst e
     show N.bd 0 x=_
     rw[jv]
     simp
   | i+1,hu=>simp at hu
 | snoc hw ht hn j ih =>
   rename_i pre ks v w t
   intro i u hu x
   have hl:=hw.len
   by_cases hi:i<(pre++[v]).length
   ·rw[List.getElem?_append_left hi]at hu
    have hi' : i≤ks.length:=by rw[List.length_append]at hi;simp at hi;omega
    rw[List.drop_append_of_le_length hi',Ring.qJ _ (fun z=>hn (List.mem_of_mem_drop z)),dO,ih i u hu x,fY ht]
    have e:N.inc t x=(decide (v=x)^^decide (w=x)):=by
     unfold Net.inc
     rcases j with⟨j1,j2⟩|⟨j1,j2⟩
     ·rw[j1,j2]
     ·rw[j1,j2]
      exact Bool.xor_comm _ _
    rw[e]
    cases decide (u=x)<;>cases decide (v=x)<;>cases decide (w=x)<;>rfl
   ·have hi2:i=(pre++[v]).length:=by
     have:=(List.getElem?_eq_some_iff.mp hu).1
     rw[List.length_append]at this
     simp at this hi ⊢
     omega
    rw[hi2,List.getElem?_append_right (Nat.le_refl _),Nat.sub_self]at hu
    have e:w=u:=Option.some.inj hu
    subst e
    have:(ks++[t]).drop i=[]:=List.drop_eq_nil_of_le (by rw[hi2,List.length_append,List.length_append];simp;omega)
    rw[this]
    show N.bd 0 x=_
    rw[jv]
    simp
structure Way(N:Net)(even:Nat)(pre:List Nat)(v:Nat)(ks:List Nat)(left:Nat):Prop where
 w:N.Walk pre v ks
 lt:even<2^N.n
 ev:N.Even even
 sub:∀ t∈ks,even.testBit t=true
 left_is:left=even^^^Ring.orM ks
 nd:pre.Nodup
 inp:∀ x∈pre++[v],x<N.p
 st:pre=[]→∃ t,t<N.n∧even.testBit t=true∧N.a t=v
section
variable {even left v:Nat}{pre ks:List Nat}
theorem Way.start{t:Nat}(lt:even<2^N.n)(ev:N.Even even)(hb:even.testBit t=true):Way N even [] (N.a t) [] even:=by
 have ht:=bS lt hb
 refine⟨.one,lt,ev,(fun _ z=>nomatch z),?_,List.Pairwise.nil,fun x hx=>?_,fun _=>⟨t,ht,hb,rfl⟩⟩
 ·show even=even^^^0
  simp
 ·have e:x=N.a t:=by simpa using hx
  rw[e]
  exact N.al t ht
theorem Way.left_bit(h:Way N even pre v ks left)(t:Nat):left.testBit t=(even.testBit t && !decide (t∈ks)):=by
 rw[h.left_is,Nat.testBit_xor,Ring.gP]
 by_cases hm:t∈ks
 ·rw[h.sub t hm,decide_eq_true hm]
  rfl
 ·rw[decide_eq_false hm]
  simp
theorem Way.left_lt(h:Way N even pre v ks left):left<2^N.n:=cJ fun k hk=>by
 rw[h.left_bit,Bool.and_eq_true]at hk
 exact bS h.lt hk.1
theorem Way.on(h:Way N even pre v ks left)(hv:v∉pre):∃ t,left.testBit t=true∧(N.a t=v∨N.b t=v):=by
 cases pre with
 | nil =>
   obtain⟨t,ht,hb,e⟩:=h.st rfl
   have hk:ks=[]:=List.length_eq_zero_iff.mp (by rw[← h.w.len];rfl)
   refine⟨t,?_,.inl e⟩
   rw[h.left_bit,hb,hk]
   simp
 | cons u r =>
   have hb:=h.w.bd 0 u rfl v
   rw[List.drop_zero]at hb
   have hu : ¬ u=v:=fun z=>hv (by rw[z];exact List.mem_cons_self)
   rw[decide_eq_false hu,decide_eq_true rfl]at hb
   have hvp:v<N.p:=h.inp v (List.mem_append_right _ (List.mem_singleton.mpr rfl))
   have hl:N.bd left v=true:=by
    rw[h.left_is,dO,h.ev v hvp,hb]
    rfl
   rw[tj]at hl
   have hp:=of_decide_eq_true hl
   obtain⟨k,hk,hkb,hx⟩:=li (N:=N) (m:=left) (x:=v) (by omega)
   exact⟨k,hkb,hx⟩
theorem Way.go(h:Way N even pre v ks left)(hv:v∉pre){t w:Nat}(hb:left.testBit t=true)(j:(N.a t=v∧N.b t=w)∨(N.b t=v∧N.a t=w)):
 Way N even (pre++[v]) w (ks++[t]) (left^^^2^t):=by
 rw[h.left_bit,Bool.and_eq_true]at hb
 have hn:t∉ks:=by simpa using hb.2
 have ht:=bS h.lt hb.1
 refine⟨.snoc h.w ht hn j,h.lt,h.ev,fun s hs=>?_,?_,?_,fun x hx=>?_,fun z=>?_⟩
 ·rcases List.mem_append.mp hs with q|q
  ·exact h.sub s q
  ·rw[List.mem_singleton.mp q]
   exact hb.1
 ·rw[Ring.qJ _ hn,h.left_is,Nat.xor_assoc]
 ·refine List.nodup_append.mpr ⟨h.nd,by simp,fun x hx y hy=>?_⟩
  have e:y=v:=by simpa using hy
  rw[e]
  exact fun z=>hv (z▸hx)
 ·rcases List.mem_append.mp hx with q|q
  ·exact h.inp x q
  ·have e:x=w:=by simpa using q
   rw[e]
   rcases j with⟨_,j2⟩|⟨_,j2⟩
   ·rw[← j2];exact N.bl t ht
   ·rw[← j2];exact N.al t ht
 ·simp at z
theorem Way.closes(h:Way N even pre v ks left){i:Nat}(hi:pre[i]?=some v):Ring.orM (ks.drop i)≠0∧N.Even (Ring.orM (ks.drop i))∧Ring.orM (ks.drop i)<2^N.n∧∀ k,(Ring.orM (ks.drop i)).testBit k=true→even.testBit k=true:=by
 have hil:=(List.getElem?_eq_some_iff.mp hi).1
 have hl:=h.w.len
 have hbit:∀ k,(Ring.orM (ks.drop i)).testBit k=true→k∈ks:=fun k hk=>by
  rw[Ring.gP]at hk
  exact List.mem_of_mem_drop (of_decide_eq_true hk)
 refine⟨fun z=>?_,fun x _=>?_,cJ fun k hk=>h.w.lt k (hbit k hk),fun k hk=>h.sub k (hbit k hk)⟩
 ·have hne:ks.drop i≠[]:=fun q=>by
   have:=List.drop_eq_nil_iff.mp q
   omega
  obtain⟨k,hk⟩:=List.exists_mem_of_ne_nil _ hne
  have:=Ring.gP (ks.drop i) k
  rw[z,decide_eq_true hk]at this
  simp at this
 ·rw[h.w.bd i v (by rw[List.getElem?_append_left hil];exact hi) x]
  simp
end
end RM
namespace Ring
open PySem L2
theorem tS{p:Nat}{ts:List Tie}{g:GoodWeb p ts}{q m:Nat}(hm:m<2^ts.length):decide ((aB ((q&&&m:Nat):Int)).length%2=1)=(ad p ts g).par q m:=by
 rw[jz (n:=ts.length) (Nat.and_lt_two_pow q hm)]
 unfold RM.Net.par
 rw[RM.lu]
 have e:RM.cnt (fun k=>(q&&&m).testBit k) ts.length=RM.cnt (fun k=>q.testBit k&&m.testBit k) (ad p ts g).n:=RM.fk fun k _=>by rw[Nat.testBit_and]
 rw[e]
def xT(rs:List Nat):Nat:=rs.foldl (fun m r=>m^^^r) 0
theorem ui(rs:List Nat):∀ m,rs.foldl (fun m r=>m^^^r) m=m^^^xT rs:=by
 induction rs with
 | nil=>intro m;show m=m^^^0;simp
 | cons r rs ih =>
   intro m
   show rs.foldl (fun m r=>m^^^r) (m^^^r)=m^^^rs.foldl (fun m r=>m^^^r) (0^^^r)
   rw[ih,ih,Nat.zero_xor,Nat.xor_assoc]
theorem uC(rs:List Nat)(r:Nat):xT (r::rs)=r^^^xT rs:=by
 show rs.foldl (fun m r=>m^^^r) (0^^^r)=_
 rw[ui,Nat.zero_xor]
end Ring
namespace Ring
open PySem L2
end Ring
namespace L2
open PySem PySem.Spec PyProof.Rows
section
variable {κ:Type}[DecidableEq κ]
def cR(kvs:List (κ×V))(k:κ):Option V:=(kvs.find? fun kv=>decide (kv.1=k)).map (·.2)
def eZ(kvs:List (κ×V))(k:κ)(v:V):List (κ×V) :=
 if(kvs.any fun kv=>decide (kv.1=k))=true then kvs.map (fun kv=>if kv.1=k then(kv.1,v) else kv) else kvs++[(k,v)]
def cr(kvs:List (κ×V))(k:κ):List (κ×V):=kvs.filter fun kv=>decide (kv.1≠k)
theorem mM{k:κ}:cR ([]:List (κ×V)) k=none:=rfl
theorem bM{p:κ×V}{r:List (κ×V)}{k:κ}(e:p.1=k):cR (p::r) k=some p.2:=by simp[cR,List.find?_cons,e]
theorem bE{p:κ×V}{r:List (κ×V)}{k:κ}(e : ¬ p.1=k):cR (p::r) k=cR r k:=by simp[cR,List.find?_cons,e]
theorem eN(k:κ):∀ kvs:List (κ×V),(kvs.any fun kv=>decide (kv.1=k))=(cR kvs k).isSome
 | []=>rfl
 | p::r=>by
   rw[List.any_cons]
   by_cases e:p.1=k
   ·simp only[bM e,decide_eq_true e,Bool.true_or,Option.isSome_some]
   ·rw[bE e,decide_eq_false e,Bool.false_or];exact eN k r
theorem qy(k j:κ)(y:V):∀ kvs:List (κ×V),cR (kvs.map fun kv=>if kv.1=k then(kv.1,y) else kv) j=(cR kvs j).map fun x=>if j=k then y else x
 | []=>rfl
 | p::r=>by
   have ih:=qy k j y r
   rw[List.map_cons]
   by_cases h:p.1=k
   ·rw[if_pos h]
    by_cases e:p.1=j
    ·rw[bM (p:=(p.1,y)) e,bM e,Option.map_some,if_pos (e.symm.trans h)]
    ·rw[bE (p:=(p.1,y)) e,bE e,ih]
   ·rw[if_neg h]
    by_cases e:p.1=j
    ·rw[bM (p:=p) e,bM e,Option.map_some,if_neg (fun z=>h (e.trans z))]
    ·rw[bE (p:=p) e,bE e,ih]
theorem oa(k j:κ)(y:V):∀ kvs:List (κ×V),cR kvs k=none→cR (kvs++[(k,y)]) j=if j=k then some y else cR kvs j
 | [],_=>by
   by_cases e:k=j
   ·rw[if_pos e.symm];exact bM (p:=(k,y)) e
   ·rw[if_neg (fun z=>e z.symm)];exact bE (p:=(k,y)) e
 | p::r,hn=>by
   rw[List.cons_append]
   have hk : ¬ p.1=k:=fun z=>by rw[bM z]at hn;cases hn
   rw[bE hk]at hn
   have ih:=oa k j y r hn
   by_cases e:p.1=j
   ·rw[bM e,bM e,if_neg (fun z=>hk (e.trans z))]
   ·rw[bE e,bE e,ih]
theorem vX(kvs:List (κ×V))(k j:κ)(y:V):cR (eZ kvs k y) j=if j=k then some y else cR kvs j:=by
 unfold eZ
 by_cases a:(kvs.any fun kv=>decide (kv.1=k))=true
 ·rw[if_pos a,qy]
  rw[eN]at a
  by_cases e:j=k
  ·obtain⟨x,hx⟩:=Option.isSome_iff_exists.mp a
   rw[if_pos e,e,hx,Option.map_some,if_pos rfl]
  ·rw[if_neg e]
   cases cR kvs j with
   | none=>rfl
   | some x=>rw[Option.map_some,if_neg e]
 ·rw[if_neg a]
  refine oa k j y kvs ?_
  rw[eN]at a
  cases q:cR kvs k with
  | none=>rfl
  | some x=>rw[q]at a;exact(a rfl).elim
theorem kK(kvs:List (κ×V))(k:κ)(v:V):(eZ kvs k v).length≤kvs.length+1:=by
 unfold eZ
 split
 ·rw[List.length_map];omega
 ·rw[List.length_append,List.length_cons,List.length_nil];omega
theorem rp{kvs:List (κ×V)}{k:κ}(v:V)(h:cR kvs k=none):eZ kvs k v=kvs++[(k,v)]:=by
 unfold eZ
 rw[eN,h]
 exact if_neg (by decide)
theorem jS.isSome_eq{o:Option V}{u:Option Value}(r:jS o u):o.isSome=u.isSome:=by
 cases o with
 | none=>cases u with
   | none=>rfl
   | some _=>exact(show False from r).elim
 | some _=>cases u with
   | none=>exact(show False from r).elim
   | some _=>rfl
theorem jS.getD{o:Option V}{u:Option Value}{d:V}{d' : Value}(r:jS o u)(rd:aN d d'):aN (o.getD d) (u.getD d'):=by
 cases o with
 | none=>cases u with
   | none=>exact rd
   | some _=>exact(show False from r).elim
 | some _=>cases u with
   | none=>exact(show False from r).elim
   | some _=>exact r
theorem KV.val{kvs:List (κ×V)}{vs:List (κ×Value)}(r:KV kvs vs)(k:κ):jS (cR kvs k) (valueAt vs k):=by
 unfold KV at r
 induction r with
 | nil=>exact True.intro
 | @cons p q ps qs h t ih =>
   obtain⟨h1,h2⟩:=h
   by_cases e:p.1=k
   ·have e' : q.1=k:=h1.symm.trans e
    have b:valueAt (q::qs) k=some q.2:=by simp[valueAt,List.find?_cons,e']
    rw[bM e,b];exact h2
   ·have e' : ¬ q.1=k:=fun z=>e (h1.trans z)
    have b:valueAt (q::qs) k=valueAt qs k:=by simp[valueAt,List.find?_cons,e']
    rw[bE e,b];exact ih
theorem KV.any{kvs:List (κ×V)}{vs:List (κ×Value)}(r:KV kvs vs)(k:κ):(kvs.any fun kv=>decide (kv.1=k))=vs.any fun kv=>decide (kv.1=k):=by
 unfold KV at r
 induction r with
 | nil=>rfl
 | cons h t ih=>rw[List.any_cons,List.any_cons,ih,h.1]
theorem KV.repl{kvs:List (κ×V)}{vs:List (κ×Value)}(r:KV kvs vs)(k:κ){y:V}{u:Value}(ry:aN y u):
 KV (kvs.map fun kv=>if kv.1=k then(kv.1,y) else kv) (vs.map fun kv=>if kv.1=k then(kv.1,u) else kv):=by
 unfold KV at r ⊢
 induction r with
 | nil=>exact .nil
 | @cons p q ps qs h t ih =>
   rw[List.map_cons,List.map_cons]
   refine .cons ?_ ih
   obtain⟨h1,h2⟩:=h
   by_cases e:p.1=k
   ·rw[if_pos e,if_pos (h1.symm.trans e)];exact⟨h1,ry⟩
   ·rw[if_neg e,if_neg (fun z=>e (h1.trans z))];exact⟨h1,h2⟩
theorem KV.put{kvs:List (κ×V)}{vs:List (κ×Value)}(r:KV kvs vs)(k:κ){y:V}{u:Value}(ry:aN y u):KV (eZ kvs k y) (stored vs k u):=by
 unfold eZ stored
 rw[r.any k]
 by_cases e:(vs.any fun kv=>decide (kv.1=k))=true
 ·rw[if_pos e,if_pos e];exact r.repl k ry
 ·rw[if_neg e,if_neg e];exact Paired.snoc r ⟨rfl,ry⟩
theorem KV.length{kvs:List (κ×V)}{vs:List (κ×Value)}(r:KV kvs vs):kvs.length=vs.length:=Paired.length r
theorem vG(kvs:List (κ×V))(k:κ):(cr kvs k).length≤kvs.length:=List.length_filter_le _ _
end
theorem tu{P:Program}{w:World}{k:Key}{u:Value}(r:aN (kV k) u):(cp P w).is k u=true:=by
 cases k with
 | inl i=>obtain⟨t,e⟩:=(show ∃ t,u=Value.int i t from r);subst e;exact qN P w i t
 | inr x=>obtain⟨t,e⟩:=(show ∃ t,u=Value.str x t from r);subst e;exact qi P w x t
theorem nV{P:Program}{w:World}:∀{ks:List Key} {us:List Value},aR (ks.map kV) us→ItemsAre (cp P w) ks us
 | [],_,r=>by rw[List.map_nil]at r;cases r;exact .nil
 | k::ks,_,r=>by
   rw[List.map_cons]at r
   cases r with
   | cons h t=>exact .cons (tu h) (nV t)
abbrev KT(H:Hp):List (List Key×V)→List (List Key×Addr×Value)→Prop:=Paired fun p q=>p.1=q.1∧H q.2.1=some (.tup (p.1.map kV))∧aN p.2 q.2.2
theorem KT.val{H:Hp}{kvs:List (List Key×V)}{xs:List (List Key×Addr×Value)}(r:KT H kvs xs)(k:List Key):jS (cR kvs k) ((atKey xs k).map (·.2)):=by
 induction r with
 | nil=>exact True.intro
 | @cons p q ps qs h t ih =>
   obtain⟨h1,_,h2⟩:=h
   by_cases e:p.1=k
   ·have e' : q.1=k:=h1.symm.trans e
    have b:atKey (q::qs) k=some q.2:=by simp[atKey,List.find?_cons,e']
    rw[bM e,b];exact h2
   ·have e' : ¬ q.1=k:=fun z=>e (h1.trans z)
    have b:atKey (q::qs) k=atKey qs k:=by simp[atKey,List.find?_cons,e']
    rw[bE e,b];exact ih
theorem KT.repl{H:Hp}{kvs:List (List Key×V)}{xs:List (List Key×Addr×Value)}(r:KT H kvs xs)(k:List Key){y:V}{u:Value}(ry:aN y u):
 KT H (kvs.map fun kv=>if kv.1=k then(kv.1,y) else kv) (xs.map (putAt k u)):=by
 induction r with
 | nil=>exact .nil
 | @cons p q ps qs h t ih =>
   rw[List.map_cons,List.map_cons]
   refine .cons ?_ ih
   obtain⟨h1,h2,h3⟩:=h
   unfold putAt
   by_cases e:p.1=k
   ·rw[if_pos e,if_pos (h1.symm.trans e)];exact⟨h1,h2,ry⟩
   ·rw[if_neg e,if_neg (fun z=>e (h1.trans z))];exact⟨h1,h2,h3⟩
theorem KT.put{H:Hp}{kvs:List (List Key×V)}{xs:List (List Key×Addr×Value)}(r:KT H kvs xs)(k:List Key){b:Addr}{y:V}{u:Value}(hb:H b=some (.tup (k.map kV)))(ry:aN y u):
 KT H (eZ kvs k y) (storedH xs k b u):=by
 have e:(kvs.any fun kv=>decide (kv.1=k))=(atKey xs k).isSome:=by
  rw[eN,(r.val k).isSome_eq,Option.isSome_map]
 unfold eZ storedH
 rw[e]
 by_cases q:(atKey xs k).isSome=true
 ·rw[if_pos q,if_pos q];exact r.repl k ry
 ·rw[if_neg q,if_neg q];exact Paired.snoc r ⟨rfl,hb,ry⟩
theorem KT.keeps{H H' : Hp}{kvs:List (List Key×V)}{xs:List (List Key×Addr×Value)}(r:KT H kvs xs)(ht:∀ b ys,H b=some (.tup ys)→H' b=some (.tup ys)):KT H' kvs xs :=
 Paired.mapP r fun _ _ z=>⟨z.1,ht _ _ z.2.1,z.2.2⟩
section
variable {P:Program}{w:World}{H:Hp}{h:Heap}{a:Addr}
theorem yO{u:HO}(ok:HOk P w H h)(e:Rd H a u):aV P w H h a u:=e.ok ok
theorem qh{kvs:List (Key×V)}(ok:HOk P w H h)(e:Rd H a (.dK kvs)):kvs.length≤sizeLine∧(a==sysModules)=false∧∃ vs,KV kvs vs∧h.DictOf (cp P w) a vs :=
 show aV P w H h a (.dK kvs) from yO ok e
theorem aaF{kvs:List (Key×V)}(ok:HOk P w H h)(e:H a=some (.dK kvs)):kvs.length≤sizeLine∧(a==sysModules)=false∧∃ vs,KV kvs vs∧h.DictOf (cp P w) a vs:=qh ok (.inl e)
theorem km{ks:List Key}(ok:HOk P w H h)(e:H a=some (.tup (ks.map kV))):(tupleKind (cp P w)).is h ks a:=by
 obtain⟨_,its,r,o,h1,h2,n,h3⟩:=(show aV P w H h a (.tup (ks.map kV)) from ok a _ e)
 exact⟨o,its.toArray,n,h1,h2,h3,by simpa using nV r⟩
theorem rD{kvs:List (List Key×V)}(ok:HOk P w H h)(e:Rd H a (.dT kvs)):kvs.length≤sizeLine∧(a==sysModules)=false∧
 ∃ xs,KT H kvs xs∧h.DictOfH (tupleKind (cp P w)) a xs:=by
 obtain⟨z,y,xs,r,o,es,ep,h1,h2,h3,h4,h5⟩:=(show aV P w H h a (.dT kvs) from yO ok e)
 refine⟨z,y,xs,r,o,es,ep,h1,h2,h3,h4,fun x hx=>?_,h5⟩
 have all:∀{l:List (List Key×V)} {m:List (List Key×Addr×Value)},KT H l m→∀ x∈m,(tupleKind (cp P w)).is h x.1 x.2.1:=by
  intro l m q
  induction q with
  | nil=>intro x hx;exact nomatch hx
  | @cons p q ps qs hq t ih =>
    intro x hx
    rcases List.mem_cons.mp hx with e|hx
    ·subst e
     exact km ok (by rw[← hq.1];exact hq.2.1)
    ·exact ih x hx
 exact all r x hx
theorem vV{kvs:List (List Key×V)}(ok:HOk P w H h)(e:H a=some (.dT kvs)):kvs.length≤sizeLine∧(a==sysModules)=false∧
 ∃ xs,KT H kvs xs∧h.DictOfH (tupleKind (cp P w)) a xs:=rD ok (.inl e)
end
def wA(H:Hp)(a:Addr)(y:V)(r:Option V):Prop :=
 (∃ kvs k,Rd H a (.dK kvs)∧y=kV k∧r=cR kvs k)∨∃ kvs k b,Rd H a (.dT kvs)∧y = .ref b∧H b=some (.tup (k.map kV))∧r=cR kvs k
def vW(H:Hp)(a:Addr)(y v:V)(H' : Hp):Prop :=
 (∃ kvs k,H a=some (.dK kvs)∧y=kV k∧kvs.length<sizeLine∧H' = upd H a (.dK (eZ kvs k v)))∨
 ∃ kvs k b,H a=some (.dT kvs)∧y = .ref b∧H b=some (.tup (k.map kV))∧kvs.length<sizeLine∧H' = upd H a (.dT (eZ kvs k v))
theorem vW.t{H:Hp}{a b:Addr}{kvs:List (List Key×V)}{k:List Key}{v:V}(e:H a=some (.dT kvs))(eb:H b=some (.tup (k.map kV)))(hl:kvs.length<sizeLine):
 vW H a (.ref b) v (upd H a (.dT (eZ kvs k v))):=.inr ⟨kvs,k,b,e,rfl,eb,hl,rfl⟩
section
variable {X:Cx}{pins:List (Addr×Obj)}{σ:St}{H:Hp}{s:Shared}{a:Addr}{y v:V}{u r:Value}{o:Option V}{A:Around}{E:Value→Shared→Prop}
theorem Inv.big(I:Inv X pins σ H s):sysModules<s.heap.objs.size:=by
 have h:mainGlobals<s.heap.objs.size:=(I.mod.glob.keeps I.bk).lt
 exact Nat.lt_trans (by decide) h
theorem vk{Q:Value→Shared→Prop}(hu:A.units+1<cLine)(I:Inv X pins σ H s)(g:wA H a y (some v))(ry:aN y u)(h:∀ w' s',Inv X pins σ H s'→aN v w'→Q w' s'):
 wpAny (model X.prog X.w) A (getItem (.ref a) u) Q E s:=by
 rcases g with⟨kvs,k,e,ey,l⟩|⟨kvs,k,b,e,ey,eb,l⟩
 ·subst ey
  obtain⟨z,hd,vs,rel,dd⟩:=qh I.hok e
  obtain⟨w',hw,rw'⟩:=jS.some_of (v:=v) (o:=valueAt vs k) (by rw[l];exact rel.val k)
  exact wpAny_getItem_of (tu ry) dd.mapOf hw (h w' _ (I.tok _) rw')
 ·subst ey
  cases(show u=Value.ref b from ry)
  obtain⟨z,hd,xs,rel,dd⟩:=rD I.hok e
  obtain⟨w',hw,rw'⟩:=jS.some_of (v:=v) (o:=(atKey xs k).map (·.2)) (by rw[l];exact rel.val k)
  obtain⟨p,hp,hp2⟩:=Option.map_eq_some_iff.mp hw
  refine wpAny_getItem_heap (tupleKind_room_in1 hu) (km I.hok eb) dd hp ?_
  rw[hp2]
  exact h w' _ (I.tok _) rw'
theorem ll{h' : Heap}{t' : Nat}{ob:HO}(I:Inv X pins σ H s)(mu:Mut (H a))(hs:Heap.SameBut a s.heap h')(he:∃ q,h'.get? a=some q)(new:aV X.prog X.w (upd H a ob) h' a ob):
 Inv X pins σ (upd H a ob) { s with heap:=h',toks:=t'} :=
 I.write (x:=a) (e:=a) mu (.inl rfl) (fun b q hb z=>(hs.2 b hb).trans z) he new
theorem yS{P:Program}{w:World}{H' : Hp}{h' : Heap}{kvs:List (Key×V)}{vs:List (Key×Value)}(z:kvs.length≤sizeLine)(hd:(a==sysModules)=false)(rel:KV kvs vs)(dd:h'.DictOf (cp P w) a vs):
 aV P w H' h' a (.dK kvs):=⟨z,hd,vs,rel,dd⟩
theorem uv{H' : Hp}{Q:Unit→Shared→Prop}(hu:A.units+1<cLine)(I:Inv X pins σ H s)(g:vW H a y v H')(ry:aN y u)(rv:aN v r)(h:∀ s',Inv X pins σ H' s'→Q () s'):
 wpAny (model X.prog X.w) A (setItem (.ref a) u r) Q E s:=by
 rcases g with⟨kvs,k,e,ey,l,eH⟩|⟨kvs,k,b,e,ey,eb,l,eH⟩
 ·subst ey eH
  obtain⟨z,hd,vs,rel,dd⟩:=aaF I.hok e
  have hz:vs.length≤sizeLine:=by rw[← rel.length];exact z
  have hl:(eZ kvs k v).length≤sizeLine:=by have:=kK kvs k v;omega
  refine wpAny_setItem_pairs (hsz:=hz) (tu ry) dd fun h' dd' hs=>h _ ?_
  have he:∃ q,h'.get? a=some q:=let⟨q,_,_,hq,_⟩:=dd';⟨q,hq⟩
  exact ll I (by rw[e];exact True.intro) hs he (yS hl hd (rel.put k rv) dd')
 ·subst ey eH
  cases(show u=Value.ref b from ry)
  obtain⟨z,hd,xs,rel,dd⟩:=vV I.hok e
  have hz:xs.length≤sizeLine:=by rw[← Paired.length rel];exact z
  have hl:(eZ kvs k v).length≤sizeLine:=by have:=kK kvs k v;omega
  refine wpAny_setItem_heap (hsz:=hz) (tupleKind_room_in1 hu) (km I.hok eb) dd fun h' dd' hs=>h _ ?_
  obtain⟨q,es,ep,hq,h2,h3,h4,_,h5⟩:=dd'
  refine ll I (by rw[e];exact True.intro) hs ⟨q,hq⟩ ⟨hl,hd,_,(rel.put k eb rv).keeps fun c ys ec=>?_,q,es,ep,hq,h2,h3,h4,h5⟩
  rw[ak (aO ec e (fun z=>nomatch z))]
  exact ec
end
section
variable {X:Cx}{pins:List (Addr×Obj)}{σ:St}{H:Hp}{s:Shared}{a:Addr}{kvs:List (Key×V)}{k:Key}{u:Value}{A:Around}{E:Value→Shared→Prop}
end
def aaJ(i:Expr):Prop:=∀ ov iv,subscripted i false ov iv=operate [ov,iv] (getItem ov iv)
theorem xM{prog:Program}{w:World}{A:Around}{E:Value→Shared→Prop}{s:Shared}{env:Env}{value slice:Expr}{pos:Pos}{T id:String}{Q:Value→Shared→Prop}
 (hl:typeLookup (.type T) "__getitem__"=pure (some (.builtin id))) (hs:aaJ slice)
 (h:wpAny (model prog w) A (eval value env) (fun o s₁=>wpAny (model prog w) A (eval slice env) (fun i s₂=>s₂.TypeIs o T∧wpAny (model prog w) A (getItem o i) Q E s₂) E s₁) E s) :
 wpAny (model prog w) A (eval (.Subscript value slice pos) env) Q E s:=by
 refine Subscript_ (wpAny_mono h (fun o s₁ h₁=>wpAny_mono h₁ (fun i s₂ h₂=>?_) fun _ _ x=>x) fun _ _ x=>x)
 obtain⟨hT,h₂⟩:=h₂
 unfold subscriptTail
 refine wpAny_bind ?_
 rw[getitemInPython_of_ne hT.not_modules]
 refine wpAny_bind (wpAny_specialOf hT hl ?_)
 have fin:wpAny (model prog w) A (subscripted slice false o i) (fun r s₃=>wpAny (model prog w) A (letTemporaryGo value o r >>= fun _=>pure r) Q E s₃) E s₂:=by
  rw[hs o i]
  exact wpAny_operating (wpAny_mono h₂ (fun r s₃ h₃=>wpAny_bind (wpAny_letTemporaryGo (wpAny_pure h₃))) fun _ _ x=>x)
 first
  | exact wpAny_pure (wpAny_bind fin)
  | exact wpAny_bind (wpAny_pure (wpAny_bind fin))
  | exact wpAny_bind fin
theorem rf{X:Cx}{pins:List (Addr×Obj)}{σ:St}{H:Hp}{s:Shared}{a:Addr}{y:V}{o:Option V}(I:Inv X pins σ H s)(g:wA H a y o):s.TypeIs (.ref a) "dict":=by
 rcases g with⟨kvs,k,e,_,_⟩|⟨kvs,k,b,e,_,_,_⟩
 ·obtain⟨_,_,vs,_,dd⟩:=qh I.hok e
  exact dd.typeIs
 ·obtain⟨_,_,xs,_,dd⟩:=rD I.hok e
  exact dd.typeIs
def aaI(td ty:TE):TE:=fun σ H Q=>td σ H fun x H1=>ty σ H1 fun y H2=>∃ a v,x = .ref a∧wA H2 a y (some v)∧Q v H2
def z8(td ty tv:TE):TS:=fun D σ H=>tv σ H fun v H1=>td σ H1 fun x H2=>ty σ H2 fun y H3=>∃ a H4,x = .ref a∧vW H3 a y v H4∧D.nx σ H4
section
variable {X:Cx}{o i e value:Expr}{pos pos' tpos:Pos}{td ty tv:TE}
theorem yd(hu:X.A.units+1<cLine)(ho:PE X o td)(hi:PE X i ty)(hs:aaJ i):PE X (.Subscript o i pos) (aaI td ty):=by
 intro pins s σ H Q I h
 refine xM PySem.F.slot_dict_getitem.lookup hs (thn (ho pins s σ H _ I h) fun u s1 ⟨x,H1,I1,rx,q1⟩=>thn (hi pins s1 σ H1 _ I1 q1) fun iv s2 ⟨y,H2,I2,ry,a,v,ex,g,q2⟩=>?_)
 subst ex
 obtain rfl:u=Value.ref a:=rx
 exact⟨rf I2 g,vk hu I2 g ry fun w' s3 I3 rw'=>⟨v,H2,I3,rw',q2⟩⟩
theorem xO(hu:X.A.units+1<cLine)(ho:PE X o td)(hi:PE X i ty)(hv:PE X value tv)(hs:swapsWith value (some (.Subscript o i pos')) pos.line X.env=pure false):
 PS X (.Assign [.Subscript o i pos'] value pos) (z8 td ty tv):=by
 intro pins s σ H D I h
 refine wpAny_Assign_Subscript (thn (hv pins s σ H _ I h) fun r s1 ⟨v,H1,I1,rv,q1⟩=>thn (ho pins s1 σ H1 _ I1 q1) fun u s2 ⟨x,H2,I2,rx,q2⟩=>thn (hi pins s2 σ H2 _ I2 q2) fun iv s3 ⟨y,H3,I3,ry,a,H4,ex,g,q3⟩=>?_) hs
 subst ex
 obtain rfl:u=Value.ref a:=rx
 exact uv hu I3 g ry rv fun s4 I4=>⟨σ,H4,I4,q3⟩
end
theorem vE{P:Program}{w:World}{H:Hp}(h:Heap)(hb:sysModules<h.objs.size):aV P w H (h.push { cls:=.type "dict",data:=.dict #[]}) h.objs.size (.dT []) :=
 ⟨Nat.zero_le _,beq_eq_false_iff_ne.mpr (Ne.symm (Nat.ne_of_lt hb)),[],.nil,_,#[],0,Heap.get?_push_size _ rfl,⟨rfl,rfl,rfl⟩,rfl,rfl,List.nodup_nil⟩
section
variable {X:Cx}{pos:Pos}
end
structure M1(X:Cx)(o:Expr)(m:Str)(apos:Pos)(e:Expr)(cpos:Pos):Prop where
 base:attributeBase o m X.env (eval o X.env)=eval o X.env
 few:((backTo cpos (starEach [e] X.env)).all (fun x=>!x.1)&&(backToKw cpos (keywordEach [] X.env)).all (fun x=>x.1.isSome)
  && decide (([e]:List Expr).length+([]:List Keyword).length+(if([]:List Keyword).isEmpty then 0 else 1)<30))=true
 line:(apos.endLine==cpos.line)=true
 trees:backTo cpos (starEach [e] X.env)=[(false,eval e X.env)]
structure M2(X:Cx)(o:Expr)(m:Str)(apos:Pos)(e f:Expr)(cpos:Pos):Prop where
 base:attributeBase o m X.env (eval o X.env)=eval o X.env
 few:((backTo cpos (starEach [e,f] X.env)).all (fun x=>!x.1)&&(backToKw cpos (keywordEach [] X.env)).all (fun x=>x.1.isSome)
  && decide (([e,f]:List Expr).length+([]:List Keyword).length+(if([]:List Keyword).isEmpty then 0 else 1)<30))=true
 line:(apos.endLine==cpos.line)=true
 trees:backTo cpos (starEach [e,f] X.env)=[(false,eval e X.env),(false,eval f X.env)]
def IsD(H:Hp)(a:Addr):Prop:=(∃ kvs,Rd H a (.dK kvs))∨∃ kvs,Rd H a (.dT kvs)
theorem wN{X:Cx}{pins:List (Addr×Obj)}{σ:St}{H:Hp}{s:Shared}{a:Addr}(I:Inv X pins σ H s)(d:IsD H a):
 s.TypeIs (.ref a) "dict"∧(∀ b,Value.ref a = .ref b→∃ ob,s.heap.get? b=some ob∧ob.dict=none)∧(a==sysModules)=false:=by
 rcases d with⟨kvs,e⟩|⟨kvs,e⟩
 ·obtain⟨_,hd,vs,_,dd⟩:=qh I.hok e
  refine⟨dd.typeIs,fun b q=>?_,hd⟩
  cases q
  obtain⟨ob,_,_,h1,h2,_⟩:=dd
  exact⟨ob,h1,h2.2.1⟩
 ·obtain⟨_,hd,xs,_,dd⟩:=rD I.hok e
  refine⟨dd.typeIs,fun b q=>?_,hd⟩
  cases q
  obtain⟨ob,_,_,h1,h2,_⟩:=dd
  exact⟨ob,h1,h2.2.1⟩
section
variable {X:Cx}{pins:List (Addr×Obj)}{σ:St}{H:Hp}{s:Shared}{a:Addr}{y d:V}{u r:Value}{o:Option V}{A:Around}{E:Value→Shared→Prop}
theorem zG{Q:Value→Shared→Prop}(hu:A.units+1<cLine)(I:Inv X pins σ H s)(g:wA H a y o)(ry:aN y u)(rd:aN d r)(h:∀ w' s',Inv X pins σ H s'→aN (o.getD d) w'→Q w' s'):
 wpAny (model X.prog X.w) A (call (.builtin "dict.get") [.ref a,u,r]) Q E s:=by
 rcases g with⟨kvs,k,e,ey,l⟩|⟨kvs,k,b,e,ey,eb,l⟩
 ·subst ey
  obtain⟨z,hd,vs,rel,dd⟩:=qh I.hok e
  refine call_meetsIn PySem.F.slot_dict_get dd.typeIs PySem.F.entry_dict_get (PySem.F.args_dict_get_3 _ _ _) (meets_dict_get_default (cp X.prog X.w) a (tu ry) hd r) ⟨_,dd.mapOf,h _ _ (I.tok _) ?_⟩
  rw[l]
  exact(rel.val k).getD rd
 ·subst ey
  cases(show u=Value.ref b from ry)
  obtain⟨z,hd,xs,rel,dd⟩:=rD I.hok e
  refine call_meetsIn PySem.F.slot_dict_get dd.typeIs PySem.F.entry_dict_get (PySem.F.args_dict_get_3 _ _ _) (meetsH_dict_get_default (tupleKind (cp X.prog X.w)) a b hd r) ⟨tupleKind_room_in1 hu,k,xs,km I.hok eb,dd,h _ _ (I.tok _) ?_⟩
  rw[l]
  exact(rel.val k).getD rd
end
def yX(td ty tx:TE):TE:=fun σ H Q=>td σ H fun x H1=>∃ a,x = .ref a∧IsD H1 a∧ty σ H1 fun y H2=>tx σ H2 fun z H3=>∃ o,wA H3 a y o∧Q (o.getD z) H3
section
variable {X:Cx}{o e f:Expr}{apos cpos:Pos}{td ty tx:TE}
theorem wI(hu:X.A.units+1<cLine)(ho:PE X o td)(he:PE X e ty)(hf:PE X f tx)(m:M2 X o "get" apos e f cpos):PE X (.Call (.Attribute o "get" apos) [e,f] [] cpos) (yX td ty tx):=by
 intro pins s σ H Q I h
 refine wpAny_Call_method m.base m.few m.line PySem.F.plainAttrs_dict PySem.F.slot_dict_get PySem.F.type_dict_get (thn (ho pins s σ H _ I h) fun u s1 ⟨x,H1,I1,rx,a,ex,d,q1⟩=>?_)
 subst ex
 obtain rfl:u=Value.ref a:=rx
 obtain⟨t1,t2,_⟩:=wN I1 d
 refine⟨t1,t2,?_⟩
 rw[m.trees]
 refine Calls.callWith_builtin rfl (Calls.evalArgs_plain (Calls.spliced_cons (thn (he pins s1 σ H1 _ I1 q1) fun iv s2 ⟨y,H2,I2,ry,q2⟩ =>
  Calls.spliced_cons (thn (hf pins s2 σ H2 _ I2 q2) fun fv s3 ⟨z,H3,I3,rz,ov,g,q3⟩=>Calls.spliced_nil ?_))))
 exact zG hu I3 g ry rz fun w' s4 I4 rw'=>⟨_,H3,I4,rw',q3⟩
end
section
variable {X:Cx}{pins:List (Addr×Obj)}{σ:St}{H:Hp}{s:Shared}{a:Addr}{kvs:List (Key×V)}{A:Around}{E:Value→Shared→Prop}
end
section
variable {X:Cx}{pins:List (Addr×Obj)}{σ:St}{H:Hp}{s:Shared}{a:Addr}{y:V}{u:Value}{A:Around}{E:Value→Shared→Prop}
end
end L2
namespace L2
open PySem PySem.Spec PyProof.Rows
section
variable {X:Cx}
end
section
variable {κ:Type}[DecidableEq κ]
theorem wg{kvs:List (κ×V)}{k:κ}(h:cR kvs k=none): ¬ k∈kvs.map (·.1):=by
 intro m
 obtain⟨p,hp,e⟩:=List.mem_map.mp m
 have q:(kvs.any fun kv=>decide (kv.1=k))=true:=List.any_eq_true.mpr ⟨p,hp,decide_eq_true e⟩
 rw[eN,h]at q
 exact absurd q (by simp)
theorem yk{kvs:List (κ×V)}{k:κ}{v:V}(h:cR kvs k=some v):k∈kvs.map (·.1):=by
 have q:(kvs.any fun kv=>decide (kv.1=k))=true:=by
  rw[eN,h]
  all_goals rfl
 obtain⟨p,hp,e⟩:=List.any_eq_true.mp q
 exact List.mem_map.mpr ⟨p,hp,of_decide_eq_true e⟩
theorem t8:∀{l:List κ} {k:κ},l.Nodup→¬ k∈l→(l++[k]).Nodup
 | [],k,_,_=>by simp
 | a::r,k,h,hk=>by
   obtain⟨h1,h2⟩:=List.nodup_cons.mp h
   show(a::(r++[k])).Nodup
   refine List.nodup_cons.mpr ⟨fun m=>?_,t8 h2 fun m=>hk (List.mem_cons.mpr (Or.inr m))⟩
   rcases List.mem_append.mp m with q|q
   ·exact h1 q
   ·exact hk (List.mem_cons.mpr (Or.inl (List.mem_singleton.mp q).symm))
theorem xR{kvs:List (κ×V)}{k:κ}(v:V)(hn:(kvs.map (·.1)).Nodup)(h:cR kvs k=none):((eZ kvs k v).map (·.1)).Nodup:=by
 rw[rp v h,List.map_append]
 exact t8 hn (wg h)
theorem n6{p:κ×V}{r:List (κ×V)}{k:κ}(e:p.1=k):cr (p::r) k=cr r k:=by
 unfold cr
 rw[List.filter_cons,if_neg (by simp[e])]
theorem o5{p:κ×V}{r:List (κ×V)}{k:κ}(e : ¬ p.1=k):cr (p::r) k=p::cr r k:=by
 unfold cr
 rw[List.filter_cons,if_pos (by simp[e])]
theorem oB{kvs:List (κ×V)}{k:κ}{p:κ×V}(h:p∈cr kvs k):p∈kvs:=(List.mem_filter.mp h).1
theorem mq:∀{kvs:List (κ×V)} {k:κ},(kvs.map (·.1)).Nodup→((cr kvs k).map (·.1)).Nodup
 | [],_,_=>List.nodup_nil
 | p::r,k,h=>by
   have h:(p.1::r.map (·.1)).Nodup:=h
   obtain⟨h1,h2⟩:=List.nodup_cons.mp h
   by_cases e:p.1=k
   ·rw[n6 e]
    exact mq h2
   ·rw[o5 e]
    show(p.1::(cr r k).map (·.1)).Nodup
    refine List.nodup_cons.mpr ⟨fun m=>h1 ?_,mq h2⟩
    obtain⟨q,hq,eq⟩:=List.mem_map.mp m
    exact List.mem_map.mpr ⟨q,oB hq,eq⟩
end
end L2
namespace L2
open PySem PySem.Spec PyProof.Rows
section
variable {prog:Program}{w:World}{A:Around}{E:Value→Shared→Prop}{s:Shared}{T:String}{r d:Addr}{n:Nat}{P:Nat→Value→Prop}{OK:Heap→Prop}
end
section
variable {X:Cx}
end
end L2
namespace Ring
open PySem L2
section
variable {p f n:Nat}{m m' : Held}{hs:List (Nat×Held)}{ds:List Deed}{t:Tie}
end
section
variable {H H' : Hp}{a b:Addr}{p f n:Nat}{m m' : Held}{es:List Ent}{t:Tie}
end
section
variable {n f:Nat}{d q:Addr}
end
section
variable {C p d q L:Addr}{H H' H2:Hp}{n:Nat}{hs:List (Nat×Held)}{ds:List Deed}{xs ys:List V}{x:V}{r:Nat×Held}
end
section
variable {K:PySem.W.Frag}
end
end Ring
namespace L2
open PySem PySem.Spec PyProof.Rows
section
variable {X:Cx}{pins:List (Addr×Obj)}{σ:St}{H:Hp}{s:Shared}
end
section
variable {X:Cx}{tg:Expr}
end
end L2
namespace RM
variable {N:Net}
end RM
namespace Ring
open PySem L2
section
variable {p:Nat}{ts:List Tie}{g:GoodWeb p ts}
end
section
variable (p:Nat)(ts:List Tie)(g:GoodWeb p ts)
end
section
variable {p:Nat}{ts:List Tie}{g:GoodWeb p ts}{H H' : Hp}{kvs:List (Key×V)}{zs:List Nat}
end
end Ring
namespace L2
open PySem PySem.Spec PyProof.Rows
end L2
namespace Ring
end Ring
namespace Ring
open PySem L2
end Ring
namespace Ring
open PySem L2
end Ring
namespace Ring
open PySem L2
end Ring
namespace L2
open PySem PySem.Spec PyProof.Rows
section
variable {X:Cx}
end
section
variable {X:Cx}{elt iter tg:Expr}{ifs:List Expr}{scope:Scope}{xc:Str}{pos:Pos}{own frees:List Str}{js:List Nat}{wi:TI}{g:TG}{tt:TT}{te:TE}
end
end L2
namespace L2
open PySem PySem.Spec PyProof.Rows
section
variable {X:Cx}{E:XK}{pins:List (Addr×Obj)}{σ:St}{H:Hp}{s:Shared}{N:List Str}{scope:Scope}{C:Addr}{fp:List Addr}
end
section
variable {X:Cx}{EE:XK}{elt iter tg:Expr}{ifs:List Expr}{scope:Scope}{pos:Pos}{own frees:List Str}{js:List Nat}{wi:TI}{g:TG}{tt:TT}{te:TE}
end
end L2
namespace L2
open PySem PySem.Spec PyProof.Rows
section
variable {X:Cx}
end
end L2
namespace Ring
open PySem L2
end Ring
namespace L2
open PySem PySem.Spec PyProof.Rows
theorem nY{K:PySem.W.Frag}{a:Addr}{xs:List V}{g:TG}{tb:TS}{D:Ends}{σ:St}{H:Hp}(Pv:Nat→St→Hp→Prop)(h0:Pv 0 σ H)(hl:∀ i σ H,i≤xs.length→Pv i σ H→SqT K H a xs)
 (hs:∀ i x T σ H,xs[i]?=some x→Pv i σ H→H T=none→g (.ref T) σ (upd H T (.tup [.int (i:Int),x])) fun σ2 H2=>tb { D with nx:=Pv (i+1),ct:=Pv (i+1),bk:=D.nx} σ2 H2) (hd:∀ σ H,Pv xs.length σ H→D.nx σ H) :
 ∃ W:Nat→Nat→St→Hp→Prop,(∃ m,W 0 m σ H)∧∀ i m σ H,W i m σ H→
   ((uK K a).stop i H∧D.nx σ H)∨((uK K a).go i H∧∃ N:St→Hp→Prop,(∀ σ' H',N σ' H'→∃ m',m'<m∧W (i+1) m' σ' H')∧∀ x H',(uK K a).yld i H x H'→g x σ H' fun σ2 H2=>tb { D with nx:=N,ct:=N,bk:=D.nx} σ2 H2):=by
 refine⟨fun i m σ H=>m=xs.length-i∧i≤xs.length∧Pv i σ H,⟨xs.length,by simp,Nat.zero_le _,h0⟩,?_⟩
 rintro i m σ H ⟨rfl,hi,p⟩
 have q:=hl i σ H hi p
 by_cases hlt:i<xs.length
 ·refine .inr ⟨⟨xs,xs[i],q,by simp[hlt]⟩,Pv (i+1),fun σ' H' p'=>⟨xs.length-(i+1),by omega,rfl,hlt,p'⟩,fun v H' y=>?_⟩
  obtain⟨T,x,rfl,hT,rfl,y1⟩:=y
  exact hs i x T σ _ (y1 xs q) p hT
 ·have e:i=xs.length:=by omega
  subst e
  exact .inl ⟨⟨xs,q,rfl⟩,hd σ H p⟩
end L2
namespace Ring
open PySem L2
def oV:Option Int→V
 | none=>.non
 | some i=>.int i
abbrev Pr:=Option Int×Option Int
def sel(q:Pr)(u:Bool):Option Int:=if u=true then q.2 else q.1
def lQ:Option Int→Option Int→Int→Bool
 | none,none,_=>true
 | none,some _,_=>false
 | some _,none,_=>false
 | some x,some y,l=>decide ((if x-y<0 then -(x-y) else x-y)≤l)
def cH(R:List Pr)(i:Nat):Pr:=R.getD i (none,none)
def rk(R:List Pr)(t:Tie)(u:Bool):Bool:=lQ (cH R t.1.toNat).1 (sel (cH R t.2.1.toNat) u) t.2.2&&lQ (cH R t.1.toNat).2 (sel (cH R t.2.1.toNat) (!u)) t.2.2
def yN(ts:List Tie)(m i:Nat)(R:List Pr):Prop:=(cH R i).1=some 0∧∀ k,k<ts.length→rk R (bc ts k) (m.testBit k)=true
def pz(p:Nat)(ts:List Tie)(m:Nat)(W:List (List Pr)):Prop:=∀ i,i<p→yN ts m i (W.getD i [])
def dG(H:Hp)(x:V)(q:Pr):Prop:=∃ b,x = .ref b∧H b=some (.tup [oV q.1,oV q.2])
def jc(H:Hp)(x:V)(R:List Pr):Prop:=∃ b ys,x = .ref b∧H b=some (.tup ys)∧Paired (dG H) ys R
def cQ(H:Hp)(b:Addr)(W:List (List Pr)):Prop:=∃ ys,H b=some (.tup ys)∧Paired (jc H) ys W
def Sqr(p:Nat)(W:List (List Pr)):Prop:=W.length=p∧∀ R∈W,R.length=p
theorem dG.same{H H' : Hp}(s:am H H'){x:V}{q:Pr}(h:dG H x q):dG H' x q:=let⟨b,e,z⟩:=h;⟨b,e,s _ _ z⟩
theorem jc.same{H H' : Hp}(s:am H H'){x:V}{R:List Pr}(h:jc H x R):jc H' x R:=let⟨b,ys,e,z,pr⟩:=h;⟨b,ys,e,s _ _ z,Paired.imp' (fun _ _ z=>z.same s) pr⟩
theorem cQ.same{H H' : Hp}(s:am H H'){b:Addr}{W:List (List Pr)}(h:cQ H b W):cQ H' b W:=let⟨ys,z,pr⟩:=h;⟨ys,s _ _ z,Paired.imp' (fun _ _ z=>z.same s) pr⟩
theorem dG.tups{H H' : Hp}(s:dL H H'){x:V}{q:Pr}(h:dG H x q):dG H' x q:=let⟨b,e,z⟩:=h;⟨b,e,s _ _ z⟩
theorem jc.tups{H H' : Hp}(s:dL H H'){x:V}{R:List Pr}(h:jc H x R):jc H' x R:=let⟨b,ys,e,z,pr⟩:=h;⟨b,ys,e,s _ _ z,Paired.imp' (fun _ _ z=>z.tups s) pr⟩
theorem eg{α β:Type}{F:α→β→Prop}{l:List α}{r:List β}(pr:Paired F l r){i:Nat}(h:i<r.length)(d:β):∃ x,l[i]?=some x∧F x (r.getD i d):=by
 have hl:i<l.length:=by rw[pr.length];exact h
 obtain⟨y,hy,hf⟩:=Paired.getP pr (i:=i) (x:=l[i]) (by simp[hl])
 refine⟨l[i],by simp[hl],?_⟩
 rw[List.getD_eq_getElem?_getD,hy]
 exact hf
theorem jc.at{H:Hp}{ys:List V}{R:List Pr}(pr:Paired (dG H) ys R){i:Nat}(h:i<R.length):∃ b,ys[i]?=some (.ref b)∧H b=some (.tup [oV (cH R i).1,oV (cH R i).2]):=by
 obtain⟨x,hx,b,rfl,hb⟩:=eg pr h (none,none)
 exact⟨b,hx,hb⟩
theorem yl(a:Option Int):decide (oV a=V.int 0)=decide (a=some 0):=by
 cases a with
 | none=>rw[Bool.eq_iff_iff];simp[oV]
 | some i=>rw[Bool.eq_iff_iff];simp[oV]
theorem Sqr.row{p:Nat}{W:List (List Pr)}(h:Sqr p W){i:Nat}(hi:i<p):(W.getD i []).length=p:=by
 have hl:i<W.length:=by rw[h.1];exact hi
 rw[List.getD_eq_getElem?_getD]
 simp only[hl,List.getElem?_eq_getElem,Option.getD_some]
 exact h.2 _ (List.getElem_mem hl)
theorem vK(q:Pr)(u:Bool):([oV q.1,oV q.2]:List V)[u.toNat]?=some (oV (sel q u)):=by
 cases u<;>rfl
end Ring
namespace L2
open PySem PySem.Spec PyProof.Rows
theorem xH{X:Cx}:OpR X (binaryOp .LShift) (rI (fun i j=>0≤j∧j≤1000000∧i.natAbs<2^1000) fun i j=>.int (i*2^j.toNat)):=opI fun i j _ _ _ _ _ hc q=>by
 refine lshift_int hc.1 ?_ q
 have hb:Builtin.Int.intBits i≤1000:=intBits_le hc.2.2
 have:=hc.2.1
 omega
end L2
namespace RM
variable {N:Net}{m t0:Nat}
def Net.far(N:Net)(t v:Nat):Nat:=if N.a t=v then N.b t else N.a t
def Net.tiesAt(N:Net)(left v:Nat):List Nat:=(List.range N.n).filter fun t=>left.testBit t&&(decide (N.a t=v) || decide (N.b t=v))
theorem aH{left v t:Nat}:t∈N.tiesAt left v↔t<N.n∧left.testBit t=true∧(N.a t=v∨N.b t=v):=by
 unfold Net.tiesAt
 rw[List.mem_filter,List.mem_range,Bool.and_eq_true,Bool.or_eq_true,decide_eq_true_eq,decide_eq_true_eq]
inductive Wk(N:Net)(m t0:Nat):List (Nat×Int)→Nat→Nat→Prop
 | start:Wk N m t0 [(t0,1)] (N.b t0) (m^^^2^t0)
 | next {acc:List (Nat×Int)} {v left t:Nat} (h:Wk N m t0 acc v left) (h0:left≠0) (ht:(N.tiesAt left v)[0]?=some t):Wk N m t0 (acc++[(t,if N.a t=v then 1 else -1)]) (N.far t v) (left^^^2^t)
theorem jO{t v:Nat}(h:N.a t=v∨N.b t=v):(N.a t=v∧N.b t=N.far t v)∨(N.b t=v∧N.a t=N.far t v):=by
 unfold Net.far
 by_cases e:N.a t=v
 ·rw[if_pos e]
  exact .inl ⟨e,rfl⟩
 ·rw[if_neg e]
  rcases h with h|h
  ·exact absurd h e
  ·exact .inr ⟨h,rfl⟩
theorem wY{pre ks:List Nat}{v left:Nat}(h:Way N m pre v ks left)(hz:∀ k,m.testBit k=true→k∈ks):left=0:=by
 apply Nat.eq_of_testBit_eq
 intro k
 rw[h.left_bit,Nat.zero_testBit]
 cases hb:m.testBit k with
 | false=>rfl
 | true=>rw[decide_eq_true (hz k hb)];rfl
theorem ou{pre ks:List Nat}{v left:Nat}(r:N.Ring m)(h:Way N m pre v ks left)(h0:left≠0):v∉pre:=fun hv=>by
 obtain⟨i,hi⟩:=List.getElem?_of_mem hv
 obtain⟨q0,qe,_,qs⟩:=h.closes hi
 rcases r.2.2 _ qs qe with z|z
 ·exact q0 z
 ·refine h0 (wY h fun k hk=>?_)
  rw[← z,Ring.gP]at hk
  exact List.mem_of_mem_drop (of_decide_eq_true hk)
theorem y7(hm:m<2^N.n)(r:N.Ring m)(hb:m.testBit t0=true){acc:List (Nat×Int)}{v left:Nat}(h:Wk N m t0 acc v left):∃ pre,Way N m pre v (acc.map (·.1)) left∧pre[0]?=some (N.a t0):=by
 induction h with
 | start =>
   refine⟨[N.a t0],?_,rfl⟩
   exact(Way.start hm r.2.1 hb).go (by simp) hb (.inl ⟨rfl,rfl⟩)
 | next h h0 ht ih =>
   obtain⟨pre,w,p0⟩:=ih
   have hm2:=aH.mp (List.mem_of_getElem? ht)
   refine⟨_,by rw[List.map_append];exact w.go (ou r w h0) hm2.2.1 (jO hm2.2.2),?_⟩
   rw[List.getElem?_append_left (by have:=(List.getElem?_eq_some_iff.mp p0).1;exact this)]
   exact p0
theorem aaH(hm:m<2^N.n)(r:N.Ring m)(hb:m.testBit t0=true){acc:List (Nat×Int)}{v left:Nat}(h:Wk N m t0 acc v left)(h0:left≠0):∃ t,(N.tiesAt left v)[0]?=some t:=by
 obtain⟨pre,w,_⟩:=y7 hm r hb h
 obtain⟨t,h1,h2⟩:=w.on (ou r w h0)
 have ht:t<N.n:=bS w.left_lt h1
 have hmem:t∈N.tiesAt left v:=aH.mpr ⟨ht,h1,h2⟩
 cases e:N.tiesAt left v with
 | nil=>rw[e]at hmem;cases hmem
 | cons x l=>exact⟨x,rfl⟩
theorem lJ{left t n:Nat}(ht:t<n)(hb:left.testBit t=true):cnt (fun j=>left.testBit j) n=cnt (fun j=>(left^^^2^t).testBit j) n+1 :=
 m8 (h:=t) hb ht fun x _=>by
  rw[Nat.testBit_xor,Nat.testBit_two_pow]
  by_cases e:x=t
  ·subst e
   simp[hb]
  ·rw[decide_eq_false e,decide_eq_false (fun z=>e z.symm)]
   simp
theorem ma(hm:m<2^N.n)(hb:m.testBit t0=true){acc:List (Nat×Int)}{v left:Nat}(h:Wk N m t0 acc v left):acc.length+cnt (fun j=>left.testBit j) N.n=cnt (fun j=>m.testBit j) N.n:=by
 induction h with
 | start =>
   have:=lJ (bS hm hb) hb
   show 1+_=_
   omega
 | next h h0 ht ih =>
   have hm2:=aH.mp (List.mem_of_getElem? ht)
   have:=lJ hm2.1 hm2.2.1
   rw[List.length_append,List.length_singleton]
   omega
end RM
namespace RM
variable {N:Net}{m t0:Nat}
theorem mH(m x:Nat):(N.tiesAt m x).length=N.dg m x:=by
 unfold Net.tiesAt Net.dg
 rw[iP]
 refine fk fun k hk=>?_
 congr 1
 apply Bool.eq_iff_iff.mpr
 rw[Bool.or_eq_true,decide_eq_true_eq,decide_eq_true_eq]
 exact(eV hk).symm
def Net.D2(N:Net)(m:Nat):Prop:=∀ x,x<N.p→N.dg m x=0∨N.dg m x=2
theorem D2.even(h:N.D2 m):N.Even m:=fun x hx=>by
 rw[tj]
 refine decide_eq_false ?_
 rcases h x hx with e|e<;>omega
theorem y0(C:Nat→Bool):∀ n,sm (fun x=>if C x=true then 2 else 0) n=2*cnt C n:=fun n=>by
 rw[eR]
 have:sm (fun k=>if C k=true then 2 else 0) n=sm (fun k=>(if C k=true then 1 else 0)+(if C k=true then 1 else 0)) n:=dD fun k _=>by
  by_cases h:C k=true
  ·rw[if_pos h,if_pos h]
  ·rw[if_neg h,if_neg h]
 rw[this,j6]
 omega
theorem x8(hm:m<2^N.n)(r:N.Ring m):N.D2 m:=by
 obtain⟨k0,hk0,hb0,hall⟩:=mJ hm r
 generalize hs:N.labs (fun k=>m.testBit k) N.n (N.a k0)=s at hall
 have hC:∀ x,x<N.p→(fun x=>decide (N.labs (fun k=>m.testBit k) N.n x=s)) x=decide (N.labs (fun k=>m.testBit k) N.n x=s):=fun x _=>rfl
 obtain⟨h2,hl,solo⟩:=qF (s:=s) hm r _ hC (fun k hk hb=>decide_eq_true (hall k hk hb))
 generalize hCC:(fun x=>decide (N.labs (fun k=>m.testBit k) N.n x=s))=C at hC h2 hl solo
 have none:∀ x,x<N.p→C x=false→N.dg m x=0:=fun x hx hc=>by
  cases hz:N.dg m x with
  | zero=>rfl
  | succ d =>
    exfalso
    obtain⟨k,hk,hb,hx2⟩:=li (N:=N) (m:=m) (x:=x) (by omega)
    rw[hC x hx]at hc
    refine of_decide_eq_false hc ?_
    rcases hx2 with e|e
    ·rw[← e]
     exact hall k hk hb
    ·rw[← e,← fL (S:=fun k=>m.testBit k) hk hb]
     exact hall k hk hb
 have pos:∀ x,x<N.p→C x=true→0<N.dg m x:=fun x hx hc=>by
  cases hz:N.dg m x with
  | succ d=>omega
  | zero =>
    exfalso
    obtain⟨y,hy,hcy,hne⟩:∃ y,y<N.p∧C y=true∧y≠x:=by
     obtain⟨c,d,h1,h3,h4,h5⟩:=gW h2
     by_cases e:c=x
     ·exact⟨d,h3,h5,by omega⟩
     ·exact⟨c,by omega,h4,e⟩
    rw[hC x hx]at hc
    rw[hC y hy]at hcy
    exact hne (qx hz (bK _ _ _ ((of_decide_eq_true hc).trans (of_decide_eq_true hcy).symm)))
 have hle:∀ x,x<N.p→(if C x=true then 2 else 0)≤N.dg m x:=fun x hx=>by
  by_cases hc:C x=true
  ·rw[if_pos hc]
   have h1:=pos x hx hc
   have h3:=jo r.2.1 hx
   omega
  ·rw[if_neg hc]
   exact Nat.zero_le _
 have he:sm (fun x=>if C x=true then 2 else 0) N.p=sm (fun x=>N.dg m x) N.p:=by
  rw[y0,rQ,hl]
 intro x hx
 have:=xz hle he x hx
 by_cases hc:C x=true
 ·rw[if_pos hc]at this
  exact .inr this.symm
 ·rw[if_neg hc]at this
  exact .inl this.symm
theorem yD(hm:m<2^N.n)(hb:m.testBit t0=true){acc:List (Nat×Int)}{v left:Nat}(h:Wk N m t0 acc v left):∀ x,N.bd (m^^^left) x=(decide (N.a t0=x)^^decide (v=x)):=by
 induction h with
 | start =>
   intro x
   rw[← Nat.xor_assoc,Nat.xor_self,Nat.zero_xor,fY (bS hm hb)]
   rfl
 | @next acc v left t h h0 ht ih =>
   intro x
   have hm2:=aH.mp (List.mem_of_getElem? ht)
   rw[← Nat.xor_assoc,dO,ih x,fY hm2.1]
   unfold Net.inc
   rcases jO hm2.2.2 with⟨e1,e2⟩|⟨e1,e2⟩
   ·rw[e1,e2]
    cases decide (N.a t0=x)<;>cases decide (v=x)<;>cases decide (N.far t v=x)<;>rfl
   ·rw[e1,e2]
    cases decide (N.a t0=x)<;>cases decide (v=x)<;>cases decide (N.far t v=x)<;>rfl
theorem eX(hb:m.testBit t0=true){acc:List (Nat×Int)}{v left:Nat}(h:Wk N m t0 acc v left):∀ k,left.testBit k=(m.testBit k && !decide (k∈acc.map (·.1))):=by
 induction h with
 | start =>
   intro k
   rw[Nat.testBit_xor,Nat.testBit_two_pow]
   by_cases e:t0=k
   ·subst e
    simp[hb]
   ·have e' : ¬ k=t0:=fun z=>e z.symm
    simp[e,e']
 | @next acc v left t h h0 ht ih =>
   intro k
   have hm2:=aH.mp (List.mem_of_getElem? ht)
   have hin:=hm2.2.1
   rw[ih t]at hin
   rw[Nat.testBit_xor,Nat.testBit_two_pow,ih k,List.map_append]
   by_cases e:t=k
   ·subst e
    rw[hin]
    simp
   ·have e' : ¬ k=t:=fun z=>e z.symm
    have e3:(k∈acc.map (·.1)++[(t,if N.a t=v then(1:Int) else -1)].map (·.1))↔k∈acc.map (·.1):=by simp[e']
    rw[show decide (k∈acc.map (·.1)++[(t,if N.a t=v then(1:Int) else -1)].map (·.1))=decide (k∈acc.map (·.1)) from decide_eq_decide.mpr e3]
    simp[e]
theorem rJ(hm:m<2^N.n)(hb:m.testBit t0=true){acc:List (Nat×Int)}{v left:Nat}(h:Wk N m t0 acc v left):left<2^N.n:=cJ fun k hk=>by
 rw[eX hb h k,Bool.and_eq_true]at hk
 exact bS hm hk.1
theorem pM(hm:m<2^N.n)(hb:m.testBit t0=true){acc:List (Nat×Int)}{v left:Nat}(h:Wk N m t0 acc v left):v<N.p∧∃ acc' l y,acc=acc'++[(l,y)]∧l<N.n∧m.testBit l=true∧(N.a l=v∨N.b l=v)∧left.testBit l=false:=by
 have hl:=eX hb h
 have key:v<N.p∧∃ acc' l y,acc=acc'++[(l,y)]∧l<N.n∧(N.a l=v∨N.b l=v):=by
  cases h with
  | start=>exact⟨N.bl t0 (bS hm hb),[],t0,1,rfl,bS hm hb,.inr rfl⟩
  | @next acc v left t h h0 ht =>
    have hm2:=aH.mp (List.mem_of_getElem? ht)
    rcases jO hm2.2.2 with⟨e1,e2⟩|⟨e1,e2⟩
    ·exact⟨by rw[← e2];exact N.bl t hm2.1,acc,t,_,rfl,hm2.1,.inr e2⟩
    ·exact⟨by rw[← e2];exact N.al t hm2.1,acc,t,_,rfl,hm2.1,.inl e2⟩
 obtain⟨hv,acc',l,y,rfl,h1,h2⟩:=key
 refine⟨hv,acc',l,y,rfl,h1,?_,h2,?_⟩
 ·
  clear hl
  have:∀{acc:List (Nat×Int)} {v left:Nat},Wk N m t0 acc v left→∀ q∈acc,m.testBit q.1=true:=fun {acc v left} h=>by
   induction h with
   | start =>
     intro q hq
     rw[List.mem_singleton.mp hq]
     exact hb
   | @next acc v left t h h0 ht ih =>
     intro q hq
     rcases List.mem_append.mp hq with z|z
     ·exact ih q z
     ·rw[List.mem_singleton.mp z]
      have hm2:=(aH.mp (List.mem_of_getElem? ht)).2.1
      rw[eX hb h t,Bool.and_eq_true]at hm2
      exact hm2.1
  exact this h (l,y) (by simp)
 ·rw[hl l]
  simp
theorem ss{q:Nat}(hq:∀ k,q.testBit k=true→m.testBit k=true){x k:Nat}(h:k∈N.tiesAt q x):k∈N.tiesAt m x:=by
 obtain⟨h1,h2,h3⟩:=aH.mp h
 exact aH.mpr ⟨h1,hq k h2,h3⟩
theorem xI{l:List Nat}(h:l.length=2):∃ x y,l=[x,y]:=by
 match l,h with
 | [x,y],_=>exact⟨x,y,rfl⟩
theorem kF{x l:Nat}(h:N.D2 m)(hx:x<N.p)(hl:l∈N.tiesAt m x):∃ t,t≠l∧(N.tiesAt m x=[l,t]∨N.tiesAt m x=[t,l]):=by
 have hd:=h x hx
 rw[← mH]at hd
 have h0:(N.tiesAt m x).length≠0:=fun z=>by
  rw[List.length_eq_zero_iff]at z
  rw[z]at hl
  cases hl
 obtain⟨u,w,e⟩:=xI (hd.resolve_left h0)
 have hnd:(N.tiesAt m x).Nodup:=List.Nodup.sublist (List.filter_sublist) List.nodup_range
 rw[e]at hl hnd
 have hne:u≠w:=by simpa using hnd
 rcases List.mem_cons.mp hl with z|z
 ·subst z
  exact⟨w,Ne.symm hne,.inl e⟩
 ·rw[List.mem_singleton]at z
  subst z
  exact⟨u,hne,.inr e⟩
theorem wG{q x l t:Nat}(h:N.D2 m)(hx:x<N.p)(hq:∀ k,q.testBit k=true→m.testBit k=true)(ev:N.Even q)(hl:l∈N.tiesAt m x)(ht:t∈N.tiesAt m x)(hb:q.testBit l=true):q.testBit t=true:=by
 by_cases e:t=l
 ·rw[e]
  exact hb
 obtain⟨u,hu,hp⟩:=kF h hx hl
 have hut:u=t:=by
  rcases hp with z|z <;> · rw[z]at ht;simp at ht;omega
 subst hut
 have hlm:=aH.mp hl
 have h1:=o7 (N:=N) hlm.1 hb hlm.2.2
 have h3:=jo ev hx
 obtain⟨c,d,hcd,hd,fc,fd⟩:=gW (show 2≤cnt (fun k=>q.testBit k&&N.inc k x) N.n from(by have:N.dg q x=cnt (fun k=>q.testBit k&&N.inc k x) N.n:=rfl;omega))
 rw[Bool.and_eq_true]at fc fd
 have hcm:c∈N.tiesAt m x:=aH.mpr ⟨by omega,hq c fc.1,(eV (by omega)).mp fc.2⟩
 have hdm:d∈N.tiesAt m x:=aH.mpr ⟨hd,hq d fd.1,(eV hd).mp fd.2⟩
 have hz:c=u∨d=u:=by
  rcases hp with z|z <;> · rw[z]at hcm hdm;simp at hcm hdm;omega
 rcases hz with z|z
 ·rw[← z]
  exact fc.1
 ·rw[← z]
  exact fd.1
theorem aad(hm:m<2^N.n)(h:N.D2 m)(hb:m.testBit t0=true){acc:List (Nat×Int)}{v left:Nat}(w:Wk N m t0 acc v left)(hv:v≠N.a t0):∃ acc' l y t,acc=acc'++[(l,y)]∧t<N.n∧(N.tiesAt m v=[l,t]∨N.tiesAt m v=[t,l])∧left≠0∧(N.tiesAt left v)[0]?=some t:=by
 obtain⟨hvp,acc',l,y,e,hl,hlm,hlv,hll⟩:=pM hm hb w
 have hlin:l∈N.tiesAt m v:=aH.mpr ⟨hl,hlm,hlv⟩
 obtain⟨t,hne,hp⟩:=kF h hvp hlin
 have htin:t∈N.tiesAt m v:=by rcases hp with z | z<;>rw[z]<;>simp
 have htm:=aH.mp htin
 have hbit:left.testBit t=true:=by
  cases hz:left.testBit t with
  | true=>rfl
  | false =>
    exfalso
    have hbd:=yD hm hb w v
    rw[decide_eq_false (fun z=>hv z.symm),decide_eq_true rfl]at hbd
    have hsub:∀ k,(m^^^left).testBit k=true→m.testBit k=true:=fun k hk=>by
     rw[Nat.testBit_xor,eX hb w k]at hk
     cases hmk:m.testBit k with
     | true=>rfl
     | false =>
       rw[hmk]at hk
       simp at hk
    have h2:=yF (N:=N) hsub v
    have h3:2≤N.dg (m^^^left) v:=ln (u:=l) (v:=t) (by rw[Nat.testBit_xor,hlm,hll];exact(eV hl).mpr hlv) (by rw[Nat.testBit_xor,htm.2.1,hz];exact(eV htm.1).mpr htm.2.2) (Ne.symm hne) hl htm.1
    have h4:=h v hvp
    rw[tj]at hbd
    have:=of_decide_eq_true hbd
    omega
 have hmem:t∈N.tiesAt left v:=aH.mpr ⟨htm.1,hbit,htm.2.2⟩
 refine⟨acc',l,y,t,e,htm.1,hp,(fun z=>by rw[z,Nat.zero_testBit]at hbit;cases hbit),?_⟩
 cases hc:N.tiesAt left v with
 | nil=>rw[hc]at hmem;cases hmem
 | cons x r =>
   have hx:x∈N.tiesAt left v:=by rw[hc];exact List.mem_cons_self
   have hxm:x∈N.tiesAt m v:=ss (fun k hk=>by rw[eX hb w k,Bool.and_eq_true]at hk;exact hk.1) hx
   have hxl:x≠l:=fun z=>by
    have:=(aH.mp hx).2.1
    rw[z,hll]at this
    cases this
   have:x=t:=by rcases hp with z | z <;> · rw[z]at hxm;simp at hxm;omega
   rw[this]
   rfl
theorem yA{acc:List (Nat×Int)}{v left:Nat}(w:Wk N m t0 acc v left):t0∈acc.map (·.1):=by
 induction w with
 | start=>simp
 | next h h0 ht ih=>rw[List.map_append];exact List.mem_append_left _ ih
theorem tV(hm:m<2^N.n)(h:N.D2 m)(hb:m.testBit t0=true){acc:List (Nat×Int)}{left:Nat}(w:Wk N m t0 acc (N.a t0) left):N.Ring m↔left=0:=by
 constructor
 ·intro r
  have ev:N.Even (m^^^left):=fun x _=>by rw[yD hm hb w x];cases decide (N.a t0=x)<;>rfl
  have hsub:∀ k,(m^^^left).testBit k=true→m.testBit k=true:=fun k hk=>by
   rw[Nat.testBit_xor,eX hb w k]at hk
   cases hmk:m.testBit k with
   | true=>rfl
   | false =>
     rw[hmk]at hk
     simp at hk
  rcases r.2.2 _ hsub ev with z|z
  ·exfalso
   have h1:(m^^^left).testBit t0=true:=by
    rw[Nat.testBit_xor,eX hb w t0,hb,decide_eq_true (yA w)]
    rfl
   rw[z,Nat.zero_testBit]at h1
   cases h1
  ·have e2:m^^^(m^^^left)=m^^^m:=by rw[z]
   rw[← Nat.xor_assoc,Nat.xor_self,Nat.zero_xor]at e2
   exact e2
 ·rintro rfl
  refine⟨fun z=>?_,D2.even h,fun q hq ev=>?_⟩
  ·rw[z,Nat.zero_testBit]at hb
   cases hb
  ·have key:∀{acc:List (Nat×Int)} {v left:Nat},Wk N m t0 acc v left→∀ k∈acc.map (·.1),(q.testBit k=true↔q.testBit t0=true):=fun {acc v left} w=>by
    induction w with
    | start =>
      intro k hk
      have:k=t0:=by simpa using hk
      rw[this]
    | @next acc v left t w h0 ht ih =>
      intro k hk
      rw[List.map_append]at hk
      rcases List.mem_append.mp hk with z|z
      ·exact ih k z
      ·have e:k=t:=by simpa using z
       subst e
       obtain⟨hvp,acc',l,y,rfl,hl,hlm,hlv,hll⟩:=pM hm hb w
       have h1:l∈N.tiesAt m v:=aH.mpr ⟨hl,hlm,hlv⟩
       have hkm:=aH.mp (List.mem_of_getElem? ht)
       have h2:k∈N.tiesAt m v:=aH.mpr ⟨hkm.1,by have:=hkm.2.1;rw[eX hb w k,Bool.and_eq_true]at this;exact this.1,hkm.2.2⟩
       rw[← ih l (by simp)]
       exact⟨fun z=>wG h hvp hq ev h2 h1 z,fun z=>wG h hvp hq ev h1 h2 z⟩
   have hall:∀ k,m.testBit k=true→k∈acc.map (·.1):=fun k hk=>by
    have:=eX hb w k
    rw[Nat.zero_testBit,hk,Bool.true_and]at this
    cases hd:decide (k∈acc.map (·.1)) with
    | true=>exact of_decide_eq_true hd
    | false=>rw[hd]at this;cases this
   cases h0:q.testBit t0 with
   | false =>
     left
     apply Nat.eq_of_testBit_eq
     intro k
     rw[Nat.zero_testBit]
     cases hk:q.testBit k with
     | false=>rfl
     | true =>
       have:=(key w k (hall k (hq k hk))).mp hk
       rw[h0]at this
       cases this
   | true =>
     right
     apply Nat.eq_of_testBit_eq
     intro k
     cases hk:m.testBit k with
     | true=>exact(key w k (hall k hk)).mpr h0
     | false =>
       cases hk2:q.testBit k with
       | false=>rfl
       | true=>rw[hq k hk2]at hk;cases hk
theorem vS{left n:Nat}(hl:left<2^n):cnt (fun j=>left.testBit j) n=0↔left=0:=by
 constructor
 ·intro h
  apply Classical.byContradiction
  intro h0
  obtain⟨j,hj⟩:=Nat.exists_testBit_of_ne_zero h0
  have:=iL (f:=fun j=>left.testBit j) hj (bS hl hj)
  omega
 ·rintro rfl
  rw[eR]
  refine(dD fun k _=>?_).trans (lc n)
  rw[if_neg (by rw[Nat.zero_testBit];simp)]
theorem tT(hm:m<2^N.n)(hb:m.testBit t0=true){acc:List (Nat×Int)}{v left:Nat}(h:Wk N m t0 acc v left):acc.length=cnt (fun j=>m.testBit j) N.n↔left=0:=by
 have:=ma hm hb h
 rw[← vS (rJ hm hb h)]
 omega
end RM
namespace Ring
open PySem L2
def PrA(H:Hp)(x:V)(q:Nat×Int):Prop:=∃ b,x = .ref b∧H b=some (.tup [.int (q.1:Int),.int q.2])
def ix(H:Hp)(D:Addr)(acc:List (Nat×Int)):Prop:=∃ xs,H D=some (.lst xs)∧Paired (PrA H) xs acc
theorem PrA.same{H H' : Hp}(s:am H H'){x:V}{q:Nat×Int}(h:PrA H x q):PrA H' x q:=by
 obtain⟨b,e,hb⟩:=h
 exact⟨b,e,s _ _ hb⟩
theorem ku{α β:Type}{F:α→β→Prop}{x:α}{y:β}(h:F x y):∀{l:List α} {r:List β},Paired F l r→Paired F (l++[x]) (r++[y])
 | _,_,.nil=>.cons h .nil
 | _,_,.cons h1 h2=>.cons h1 (ku h h2)
theorem PrA.put{H:Hp}{D:Addr}{xs ys:List V}(hD:H D=some (.lst xs)){x:V}{q:Nat×Int}(h:PrA H x q):PrA (upd H D (.lst ys)) x q:=by
 obtain⟨b,e,hb⟩:=h
 have:b≠D:=fun z=>by
  rw[z,hD]at hb
  cases hb
 exact⟨b,e,by rw[ak this];exact hb⟩
theorem ix.push{H:Hp}{D b:Addr}{acc:List (Nat×Int)}{xs:List V}{q:Nat×Int}(hD:H D=some (.lst xs))(h:Paired (PrA H) xs acc)(hb:H b=some (.tup [.int (q.1:Int),.int q.2])):ix (upd H D (.lst (xs++[.ref b]))) D (acc++[q]) :=
 ⟨xs++[.ref b],ag,ku (PrA.put hD ⟨b,rfl,hb⟩) (Paired.imp' (fun _ _ z=>PrA.put hD z) h)⟩
structure Rows(H0:Hp)(D:Addr)(es:List Addr)(f:Nat→List Nat)(H:Hp):Prop where
 same:am H0 H
 nd:es.Nodup
 ne:D∉es
 fr:∀ b∈es,H0 b=none
 Dn:H0 D=none
 lst:H D=some (.lst (es.map V.ref))
 at_:∀ i b,es[i]?=some b→H b=some (.lst (aJ (f i)))
theorem Rows.go{H0 H H' : Hp}{D:Addr}{es:List Addr}{f:Nat→List Nat}(h:Rows H0 D es f H)(s:am H H'):Rows H0 D es f H' :=
 ⟨h.same.trans s,h.nd,h.ne,h.fr,h.Dn,s _ _ h.lst,fun i b e=>s _ _ (h.at_ i b e)⟩
theorem Rows.push{H0 H:Hp}{D b:Addr}{es:List Addr}{f:Nat→List Nat}{i k:Nat}(h:Rows H0 D es f H)(hb:es[i]?=some b):Rows H0 D es (fun j=>if j=i then f j++[k] else f j) (upd H b (.lst (aJ (f i)++[.int (k:Int)]))):=by
 have hm:=List.mem_of_getElem? hb
 have hne:D≠b:=fun z=>h.ne (z▸hm)
 refine⟨h.same.put (h.fr b hm),h.nd,h.ne,h.fr,h.Dn,by rw[ak hne];exact h.lst,fun j c hc=>?_⟩
 by_cases e:j=i
 ·subst e
  rw[hb]at hc
  cases hc
  rw[ag,if_pos rfl,lB]
 ·have:c≠b:=fun z=>by
   subst z
   obtain⟨h1,h2⟩:=List.getElem?_eq_some_iff.mp hc
   obtain⟨h3,h4⟩:=List.getElem?_eq_some_iff.mp hb
   exact e ((List.getElem_inj h.nd).mp (h2.trans h4.symm))
  rw[ak this,if_neg e]
  exact h.at_ j c hc
theorem Rows.get{H0 H:Hp}{D:Addr}{es:List Addr}{f:Nat→List Nat}{i:Nat}(h:Rows H0 D es f H)(hi:i<es.length):∃ b,(es.map V.ref)[i]?=some (.ref b)∧es[i]?=some b∧H b=some (.lst (aJ (f i))):=by
 have e:es[i]?=some es[i]:=List.getElem?_eq_getElem hi
 exact⟨es[i],by rw[List.getElem?_map,e];rfl,e,h.at_ i _ e⟩
def kt(H0:Hp)(D:Addr)(i:Nat)(acc:List V)(H:Hp):Prop:=∃ es,acc=es.map V.ref∧es.length=i∧Rows H0 D es (fun _=>[]) H
theorem kt.start{H0:Hp}{D:Addr}(hD:H0 D=none):kt H0 D 0 [] (upd H0 D (.lst [])) :=
 ⟨[],rfl,rfl,am.new hD,List.nodup_nil,List.not_mem_nil,fun _ h=>(List.not_mem_nil h).elim,hD,ag,fun i b e=>by cases e⟩
theorem kt.len{H0 H:Hp}{D:Addr}{i:Nat}{acc:List V}(h:kt H0 D i acc H):H D=some (.lst acc)∧acc.length≤i:=by
 obtain⟨es,rfl,e,r⟩:=h
 exact⟨r.lst,by rw[List.length_map];omega⟩
theorem kt.next{H0 H:Hp}{D b:Addr}{i:Nat}{acc:List V}(h:kt H0 D i acc H)(hb:H b=none):upd H b (.lst []) D=some (.lst acc)∧kt H0 D (i+1) (acc++[.ref b]) (upd (upd H b (.lst [])) D (.lst (acc++[.ref b]))):=by
 obtain⟨es,rfl,e,r⟩:=h
 have hDb:D≠b:=fun z=>by
  have:=r.lst
  rw[z,hb]at this
  cases this
 have hbn:b∉es:=fun hm=>by
  obtain⟨j,hj⟩:=List.getElem?_of_mem hm
  have:=r.at_ j b hj
  rw[hb]at this
  cases this
 have hb0:H0 b=none:=r.same.free hb
 refine⟨by rw[ak hDb];exact r.lst,es++[b],by simp,by simp[e],(r.same.put hb0).put r.Dn,?_,?_,fun c hc=>?_,r.Dn,by rw[ag];simp,fun j c hc=>?_⟩
 ·exact List.nodup_append.mpr ⟨r.nd,by simp,fun x hx y hy=>by rw[List.mem_singleton.mp hy];exact fun z=>hbn (z▸hx)⟩
 ·intro hm
  rcases List.mem_append.mp hm with z|z
  ·exact r.ne z
  ·exact hDb (List.mem_singleton.mp z)
 ·rcases List.mem_append.mp hc with z|z
  ·exact r.fr c z
  ·rw[List.mem_singleton.mp z]
   exact hb0
 ·have hcm:=List.mem_of_getElem? hc
  have hcD:c≠D:=fun z=>by
   rcases List.mem_append.mp hcm with y|y
   ·exact r.ne (z▸y)
   ·exact hDb (z▸(List.mem_singleton.mp y))
  rw[ak hcD]
  rcases Nat.lt_or_ge j es.length with hj|hj
  ·rw[List.getElem?_append_left hj]at hc
   have:c≠b:=fun z=>hbn (z▸List.mem_of_getElem? hc)
   rw[ak this]
   exact r.at_ j c hc
  ·rcases List.mem_append.mp hcm with y|y
   ·have hx:(es++[b])[j]?=some c:=hc
    rw[List.getElem?_append_right hj]at hx
    have:c=b:=by
     have:=List.mem_of_getElem? hx
     exact List.mem_singleton.mp this
    rw[this,ag]
    rfl
   ·rw[List.mem_singleton.mp y,ag]
    rfl
theorem lC{H:Hp}{xs:List V}{p:Nat}{ts:List Tie}{g:GoodWeb p ts}{k:Nat}(h3:Paired (jq H) xs ts)(hk:k<ts.length):∃ c,xs[k]?=some (.ref c)∧H c=some (.tup [.int (((ad p ts g).a k:Nat):Int),.int (((ad p ts g).b k:Nat):Int),.int (bc ts k).2.2]):=by
 have hkx:k<xs.length:=by rw[h3.length];exact hk
 obtain⟨t,ht,c,hc,hct⟩:=Paired.getP h3 (i:=k) (x:=xs[k]) (by simp[hkx])
 have htt:t=bc ts k:=by
  have z:=jT hk
  rw[ht]at z
  exact Option.some.inj z
 refine⟨c,by rw[← hc];simp[hkx],?_⟩
 rw[hct,← tM hk,← tw hk,htt]
 rfl
theorem oJ{m:Nat}(h:m≠0):∃ c,(aB (m:Int))[0]?=some c∧m.testBit c=true:=by
 obtain⟨k,hk⟩:=Nat.exists_testBit_of_ne_zero h
 have hm:k∈aB (m:Int):=by
  unfold aB
  refine List.mem_filter.mpr ⟨List.mem_range.mpr (Nat.lt_of_not_le fun z=>?_),by rw[dS];exact hk⟩
  have:=lN z
  rw[dS,hk]at this
  cases this
 cases e:aB (m:Int) with
 | nil =>
   rw[e]at hm
   cases hm
 | cons c r =>
   have hc:c∈aB (m:Int):=by rw[e];exact List.mem_cons_self
   unfold aB at hc
   have:=(List.mem_filter.mp hc).2
   rw[dS]at this
   exact⟨c,rfl,this⟩
section
variable {α:Type}{f:α→Int}{l:List α}{H H2 H3:Hp}{D:Addr}{i:Nat}{k:α}{acc:List V}{v:V}
end
end Ring
namespace RM
variable {N:Net}{row:Nat→Int}
end RM
namespace Ring
open PySem L2
section
variable {H H2 H3:Hp}{D:Addr}{i:Nat}{acc:List V}
end
end Ring
namespace RM
variable {N:Net}{row:Nat→Int}
end RM
namespace RM
variable {N:Net}{row row' : Nat→Int}
theorem uV{m t0:Nat}(hm:m<2^N.n)(r:N.Ring m)(hb:m.testBit t0=true):∃ acc v,Wk N m t0 acc v 0:=by
 have key:∀(k:Nat) (acc:List (Nat×Int)) (v left:Nat),Wk N m t0 acc v left→cnt (fun j=>left.testBit j) N.n=k→∃ acc v,Wk N m t0 acc v 0:=by
  intro k
  induction k with
  | zero =>
    intro acc v left h e
    have hl:=ma hm hb h
    rw[e]at hl
    have h0:=(tT hm hb h).mp hl
    subst h0
    exact⟨acc,v,h⟩
  | succ k ih =>
    intro acc v left h e
    by_cases h0:left=0
    ·subst h0
     exact⟨acc,v,h⟩
    ·obtain⟨t,ht⟩:=aaH hm r hb h h0
     have h':=Wk.next h h0 ht
     have l1:=ma hm hb h
     have l2:=ma hm hb h'
     rw[List.length_append]at l2
     refine ih _ _ _ h' ?_
     have e1:[((t:Nat),(if N.a t=v then(1:Int) else -1))].length=1:=rfl
     omega
 exact key _ _ _ _ .start rfl
variable {N' : Net}
end RM
namespace RM
variable {N:Net}{m t0:Nat}
end RM
namespace RM
variable {N N' : Net}
end RM
namespace Ring
open PySem L2
end Ring
namespace RM
variable {N:Net}
end RM
namespace RM
variable {N:Net}
section
variable {even left v:Nat}{pre ks:List Nat}
end
section
variable {m left:Nat}{rs:List Nat}
end
end RM
namespace RM
open Ring (xT uC cF)
variable {N:Net}
theorem vf{c:Nat}(hc:c<N.n)(hf:N.inF c=false):N.Ring (N.ring c):=by
 refine⟨fun z=>?_,iK hc,fun q hq ev=>?_⟩
 ·have h:=rE hf
  rw[z]at h
  simp at h
 ·have hqn:q<2^N.n:=cJ fun k hk=>bS (pV hc) (hq k hk)
  cases qc:q.testBit c with
  | true =>
    refine .inr (wm hqn (pV hc) ev (iK hc) fun d hd hfd=>?_)
    rw[lz hf hfd]
    by_cases e:c=d
    ·subst e
     simp[qc]
    ·rw[decide_eq_false e]
     cases qd:q.testBit d with
     | false=>rfl
     | true =>
       have:=hq d qd
       rw[lz hf hfd,decide_eq_false e]at this
       cases this
  | false =>
    refine .inl (eY (fun k hk=>?_) ev)
    rcases iD (hq k hk) with e|e
    ·subst e
     rw[qc]at hk
     cases hk
    ·exact e
end RM
namespace L2
open PySem PySem.Spec PyProof.Rows
section
variable {X:Cx}
theorem tf:∀{bs:List Bool} {its:List Value},aR (bs.map V.bl) its→its=bs.map Value.bool
 | [],_,.nil=>rfl
 | b::bs,_,.cons r rr=>by
   cases r
   rw[tf rr]
   rfl
theorem rT:∀ bs:List Bool,((List.range bs.length).all fun i=>(bs[i]?).getD true)=bs.all id:=fun bs=>by
 rw[Bool.eq_iff_iff,List.all_eq_true,List.all_eq_true]
 constructor
 ·intro h b hb
  obtain⟨i,hi,e⟩:=List.getElem_of_mem hb
  have:=h i (List.mem_range.mpr hi)
  rw[List.getElem?_eq_getElem hi,e]at this
  exact this
 ·intro h i hi
  have hi:=List.mem_range.mp hi
  rw[List.getElem?_eq_getElem hi]
  exact h _ (List.getElem_mem hi)
theorem aaW(K:PySem.W.Frag)(hc:X.calm=true)(hK:X.K=K:=by rfl):dF X (.builtin "all") (fun xs H Q=>∃(p:Addr) (bs:List Bool),xs=[.ref p]∧SqL K H p (bs.map V.bl)∧Q (.bl (bs.all id)) H):=by
 subst hK
 intro pins s σ H xs us Q I r h
 obtain⟨p,bs,rfl,hq,q⟩:=h
 obtain⟨u,rfl,rx⟩:=gn r
 cases rx
 obtain⟨its,rv,pl,hz⟩:=I.list hq
 obtain rfl:=tf rv
 have lt:p<s.heap.objs.size:=by obtain⟨_,e,_⟩:=pl.isList;exact Heap.lt_size e
 refine call_all_walk (wpAny_pyIter_list pl.isList ⟨_,[_,p],[_],_,_,_,fun i=>(bs[i]?).getD true,rfl,Walks.list (A:=X.A.in1) (I.ok.hd hc) _ p (Nat.ne_of_lt lt) _,
  ⟨⟨_,Heap.get?_push_size _ rfl,rfl,rfl⟩,pl.isList.push _⟩,fun i v s' Q' E' hP hQ=>?_,fun h' tk hk=>?_⟩)
 ·have hP:(bs.map Value.bool)[i]?=some v:=by simpa using hP
  rw[List.getElem?_map]at hP
  obtain⟨b,e,rfl⟩:=Option.map_eq_some_iff.mp hP
  simp only[e,Option.getD_some]at hQ
  exact wpAny_truthy_bool hQ
 ·have z:(bs.map Value.bool).toArray.size=bs.length:=by simp
  rw[z,rT]
  refine⟨.bl _,H,I.kept fun b o e=>hk b o (fun hm=>?_) (Heap.get?_push_of_some _ e),rfl,q⟩
  rw[List.mem_singleton.mp hm]at e
  exact Nat.lt_irrefl _ (Heap.lt_size e)
end
section
variable {X:Cx}{tg:Expr}
end
section
variable {X:Cx}
end
end L2
namespace RM
def cE(L:Nat→Int)(f:Nat→Bool):Nat→Int
 | 0=>0
 | n+1=>cE L f n+(if f n=true then L n else 0)
section
variable {L:Nat→Int}
theorem jl{f g:Nat→Bool}:∀{n:Nat},(∀ k,k<n→f k=g k)→cE L f n=cE L g n
 | 0,_=>rfl
 | n+1,h=>by
   unfold cE
   rw[jl fun k hk=>h k (by omega),h n (by omega)]
theorem jY{f:Nat→Bool}:∀{n:Nat},(∀ k,k<n→f k=false)→cE L f n=0
 | 0,_=>rfl
 | n+1,h=>by
   unfold cE
   rw[jY fun k hk=>h k (by omega),h n (by omega)]
   simp
theorem qr{f:Nat→Bool}{a:Nat}:∀{n:Nat},a<n→(∀ k,k<n→f k=decide (k=a))→cE L f n=L a
 | 0,h,_=>by omega
 | n+1,ha,h=>by
   unfold cE
   by_cases e:a=n
   ·subst e
    rw[jY fun k hk=>by rw[h k (by omega)];exact decide_eq_false (by omega),h a (by omega),decide_eq_true rfl]
    simp
   ·rw[qr (show a<n by omega) fun k hk=>h k (by omega),h n (by omega),decide_eq_false (by omega)]
    simp
theorem iJ{f g:Nat→Bool}:∀{n:Nat},(∀ k,k<n→0≤L k)→(∀ k,k<n→f k=true→g k=true)→cE L f n≤cE L g n
 | 0,_,_=>Int.le_refl _
 | n+1,hL,h=>by
   unfold cE
   have ih:=iJ (n:=n) (fun k hk=>hL k (by omega)) fun k hk=>h k (by omega)
   have h0:=hL n (by omega)
   have hn:=h n (by omega)
   cases hf:f n with
   | false=>cases g n<;>simp<;>omega
   | true=>rw[hn hf];simp;omega
theorem qt{f g:Nat→Bool}:∀{n:Nat},(∀ k,k<n→0≤L k)→cE L (fun k=>f k^^g k) n≤cE L f n+cE L g n
 | 0,_=>Int.le_refl _
 | n+1,hL=>by
   unfold cE
   have ih:=qt (f:=f) (g:=g) (n:=n) fun k hk=>hL k (by omega)
   have h0:=hL n (by omega)
   cases f n<;>cases g n<;>simp<;>omega
theorem lK{f g:Nat→Bool}:∀{n:Nat},(∀ k,k<n→f k=true→g k=false)→cE L (fun k=>f k^^g k) n=cE L f n+cE L g n
 | 0,_=>rfl
 | n+1,h=>by
   unfold cE
   rw[lK (f:=f) (g:=g) (n:=n) fun k hk=>h k (by omega)]
   have hn:=h n (by omega)
   cases hf:f n with
   | false=>cases g n<;>simp<;>omega
   | true=>rw[hn hf];simp;omega
theorem mZ{k n:Nat}(h:k<n):cE L (fun j=>(2^k).testBit j) n=L k:=qr h fun j _=>by
 rw[Nat.testBit_two_pow]
 exact decide_eq_decide.mpr eq_comm
end
theorem je{m n k:Nat}(h:m<2^n)(hb:m.testBit k=true):k<n:=by
 apply Classical.byContradiction
 intro hk
 rw[Nat.testBit_lt_two_pow (Nat.lt_of_lt_of_le h (Nat.pow_le_pow_right (by decide) (by omega)))]at hb
 cases hb
def cd(x:Nat)(s:Bool):Nat:=2*x+s.toNat
def Jn(N:Net)(k v w:Nat):Prop:=(N.a k=v∧N.b k=w)∨(N.b k=v∧N.a k=w)
theorem Jn.lt{N:Net}{k v w:Nat}(hk:k<N.n)(h:Jn N k v w):w<N.p:=by
 rcases h with⟨_,rfl⟩|⟨_,rfl⟩
 ·exact N.bl k hk
 ·exact N.al k hk
inductive Wl(N:Net)(L:Nat→Int)(m u:Nat):List Nat→Nat→Bool→Int→Nat→Prop
 | nil:Wl N L m u [] u false 0 0
 | go {pre:List Nat} {v w k e:Nat} {s:Bool} {z:Int} (h:Wl N L m u pre v s z e) (hk:k<N.n) (hj:Jn N k v w):Wl N L m u (pre++[cd v s]) w (s^^m.testBit k) (z+L k) (e^^^2^k)
def Wy(N:Net)(L:Nat→Int)(m u x:Nat)(s:Bool)(z:Int):Prop:=∃ pre e,Wl N L m u pre x s z e
section
variable {N:Net}{L:Nat→Int}{m u:Nat}
theorem Wy.nil:Wy N L m u u false 0:=⟨_,_,.nil⟩
theorem Wy.go{v w k:Nat}{s:Bool}{z:Int}(h:Wy N L m u v s z)(hk:k<N.n)(hj:Jn N k v w):Wy N L m u w (s^^m.testBit k) (z+L k):=let⟨_,_,h⟩:=h;⟨_,_,h.go hk hj⟩
theorem gr(hL:∀ k,k<N.n→0≤L k)(hu:u<N.p){pre:List Nat}{v e:Nat}{s:Bool}{z:Int}(h:Wl N L m u pre v s z e):
 v<N.p∧e<2^N.n∧(∀ x,N.bd e x=(decide (u=x)^^decide (v=x)))∧N.par e m=s∧cE L (fun k=>e.testBit k) N.n≤z∧0≤z:=by
 induction h with
 | nil =>
   refine⟨hu,Nat.two_pow_pos _,fun x=>?_,nh m,?_,Int.le_refl _⟩
   ·rw[jv]
    cases decide (u=x)<;>rfl
   ·rw[jY fun k _=>Nat.zero_testBit k]
    exact Int.le_refl _
 | @go pre v w k e s z h hk hj ih =>
   obtain⟨i1,i2,i3,i4,i5,i6⟩:=ih
   have h0:=hL k hk
   refine⟨hj.lt hk,Nat.xor_lt_two_pow i2 (Nat.pow_lt_pow_right (by decide) hk),fun x=>?_,?_,?_,by omega⟩
   ·rw[dO,i3,fY hk]
    unfold Net.inc
    rcases hj with⟨rfl,rfl⟩|⟨rfl,rfl⟩
    ·cases decide (u=x)<;>cases decide (N.a k=x)<;>cases decide (N.b k=x)<;>rfl
    ·cases decide (u=x)<;>cases decide (N.a k=x)<;>cases decide (N.b k=x)<;>rfl
   ·rw[kY,i4,ud hk]
   ·have:=qt (L:=L) (f:=fun j=>e.testBit j) (g:=fun j=>(2^k).testBit j) hL
    rw[mZ hk]at this
    rw[jl (g:=fun j=>e.testBit j^^(2^k).testBit j) fun j _=>Nat.testBit_xor ..]
    omega
def m9(N:Net)(L:Nat→Int)(m u x:Nat)(s:Bool):Option Int→Prop
 | none=>∀ z,¬ Wy N L m u x s z
 | some d=>Wy N L m u x s d∧∀ z,Wy N L m u x s z→d≤z
theorem m9.uniq{x:Nat}{s:Bool}{o o' : Option Int}(h:m9 N L m u x s o)(h' : m9 N L m u x s o'):o=o':=by
 cases o with
 | none=>cases o' with
   | none=>rfl
   | some d=>exact absurd h'.1 (h d)
 | some d=>cases o' with
   | none=>exact absurd h.1 (h' d)
   | some d' =>
     have h1:=h.2 _ h'.1
     have h2:=h'.2 _ h.1
     rw[show d=d' by omega]
theorem Wy.nonneg(hL:∀ k,k<N.n→0≤L k)(hu:u<N.p){x:Nat}{s:Bool}{z:Int}(h:Wy N L m u x s z):0≤z:=let⟨_,_,h⟩:=h;(gr hL hu h).2.2.2.2.2
theorem wL(hL:∀ k,k<N.n→0≤L k)(hu:u<N.p){o:Option Int}(h:m9 N L m u u false o):o=some 0:=h.uniq ⟨.nil,fun _ hz=>hz.nonneg hL hu⟩
theorem vm(_hL:∀ k,k<N.n→0≤L k){k:Nat}{s:Bool}{o o' : Option Int}(hk:k<N.n)(h:m9 N L m u (N.a k) s o)(h' : m9 N L m u (N.b k) (s^^m.testBit k) o'):Ring.lQ o o' (L k)=true:=by
 have fore:∀{z},Wy N L m u (N.a k) s z→Wy N L m u (N.b k) (s^^m.testBit k) (z+L k):=fun hz=>hz.go hk (.inl ⟨rfl,rfl⟩)
 have back:∀{z},Wy N L m u (N.b k) (s^^m.testBit k) z→Wy N L m u (N.a k) s (z+L k):=fun hz=>by
  have:=hz.go hk (.inr ⟨rfl,rfl⟩)
  rwa [Bool.xor_assoc,Bool.xor_self,Bool.xor_false]at this
 cases o with
 | none=>cases o' with
   | none=>rfl
   | some d=>exact absurd (back h'.1) (h _)
 | some d=>cases o' with
   | none=>exact absurd (fore h.1) (h' _)
   | some d' =>
     have h1:=h'.2 _ (fore h.1)
     have h2:=h.2 _ (back h'.1)
     unfold Ring.lQ
     rw[decide_eq_true_eq]
     split<;>omega
theorem mW(hL:∀ k,k<N.n→0≤L k)(m:Nat){r:Nat}(hr:N.Ring r)(hm:r<2^N.n):∃ x,x<N.p∧Wy N L m x x (N.par r m) (cE L (fun k=>r.testBit k) N.n):=by
 obtain⟨t0,hb⟩:∃ t0,r.testBit t0=true:=by
  apply Classical.byContradiction
  intro h
  exact hr.1 (Nat.eq_of_testBit_eq fun i=>by
   rw[Nat.zero_testBit]
   cases e:r.testBit i with
   | false=>rfl
   | true=>exact absurd ⟨i,e⟩ h)
 have ht0:t0<N.n:=je hm hb
 obtain⟨acc,v,w⟩:=uV hm hr hb
 have key:∀{acc v left},Wk N r t0 acc v left→(∀ k,left.testBit k=true→r.testBit k=true)∧∃ pre s,Wl N L m (N.a t0) pre v s (cE L (fun k=>(r^^^left).testBit k) N.n) (r^^^left):=by
  intro acc v left w
  induction w with
  | start =>
    have e:r^^^(r^^^2^t0)=2^t0:=by rw[← Nat.xor_assoc,Nat.xor_self,Nat.zero_xor]
    refine⟨fun k hk=>?_,[]++[cd (N.a t0) false],false^^m.testBit t0,?_⟩
    ·rw[Nat.testBit_xor,Nat.testBit_two_pow]at hk
     by_cases e:t0=k
     ·rw[← e];exact hb
     ·rw[decide_eq_false e,Bool.xor_false]at hk
      exact hk
    ·rw[e,mZ ht0]
     have:=Wl.go (m:=m) (L:=L) (.nil (u:=N.a t0)) ht0 (.inl ⟨rfl,rfl⟩)
     rwa [Int.zero_add,Nat.zero_xor]at this
  | @next acc v left t w h0 ht ih =>
    obtain⟨sub,pre,s,wl⟩:=ih
    have hm2:=aH.mp (List.mem_of_getElem? ht)
    have htr:=sub t hm2.2.1
    have htn:=je hm htr
    refine⟨fun k hk=>?_,pre++[cd v s],s^^m.testBit t,?_⟩
    ·rw[Nat.testBit_xor,Nat.testBit_two_pow]at hk
     by_cases e:t=k
     ·rw[← e];exact htr
     ·rw[decide_eq_false e,Bool.xor_false]at hk
      exact sub k hk
    ·have e:r^^^(left^^^2^t)=r^^^left^^^2^t:=by rw[Nat.xor_assoc]
     have hs:cE L (fun k=>(r^^^left^^^2^t).testBit k) N.n=cE L (fun k=>(r^^^left).testBit k) N.n+L t:=by
      rw[jl (g:=fun j=>(r^^^left).testBit j^^(2^t).testBit j) fun j _=>Nat.testBit_xor ..,lK,mZ htn]
      intro k _ hk
      rw[Nat.testBit_two_pow]
      refine decide_eq_false fun e=>?_
      subst e
      rw[Nat.testBit_xor,htr,hm2.2.1]at hk
      cases hk
     rw[e,hs]
     exact wl.go htn (jO hm2.2.2)
 obtain⟨_,pre,s,wl⟩:=key w
 rw[Nat.xor_zero]at wl
 have f:=gr hL (N.al t0 ht0) wl
 have hv:N.a t0=v:=by
  have:=f.2.2.1 v
  rw[hr.2.1 v f.1,decide_eq_true (rfl:v=v)]at this
  cases h:decide (N.a t0=v) with
  | true=>exact of_decide_eq_true h
  | false=>rw[h]at this;cases this
 refine⟨N.a t0,N.al t0 ht0,pre,r,?_⟩
 have hs:=f.2.2.2.1
 rw[hs]
 rw[← hv]at wl
 exact wl
theorem lF{m:Nat}:∀(c e:Nat),cnt (fun k=>e.testBit k) N.n=c→e<2^N.n→N.Even e→N.par e m=true→∃ r,N.Ring r∧(∀ k,r.testBit k=true→e.testBit k=true)∧N.par r m=true:=by
 intro c
 induction c using Nat.strongRecOn with
 | _ c ih =>
   intro e hc he ev hp
   by_cases hr:N.Ring e
   ·exact⟨e,hr,fun _ h=>h,hp⟩
   have h0:e≠0:=fun z=>by rw[z,nh]at hp;cases hp
   obtain⟨q,hq,evq,q0,qe⟩:∃ q,(∀ k,q.testBit k=true→e.testBit k=true)∧N.Even q∧q≠0∧q≠e:=by
    apply Classical.byContradiction
    intro h
    refine hr ⟨h0,ev,fun q hq evq=>?_⟩
    apply Classical.byContradiction
    intro h2
    exact h ⟨q,hq,evq,fun z=>h2 (.inl z),fun z=>h2 (.inr z)⟩
   have small:∀ q,(∀ k,q.testBit k=true→e.testBit k=true)→q≠e→cnt (fun k=>q.testBit k) N.n<c:=by
    intro q hq qe
    have h1:=xu (f:=fun k=>q.testBit k) (g:=fun k=>e.testBit k) (n:=N.n) fun k _ h=>hq k h
    have h2:cnt (fun k=>q.testBit k) N.n≠cnt (fun k=>e.testBit k) N.n:=fun h=>qe (Nat.eq_of_testBit_eq fun k=>by
     by_cases hk:k<N.n
     ·have:=rm (f:=fun k=>q.testBit k) (g:=fun k=>e.testBit k) (fun k _ h=>hq k h) h k hk
      cases h3:e.testBit k with
      | true=>exact this h3
      | false=>cases h4:q.testBit k with
        | false=>rfl
        | true=>rw[hq k h4]at h3;cases h3
     ·cases h3:e.testBit k with
      | true=>exact absurd (je he h3) hk
      | false=>cases h4:q.testBit k with
        | false=>rfl
        | true=>rw[hq k h4]at h3;cases h3)
    omega
   have lt:∀ q,(∀ k,q.testBit k=true→e.testBit k=true)→q<2^N.n:=fun q hq=>cJ fun k hk=>je he (hq k hk)
   have hq2:∀ k,(e^^^q).testBit k=true→e.testBit k=true:=fun k hk=>by
    rw[Nat.testBit_xor]at hk
    cases h3:e.testBit k with
    | true=>rfl
    | false =>
      cases h4:q.testBit k with
      | false=>rw[h3,h4]at hk;cases hk
      | true=>rw[hq k h4]at h3;cases h3
   have fin:∀ q,(∀ k,q.testBit k=true→e.testBit k=true)→q≠e→N.Even q→N.par q m=true→∃ r,N.Ring r∧(∀ k,r.testBit k=true→e.testBit k=true)∧N.par r m=true:=by
    intro q hq qe evq hpq
    obtain⟨r,h1,h2,h3⟩:=ih _ (small q hq qe) q rfl (lt q hq) evq hpq
    exact⟨r,h1,fun k hk=>hq k (h2 k hk),h3⟩
   cases hpq:N.par q m with
   | true=>exact fin q hq qe evq hpq
   | false =>
     refine fin (e^^^q) hq2 (fun z=>q0 ?_) (Even.xor ev evq) (by rw[kY,hp,hpq];rfl)
     have:e^^^(e^^^q)=e^^^e:=by rw[z]
     rwa [← Nat.xor_assoc,Nat.xor_self,Nat.zero_xor]at this
theorem xx(hL:∀ k,k<N.n→0≤L k)(hu:u<N.p){z:Int}(h:Wy N L m u u true z):∃ r,N.Ring r∧r<2^N.n∧N.par r m=true∧cE L (fun k=>r.testBit k) N.n≤z:=by
 obtain⟨pre,e,h⟩:=h
 obtain⟨_,h2,h3,h4,h5,_⟩:=gr hL hu h
 obtain⟨r,r1,r2,r3⟩:=lF _ e rfl h2 (fun x _=>by rw[h3,Bool.xor_self]) h4
 refine⟨r,r1,cJ fun k hk=>je h2 (r2 k hk),r3,?_⟩
 have:=iJ (L:=L) (f:=fun k=>r.testBit k) (g:=fun k=>e.testBit k) hL fun k _ hk=>r2 k hk
 omega
end
end RM
namespace Ring
open PySem L2
def bg(ts:List Tie)(k:Nat):Int:=(bc ts k).2.2
theorem oQ(ts:List Tie)(f:Nat→Bool):∀ n,ve ts f n=RM.cE (bg ts) f n
 | 0=>rfl
 | n+1=>by
   show ve ts f n+_=RM.cE (bg ts) f n+_
   rw[oQ ts f n]
   rfl
theorem r9{ts:List Tie}{m:Nat}(hm:m<2^ts.length):rB ts m=RM.cE (bg ts) (fun k=>m.testBit k) ts.length:=by
 rw[vc hm,oQ]
theorem gx{p:Nat}{ts:List Tie}(g:GoodWeb p ts):∀ k,k<(ad p ts g).n→0≤bg ts k:=fun k hk=>by
 have:=(g.ties _ (db hk)).l0
 unfold bg
 omega
structure FarV(H0:Hp)(D:Addr)(es:List Addr)(F:Nat→Bool→Option Int)(H:Hp):Prop where
 same:am H0 H
 nd:es.Nodup
 ne:D∉es
 fr:∀ b∈es,H0 b=none
 Dn:H0 D=none
 lst:H D=some (.lst (es.map V.ref))
 at_:∀ i b,es[i]?=some b→H b=some (.lst [oV (F i false),oV (F i true)])
theorem FarV.go{H0 H H' : Hp}{D:Addr}{es:List Addr}{F:Nat→Bool→Option Int}(h:FarV H0 D es F H)(s:am H H'):FarV H0 D es F H' :=
 ⟨h.same.trans s,h.nd,h.ne,h.fr,h.Dn,s _ _ h.lst,fun i b e=>s _ _ (h.at_ i b e)⟩
theorem FarV.off{H0 H:Hp}{D L:Addr}{es:List Addr}{F:Nat→Bool→Option Int}(h:FarV H0 D es F H)(hL:H L=none):L∉es:=fun z=>by
 obtain⟨j,hj⟩:=List.getElem?_of_mem z
 have:=h.at_ j L hj
 rw[hL]at this
 cases this
def qY(H0:Hp)(D:Addr)(i:Nat)(acc:List V)(H:Hp):Prop:=∃ es,acc=es.map V.ref∧es.length=i∧FarV H0 D es (fun _ _=>none) H
theorem qY.start{H0:Hp}{D:Addr}(hD:H0 D=none):qY H0 D 0 [] (upd H0 D (.lst [])) :=
 ⟨[],rfl,rfl,am.new hD,List.nodup_nil,List.not_mem_nil,fun _ h=>(List.not_mem_nil h).elim,hD,ag,fun i b e=>by cases e⟩
theorem qY.len{H0 H:Hp}{D:Addr}{i:Nat}{acc:List V}(h:qY H0 D i acc H):H D=some (.lst acc)∧acc.length≤i:=by
 obtain⟨es,rfl,e,r⟩:=h
 exact⟨r.lst,by rw[List.length_map];omega⟩
theorem qY.next{H0 H:Hp}{D b:Addr}{i:Nat}{acc:List V}(h:qY H0 D i acc H)(hb:H b=none):upd H b (.lst [.non,.non]) D=some (.lst acc)∧qY H0 D (i+1) (acc++[.ref b]) (upd (upd H b (.lst [.non,.non])) D (.lst (acc++[.ref b]))):=by
 obtain⟨es,rfl,e,r⟩:=h
 have hDb:D≠b:=fun z=>by
  have:=r.lst
  rw[z,hb]at this
  cases this
 have hbn:b∉es:=r.off hb
 have hb0:H0 b=none:=r.same.free hb
 refine⟨by rw[ak hDb];exact r.lst,es++[b],by simp,by simp[e],(r.same.put hb0).put r.Dn,?_,?_,fun c hc=>?_,r.Dn,by rw[ag];simp,fun j c hc=>?_⟩
 ·exact List.nodup_append.mpr ⟨r.nd,by simp,fun x hx y hy=>by rw[List.mem_singleton.mp hy];exact fun z=>hbn (z▸hx)⟩
 ·intro hm
  rcases List.mem_append.mp hm with z|z
  ·exact r.ne z
  ·exact hDb (List.mem_singleton.mp z)
 ·rcases List.mem_append.mp hc with z|z
  ·exact r.fr c z
  ·rw[List.mem_singleton.mp z]
   exact hb0
 ·have hcD:c≠D:=fun z=>by
   subst z
   rcases List.mem_append.mp (List.mem_of_getElem? hc) with z|z
   ·exact r.ne z
   ·exact hDb (List.mem_singleton.mp z)
  rw[ak hcD]
  by_cases ec:c=b
  ·rw[ec,ag]
   rfl
  ·rw[ak ec]
   by_cases hj:j<es.length
   ·rw[List.getElem?_append_left hj]at hc
    exact r.at_ j c hc
   ·rw[List.getElem?_append_right (by omega)]at hc
    have:=List.mem_of_getElem? hc
    exact absurd (List.mem_singleton.mp this) ec
def ig(F:Nat→Bool→Option Int)(p:Nat):List Pr:=(List.range p).map fun i=>(F i false,F i true)
theorem ze{F:Nat→Bool→Option Int}{p x:Nat}(h:x<p)(s:Bool):sel (cH (ig F p) x) s=F x s:=by
 unfold cH ig
 rw[List.getD_eq_getElem?_getD,List.getElem?_map,List.getElem?_range h]
 cases s<;>rfl
theorem xq(F:Nat→Bool→Option Int)(i:Nat):ig F (i+1)=ig F i++[(F i false,F i true)]:=by
 unfold ig
 rw[List.range_succ,List.map_append]
 rfl
theorem tD(F:Nat→Bool→Option Int)(i:Nat):(ig F i).length=i:=by
 unfold ig
 rw[List.length_map,List.length_range]
end Ring
namespace RM
variable {N:Net}{L:Nat→Int}{m u:Nat}
end RM
namespace Ring
open PySem L2
theorem wJ(R:List Pr)(t:Tie)(u:Bool):rk R t u=true↔∀ sb:Bool,lQ (sel (cH R t.1.toNat) sb) (sel (cH R t.2.1.toNat) (sb^^u)) t.2.2=true:=by
 unfold rk
 rw[Bool.and_eq_true]
 constructor
 ·rintro⟨h1,h2⟩ sb
  cases sb with
  | false=>rw[Bool.false_xor];exact h1
  | true=>rw[Bool.true_xor];exact h2
 ·intro h
  have h1:=h false
  have h2:=h true
  rw[Bool.false_xor]at h1
  rw[Bool.true_xor]at h2
  exact⟨h1,h2⟩
variable {p:Nat}{ts:List Tie}{g:GoodWeb p ts}{m:Nat}{W:List (List Pr)}
def n4(p:Nat)(ts:List Tie)(g:GoodWeb p ts)(m:Nat)(W:List (List Pr)):Prop:=∀ i,i<p→∀ x s,x<p→RM.m9 (ad p ts g) (bg ts) m i x s (sel (cH (W.getD i []) x) s)
theorem n4.stands(h:n4 p ts g m W):pz p ts m W:=fun i hi=>by
 refine⟨RM.wL (gx g) (show i<(ad p ts g).p from hi) (h i hi i false hi),fun k hk=>?_⟩
 rw[wJ]
 exact fun s=>RM.vm (gx g) (show k<(ad p ts g).n from hk) (h i hi _ s ((ad p ts g).al k hk)) (h i hi _ _ ((ad p ts g).bl k hk))
theorem uI(h:n4 p ts g m W){l:Int}(hl:∀ r,r<2^ts.length→(ad p ts g).Ring r→(ad p ts g).par r m=true→l≤RM.cE (bg ts) (fun k=>r.testBit k) ts.length):∀ i,i<p→∀ d,(cH (W.getD i []) i).2=some d→l≤d:=by
 intro i hi d hd
 have b:=h i hi i true hi
 have e:sel (cH (W.getD i []) i) true=some d:=hd
 rw[e]at b
 obtain⟨r,r1,r2,r3,r4⟩:=RM.xx (gx g) (show i<(ad p ts g).p from hi) b.1
 exact Int.le_trans (hl r r2 r1 r3) r4
theorem yr{r:Nat}(hm:m<2^ts.length):(aB ((r&&&m:Nat):Int)).length%2=1↔(ad p ts g).par r m=true:=by
 rw[← tS (g:=g) hm,decide_eq_true_iff]
end Ring
namespace L2
open PySem PySem.Spec PyProof.Rows
def eK(q:Str)(pos:Pos):Array Value:=#[.str q 0,rawInt pos.line,rawInt pos.col]
def ji(pos:Pos)(c:Addr):Array Value:=#[rawInt pos.line,rawInt pos.col,.ref c]
def e7(H:Hp)(P c:Addr)(oc:Obj)(q:Str)(pos:Pos):Hp:=upd (upd H c (.frz oc (.own P))) P (.tbl (eK q pos++ji pos c))
def gA(H:Hp)(P c:Addr)(q:Str)(pos:Pos):Hp:=upd (upd H c (.own P)) P (.tbl (eK q pos))
def g9(oc:Obj)(q:Str):Prop:=∃ vs t,oc.data = .fields vs∧vs[1]?=some (.str q t)
theorem g9.rec{h:Heap}{c:Addr}{oc:Obj}{q:Str}(x:g9 oc q)(e:h.get? c=some oc):h.CodeRec (.ref c) q :=
 let⟨vs,t,e1,e2⟩:=x
 ⟨c,oc,vs,t,rfl,e,e1,e2⟩
theorem zF{P:Program}{w:World}{H:Hp}{h:Heap}{a:Addr}{q:Str}{pos:Pos}(x:aV P w H h a (.tbl (eK q pos))):
 h.get? a=some (PySem.W.tabObj #[])∨∃ c oc,h.get? a=some (PySem.W.tabObj (ji pos c))∧H c=some (.own a)∧h.get? c=some oc∧g9 oc q:=by
 obtain⟨ps,e,f⟩:=x
 rcases f with⟨_,f|⟨c,e1,e2,c',oc,vs,tq,hc,ho,hd,hv⟩⟩|⟨q',l,k,f,z⟩
 ·subst f;exact .inl e
 ·cases hc
  subst e1
  exact .inr ⟨c,oc,e,e2,ho,vs,tq,hd,hv⟩
 ·have:=congrArg Array.size f
  rw[Array.size_append,z]at this
  exact absurd this (by simp[eK])
theorem wH{P:Program}{w:World}{H:Hp}{h:Heap}{a c:Addr}{q:Str}{pos:Pos}(x:aV P w H h a (.tbl (eK q pos++ji pos c))):h.get? a=some (PySem.W.tabObj (ji pos c)):=by
 obtain⟨ps,e,f⟩:=x
 rcases f with⟨f,_⟩|⟨q',l,k,f,z⟩
 ·rw[Array.size_append]at f
  exact absurd f (by simp[eK,ji])
 ·have e2:=congrArg (fun a=>a.toList.drop 3) f
  simp only[Array.toList_append,eK,ji,List.cons_append,List.nil_append,List.drop_succ_cons,List.drop_zero]at e2
  have e3:ps=ji pos c:=by
   apply Array.toList_inj.mp
   exact e2.symm
  rw[← e3]
  exact e
abbrev sW(X:Cx)(params:Arguments)(body:Expr)(scope:Scope)(c:Addr)(ctv:Value):FuncData :=
 PySem.W.kla_fn "<lambda>" (X.env.qual ++ "<lambda>") params body scope (cf X.env.cells scope.names []) ((X.mg "__name__").getD .none) (.ref c) ctv
abbrev ez(X:Cx)(params:Arguments)(body:Expr)(scope:Scope)(c:Addr)(ctv:Value):Obj :=
 { cls:=.type "function",data:=.func (sW X params body scope c ctv)}
section
variable {X:Cx}{pins:List (Addr×Obj)}{σ:St}{H H2:Hp}{s:Shared}{params:Arguments}{body:Expr}{scope:Scope}{pos:Pos}{own frees:List Str}{js:List Nat}{c P:Addr}
theorem vJ{Q:Value→Shared→Prop}{E:Value→Shared→Prop}
 (I:Inv X pins σ H s) (T:CompText X scope own frees js) (hcode:X.env.code = .ref c) (hK:PySem.W.codeHdIn X.K c P=true) (hP:H P=some (.tbl (eK (X.env.qual ++ "<lambda>") pos)))
 (hdef:defaultsOf params X.env=([],[]))
 (h:∀ f c' oc ctv s',(H c' = none∨H c' = some (.own P))→c'≠P→g9 oc (X.env.qual ++ "<lambda>")→Inv X ((f,ez X params body scope c' ctv)::pins) σ (e7 H P c' oc (X.env.qual ++ "<lambda>") pos) s'→Q (.ref f) s') :
 wpAny (model X.prog X.w) X.A (eval (.Lambda params body scope pos) X.env) Q E s:=by
 have hx0:=zF (show aV X.prog X.w H s.heap P (.tbl (eK (X.env.qual ++ "<lambda>") pos)) from I.hok P _ hP)
 have C:PySem.W.CodeHd s.heap c P:=PySem.W.codeHd_of_K I.kIn hK
 have hg:=I.mod.glob.keeps I.bk
 have neP:∀ b o,X.base.get? b=some o→b≠P:=fun b o q z=>by
  have:=(I.bs b o q).2
  rw[z,hP]at this;cases this
 have hgP:mainGlobals≠P:=by
  obtain⟨o,es,ep,q,_⟩:=I.mod.glob
  exact neP _ o q
 have hb:s.heap.BuiltinsAt X.mg P:=by
  obtain⟨bm,ob,b1,b2,b3,b4,b5,b6⟩:=I.mod.bmain
  refine⟨bm,ob,b1,b2,fun z=>?_,neP _ _ b3,I.bk _ _ b3,b4,b5,b6⟩
  obtain⟨o,es,ep,q,hd,_⟩:=I.mod.glob
  rw[z,q]at b3;cases b3;rw[hd]at b6;cases b6
 have hcl:=gH (dw I T)
 have fin:∀(f c' : Addr) (oc:Obj) (ctv:Value) (h2:Heap) (tk:Nat),(H c' = none∨H c' = some (.own P))→c'≠P→(H c' = none→s.heap.objs.size≤c')→g9 oc (X.env.qual ++ "<lambda>")→(∀ b o,b≠P→s.heap.get? b=some o→h2.get? b=some o)→
  h2.get? P=some (PySem.W.tabObj (ji pos c'))→h2.get? c' = some oc→s.heap.objs.size≤f→f≠c'→h2.get? f=some (ez X params body scope c' ctv)→
  Inv X ((f,ez X params body scope c' ctv)::pins) σ (e7 H P c' oc (X.env.qual ++ "<lambda>") pos) { s with heap:=h2,toks:=tk}:=by
  intro f c' oc ctv h2 tk hc hcP hnew hoc hx hPt hct hf hfc hft
  have nP:∀ b,H b=none→b≠P:=fun b n z=>by rw[z,hP]at n;cases n
  have atO:∀ b u,H b=some u→(∀ y,u≠.own y)→(∀ qs,u≠.tbl qs)→e7 H P c' oc (X.env.qual ++ "<lambda>") pos b=some u:=fun b u e n1 n2=>by
   unfold e7
   rw[ak (fun z=>by rw[z,hP]at e;exact n2 _ (Option.some.inj e).symm),ak (fun z=>by
    rw[z]at e
    rcases hc with q|q
    ·rw[q]at e;cases e
    ·rw[q]at e;exact n1 _ (Option.some.inj e).symm)]
   exact e
  have atN:∀ b,H b=none→(b<s.heap.objs.size∨b≠c')→e7 H P c' oc (X.env.qual ++ "<lambda>") pos b=none:=fun b n hb=>by
   unfold e7
   rw[ak (nP b n),ak (fun z=>by
    rcases hb with q|q
    ·rw[z]at q n;exact absurd (hnew n) (Nat.not_le.mpr q)
    ·exact q z)]
   exact n
  have un:Un X.fs [] H (e7 H P c' oc (X.env.qual ++ "<lambda>") pos) s.heap h2:=by
   refine⟨fun b o q n _ _=>hx b o (nP b n) q,fun b o q n _ _=>⟨o.slots,hx b o (nP b n) q⟩,fun b o q n _=>atN b n (.inl (Heap.lt_size q)),fun b o q _=>?_,fun b xs q=>atO b _ q (by intro y z;cases z) (by intro y z;cases z),fun b o u q=>atO b _ q (by intro y z;cases z) (by intro y z;cases z),fun b ps q=>?_⟩
   ·by_cases hb:b=P
    ·exact⟨_,by rw[hb];exact hPt⟩
    ·exact⟨o,hx b o hb q⟩
   ·by_cases hb:b=P
    ·subst hb
     rw[hP]at q;cases q
     exact⟨ji pos c',ag⟩
    ·refine⟨#[],?_⟩
     unfold e7
     rw[ak hb,ak (fun z=>by
      rw[z]at q
      rcases hc with r|r<;>(rw[r]at q;cases q)),q]
     simp
  have hok:HOk X.prog X.w (e7 H P c' oc (X.env.qual ++ "<lambda>") pos) h2:=fun b u q=>by
   by_cases hbP:b=P
   ·subst hbP
    unfold e7 at q
    rw[ag]at q;cases q
    exact⟨_,hPt,.inr ⟨_,_,_,rfl,rfl⟩⟩
   ·by_cases hbc:b=c'
    ·subst hbc
     unfold e7 at q
     rw[ak hbP,ag]at q;cases q
     exact⟨hct,oc,hct⟩
    ·have q' : H b=some u:=by
      unfold e7 at q
      rw[ak hbP,ak hbc]at q
      exact q
     have ow:∀ d,H d=some (.own b)→d≠P∧d≠c':=fun d qd=>⟨aO qd hP (by intro z;cases z),fun z=>by
      rw[z]at qd
      rcases hc with r|r
      ·rw[r]at qd;cases qd
      ·rw[r]at qd;cases qd;exact hbP rfl⟩
     refine(I.hok b u q').stay (fun d v hd qd=>hx d v ?_ qd) (fun d qd=>?_) fun d xs qd=>atO d _ qd (by intro y z;cases z) (by intro y z;cases z)
     ·rcases hd with rfl|hd
      ·exact hbP
      ·exact(ow d hd).1
     ·unfold e7
      rw[ak (ow d qd).1,ak (ow d qd).2]
      exact qd
  have J:=I.un (t':=tk) un hok
  have hfH:H f=none:=I.hok.fresh hf
  refine J.pins_of fun p hp=>?_
  rcases List.mem_cons.mp hp with rfl|hp
  ·exact⟨hft,atN _ hfH (.inr hfc),Nat.ne_of_gt (Nat.lt_of_lt_of_le I.lt hf),I.nofs hf,fun v z=>by cases z⟩
  ·exact J.pin p (List.mem_append_right _ hp)
 refine PySem.W.kla_eval hdef ?_
 rcases hx0 with e|⟨c',oc,e,ho,hct,hoc⟩
 ·refine PySem.W.kla_makeFunction (mg:=X.mg) hcl I.ok.glob hg hcode C e trivial rfl hgP hb fun c' ctv h' tk hx hge hlt hrec htb=>?_
  obtain⟨c2,oc,vs,t,e2,hct,hd,hv⟩:=hrec
  cases e2
  have hf:s.heap.objs.size≤h'.objs.size:=Nat.le_trans hge (Nat.le_of_lt hlt)
  have hcP:c'≠P:=Nat.ne_of_gt (Nat.lt_of_lt_of_le (Heap.lt_size e) hge)
  exact h _ c' oc ctv _ (.inl (I.hok.fresh hge)) hcP ⟨vs,t,hd,hv⟩ (fin _ c' oc ctv _ tk (.inl (I.hok.fresh hge)) hcP (fun _=>hge) ⟨vs,t,hd,hv⟩ (fun b o hb q=>Heap.get?_push_of_some _ (hx b o hb q)) (Heap.get?_push_of_some _ htb) (Heap.get?_push_of_some _ hct) hf (Nat.ne_of_gt hlt) (Heap.get?_push_size _ rfl))
 ·have hf:codeAmong pos (ji pos c').toList=some (.ref c'):=codeAmong_snoc [] trivial rfl
  have tr:TriplesOk (ji pos c').toList:=TriplesOk_snoc pos.line pos.col (.ref c') [] trivial
  refine PySem.W.kla_makeFunctionHit (mg:=X.mg) hcl I.ok.glob hg hcode C e tr hf hb fun ctv h' tk hk hsz=>?_
  have hcP:c'≠P:=aO ho hP (by intro z;cases z)
  have hk' : ∀ b o,s.heap.get? b=some o→(h'.push (ez X params body scope c' ctv)).get? b=some o:=fun b o q=>Heap.get?_push_of_some _ (hk b o q)
  exact h _ c' oc ctv _ (.inr ho) hcP hoc (fin _ c' oc ctv _ tk (.inr ho) hcP (fun z=>by rw[ho]at z;cases z) hoc (fun b o _ q=>hk' b o q) (hk' _ _ e) (hk' _ _ hct) hsz (Nat.ne_of_gt (Nat.lt_of_lt_of_le (Heap.lt_size hct) hsz)) (Heap.get?_push_size _ rfl))
theorem wq{pins0:List (Addr×Obj)}{σ0:St}{s0:Shared}{q:Str}{oc:Obj}(I0:Inv X pins0 σ0 H s0)(hP:H P=some (.tbl (eK q pos)))(hc:H c=none∨H c=some (.own P))(hcP:c≠P)(hoc:g9 oc q)
 (I:Inv X pins σ H2 s) (e1:H2 P=some (.tbl (eK q pos++ji pos c))) (e2:H2 c=some (.frz oc (.own P))):Inv X pins σ (gA H2 P c q pos) s:=by
 have hPt:=wH (show aV X.prog X.w H2 s.heap P (.tbl (eK q pos++ji pos c)) from I.hok P _ e1)
 obtain⟨hct,_⟩:=(show aV X.prog X.w H2 s.heap c (.frz oc (.own P)) from I.hok c _ e2)
 have atN:∀ b,H2 b=none→gA H2 P c q pos b=none:=fun b n=>by
  unfold gA
  rw[ak (fun z=>by rw[z,e1]at n;cases n),ak (fun z=>by rw[z,e2]at n;cases n)]
  exact n
 have atO:∀ b u,b≠P→b≠c→H2 b=some u→gA H2 P c q pos b=some u:=fun b u n1 n2 e=>by
  unfold gA
  rw[ak n1,ak n2]
  exact e
 refine⟨I.ok,I.os,I.bare,⟨I.base.keep,I.base.slot,fun b o z n hx=>atN b (I.base.free b o z n hx),I.base.there,fun b xs z=>?_,fun b o u z=>?_,fun b ps z=>?_⟩,I.loc,I.cell,atN _ I.free,fun x c' z=>atN _ (I.freeC x c' z),fun p hp=>?_,fun b u z=>?_,I.len⟩
 ·have r:=I.base.tups b xs z
  exact atO b _ (aO r e1 (by intro z;cases z)) (aO r e2 (by intro z;cases z)) r
 ·have r:=I.base.frzs b o u z
  refine atO b _ (aO r e1 (by intro z;cases z)) (fun y=>?_) r
  have r0:=I0.base.frzs b o u z
  rw[y]at r0
  rcases hc with hc|hc<;>(rw[hc]at r0;cases r0)
 ·by_cases hb:b=P
  ·subst hb
   obtain⟨more,r0⟩:=I0.base.tbls b ps z
   rw[hP]at r0
   exact⟨more,by unfold gA;rw[ag];exact r0⟩
  ·obtain⟨more,r⟩:=I.base.tbls b ps z
   exact⟨more,atO b _ hb (aO r e2 (by intro z;cases z)) r⟩
 ·obtain⟨a1,a2,a3⟩:=I.pin p hp
  exact⟨a1,atN _ a2,a3⟩
 ·by_cases hbP:b=P
  ·subst hbP
   unfold gA at z
   rw[ag]at z;cases z
   refine⟨_,hPt,.inl ⟨rfl,.inr ⟨c,rfl,?_,hoc.rec hct⟩⟩⟩
   unfold gA
   rw[ak hcP,ag]
  ·by_cases hbc:b=c
   ·subst hbc
    unfold gA at z
    rw[ak hbP,ag]at z;cases z
    exact⟨oc,hct⟩
   ·have z' : H2 b=some u:=by
     unfold gA at z
     rw[ak hbP,ak hbc]at z
     exact z
    refine(I.hok b u z').stay (fun _ _ _ r=>r) (fun d r=>atO d _ (aO r e1 (by intro z;cases z)) (aO r e2 (by intro z;cases z)) r) fun d xs r=>atO d _ (aO r e1 (by intro z;cases z)) (aO r e2 (by intro z;cases z)) r
theorem xh{q:Str}{oc:Obj}(hP:H P=some (.tbl (eK q pos)))(hc:H c=none∨H c=some (.own P))(hcP:c≠P)(S:am (e7 H P c oc q pos) H2):am H (gA H2 P c q pos):=fun b u e=>by
 unfold gA
 by_cases hbP:b=P
 ·subst hbP;rw[ag,← hP];exact e
 ·rw[ak hbP]
  by_cases hbc:b=c
  ·subst hbc
   rw[ag]
   rcases hc with hc|hc
   ·rw[hc]at e;cases e
   ·rw[← hc];exact e
  ·rw[ak hbc]
   refine S b u ?_
   unfold e7
   rw[ak hbP,ak hbc]
   exact e
theorem ub{q:Str}{oc:Obj}{b:Addr}{u:HO}(hP:H P=some (.tbl (eK q pos)))(hc:H c=none∨H c=some (.own P))(e:H b=some u)(n1:∀ y,u≠.own y)(n2:∀ qs,u≠.tbl qs):e7 H P c oc q pos b=some u:=by
 unfold e7
 rw[ak (fun z=>by rw[z,hP]at e;exact n2 _ (Option.some.inj e).symm),ak (fun z=>by
  rw[z]at e
  rcases hc with q|q
  ·rw[q]at e;cases e
  ·rw[q]at e;exact n1 _ (Option.some.inj e).symm)]
 exact e
def rA(X:Cx)(N:List Str)(scope:Scope)(f c:Addr)(A:Around)(s:Shared)(H:Hp):Cx where
 prog:=X.prog
 w:=X.w
 K:=X.K
 mg:=X.mg
 base:=X.base
 A:=A.deeper (PySem.W.envX (X.env.qual ++ "<lambda>") scope s.heap.objs.size f (.ref c) (cf X.env.cells scope.names []))
 N:=N
 s₀:=s
 H₀:=H
 env:=PySem.W.envX (X.env.qual ++ "<lambda>") scope s.heap.objs.size f (.ref c) (cf X.env.cells scope.names [])
 outer:=X.stack
 stack:=PySem.W.envX (X.env.qual ++ "<lambda>") scope s.heap.objs.size f (.ref c) (cf X.env.cells scope.names [])::X.stack
 ex:=[]
 fn:=fun _=>false
 calm:=X.calm
 pn:=[]
 xe:=fun _ _=>False
theorem ym{f:Addr}{A:Around}{x:Str}{v:V}{u:Value}{h1:Heap}{t1:Nat}(I:Inv X pins σ H s)(T:CompText X scope [x] frees js)(hx:scope.names.lookup x=some .local)
 (hfr:A.frames=some X.stack) (hh:A.handled=X.A.handled) (r:aN v u) (old:∀ b o,s.heap.get? b=some o→h1.get? b=some o) (hn:h1.Ns s.heap.objs.size (fun y=>[(x,u)].reverse.lookup y)) :
 Inv (rA X ([x]++frees) scope f c A s H) [] (some v::dv σ js) H { s with heap:=h1,toks:=t1}:=by
 have cells:∀ x c,(cf X.env.cells scope.names []).lookup x=some c→X.env.cells.lookup x=some c:=fun x c h=>by
  rcases fO h with q|⟨q1,q2⟩
  ·cases q
  ·obtain⟨c',hc'⟩:=dw I T x .free q1 rfl
   rw[hc']at q2
   rw[hc']
   exact congrArg some q2
 refine⟨⟨I.ok.mod,T.kind,rfl,rfl,Nat.le_refl _,fun x y c a b=>I.ok.inj x y c (cells x c a) (cells y c b),fun y hy=>?_,fun x c z _=>(nomatch z),fun hc=>hh.trans (I.ok.hd hc),Around.frames_deeper hfr,.inr ⟨rfl,rfl⟩,fun b hb=>absurd (show b∈([]:List Addr) from hb) (by simp),
  fun b o e=>I.bs b o e,Nat.le_trans I.ok.bsz I.sz,fun b o _ hb=>absurd (show b∈([]:List Addr) from hb) (by simp),fun b hb=>absurd (show b∈([]:List Addr) from hb) (by simp),I.stack,I.stkFree⟩,
  rfl,I.bare,Un.kept old,⟨_,hn,fun i y v' e1 e2 e3=>?_⟩,fun y c e=>?_,I.hok.fresh (Nat.le_refl _),fun y c e=>I.freeC y c (cells y c e),fun p hp=>absurd (show p∈([]:List (Addr×Obj)) from hp) (by simp),I.hok.kept old,?_⟩
 ·have hy:scope.names.lookup y=some .cell∨scope.names.lookup y=some .free:=hy
  rcases hy with hy|hy
  ·exact absurd rfl (T.nocell _ (PySem.mem_of_lookup hy))
  ·exact fB (.inl (PySem.mem_of_lookup hy))
 ·replace e1:([x]++frees)[i]?=some y:=e1
  cases i with
  | zero =>
    have e1:x=y:=by simpa using e1
    have e2:v=v':=by simpa using e2
    subst e1 e2
    exact⟨u,r,.inl ⟨hx,by simp⟩⟩
  | succ i =>
    have e1:frees[i]?=some y:=by simpa using e1
    have e2:(dv σ js)[i]?=some (some v'):=by simpa using e2
    obtain⟨j,hj,hσ⟩:=lV e2
    have hN:X.N[j]?=some y:=by
     have q:=congrArg (fun l=>l[i]?) T.at_
     simp only[List.getElem?_map,hj,e1,Option.map_some]at q
     exact Option.some.inj q
    have hfx:=T.fr y (List.mem_of_getElem? e1)
    have hm:=PySem.mem_of_lookup hfx
    have hk:=T.free (y,.free) hm rfl
    obtain⟨m0,hn0,hl0⟩:=I.loc
    obtain⟨u',r',l⟩:=hl0 j y v' hN hσ (by rcases hk with k|k;exact .inr (.inl k);exact .inr (.inr k))
    refine⟨u',r',.inr ⟨.inr hfx,?_⟩⟩
    rcases l with⟨hkl,_⟩|⟨_,c1,hc,hcell⟩
    ·have hkl:X.env.scope.names.lookup y=some .local:=hkl
     rcases hk with k|k<;>(rw[hkl]at k;cases k)
    ·obtain⟨c',hc'⟩:=fB (cells:=X.env.cells) (names:=scope.names) (cs:=[]) (x:=y) (.inl hm)
     have q:=cells y c' hc'
     rw[hc]at q
     cases q
     exact⟨c1,hc',hcell.keeps old⟩
 ·obtain⟨v',q⟩:=I.cell y c (cells y c e)
  exact⟨v',q.keeps old⟩
 ·show _=([x]++frees).length
  have q:=congrArg List.length T.at_
  rw[List.length_map,List.length_map]at q
  simp only[List.length_cons,List.length_append,List.length_nil]
  unfold dv
  rw[List.length_map]
  omega
theorem wR{f:Addr}{ctv:Value}{A:Around}{te:TE}{x:Str}{v:V}{u:Value}{Q:VK}{E:Value→Shared→Prop}(I:Inv X pins σ H s)(T:CompText X scope [x] frees js)(hx:scope.names.lookup x=some .local)
 (hfr:A.frames=some X.stack) (hh:A.handled=X.A.handled) (hroom:A.depth<recursionLimit) (hp:(f,ez X params body scope c ctv)∈pins) (hcd:s.heap.CodeRec (.ref c) (X.env.qual ++ "<lambda>"))
 (hb:bindArgs (sW X params body scope c ctv) ⟨[u],[]⟩=pure [(x,u)]) (hco:scope.isCoroutine=false) (hgen:scope.isGenerator=false)
 (he:PE (rA X ([x]++frees) scope f c A s H) body te) (r:aN v u) (h:te (some v::dv σ js) H Q) :
 wpAny (model X.prog X.w) A (call (.ref f) [u]) (fun u' s'=>∃ v' H',Inv X pins σ H' s'∧aN v' u'∧Q v' H') E s:=by
 have hf:=I.pin _ (List.mem_append_right _ hp)
 refine wpAny_call (PySem.W.kla_callFunE hroom hf.1 rfl hco hgen rfl hcd ?_)
 rw[hb]
 refine wpAny_pure (wpAny_newFunctionEnv (fun y hy=>T.nocell y hy) (by intro y hy;have:=List.mem_singleton.mp hy;subst this;exact hx) (fun h₁ hns hsb=>⟨I.nolimit.fresh _ hsb,?_⟩) T.kind)
 show codeAny _ _ (.expr body (PySem.W.envX (X.env.qual ++ "<lambda>") scope s.heap.objs.size f (.ref c) (cf X.env.cells scope.names []))) _ _
 have old:∀ b o,s.heap.get? b=some o→h₁.get? b=some o:=fun b o e=>hsb.extBut b o (Nat.ne_of_lt (Heap.lt_size e)) (Heap.get?_push_of_some _ e)
 have J:=ym (f:=f) (c:=c) (A:=A) (t1:=s.toks+[(x,u)].length) I T hx hfr hh r old hns
 refine PySem.W.kla_codeExpr (wpAny_mono (he [] _ _ H Q J h) (fun u' s' hq=>?_) fun _ _ z=>z.elim)
 obtain⟨v',H',J',r',q'⟩:=hq
 exact⟨v',H',I.call' (ch:=[]) J'.os J'.base J'.hok J'.bare (fun b z=>absurd z (by simp)),r',q'⟩
end
end L2
namespace HT
theorem dH:∀ a:List Int,bN a a=false
 | []=>rfl
 | x::xs=>by rw[dX,if_pos rfl];exact dH xs
theorem kB:∀{a b c:List Int},bN a b=true→bN b c=true→bN a c=true
 | [],[],_,h,_=>by rw[iZ]at h;cases h
 | [],_::_,[],_,h=>by rw[dC]at h;cases h
 | [],_::_,_::_,_,_=>rfl
 | _::_,[],_,h,_=>by rw[dC]at h;cases h
 | _::_,_::_,[],_,h=>by rw[dC]at h;cases h
 | x::xs,y::ys,z::zs,h1,h2=>by
   rw[dX]at h1 h2 ⊢
   by_cases e1:x=y
   ·rw[if_pos e1]at h1
    by_cases e2:y=z
    ·rw[if_pos e2]at h2
     rw[if_pos (e1.trans e2)]
     exact kB h1 h2
    ·rw[if_neg e2]at h2
     rw[if_neg (fun q=>e2 (e1.symm.trans q)),e1]
     exact h2
   ·rw[if_neg e1]at h1
    have h1:=of_decide_eq_true h1
    by_cases e2:y=z
    ·subst e2
     rw[if_neg e1]
     exact decide_eq_true h1
    ·rw[if_neg e2]at h2
     have h2:=of_decide_eq_true h2
     rw[if_neg (by omega)]
     exact decide_eq_true (by omega)
theorem mB{a b c:List Int}(h1:bN c b=false)(h2:bN a b=true):bN c a=false:=by
 cases q:bN c a with
 | false=>rfl
 | true=>rw[kB q h2]at h1;cases h1
end HT
namespace L2
open PySem PySem.Spec PyProof.Rows
def DIs(h:Heap)(a:Addr)(es:Array DictEntry)(ep:Nat):Prop:=∃ o,h.get? a=some o∧o.ExactDict∧o.data = .dict es ep
def KIt(o:Obj)(a:Addr)(i n ep:Nat):Prop:=o.cls = .type "dict_keyiterator"∧o.data = .fields #[.ref a,.int i 0,.int n 0,.int ep 0]
section
variable {P:Program}{w:World}{A:Around}{E:Value→Shared→Prop}{s:Shared}{a it:Addr}{es:Array DictEntry}{ep i:Nat}{oi:Obj}
theorem vn{Q:Value→Shared→Prop}(hs:(a==sysModules)=false)(g:DIs s.heap a es ep)
 (q:Q (.ref s.heap.objs.size) { s with heap:=s.heap.push { cls:=.type "dict_keyiterator",data:=.fields #[.ref a,.int 0 0,.int es.size 0,.int ep 0]}}):wpAny (model P w) A (pyIter (.ref a)) Q E s:=by
 obtain⟨o,ho,hc,hd⟩:=g
 have hT:s.TypeIs (.ref a) "dict":=⟨o,ho,hc.1⟩
 refine wpAny_pyIter_slot hT PySem.F.slot_dict_iter (wpAny_call_entry PySem.F.slot_dict_iter hT PySem.F.entry_dict_iter ?_ (PySem.F.args_dict_iter_1 _))
 unfold Builtin.«dict.__iter__» Builtin.Dict.dictSlotNone
 refine wpAny_bind (wpAny_bind (wpAny_notOrdered_dict hT ?_))
 show wpAny _ _ (pure (Value.ref a)) _ _ s
 refine wpAny_pure ?_
 show wpAny _ _ (Builtin.Dict.showsAll a >>= _) _ _ s
 unfold Builtin.Dict.showsAll
 rw[hs]
 refine wpAny_bind (wpAny_pure (wpAny_bind (wpAny_dictEntries ho hd (wpAny_bind (wpAny_dictEpoch ho hd ?_)))))
 exact wpAny_bind (wpAny_newObj_type (wpAny_pure ⟨_,rfl,"dict_keyiterator",_,⟨_,Heap.get?_push_size _ rfl,rfl⟩,PySem.F.slot_dict_keyiterator_next.lookup,q⟩))
theorem mi{Q:Option Value→Shared→Prop}(hi:s.heap.get? it=some oi)(g:KIt oi a i es.size ep)(gd:DIs s.heap a es ep)
 (q:match (es[i]?:Option DictEntry) with
  | some e=>∀ h' oi',h'.get? it=some oi'→KIt oi' a (i+1) es.size ep→Heap.SameBut it s.heap h'→Q (some e.key) { s with heap:=h'}
  | none=>A.handled=none∧∀ h',Heap.ExtBut it s.heap h'→Q none { s with heap:=h'}):wpAny (model P w) A (pyNext (.ref it)) Q E s:=by
 obtain⟨hc,hd⟩:=g
 obtain⟨o,ho,hx,hdd⟩:=gd
 have hT:s.TypeIs (.ref it) "dict_keyiterator":=⟨oi,hi,hc⟩
 unfold pyNext
 refine wpAny_bind (wpAny_attempt (wpAny_callSpecial?_slot (name:=Str.ofString "__next__") hT PySem.F.slot_dict_keyiterator_next (wpAny_call_entry PySem.F.slot_dict_keyiterator_next hT PySem.F.entry_dict_keyiterator_next ?_ (PySem.F.args_dict_keyiterator_next_1 _))))
 refine wpAny_bind (wpAny_pure (wpAny_bind (wpAny_bind ?_)))
 first | refine wpAny_bind (wpAny_typeNameOfWhole_keyiter hT (wpAny_pure ?_)) | refine wpAny_bind (wpAny_typeNameOf_keyiter hT (wpAny_pure ?_))
 refine wpAny_bind (wpAny_fieldsOf hi hd ?_)
 have hown:Builtin.Dict_items.ownsTuple "dict_keyiterator"=false:=by decide
 simp only[hown,Bool.false_eq_true,if_false]
 show wpAny _ _ (if(Value.ref a==Value.none)=true then _ else _) _ _ s
 rw[if_neg (show ¬((Value.ref a==Value.none)=true) from Bool.false_ne_true)]
 refine wpAny_bind (wpAny_pure (wpAny_bind (wpAny_dictEntries ho hdd ?_)))
 rw[if_neg (by simp)]
 refine wpAny_bind (wpAny_pure (wpAny_bind (wpAny_dictEpoch ho hdd ?_)))
 rw[if_neg (by simp)]
 refine wpAny_pure ?_
 simp only[show ¬((i:Int)<0) from by omega,if_false,Int.toNat_natCast]
 cases hei:(es[i]?:Option DictEntry) with
 | some e =>
   rw[hei]at q
   refine wpAny_bind ?_
   first | refine wpAny_bind (wpAny_typeNameOfWhole_keyiter hT (wpAny_pure ?_)) | refine wpAny_bind (wpAny_typeNameOf_keyiter hT (wpAny_pure ?_))
   refine wpAny_bind (wpAny_isOneOf_keyiter hT ?_)
   show wpAny _ _ (setField (.ref it) 1 (rawInt ((i:Int)+1)) >>= _) _ _ s
   refine wpAny_bind (wpAny_setField hi hd (by simp) ?_)
   have d1:=Obj.data_mapFields hd (·.setIfInBounds 1 (rawInt ((i:Int)+1)))
   have g1:=Heap.get?_update_self (Obj.mapFields (·.setIfInBounds 1 (rawInt ((i:Int)+1)))) hi (Obj.isFreed_of_fields d1)
   have c1:(Obj.mapFields (·.setIfInBounds 1 (rawInt ((i:Int)+1))) oi).cls = .type "dict_keyiterator":=(Obj.cls_mapFields ..).trans hc
   refine wpAny_bind (wpAny_holding ?_)
   refine wpAny_bind (wpAny_isOneOf_keyiter (s:={ s with heap:=s.heap.update it (Obj.mapFields (·.setIfInBounds 1 (rawInt ((i:Int)+1))))}) ⟨_,g1,c1⟩ ?_)
   show wpAny _ _ (pure e.key) _ _ _
   exact wpAny_pure (wpAny_pure ⟨_,rfl,wpAny_pure (q _ _ g1 ⟨c1,by rw[d1];simp[rawInt]⟩ (Heap.SameBut.update ..))⟩)
 | none =>
   rw[hei]at q
   obtain⟨hh,q⟩:=q
   refine wpAny_bind ?_
   first | refine wpAny_bind (wpAny_typeNameOfWhole_keyiter hT (wpAny_pure ?_)) | refine wpAny_bind (wpAny_typeNameOf_keyiter hT (wpAny_pure ?_))
   show wpAny _ _ (setField (.ref it) 0 .none >>= _) _ _ s
   refine wpAny_bind (wpAny_setField hi hd (by simp) ?_)
   show wpAny _ _ (newExc (.type "StopIteration") [] >>= _) _ _ _
   refine wpAny_bind ?_
   simp only[newExc,newTuple]
   refine wpAny_bind (wpAny_newObj_type (wpAny_bind (m:=firstArgMember _ _) (wpAny_of_eq (a:=Value.none) (by first | rfl | (simp only[firstArgMember];rfl)) (wpAny_newObj_type ?_ (by size_fits)))) (by size_fits))
   simp only[raiseNew]
   refine wpAny_bind (wpAny_handled ?_)
   rw[show A.in1.handled=none from hh]
   refine wpAny_bind (wpAny_pure (wpAny_throw ?_))
   refine wpAny_bind (wpAny_isInstance (T:="StopIteration") (b:=true) ⟨_,Heap.get?_push_size _ rfl,rfl⟩ isSubtype_stop (wpAny_pure ?_))
   exact q _ (((Heap.SameBut.update ..).extBut.push _).push _)
end
end L2
namespace L2
open PySem PySem.Spec PyProof.Rows
section
variable {X:Cx}{pins:List (Addr×Obj)}{σ:St}{H H2:Hp}{s:Shared}
theorem Inv.freezeT{a:Addr}{kvs:List (List Key×V)}{ob:Obj}(I:Inv X pins σ H s)(e:H a=some (.dT kvs))(ho:s.heap.get? a=some ob):Inv X pins σ (upd H a (.frz ob (.dT kvs))) s:=by
 have ne:∀ b,H b=none→b≠a:=fun b h z=>by rw[z,e]at h;cases h
 refine⟨I.ok,I.os,I.bare,⟨I.base.keep,I.base.slot,fun b o q n hx=>?_,I.base.there,fun b xs q=>?_,fun b o u q=>?_,fun b ps q=>?_⟩,I.loc,I.cell,?_,fun x c q=>?_,fun p hp=>?_,fun b u q=>?_,I.len⟩
 ·have z:=I.base.free b o q n hx
  rw[ak (ne b z)]
  exact z
 ·have z:=I.base.tups b xs q
  rw[ak (aO z e (by intro z;cases z))]
  exact z
 ·have z:=I.base.frzs b o u q
  rw[ak (aO z e (by intro z;cases z))]
  exact z
 ·obtain⟨more,z⟩:=I.base.tbls b ps q
  exact⟨more,by rw[ak (aO z e (by intro z;cases z))];exact z⟩
 ·rw[ak (ne _ I.free)]
  exact I.free
 ·rw[ak (ne _ (I.freeC x c q))]
  exact I.freeC x c q
 ·obtain⟨a1,a2,a3⟩:=I.pin p hp
  exact⟨a1,by rw[ak (ne _ a2)];exact a2,a3⟩
 ·by_cases hb:b=a
  ·subst hb
   rw[ag]at q
   cases q
   exact⟨ho,(I.hok b _ e).stay (fun _ _ _ q=>q) (fun c q=>by rw[ak (aO q e (by intro z;cases z))];exact q) fun c xs q=>by rw[ak (aO q e (by intro z;cases z))];exact q⟩
  ·rw[ak hb]at q
   exact(I.hok b u q).stay (fun _ _ _ q=>q) (fun c q=>by rw[ak (aO q e (by intro z;cases z))];exact q) fun c xs q=>by rw[ak (aO q e (by intro z;cases z))];exact q
theorem Inv.thawT{pins0:List (Addr×Obj)}{σ0:St}{s0:Shared}{a:Addr}{kvs:List (List Key×V)}{ob:Obj}(I0:Inv X pins0 σ0 H s0)(e0:H a=some (.dT kvs))(I:Inv X pins σ H2 s)(e:H2 a=some (.frz ob (.dT kvs))):
 Inv X pins σ (upd H2 a (.dT kvs)) s:=by
 have ne:∀ b,H2 b=none→b≠a:=fun b h z=>by rw[z,e]at h;cases h
 obtain⟨ho,hd⟩:=(show aV X.prog X.w H2 s.heap a (.frz ob (.dT kvs)) from I.hok a _ e)
 refine⟨I.ok,I.os,I.bare,⟨I.base.keep,I.base.slot,fun b o q n hx=>?_,I.base.there,fun b xs q=>?_,fun b o u q=>?_,fun b ps q=>?_⟩,I.loc,I.cell,?_,fun x c q=>?_,fun p hp=>?_,fun b u q=>?_,I.len⟩
 ·have z:=I.base.free b o q n hx
  rw[ak (ne b z)]
  exact z
 ·have z:=I.base.tups b xs q
  rw[ak (aO z e (by intro z;cases z))]
  exact z
 ·have z:=I.base.frzs b o u q
  rw[ak (fun y=>by
   have z0:=I0.base.frzs b o u q
   rw[y,e0]at z0
   cases z0)]
  exact z
 ·obtain⟨more,z⟩:=I.base.tbls b ps q
  exact⟨more,by rw[ak (aO z e (by intro z;cases z))];exact z⟩
 ·rw[ak (ne _ I.free)]
  exact I.free
 ·rw[ak (ne _ (I.freeC x c q))]
  exact I.freeC x c q
 ·obtain⟨a1,a2,a3⟩:=I.pin p hp
  exact⟨a1,by rw[ak (ne _ a2)];exact a2,a3⟩
 ·by_cases hb:b=a
  ·subst hb
   rw[ag]at q
   cases q
   exact hd.stay (fun _ _ _ q=>q) (fun c q=>by rw[ak (aO q e (by intro z;cases z))];exact q) fun c xs q=>by rw[ak (aO q e (by intro z;cases z))];exact q
  ·rw[ak hb]at q
   exact(I.hok b u q).stay (fun _ _ _ q=>q) (fun c q=>by rw[ak (aO q e (by intro z;cases z))];exact q) fun c xs q=>by rw[ak (aO q e (by intro z;cases z))];exact q
def vg(X:Cx)(b:Addr):Prop:=X.s₀.heap.objs.size≤b∧b≠X.env.locals∧b∉X.fs∧(∀ x c,X.env.cells.lookup x=some c→c≠b)∧∀ p∈X.pn,p.1≠b
theorem Inv.ours(I:Inv X pins σ H s){b:Addr}(hb:s.heap.objs.size≤b):vg X b :=
 let⟨_,f1,f2,_,f4,f5⟩:=I.fpOk hb (I.hok.fresh hb)
 ⟨Nat.le_trans I.sz hb,f1,f2,f4,fun p hp=>f5 p (List.mem_append_left _ hp)⟩
theorem Inv.repin{pa pb:List (Addr×Obj)}{b:Addr}{o:Obj}{h' : Heap}{t' : Nat}(I:Inv X pa σ H s)(hb:vg X b)(hin:(b,o)∈pa)(k:∀ c u,c≠b→s.heap.get? c=some u→h'.get? c=some u)
 (hp:∀ p∈pb,(p.1=b∧h'.get? b=some p.2∧∀ v,p.2.data≠.cell v)∨(p∈pa∧p.1≠b)):Inv X pb σ H { s with heap:=h',toks:=t'}:=by
 obtain⟨b1,b2,b3,b4,b5⟩:=hb
 have n:=(I.pin (b,o) (List.mem_append_right _ hin)).2.1
 have J:=(I.pins_of (pins':=pa.filter fun p=>decide (p.1≠b)) fun p hp=>I.pin p (List.mem_append_right _ (List.mem_filter.mp hp).1)).turned (t':=t') k n b2 (.inr b1) b4 (fun p hp=>by
  rcases List.mem_append.mp hp with hp|hp
  ·exact b5 p hp
  ·exact of_decide_eq_true (List.mem_filter.mp hp).2)
 refine J.pins_of fun p h=>?_
 rcases hp p h with⟨e,g,d⟩|⟨m,ne⟩
 ·refine⟨by rw[e];exact g,by rw[e];exact n,by rw[e];exact b2,by rw[e];exact b3,d⟩
 ·exact J.pin p (List.mem_append_right _ (List.mem_filter.mpr ⟨m,decide_eq_true ne⟩))
end
section
variable {X:Cx}{pins:List (Addr×Obj)}{σ:St}{H2:Hp}{params:Arguments}{body:Expr}{scope:Scope}{frees:List Str}{js:List Nat}{x:Str}{te:TE}{f c a It S:Addr}{oc ob:Obj}{ctv:Value}{q:Str}{kvs:List (List Key×V)}
 {es:Array DictEntry} {ep:Nat} {ka:Nat→Addr} {ks:Nat→List Int} {PZ:Addr} {R:Result→Shared→Prop}
structure MinFix(X:Cx)(σ:St)(H2:Hp)(params:Arguments)(body:Expr)(scope:Scope)(frees:List Str)(js:List Nat)(x:Str)(te:TE)(f c a It S:Addr)(oc ob:Obj)(ctv:Value)(kvs:List (List Key×V))(es:Array DictEntry)(ep:Nat)(ka:Nat→Addr)(ks:Nat→List Int)(PZ:Addr):Prop where
 T:CompText X scope [x] frees js
 hx:scope.names.lookup x=some .local
 hh:X.A.handled=none
 dp:X.A.in1.depth<recursionLimit
 un:X.A.in1.units<cLine
 hb:∀ u,bindArgs (sW X params body scope c ctv) ⟨[u],[]⟩=pure [(x,u)]
 co:scope.isCoroutine=false
 gen:scope.isGenerator=false
 he:∀ s H,PE (rA X ([x]++frees) scope f c X.A.in1 s H) body te
 code:g9 oc (X.env.qual ++ "<lambda>")
 hc:H2 c=some (.frz oc (.own PZ))
 ha:H2 a=some (.frz ob (.dT kvs))
 hob:ob.ExactDict∧ob.data = .dict es ep
 key:∀(i:Nat) (e:DictEntry),(es[i]?:Option DictEntry)=some e→e.key = .ref (ka i)
 turn:∀ i H3,i<es.size→am H2 H3→te (some (.ref (ka i))::dv σ js) H3 fun v H4=>am H3 H4∧∃ d,v = .ref d∧SqT X.K H4 d ((ks i).map V.int)
 oS:vg X S
 oI:vg X It
 SI:S≠It
 fS:f≠S
 fI:f≠It
theorem qk{pa:List (Addr×Obj)}{s:Shared}{H3:Hp}{i:Nat}{E:Value→Shared→Prop}(F:MinFix X σ H2 params body scope frees js x te f c a It S oc ob ctv kvs es ep ka ks PZ)(hi:i<es.size)(hs:am H2 H3)(I:Inv X pa σ H3 s)
 (hf:(f,ez X params body scope c ctv)∈pa) :
 wpAny (model X.prog X.w) X.A.in1 (call (.ref f) [.ref (ka i)]) (fun u s'=>∃ d H4,u = .ref d∧Inv X pa σ H4 s'∧am H2 H4∧am H3 H4∧SqT X.K H4 d ((ks i).map V.int)) E s:=by
 obtain⟨hct,_⟩:=(show aV X.prog X.w H3 s.heap c (.frz oc (.own PZ)) from I.hok c _ (hs _ _ F.hc))
 refine wpAny_mono (wR (v:=.ref (ka i)) I F.T F.hx I.ok.frames rfl F.dp hf (F.code.rec hct) (F.hb _) F.co F.gen (F.he s H3) rfl (F.turn i H3 hi hs)) (fun u s' ⟨v,H4,J,r,q1,d,e,q2⟩=>?_) fun _ _ z=>z
 subst e
 cases r
 exact⟨d,H4,rfl,J,fun b o z=>q1 _ _ (hs _ _ z),q1,q2⟩
theorem xn{pa:List (Addr×Obj)}{s:Shared}{H3:Hp}{d d' : Addr}{ns ms:List Int}{A:Around}{E:Value→Shared→Prop}{Q:Value→Shared→Prop}(I:Inv X pa σ H3 s)(h1:SqT X.K H3 d (ns.map V.int))(h2:SqT X.K H3 d' (ms.map V.int))(hu:A.units<cLine)
 (q:Q (.bool (HT.bN ns ms)) s):wpAny (model X.prog X.w) A (richCompare .Lt (.ref d) (.ref d')) Q E s:=by
 obtain⟨its,r1,p1,_⟩:=I.tuple h1
 obtain⟨its2,r2,p2,_⟩:=I.tuple h2
 exact(HT.sE p1 p2 (gL r1) (gL r2) hu q:wpAny (model X.prog X.w) A (compareOp .Lt (.ref d) (.ref d')) Q E s)
abbrev iO(pins:List (Addr×Obj))(S It f:Addr)(oS oI lo:Obj):List (Addr×Obj):=(S,oS)::(It,oI)::(f,lo)::pins
theorem vY(F:MinFix X σ H2 params body scope frees js x te f c a It S oc ob ctv kvs es ep ka ks PZ)(pI:∀ p∈pins,p.1≠It)(pS:∀ p∈pins,p.1≠S)
 (hR:∀ i s' H3,i<es.size→(∀ j,j<es.size→HT.bN (ks j) (ks i)=false)→am H2 H3→Inv X pins σ H3 s'→R (.ok (.ret (.ref (ka i)))) s') :
 ∀(r j i:Nat) (s:Shared) (H3:Hp) (d:Addr) (n:Nat) (oI:Obj),es.size-j=r→j≤es.size→i<j→am H2 H3→Inv X (iO pins S It f (seqObj "list" #[.ref (ka i),.ref d] n) oI (ez X params body scope c ctv)) σ H3 s→KIt oI a j es.size ep→
  SqT X.K H3 d ((ks i).map V.int)→(∀ j',j'<j→HT.bN (ks j') (ks i)=false)→codeAny (model X.prog X.w) X.A (.builtin "min.loop" ⟨[.ref It,.ref f,.ref S],[]⟩) R s:=by
 have hname:(toString "min" ++ toString ".loop":String)="min.loop":=by decide
 intro r
 induction r with
 | zero =>
   intro j i s H3 d n oI hr hj hij hs I hk hd hbest
   have hjn:j=es.size:=by omega
   have pinS:=I.pin (S,_) (List.mem_append_right _ (.head _))
   have pinI:=I.pin (It,oI) (List.mem_append_right _ (.tail _ (.head _)))
   obtain⟨hob,_⟩:=(show aV X.prog X.w H3 s.heap a (.frz ob (.dT kvs)) from I.hok a _ (hs _ _ F.ha))
   refine codeAny_builtin PySem.F.entry_min_loop ?_
   rw[Around.under_plainId PySem.F.plain_min_loop _]
   show wpAny _ X.A.in1 (seqItems? (.ref S) >>= _) _ _ _
   refine wpAny_bind (wpAny_seqItems pinS.1 rfl ?_)
   show wpAny _ X.A.in1 (tryCatch (pyNext (.ref It)) _ >>= _) _ _ _
   refine wpAny_bind (wpAny_tryCatch (mi pinI.1 hk ⟨ob,hob,F.hob⟩ ?_))
   rw[hjn,Array.getElem?_eq_none (Nat.le_refl _)]
   refine⟨F.hh,fun h' eb=>?_⟩
   have I1:=I.repin (t':=s.toks) (h':=h') (pb:=(S,seqObj "list" #[.ref (ka i),.ref d] n)::pins) F.oI (List.Mem.tail _ (.head _)) (fun b u hb e=>eb b u hb e) (fun p hp=>by
    rcases List.mem_cons.mp hp with rfl|hp
    ·exact .inr ⟨.head _,F.SI⟩
    ·exact .inr ⟨.tail _ (.tail _ (.tail _ hp)),pI p hp⟩)
   have pinS1:=I1.pin (S,_) (List.mem_append_right _ (.head _))
   show wpAny _ X.A.in1 (updateSeq S (fun _=>#[]) >>= _) _ _ _
   refine wpAny_bind (wpAny_updateSeq pinS1.1 rfl (wpAny_bind (wpAny_letGo (wpAny_pure ?_))))
   have s1:=Heap.SameBut.update h' S (Obj.mapSeq fun _=>(#[]:Array Value))
   exact hR i _ H3 (by omega) (fun j' hj'=>hbest j' (by omega)) hs (I1.repin (t':=s.toks) (pb:=pins) F.oS (.head _) (fun b u hb e=>(s1.2 b hb).trans e) fun p hp=>.inr ⟨.tail _ hp,pS p hp⟩)
 | succ r ih =>
   intro j i s H3 d n oI hr hj hij hs I hk hd hbest
   have hjn:j<es.size:=by omega
   have pinS:=I.pin (S,_) (List.mem_append_right _ (.head _))
   have pinI:=I.pin (It,oI) (List.mem_append_right _ (.tail _ (.head _)))
   obtain⟨hob,_⟩:=(show aV X.prog X.w H3 s.heap a (.frz ob (.dT kvs)) from I.hok a _ (hs _ _ F.ha))
   refine codeAny_builtin PySem.F.entry_min_loop ?_
   rw[Around.under_plainId PySem.F.plain_min_loop _]
   show wpAny _ X.A.in1 (seqItems? (.ref S) >>= _) _ _ _
   refine wpAny_bind (wpAny_seqItems pinS.1 rfl ?_)
   show wpAny _ X.A.in1 (tryCatch (pyNext (.ref It)) _ >>= _) _ _ _
   refine wpAny_bind (wpAny_tryCatch (mi pinI.1 hk ⟨ob,hob,F.hob⟩ ?_))
   have hget:(es[j]?:Option DictEntry)=some es[j]:=Array.getElem?_eq_getElem hjn
   rw[hget]
   intro h' oI' hgi hk' sb
   have I1:=I.repin (t':=s.toks) (h':=h') (pb:=iO pins S It f (seqObj "list" #[.ref (ka i),.ref d] n) oI' (ez X params body scope c ctv)) F.oI (List.Mem.tail _ (.head _)) (fun b u hb e=>(sb.2 b hb).trans e) (fun p hp=>by
    rcases List.mem_cons.mp hp with rfl|hp
    ·exact .inr ⟨.head _,F.SI⟩
    ·rcases List.mem_cons.mp hp with rfl|hp
     ·exact .inl ⟨rfl,hgi,fun v z=>by rw[hk'.2]at z;cases z⟩
     ·rcases List.mem_cons.mp hp with rfl|hp
      ·exact .inr ⟨.tail _ (.tail _ (.head _)),F.fI⟩
      ·exact .inr ⟨.tail _ (.tail _ (.tail _ hp)),pI p hp⟩)
   rw[F.key j _ hget]
   show wpAny _ X.A.in1 (tryCatch (holding [.ref (ka j)] (call (.ref f) [.ref (ka j)])) _ >>= _) _ _ _
   refine wpAny_bind (wpAny_tryCatch (wpAny_holding (wpAny_mono (qk F hjn hs I1 (List.Mem.tail _ (.tail _ (.head _)))) (fun u s2 hu=>?_) fun _ _ z=>z)))
   obtain⟨d2,H4,rfl,I2,hs4,h34,hd2⟩:=hu
   have hdo:SqT X.K H4 d ((ks i).map V.int):=h34.sqT hd
   show wpAny _ X.A.in1 (tryCatch (holding [.ref (ka j),.ref d2] (richCompare .Lt (.ref d2) (.ref d) >>= _)) _ >>= _) _ _ _
   refine wpAny_bind (wpAny_tryCatch (wpAny_holding (wpAny_bind (xn I2 hd2 hdo F.un ?_))))
   refine wpAny_bind (wpAny_holding (wpAny_truthy_bool (wpAny_bind (wpAny_letGo (wpAny_pure ?_)))))
   have pinS2:=I2.pin (S,_) (List.mem_append_right _ (.head _))
   cases hl:HT.bN (ks j) (ks i) with
   | true =>
     have s1:=Heap.SameBut.update s2.heap S (Obj.mapSeq fun _=>(#[.ref (ka j),.ref d2]:Array Value))
     obtain⟨n2,hn2⟩:∃ n2,(s2.heap.update S (Obj.mapSeq fun _=>(#[.ref (ka j),.ref d2]:Array Value))).get? S=some (seqObj "list" #[.ref (ka j),.ref d2] n2):=⟨_,get?_update_seq pinS2.1 fun _=>#[.ref (ka j),.ref d2]⟩
     simp only[if_true]
     refine wpAny_bind (wpAny_updateSeq pinS2.1 rfl (wpAny_bind (wpAny_letGo ?_)))
     rw[hname]
     have I3:=I2.repin (t':=s2.toks) (pb:=iO pins S It f (seqObj "list" #[.ref (ka j),.ref d2] n2) oI' (ez X params body scope c ctv)) F.oS (.head _) (fun b u hb e=>(s1.2 b hb).trans e) (fun p hp=>by
      rcases List.mem_cons.mp hp with rfl|hp
      ·exact .inl ⟨rfl,hn2,fun v z=>by cases z⟩
      ·rcases List.mem_cons.mp hp with rfl|hp
       ·exact .inr ⟨.tail _ (.head _),F.SI.symm⟩
       ·rcases List.mem_cons.mp hp with rfl|hp
        ·exact .inr ⟨.tail _ (.tail _ (.head _)),F.fS⟩
        ·exact .inr ⟨.tail _ (.tail _ (.tail _ hp)),pS p hp⟩)
     refine wpAny_pure ⟨plainId_quiet PySem.F.plain_min_loop _,ih (j+1) j _ H4 d2 n2 oI' (by omega) (by omega) (by omega) hs4 I3 hk' hd2 fun j' hj'=>?_⟩
     by_cases e:j' = j
     ·rw[e];exact HT.dH _
     ·exact HT.mB (hbest j' (by omega)) hl
   | false =>
     simp only[Bool.false_eq_true,if_false]
     refine wpAny_bind (wpAny_letGo ?_)
     rw[hname]
     refine wpAny_pure ⟨plainId_quiet PySem.F.plain_min_loop _,ih (j+1) i _ H4 d n oI' (by omega) (by omega) (by omega) hs4 I2 hk' hdo fun j' hj'=>?_⟩
     by_cases e:j' = j
     ·rw[e];exact hl
     ·exact hbest j' (by omega)
end
end L2
namespace L2
open PySem PySem.Spec PyProof.Rows
theorem boot_min:bootBuiltins "min"=some (.builtin "min"):=by kernel_rfl
def aab(K:PySem.W.Frag)(P:Addr)(q:Str)(lp:Pos)(ta:TA)(te:TE)(js:List Nat):TE:=fun σ H Q=>ta σ H fun vs H1=>∃ a kvs,∃ ks:Nat→List Int,vs=[.ref a]∧H1 a=some (.dT kvs)∧0<kvs.length∧H1 P=some (.tbl (eK q lp))∧
 (∀ ob H3,(∀ b u,H1 b=some u→b≠a→(∀ y,u≠.own y)→(∀ qs,u≠.tbl qs)→H3 b=some u)→H3 a=some (.frz ob (.dT kvs))→
  ∀(i:Nat) kv b,kvs[i]?=some kv→H3 b=some (.tup (kv.1.map kV))→te (some (.ref b)::dv σ js) H3 fun v H4=>am H3 H4∧∃ d,v = .ref d∧SqT K H4 d ((ks i).map V.int))∧
 ∀(i:Nat) kv b H4,kvs[i]?=some kv→(∀ j,j<kvs.length→HT.bN (ks j) (ks i)=false)→am H1 H4→H4 b=some (.tup (kv.1.map kV))→Q (.ref b) H4
theorem eg{α β:Type}{R:α→β→Prop}:∀{l₁:List α} {l₂:List β},Paired R l₁ l₂→∀{i:Nat} {a:α} {b:β},l₁[i]?=some a→l₂[i]?=some b→R a b
 | _,_,.nil,i,_,_,h,_=>by simp at h
 | _,_,.cons r t,0,_,_,h1,h2=>by
   simp at h1 h2
   subst h1 h2
   exact r
 | _,_,.cons r t,i+1,_,_,h1,h2=>eg t (by simpa using h1) (by simpa using h2)
section
variable {X:Cx}{params:Arguments}{body e:Expr}{scope:Scope}{lp p pos kp:Pos}{frees:List Str}{js:List Nat}{x:Str}{ta:TA}{te:TE}{c0 P:Addr}{k:Nat}
theorem yv(hr:Room (k+2) X.A)(T:CompText X scope [x] frees js)(hx:scope.names.lookup x=some .local)(hg:Gl X "min")(hm:X.mg "min"=none)(hcode:X.env.code = .ref c0)(hK:PySem.W.codeHdIn X.K c0 P=true)(ha:PA X [e] ta)
 (he:∀ f c s H,Room k (rA X ([x]++frees) scope f c X.A.in1 s H).A→PE (rA X ([x]++frees) scope f c X.A.in1 s H) body te)
 (hb:∀ c ctv u,bindArgs (sW X params body scope c ctv) ⟨[u],[]⟩=pure [(x,u)]:=by intro _ _ _;rfl) (hco:scope.isCoroutine=false:=by rfl) (hgen:scope.isGenerator=false:=by rfl)
 (hdef:defaultsOf params X.env=([],[]):=by rfl)
 (hs:backTo pos (starEach [e] X.env)=(false,eval e X.env)::backTo pos (starEach [] X.env):=by rfl) (hs2:(backTo pos (starEach [e] X.env)).any (·.1)=false:=by rfl) :
 PE X (.Call (.Name "min" p) [e] [⟨some (Str.ofString "key"),.Lambda params body scope lp,kp⟩] pos) (aab X.K P (X.env.qual ++ "<lambda>") lp ta te js):=by
 intro pins s σ H Q I h
 refine wpAny_Call_Name_kw (hZ I hg hm boot_min (callWith_kw (thn (ha pos pins s σ H _ I h) fun us s1 hq=>?_) hs hs2 rfl rfl))
 obtain⟨vs,H1,I1,r1,a,kvs,ks,rfl,hda,hne,hP,hturn,hfin⟩:=hq
 obtain⟨u,rfl,rx⟩:=gn r1
 cases rx
 refine kws_cons (vJ I1 T hcode hK hP hdef fun f c oc ctv s2 hc hcP hoc J=>kws_nil ?_)
 show wpAny _ X.A (call (.builtin "min") [.ref a] [(Str.ofString "key",.ref f)]) _ _ s2
 have hname:(toString "min" ++ toString ".loop":String)="min.loop":=by decide
 have hla:=ub (oc:=oc) hP hc hda (by intro y z;cases z) (by intro y z;cases z)
 obtain⟨hz,hsys,xs,pr,ob,es,ep,hgo,hex,hdat,hes,hnd⟩:=(show aV X.prog X.w (e7 H1 P c oc (X.env.qual ++ "<lambda>") lp) s2.heap a (.dT kvs) from J.hok a _ hla)
 have J2:=J.freezeT hla hgo
 have hsz:es.size=kvs.length:=by
  have:=congrArg List.length hes
  rw[List.length_map,← pr.length]at this
  simpa using this
 have hxs:xs.length=kvs.length:=pr.length.symm
 have hka:∀ i,i<kvs.length→∃ kv y,kvs[i]?=some kv∧xs[i]?=some y∧e7 H1 P c oc (X.env.qual ++ "<lambda>") lp y.2.1=some (.tup (kv.1.map kV)):=fun i hi=>by
  have e1:kvs[i]?=some kvs[i]:=List.getElem?_eq_getElem hi
  have e2:xs[i]?=some (xs[i]'(by omega)):=List.getElem?_eq_getElem _
  exact⟨_,_,e1,e2,(eg pr e1 e2).2.1⟩
 have hPL:e7 H1 P c oc (X.env.qual ++ "<lambda>") lp P=some (.tbl (eK (X.env.qual ++ "<lambda>") lp++ji lp c)):=ag
 have hcL:e7 H1 P c oc (X.env.qual ++ "<lambda>") lp c=some (.frz oc (.own P)):=by unfold e7;rw[ak hcP,ag]
 have ca:c≠a:=aO hcL hla (by intro z;cases z)
 have pa:P≠a:=aO hPL hla (by intro z;cases z)
 generalize hH2:upd (e7 H1 P c oc (X.env.qual ++ "<lambda>") lp) a (.frz ob (.dT kvs))=H2 at J2
 have at2:∀ b u,b≠a→e7 H1 P c oc (X.env.qual ++ "<lambda>") lp b=some u→H2 b=some u:=fun b u n e=>by rw[← hH2,ak n];exact e
 have a2:H2 a=some (.frz ob (.dT kvs)):=by rw[← hH2,ag]
 let ka:Nat→Addr:=fun i=>((xs[i]?).map (·.2.1)).getD 0
 have kaOf:∀{i:Nat} {y:List Key×Addr×Value},xs[i]?=some y→ka i=y.2.1:=fun {i y} e=>by show((xs[i]?).map (·.2.1)).getD 0=_;rw[e];rfl
 refine kmk_tree PySem.F.kind_min PySem.F.plain_min PySem.F.entry_min (kmk_min_key _ _) ?_
 show wpAny _ X.A.in1 (Builtin.Builtins.bindParams "min" ["key","default"] 0 ⟨[],[(Str.ofString "key",.ref f)]⟩ >>= _) _ _ s2
 refine wpAny_bind (wpAny_of_eq (show Builtin.Builtins.bindParams "min" ["key","default"] 0 ⟨[],[(Str.ofString "key",.ref f)]⟩=pure [some (.ref f),none] from rfl) ?_)
 refine wpAny_bind (wpAny_pure (wpAny_bind (vn hsys ⟨ob,hgo,hex,hdat⟩ (wpAny_bind (wpAny_newList ?_ (Nat.zero_le _))))))
 rw[hname]
 refine wpAny_pure ⟨plainId_quiet PySem.F.plain_min_loop _,?_⟩
 generalize hoI:({ cls:=.type "dict_keyiterator",data:=.fields #[.ref a,.int 0 0,.int es.size 0,.int ep 0]}:Obj)=oI
 have hkI:KIt oI a 0 es.size ep:=by rw[← hoI];exact⟨rfl,rfl⟩
 have hS:(s2.heap.push oI).objs.size=s2.heap.objs.size+1:=size_push' ..
 have hk2:∀ b o,s2.heap.get? b=some o→((s2.heap.push oI).push (seqObj "list" #[] 0)).get? b=some o:=fun b o e=>Heap.get?_push_of_some _ (Heap.get?_push_of_some _ e)
 have gI:((s2.heap.push oI).push (seqObj "list" #[] 0)).get? s2.heap.objs.size=some oI:=Heap.get?_push_of_some _ (Heap.get?_push_size _ (by rw[← hoI];rfl))
 have gS:((s2.heap.push oI).push (seqObj "list" #[] 0)).get? (s2.heap.push oI).objs.size=some (seqObj "list" #[] 0):=Heap.get?_push_size _ rfl
 have ltp:∀ p∈(f,ez X params body scope c ctv)::pins,p.1<s2.heap.objs.size:=fun p hp=>Heap.lt_size (J2.pin p (List.mem_append_right _ hp)).1
 have oIt:=J2.ours (Nat.le_refl s2.heap.objs.size)
 have oS:=J2.ours (b:=(s2.heap.push oI).objs.size) (by rw[hS];exact Nat.le_succ _)
 have F:MinFix X σ H2 params body scope frees js x te f c a s2.heap.objs.size (s2.heap.push oI).objs.size oc ob ctv kvs es ep ka ks P:=by
  refine⟨T,hx,hr.hd,(hr.in1).depth,(hr.in1).units0,fun u=>hb c ctv u,hco,hgen,fun s H=>he f c s H ((hr.in1).deeper _),hoc,at2 c _ ca hcL,a2,⟨hex,hdat⟩,fun i e hi=>?_,fun i H3 hi hs3=>?_,oS,oIt,by rw[hS];exact Nat.succ_ne_self _,?_,Nat.ne_of_lt (ltp _ (.head _))⟩
  ·have hi' : i<kvs.length:=by rw[← hsz];exact(Array.getElem?_eq_some_iff.mp hi).1
   obtain⟨kv,y,e1,e2,_⟩:=hka i hi'
   have e3:=congrArg (fun l=>l[i]?) hes
   simp only[List.getElem?_map,e2,Option.map_some,Array.getElem?_toList]at e3
   rw[hi]at e3
   have e4:=Option.some.inj e3
   rw[e4,kaOf e2]
   rfl
  ·obtain⟨kv,y,e1,e2,e3⟩:=hka i (by omega)
   refine hturn ob H3 (fun b u eb nb n1 n2=>hs3 _ _ (at2 b u nb (ub hP hc eb n1 n2))) (hs3 _ _ a2) i kv (ka i) e1 ?_
   rw[kaOf e2]
   exact hs3 _ _ (at2 _ _ (aO e3 hla (by intro z;cases z)) e3)
  ·rw[hS]
   exact Nat.ne_of_lt (Nat.lt_succ_of_lt (ltp _ (.head _)))
 have pI:∀ p∈pins,p.1≠s2.heap.objs.size:=fun p hp=>Nat.ne_of_lt (ltp p (.tail _ hp))
 have pS:∀ p∈pins,p.1≠(s2.heap.push oI).objs.size:=fun p hp=>by rw[hS];exact Nat.ne_of_lt (Nat.lt_succ_of_lt (ltp p (.tail _ hp)))
 have J3:Inv X (iO pins (s2.heap.push oI).objs.size s2.heap.objs.size f (seqObj "list" #[] 0) oI (ez X params body scope c ctv)) σ H2 { s2 with heap:=(s2.heap.push oI).push (seqObj "list" #[] 0)}:=by
  have K:=J2.kept (t':=s2.toks) hk2
  refine K.pins_of fun p hp=>?_
  rcases List.mem_cons.mp hp with rfl|hp
  ·exact⟨gS,J2.hok.fresh (by rw[hS];exact Nat.le_succ _),oS.2.1,oS.2.2.1,fun v z=>by cases z⟩
  ·rcases List.mem_cons.mp hp with rfl|hp
   ·exact⟨gI,J2.hok.fresh (Nat.le_refl _),oIt.2.1,oIt.2.2.1,fun v z=>by rw[hkI.2]at z;cases z⟩
   ·exact K.pin p (List.mem_append_right _ hp)
 have h0:0<es.size:=by omega
 have hget:(es[0]?:Option DictEntry)=some es[0]:=Array.getElem?_eq_getElem h0
 have pinS:=J3.pin ((s2.heap.push oI).objs.size,seqObj "list" #[] 0) (List.mem_append_right _ (.head _))
 have pinI:=J3.pin (s2.heap.objs.size,oI) (List.mem_append_right _ (.tail _ (.head _)))
 refine codeAny_builtin PySem.F.entry_min_loop ?_
 rw[Around.under_plainId PySem.F.plain_min_loop _]
 show wpAny _ X.A.in1 (seqItems? (.ref _) >>= _) _ _ _
 refine wpAny_bind (wpAny_seqItems pinS.1 rfl ?_)
 show wpAny _ X.A.in1 (tryCatch (pyNext (.ref s2.heap.objs.size)) _ >>= _) _ _ _
 refine wpAny_bind (wpAny_tryCatch (mi pinI.1 hkI ⟨ob,hk2 _ _ hgo,hex,hdat⟩ ?_))
 rw[hget]
 intro h' oI' hgi hk' sb
 have I4:=J3.repin (t':=s2.toks) (h':=h') (pb:=iO pins (s2.heap.push oI).objs.size s2.heap.objs.size f (seqObj "list" #[] 0) oI' (ez X params body scope c ctv)) F.oI (List.Mem.tail _ (.head _)) (fun b u hb e=>(sb.2 b hb).trans e) (fun p hp=>by
  rcases List.mem_cons.mp hp with rfl|hp
  ·exact .inr ⟨.head _,F.SI⟩
  ·rcases List.mem_cons.mp hp with rfl|hp
   ·exact .inl ⟨rfl,hgi,fun v z=>by rw[hk'.2]at z;cases z⟩
   ·rcases List.mem_cons.mp hp with rfl|hp
    ·exact .inr ⟨.tail _ (.tail _ (.head _)),F.fI⟩
    ·exact .inr ⟨.tail _ (.tail _ (.tail _ hp)),pI p hp⟩)
 rw[F.key 0 _ hget]
 show wpAny _ X.A.in1 (tryCatch (holding [.ref (ka 0)] (call (.ref f) [.ref (ka 0)])) _ >>= _) _ _ _
 refine wpAny_bind (wpAny_tryCatch (wpAny_holding (wpAny_mono (qk F h0 (am.refl _) I4 (List.Mem.tail _ (.tail _ (.head _)))) (fun u s3 hu=>?_) fun _ _ z=>z)))
 obtain⟨d2,H4,rfl,I5,hs4,_,hd2⟩:=hu
 have pinS2:=I5.pin ((s2.heap.push oI).objs.size,_) (List.mem_append_right _ (.head _))
 have s1':=Heap.SameBut.update s3.heap (s2.heap.push oI).objs.size (Obj.mapSeq fun _=>(#[.ref (ka 0),.ref d2]:Array Value))
 obtain⟨n2,hn2⟩:∃ n2,(s3.heap.update (s2.heap.push oI).objs.size (Obj.mapSeq fun _=>(#[.ref (ka 0),.ref d2]:Array Value))).get? (s2.heap.push oI).objs.size=some (seqObj "list" #[.ref (ka 0),.ref d2] n2):=⟨_,get?_update_seq pinS2.1 fun _=>#[.ref (ka 0),.ref d2]⟩
 show wpAny _ X.A.in1 (updateSeq (s2.heap.push oI).objs.size (fun _=>#[.ref (ka 0),.ref d2]) >>= _) _ _ _
 refine wpAny_bind (wpAny_updateSeq pinS2.1 rfl ?_)
 rw[hname]
 have I6:=I5.repin (t':=s3.toks) (pb:=iO pins (s2.heap.push oI).objs.size s2.heap.objs.size f (seqObj "list" #[.ref (ka 0),.ref d2] n2) oI' (ez X params body scope c ctv)) F.oS (.head _) (fun b u hb e=>(s1'.2 b hb).trans e) (fun p hp=>by
  rcases List.mem_cons.mp hp with rfl|hp
  ·exact .inl ⟨rfl,hn2,fun v z=>by cases z⟩
  ·rcases List.mem_cons.mp hp with rfl|hp
   ·exact .inr ⟨.tail _ (.head _),F.SI.symm⟩
   ·rcases List.mem_cons.mp hp with rfl|hp
    ·exact .inr ⟨.tail _ (.tail _ (.head _)),F.fS⟩
    ·exact .inr ⟨.tail _ (.tail _ (.tail _ hp)),pS p hp⟩)
 refine wpAny_pure ⟨plainId_quiet PySem.F.plain_min_loop _,vY F pI pS (fun i s' H3 hi best hs3 I7=>?_) _ 1 0 _ H4 d2 n2 oI' rfl h0 (Nat.lt_succ_self _) hs4 I6 hk' hd2 fun j hj=>?_⟩
 ·obtain⟨kv,y,e1,e2,e3⟩:=hka i (by omega)
  have i3:=hs3 _ _ a2
  have I8:=Inv.thawT J hla I7 i3
  have p3:upd H3 a (.dT kvs) P=some (.tbl (eK (X.env.qual ++ "<lambda>") lp++ji lp c)):=by rw[ak pa];exact hs3 _ _ (at2 _ _ pa hPL)
  have c3:upd H3 a (.dT kvs) c=some (.frz oc (.own P)):=by rw[ak ca];exact hs3 _ _ (at2 _ _ ca hcL)
  have I9:=wq I1 hP hc hcP hoc I8 p3 c3
  have ya:y.2.1≠a:=aO e3 hla (by intro z;cases z)
  have y3:upd H3 a (.dT kvs) y.2.1=some (.tup (kv.1.map kV)):=by rw[ak ya];exact hs3 _ _ (at2 _ _ ya e3)
  refine⟨.ref (ka i),_,I9,rfl,hfin i kv (ka i) _ e1 (fun j hj=>best j (by omega)) (xh hP hc hcP (oc:=oc) fun b u eb=>?_) ?_⟩
  ·by_cases hb:b=a
   ·subst hb
    rw[hla]at eb
    rw[ag]
    exact eb
   ·rw[ak hb]
    exact hs3 _ _ (at2 _ _ hb eb)
  ·rw[kaOf e2]
   unfold gA
   rw[ak (aO y3 p3 (by intro z;cases z)),ak (aO y3 c3 (by intro z;cases z))]
   exact y3
 ·have e:j=0:=by omega
  rw[e];exact HT.dH _
end
end L2
namespace L2
open PySem PySem.Spec PyProof.Rows
section
variable {P:Program}{w:World}{A:Around}{E:Value→Shared→Prop}{s:Shared}{a:Addr}{es:Array DictEntry}{ep:Nat}
theorem zR(hd:(a==sysModules)=false):MeetsIn P w (Builtin.«dict.__len__» ⟨[.ref a],[]⟩) (fun _ R s=>∃ es ep,DIs s.heap a es ep∧R (.ok (.ret (.int es.size s.toks))) { s with toks:=s.toks+1}) :=
 .of_wp fun A R s ⟨es,ep,⟨o,ho,_,hdat⟩,h⟩=>by
  show wpAny _ _ (dictSize a >>= _) _ _ s
  unfold dictSize
  refine wpAny_bind (wpAny_bind (wpAny_dictEntries ho hdat (wpAny_pure ?_)))
  show wpAny _ _ (Builtin.Dict.pendingCount a >>= _) _ _ s
  refine wpAny_bind (wpAny_pendingCount_other hd (wpAny_ret_mkInt ?_))
  rw[Nat.add_zero];exact h
theorem uL{Q:Value→Shared→Prop}(hd:(a==sysModules)=false)(g:DIs s.heap a es ep)(hfit:(es.size:Int)<2^63)(h:Q (.int es.size (s.toks+1)) { s with toks:=s.toks+1+1}):
 wpAny (model P w) A (call (.builtin "len") [.ref a]) Q E s:=by
 have hT:s.TypeIs (.ref a) "dict":=let⟨o,ho,hc,_⟩:=g;⟨o,ho,hc.1⟩
 refine Calls.call_function_entry kind_len plain_len entry_len (args_len1 _) ?_
 unfold Builtin.«len»
 refine wpAny_bind (m:=oneArg "len" _) (wpAny_pure ?_)
 refine wpAny_bind (m:=callSpecial? (.ref a) (Str.ofString "__len__")) (wpAny_callSpecial?_slot (name:=Str.ofString "__len__") hT PySem.F.slot_dict_len
  (call_meetsIn PySem.F.slot_dict_len hT PySem.F.entry_dict_len (PySem.F.args_dict_len_1 _) (zR hd) ⟨es,ep,g,?_⟩))
 show wpAny _ _ _ _ _ { s with toks:=s.toks+1}
 refine wpAny_bind (wpAny_holding (wpAny_pure (wpAny_bind (wpAny_letGo ?_))))
 show wpAny _ _ (if((es.size:Nat):Int)<0 then _ else _) _ _ _
 rw[if_neg (by omega)]
 show wpAny _ _ (if((es.size:Nat):Int) ≥ 2^63 then _ else _) _ _ _
 rw[if_neg (by omega)]
 exact wpAny_bind (wpAny_mkInt (wpAny_pure ⟨_,rfl,h⟩))
end
theorem jE{K α:Type}[DecidableEq K]{k:K}{p:α}:∀{xs:List (K×α)} {j:Nat},(xs.map (·.1)).Nodup→xs[j]?=some (k,p)→xs.eraseIdx j=xs.filter fun x=>decide (x.1≠k)
 | [],j,_,h=>by simp at h
 | x::r,0,nd,h=>by
   simp at h
   subst h
   rw[List.map_cons,List.nodup_cons]at nd
   rw[List.eraseIdx_cons_zero,List.filter_cons,if_neg (by simp)]
   refine(List.filter_eq_self.mpr fun y hy=>?_).symm
   have z:y.1≠k:=fun z=>nd.1 (List.mem_map.mpr ⟨y,hy,z⟩)
   simp[z]
 | x::r,j+1,nd,h=>by
   rw[List.map_cons,List.nodup_cons]at nd
   have h:r[j]?=some (k,p):=by simpa using h
   have hx:x.1≠k:=fun z=>nd.1 (by rw[z];exact List.mem_map_of_mem (f:=(·.1)) (List.mem_of_getElem? h))
   rw[List.eraseIdx_cons_succ,List.filter_cons,if_pos (decide_eq_true hx),jE nd.2 h]
theorem iY{α β:Type}(f:α→β):∀(l:List α) (i:Nat),(l.map f).eraseIdx i=(l.eraseIdx i).map f
 | [],_=>rfl
 | _::_,0=>rfl
 | x::r,i+1=>by rw[List.map_cons,List.eraseIdx_cons_succ,List.eraseIdx_cons_succ,List.map_cons,iY f r i]
theorem KT.drop{H:Hp}{kvs:List (List Key×V)}{xs:List (List Key×Addr×Value)}(r:KT H kvs xs)(k:List Key):KT H (cr kvs k) (xs.filter fun x=>decide (x.1≠k)):=by
 unfold cr
 induction r with
 | nil=>exact .nil
 | @cons p q ps qs h t ih =>
   rw[List.filter_cons,List.filter_cons]
   by_cases e:p.1=k
   ·rw[if_neg (by simp[e]),if_neg (by simp[h.1.symm.trans e])];exact ih
   ·have e' : ¬ q.1=k:=fun z=>e (h.1.trans z)
    rw[if_pos (by simp[e]),if_pos (by simp[e'])];exact .cons h ih
section
variable {P:Program}{w:World}{A:Around}{E:Value→Shared→Prop}{s:Shared}{K:Type}[DecidableEq K]{knd:HeapKind P w K}{d b:Addr}{xs:List (K×Addr×Value)}{k:K}{j:Nat}{p:Addr×Value}
theorem zM{Q:Option DictEntry→Shared→Prop}(hu:knd.room A)(hkey:knd.is s.heap k b)(hm:s.heap.DictOfH knd d xs)(hj:xs[j]?=some (k,p))(hsz:xs.length≤sizeLine)
 (h:∀ e h' o' es' ep',e.val=p.2→h'.get? d=some o'→o'.ExactDict→o'.data = .dict es' ep'→es'.toList=(xs.eraseIdx j).map (entryOfKey knd)→Heap.SameBut d s.heap h'→Q (some e) { s with heap:=h',toks:=s.toks+knd.draws k}) :
 wpAny (model P w) A (Builtin.Dict.takeOut d (.ref b)) Q E s:=by
 obtain⟨o,es,ep,ho,hc,hd,he,his,hn⟩:=hm
 unfold Builtin.Dict.takeOut
 try with_reducible refine wpAny_holding ?_
 refine wpAny_bind (knd.pyHash hu hkey (wpAny_bind (wpAny_dictFind_heap (s:={ s with toks:=s.toks+knd.draws k}) hu hkey ho hd he his hn (fun hno=>absurd hj (hno j p)) fun j' p' hj'=>?_)))
 have hjj:j' = j:=idxH_unique hn hj' hj
 subst hjj
 refine wpAny_bind (wpAny_dictEntries (s:={ s with toks:=s.toks+knd.draws k}) ho hd ?_)
 rw[entry_at he j',hj]
 refine wpAny_bind (wpAny_updateDictKeys (hz:=by have e:=size_of_entries he;omega) (s:={ s with toks:=s.toks+knd.draws k}) ho hd (wpAny_pure (h _ _ _ _ (ep+1) rfl (Heap.get?_update_self _ ho (Obj.isFreed_of_dict (Obj.data_mapDictKeys hd _))) (hc.mapDictKeys _) (Obj.data_mapDictKeys hd _) ?_ (Heap.SameBut.update ..))))
 rw[← iY,← he]
 obtain⟨l⟩:=es
 simp
theorem aaL{Q:Value→Shared→Prop}(hu:knd.room A.in1)(hkey:knd.is s.heap k b)(hm:s.heap.DictOfH knd d xs)(hj:xs[j]?=some (k,p))(hsz:xs.length≤sizeLine)
 (h:∀ h' o' es' ep',h'.get? d=some o'→o'.ExactDict→o'.data = .dict es' ep'→es'.toList=(xs.eraseIdx j).map (entryOfKey knd)→Heap.SameBut d s.heap h'→Q p.2 { s with heap:=h',toks:=s.toks+knd.draws k}) :
 wpAny (model P w) A (call (.builtin "dict.pop") [.ref d,.ref b]) Q E s:=by
 have hT:=hm.typeIs
 refine wpAny_call_entry PySem.F.slot_dict_pop hT PySem.F.entry_dict_pop ?_ (PySem.F.args_dict_pop_2 _ _)
 unfold Builtin.«dict.pop» Builtin.Dict.keyAndDefault
 refine wpAny_bind (wpAny_bind (wpAny_notOrdered_dict hT ?_))
 show wpAny _ _ (pure (d,Value.ref b,(none:Option Value))) _ _ s
 refine wpAny_pure ?_
 obtain⟨o,es,ep,ho,hc,hd,he,his,hn⟩:=id hm
 have hne:es.isEmpty=false:=by
  have e:=size_of_entries he
  have hl:=(List.getElem?_eq_some_iff.mp hj).1
  rw[Array.isEmpty_eq_false_iff_exists_mem]
  exact⟨es[j]'(by omega),Array.getElem_mem _⟩
 have hkp:(keyPart (Value.ref b)).isSome=false:=rfl
 simp only[hkp,Bool.false_eq_true,if_false]
 refine wpAny_bind (wpAny_dictEntries ho hd (wpAny_bind (wpAny_pure ?_)))
 rw[hne]
 simp only[Bool.false_eq_true,if_false]
 refine wpAny_bind (zM hu hkey hm hj hsz fun e h' o' es' ep' e1 e2 e3 e4 e5 e6=>?_)
 simp only[Option.isNone_some,Bool.false_eq_true,if_false]
 refine wpAny_bind (wpAny_letGo (wpAny_pure ⟨e.val,rfl,?_⟩))
 rw[e1]
 exact h h' o' es' ep' e2 e3 e4 e5 e6
end
section
variable {X:Cx}{pins:List (Addr×Obj)}{σ:St}{H:Hp}{s:Shared}
theorem aa3:dF X (.builtin "len") (fun xs H Q=>∃ a kvs,xs=[.ref a]∧Rd H a (.dT kvs)∧Q (.int kvs.length) H):=by
 intro pins s σ H xs us Q I r h
 obtain⟨a,kvs,rfl,e,q⟩:=h
 obtain⟨u,rfl,rx⟩:=gn r
 cases rx
 obtain⟨z,hsys,ys,pr,ob,es,ep,hgo,hex,hdat,hes,hnd⟩:=(show aV X.prog X.w H s.heap a (.dT kvs) from e.ok I.hok)
 have hsz:es.size=kvs.length:=by
  have:=congrArg List.length hes
  rw[List.length_map,← pr.length]at this
  simpa using this
 refine uL hsys ⟨ob,hgo,hex,hdat⟩ (by rw[hsz];rw[sizeLine_eq]at z;omega) ?_
 rw[hsz]
 exact⟨.int kvs.length,H,I.tok _,⟨_,rfl⟩,q⟩
def zk(td ty:TE):TE:=fun σ H Q=>td σ H fun x H1=>∃ a,x = .ref a∧IsD H1 a∧ty σ H1 fun y H2=>∃ kvs k b v,H2 a=some (.dT kvs)∧y = .ref b∧H2 b=some (.tup (k.map kV))∧cR kvs k=some v∧Q v (upd H2 a (.dT (cr kvs k)))
theorem yV{A:Around}{E:Value→Shared→Prop}{a b:Addr}{kvs:List (List Key×V)}{k:List Key}{v:V}{Q:Value→Shared→Prop}(hu:A.units+1<cLine)(I:Inv X pins σ H s)(e:H a=some (.dT kvs))(eb:H b=some (.tup (k.map kV)))(l:cR kvs k=some v)
 (h:∀ w' s',Inv X pins σ (upd H a (.dT (cr kvs k))) s'→aN v w'→Q w' s'):wpAny (model X.prog X.w) A (call (.builtin "dict.pop") [.ref a,.ref b]) Q E s:=by
 obtain⟨z,hd,xs,rel,dd⟩:=vV I.hok e
 have hv:=rel.val k
 rw[l]at hv
 obtain⟨w',hw,rw'⟩:=jS.some_of hv
 obtain⟨p,hp1,hp2⟩:=Option.map_eq_some_iff.mp hw
 obtain⟨j,hj⟩:∃ j,xs[j]?=some (k,p):=by
  unfold atKey at hp1
  obtain⟨y,hy1,hy2⟩:=Option.map_eq_some_iff.mp hp1
  have hk:=List.find?_some hy1
  have hm:=List.mem_of_find?_eq_some hy1
  obtain⟨j,hj⟩:=List.getElem?_of_mem hm
  have hk' : y.1=k:=of_decide_eq_true hk
  exact⟨j,by rw[hj,← hk',← hy2]⟩
 have hnd:(xs.map (·.1)).Nodup:=let⟨_,_,_,_,_,_,_,_,hn⟩:=dd;hn
 refine aaL (tupleKind_room_in1 hu) (km I.hok eb) dd hj (by rw[← rel.length];exact z) fun h' o' es' ep' g1 g2 g3 g4 sb=>?_
 rw[hp2]
 refine h w' _ ?_ rw'
 have hne:∀ b ys,H b=some (.tup ys)→upd H a (.dT (cr kvs k)) b=some (.tup ys):=fun b ys q=>by rw[ak (aO q e (by intro z;cases z))];exact q
 rw[jE hnd hj]at g4
 refine ll I (by rw[e];exact True.intro) sb ⟨o',g1⟩ ⟨Nat.le_trans (vG kvs k) z,hd,_,(rel.drop k).keeps hne,o',es',ep',g1,g2,g3,g4,?_⟩
 exact hnd.sublist (List.filter_sublist.map _)
variable {o e:Expr}{apos cpos:Pos}{td ty:TE}
theorem vp(hu:X.A.units+1<cLine)(ho:PE X o td)(he:PE X e ty)(m:M1 X o "pop" apos e cpos):PE X (.Call (.Attribute o "pop" apos) [e] [] cpos) (zk td ty):=by
 intro pins s σ H Q I h
 refine wpAny_Call_method m.base m.few m.line PySem.F.plainAttrs_dict PySem.F.slot_dict_pop PySem.F.type_dict_pop (thn (ho pins s σ H _ I h) fun u s1 ⟨x,H1,I1,rx,a,ex,d,q1⟩=>?_)
 subst ex
 obtain rfl:u=Value.ref a:=rx
 obtain⟨t1,t2,_⟩:=wN I1 d
 refine⟨t1,t2,?_⟩
 rw[m.trees]
 refine Calls.callWith_builtin rfl (Calls.evalArgs_plain (Calls.spliced_cons (thn (he pins s1 σ H1 _ I1 q1) fun iv s2 ⟨y,H2,I2,ry,kvs,k,b,v,ea,ey,eb,l,q2⟩=>Calls.spliced_nil ?_)))
 subst ey
 obtain rfl:iv=Value.ref b:=ry
 exact yV hu I2 ea eb l fun w' s3 I3 rw'=>⟨v,_,I3,rw',q2⟩
def zw(tk tv:TE):TE:=fun σ H Q=>∀ p,H p=none→tk σ (upd H p (.dT [])) fun y H1=>tv σ H1 fun v H2=>∃ b k,y = .ref b∧H2 b=some (.tup (k.map kV))∧H2 p=some (.dT [])∧Q (.ref p) (upd H2 p (.dT [(k,v)]))
end
end L2
namespace L2
open PySem PySem.Spec PyProof.Rows
section
variable {X:Cx}{k v:Expr}{pos:Pos}{tk tv:TE}
theorem vt(hu:X.A.units+1<cLine)(hk:PE X k tk)(hv:PE X v tv):PE X (.Dict [some k] [v] pos) (zw tk tv):=by
 intro pins s σ H Q I q
 have hn:=I.hok.fresh (Nat.le_refl s.heap.objs.size)
 have I1:=I.laid (a:=s.heap.objs.size) (o:=.dT []) (h':=s.heap.push { cls:=.type "dict",data:=.dict #[]}) (t':=s.toks) (fun _ _ q=>Heap.get?_push_of_some _ q) (Nat.le_refl _) (vE s.heap I.big)
 rw[arm_eval_Dict,zip_pairTrees [some k] [v] X.env pos rfl rfl,dictDisplay_pairs (pairTrees [some k] [v] X.env pos) (by intro z;cases z) (show 1<17 by decide)]
 refine wpAny_bind (wpAny_standAt (wpAny_bind ?_))
 unfold subDict
 refine wpAny_bind (wpAny_alloc (wpAny_bind (wpAny_holding ?_)))
 rw[if_pos (show(pairTrees [some k] [v] X.env pos).length≤15 from(show 1≤15 by decide))]
 refine wpAny_bind (pairTrees_cons_walk (thn (hk pins _ σ _ _ I1 (q _ hn)) fun u s1 ⟨y,H1,I2,ry,q1⟩=>thn (hv pins s1 σ H1 _ I2 q1) fun u2 s2 ⟨vv,H2,I3,rv,b,ks,ey,eb,ep,q2⟩=>pairTrees_nil_walk ?_))
 subst ey
 obtain rfl:u=Value.ref b:=ry
 obtain⟨z,hd,xs,rel,dd⟩:=vV I3.hok ep
 cases rel
 refine wpAny_holding (wpAny_bind ?_)
 rw[List.forIn_cons]
 refine wpAny_bind (wpAny_bind (wpAny_dictSet_heap (hsz:=Nat.zero_le _) (show X.A.units<cLine from Nat.lt_of_succ_lt hu) (km I3.hok eb) dd fun h' dd' hs=>wpAny_pure ?_))
 show wpAny _ _ (forIn [] PUnit.unit _) _ _ _
 rw[List.forIn_nil]
 refine wpAny_pure (wpAny_pure (wpAny_pure (wpAny_pure ?_)))
 obtain⟨o',es',ep',g1,g2,g3,g4,g5,g6⟩:=dd'
 have hb:upd H2 s.heap.objs.size (.dT [(ks,vv)]) b=some (.tup (ks.map kV)):=by
  rw[ak (aO eb ep (by intro z;cases z))]
  exact eb
 have new:aV X.prog X.w (upd H2 s.heap.objs.size (.dT [(ks,vv)])) h' s.heap.objs.size (.dT [(ks,vv)]):=⟨(show 1≤sizeLine by decide),hd,[(ks,b,u2)],.cons ⟨rfl,hb,rv⟩ .nil,o',es',ep',g1,g2,g3,g4,g6⟩
 exact⟨.ref s.heap.objs.size,_,ll I3 (by rw[ep];exact True.intro) hs ⟨o',g1⟩ new,rfl,q2⟩
end
end L2
namespace HT
open PySem PyProof.Rows
def le2(a b c d:Int):Bool:=if a=c then(if b=d then true else decide (b≤d)) else decide (a≤c)
theorem pD(a b c d:Int):le2 a b c d=true↔a<c∨(a=c∧b≤d):=by
 unfold le2
 by_cases h:a=c
 ·rw[if_pos h]
  by_cases h2:b=d
  ·rw[if_pos h2];simp[h,h2]
  ·rw[if_neg h2];simp only[decide_eq_true_eq];omega
 ·rw[if_neg h];simp only[decide_eq_true_eq];omega
theorem wW(A:Around)(s:Shared)(a:Int)(t:Tok)(c:Int)(u:Tok)(prog:Program)(w:World)(E:Value→Shared→Prop)(Q:Value→Shared→Prop)(h:Q (.bool (decide (a≤c))) s):
 wpAny (model prog w) A (richCompare .LtE (.int a t) (.int c u)) Q E s :=
 (PyProof.Rows.le_int h:wpAny (model prog w) A (compareOp .LtE (.int a t) (.int c u)) Q E s)
section
open PySem.SeqAt
open PySem.AutoSeq1 (wpAny_loadPart')
open PySem.MeetsSeq PySem.MeetsSeq2 PySem.MeetsSeq3
theorem uW(l b:Addr)(items items2:Array Value)(n n2:Nat)(dd dd2:Option Addr)(sl sl2:Array (Option Value))(x1 y1 x2 y2:Int)(t1 u1 t2 u2:Tok)(hi:items.toList=[.int x1 t1,.int y1 u1])(hj:items2.toList=[.int x2 t2,.int y2 u2]):
 Meets (Builtin.«tuple.__le__» ⟨[.ref l,.ref b],[]⟩)
  (fun _ R s=>s.heap.get? l=some { cls:=.type "tuple",dict:=dd,data:=.seq items n,slots:=sl}∧s.heap.get? b=some { cls:=.type "tuple",dict:=dd2,data:=.seq items2 n2,slots:=sl2}∧
   R (.ok (.ret (.bool (le2 x1 y1 x2 y2)))) s) :=
 .of_wp fun prog w A R s h=>by
  obtain⟨hp,g,d,tk,os⟩:=s;obtain⟨hl,hb,h⟩:=h
  have f2:=AutoSeq1.sub_tuple_tuple
  have z1:items.size=2:=by rw[← Array.length_toList,hi];rfl
  have z2:items2.size=2:=by rw[← Array.length_toList,hj];rfl
  wp_walk using wpAny_loadPart' hl,wpAny_loadPart' hb,wpAny_forIn_list _ (fun rest b s'=>b.1=none∧s' = ⟨hp,g,d,tk,os⟩∧
   ((rest=[((Value.int x1 t1:Value),(Value.int x2 t2:Value)),(.int y1 u1,.int y2 u2)]∧R (.ok (.ret (.bool (le2 x1 y1 x2 y2)))) ⟨hp,g,d,tk,os⟩)∨
    (rest=[((Value.int y1 u1:Value),(Value.int y2 u2:Value))]∧R (.ok (.ret (.bool (if y1=y2 then true else decide (y1≤y2))))) ⟨hp,g,d,tk,os⟩)∨(rest=[]∧R (.ok (.ret (.bool true))) ⟨hp,g,d,tk,os⟩))) _
  case turn =>
   rintro⟨y,x⟩ rest b s' ⟨hb',rfl,hh⟩
   obtain⟨a,c,t,u,vv,hy,hx,hR,hN⟩:∃(a c:Int) (t u:Tok) (vv:Bool),y = .int a t∧x = .int c u∧R (.ok (.ret (.bool (if a=c then vv else decide (a≤c))))) ⟨hp,g,d,tk,os⟩∧
    (R (.ok (.ret (.bool vv))) ⟨hp,g,d,tk,os⟩→(rest=[((Value.int y1 u1:Value),(Value.int y2 u2:Value))]∧R (.ok (.ret (.bool (if y1=y2 then true else decide (y1≤y2))))) ⟨hp,g,d,tk,os⟩)∨(rest=[]∧R (.ok (.ret (.bool true))) ⟨hp,g,d,tk,os⟩)):=by
    rcases hh with⟨hz,hR⟩|⟨hz,hR⟩|⟨hz,_⟩
    ·injection hz with ha hr
     obtain⟨hy,hx⟩:=Prod.mk.inj ha
     exact⟨x1,x2,t1,t2,_,hy,hx,hR,fun hR'=>.inl ⟨hr,hR'⟩⟩
    ·injection hz with ha hr
     obtain⟨hy,hx⟩:=Prod.mk.inj ha
     exact⟨y1,y2,u1,u2,true,hy,hx,hR,fun hR'=>.inr ⟨hr,hR'⟩⟩
    ·cases hz
   subst hy hx
   obtain⟨e,he,hiff⟩:=rq A.in1 ⟨hp,g,d,tk,os⟩ a t c u
   refine wpAny_bind (he prog w _ _ ?_)
   cases e with
   | true =>
     rw[if_pos (hiff.mp rfl)]at hR
     wp_walk
     exact⟨rfl,rfl,.inr (hN hR)⟩
   | false =>
     rw[if_neg (fun q=>absurd (hiff.mpr q) Bool.false_ne_true)]at hR
     have hri:=wW A.in1 ⟨hp,g,d,tk,os⟩ a t c u prog w
     wp_walk using hri
     exact⟨_,rfl,by simpa using hR⟩
  case fin =>
   rintro⟨b1,b2⟩ s' ⟨hb',rfl,hh⟩
   simp only at hb'
   subst hb'
   rcases hh with⟨hz,_⟩|⟨hz,_⟩|⟨_,hR⟩
   ·cases hz
   ·cases hz
   ·wp_walk
    refine⟨_,rfl,?_⟩
    simpa[Builtin.Tuple.tupleCompareSizes,z1,z2]using hR
  case h =>
   refine⟨rfl,rfl,.inl ⟨?_,h⟩⟩
   rw[hi,hj]
   rfl
end
section
variable {prog:Program}{w:World}{A:Around}{E:Value→Shared→Prop}{s:Shared}
theorem vR{l b:Addr}{items items2:Array Value}{x1 y1 x2 y2:Int}{Q:Value→Shared→Prop}(hl:IsTup s.heap l items)(hb:IsTup s.heap b items2)(hi:IntsAre items.toList [x1,y1])(hj:IntsAre items2.toList [x2,y2])
 (hu:A.units<cLine) (h:Q (.bool (le2 x1 y1 x2 y2)) s):wpAny (model prog w) A (compareOp .LtE (.ref l) (.ref b)) Q E s:=by
 obtain⟨⟨cls,dd,data,sl⟩,ho,hc,n,hd⟩:=id hl
 obtain⟨⟨cls2,dd2,data2,sl2⟩,ho2,hc2,n2,hd2⟩:=id hb
 simp only at hc hd hc2 hd2
 subst hc hd hc2 hd2
 have two:∀{vs:List Value} {a c:Int},IntsAre vs [a,c]→∃ t u,vs=[.int a t,.int c u]:=fun {vs a c} q=>by
  cases q with
  | cons n t r=>cases r with
    | cons n' t' r'=>cases r';exact⟨t,t',rfl⟩
 obtain⟨t1,u1,e1⟩:=two hi
 obtain⟨t2,u2,e2⟩:=two hj
 exact richCompare_meets_room (op:=.LtE) ⟨_,ho,rfl⟩ ⟨_,ho2,rfl⟩ PySem.F.slot_tuple_le PySem.F.entry_tuple_le (PySem.F.args_tuple_le_2 _ _) (uW l b items items2 n n2 dd dd2 sl sl2 x1 y1 x2 y2 t1 u1 t2 u2 e1 e2)
  ⟨ho,ho2,show Value.bool (le2 x1 y1 x2 y2)≠Value.notImplemented∧Q (.bool (le2 x1 y1 x2 y2)) s from⟨(fun x=>nomatch x),h⟩⟩ hu
end
end HT
namespace L2
open PySem PySem.Spec PyProof.Rows
section
variable {X:Cx}
def aaR(K:PySem.W.Frag):R2:=fun x y H Q=>∃ a b x1 y1 x2 y2,x = .ref a∧y = .ref b∧SqT K H a [.int x1,.int y1]∧SqT K H b [.int x2,.int y2]∧Q (.bl (HT.le2 x1 y1 x2 y2)) H
theorem zq(hu:X.A.units<cLine):OpR X (compareOp .LtE) (aaR X.K):=by
 intro pins s σ H x y v u Q I rx ry h
 obtain⟨a,b,x1,y1,x2,y2,rfl,rfl,ha,hb,q⟩:=h
 cases rx
 cases ry
 obtain⟨its,r1,p1,_⟩:=I.tuple ha
 obtain⟨its2,r2,p2,_⟩:=I.tuple hb
 exact HT.vR p1 p2 (gL (ns:=[x1,y1]) r1) (gL (ns:=[x2,y2]) r2) hu ⟨.bl (HT.le2 x1 y1 x2 y2),H,I,rfl,q⟩
end
end L2
namespace L2
open PySem PySem.Spec PyProof.Rows
abbrev kQ:=List (Addr×Str×Pos)
structure TabsOk(K:PySem.W.Frag)(h:Heap)(tb:kQ):Prop where
 nd:(tb.map (·.1)).Nodup
 mt:∀ p∈tb,h.get? p.1=some (PySem.W.tabObj #[])
 code:∀ p∈tb,∃ c,PySem.W.CodeHd h c p.1
 out:∀ p∈tb,K.lookup p.1=none
def ng(tb:kQ)(H:Hp):Prop:=∀ p∈tb,H p.1=some (.tbl (eK p.2.1 p.2.2))
def qG(tb:kQ):Hp:=fun b=>(tb.find? fun p=>p.1==b).map fun p=>.tbl (eK p.2.1 p.2.2)
theorem iN{tb:kQ}{b:Addr}{u:HO}(e:qG tb b=some u):∃ p∈tb,p.1=b∧u = .tbl (eK p.2.1 p.2.2):=by
 unfold qG at e
 obtain⟨p,h1,h2⟩:=Option.map_eq_some_iff.mp e
 have h3:(p.1==b)=true:=List.find?_some (p:=fun p:Addr×Str×Pos=>p.1==b) h1
 exact⟨p,List.mem_of_find?_eq_some h1,eq_of_beq h3,h2.symm⟩
theorem pW:∀{tb:kQ},(tb.map (·.1)).Nodup→ng tb (qG tb)
 | [],_=>fun p hp=>nomatch hp
 | q::r,nd=>fun p hp=>by
   rw[List.map_cons,List.nodup_cons]at nd
   rcases List.mem_cons.mp hp with rfl|hp
   ·unfold qG;rw[List.find?_cons_of_pos (by simp)];rfl
   ·have ne:(q.1==p.1)=false:=beq_eq_false_iff_ne.mpr fun z=>nd.1 (by rw[z];exact List.mem_map_of_mem hp)
    unfold qG
    rw[List.find?_cons_of_neg (by rw[ne];exact Bool.false_ne_true)]
    exact pW nd.2 p hp
theorem uS{P:Program}{w:World}{K:PySem.W.Frag}{mg mb:Str→Option Value}{CX:CXT}{k:Nat}{fa a:Addr}{fd:FuncData}{x:Str}{sp:Sp}{s₁:Shared}{vs:List Value}{ns:List Int}{tb:kQ}
 (KX:K.In s₁.heap) (TB:TabsOk K s₁.heap tb) (hns:s₁.heap.Ns mainGlobals mg) (hb:s₁.heap.Ns builtinsNs mb) (hbb:∀ x:Str,x≠"__name__"→mb x=bootBuiltins x) (hlim:s₁.heap.NoLimit)
 (hbm:∃ bm ob,mg "__builtins__"=some (.ref bm)∧bm≠builtinsNs∧s₁.heap.get? bm=some ob∧ob.cls = .type "module"∧ob.dict=some builtinsNs∧ob.data = .plain) (hg:s₁.gens = #[])
 (ha:s₁.heap.get? a=some { cls:=.type "list",data:=.seq vs.toArray}) (hi:IntsAre vs ns) (hl:ns.length≤sizeLine) (hr:Room k callerA)
 (F:∀ base:Heap,K.In base→base.Ns mainGlobals mg→FnOk P w K mg base CX k fa fd [x] sp) (hbind:∀(s:Shared) (u:Value),BindsTo s fd ⟨[u],[]⟩ [(x,u)])
 (hsp:∀ H:Hp,ng tb H→SqL K H a (ns.map V.int)→sp [.ref a] H (fun v _=>v = .bl true) fun _ _ _=>False)
 (hCX:∀ H e s',CX [] H s₁ (fun _ _ _=>False) e s'→False) :
 codeAny (model P w) callerA (.call (.ref fa) ⟨[.ref a],[]⟩) (fun r s'=>r = .ok (.ret (.bool true))∧OldK s₁.heap s'.heap∧s'.os=s₁.os∧AllBare s'.gens) s₁:=by
 have rv:=nW hi
 have lenV:=hi.length
 have aT:∀ p∈tb,p.1≠a:=fun p hp z=>by
  have:=TB.mt p hp
  rw[z,ha]at this;cases this
 let fz:HO:=.frz { cls:=.type "list",data:=.seq vs.toArray} (.lst (ns.map V.int))
 have core:∀ H:Hp,SqL K H a (ns.map V.int)→ng tb H→HOk P w H s₁.heap→(∀ b u,H b=some u→(b=a∧K.lookup a=none∧u=fz)∨∃ p∈tb,p.1=b∧u = .tbl (eK p.2.1 p.2.2))→
  codeAny (model P w) callerA (.call (.ref fa) ⟨[.ref a],[]⟩) (fun r s'=>r = .ok (.ret (.bool true))∧OldK s₁.heap s'.heap∧s'.os=s₁.os∧AllBare s'.gens) s₁:=by
  intro H hS hT hok hA
  have free:∀{b:Addr} {o:Obj},s₁.heap.get? b=some o→(∀ xs n,o.data≠.seq xs n)→(∀ xs,o.data≠.fields xs)→H b=none:=fun {b o} e n1 n2=>by
   cases q:H b with
   | none=>rfl
   | some u =>
     rcases hA b u q with⟨z,_⟩|⟨p,hp,z,_⟩
     ·rw[z,ha]at e;cases e;exact absurd rfl (n1 _ _)
     ·rw[← z,TB.mt p hp]at e;cases e;exact absurd rfl (n2 _)
  have nsK:∀{b:Addr} {m:Str→Option Value},s₁.heap.Ns b m→(qI s₁.heap H).Ns b m:=fun {b m} ⟨o,es,ep,e,d,r⟩=>⟨o,es,ep,my e (free e (by intro _ _ z;rw[d]at z;cases z) (by intro _ z;rw[d]at z;cases z)),d,r⟩
  have hKb:K.In (qI s₁.heap H):=fun b o e=>my (KX b o e) (by
   cases q:H b with
   | none=>rfl
   | some u =>
     rcases hA b u q with⟨z,n,_⟩|⟨p,hp,z,_⟩
     ·rw[z,n]at e;cases e
     ·rw[← z,TB.out p hp]at e;cases e)
  have hM:Mod K mg (qI s₁.heap H):=⟨hKb,nsK hns,⟨mb,nsK hb,hbb⟩,(let⟨mc,h1,h2⟩:=hlim;⟨mc,nsK h1,h2⟩),
   let⟨bm,ob,b1,b2,b3,b4,b5,b6⟩:=hbm;⟨bm,ob,b1,b2,my b3 (free b3 (by intro _ _ z;rw[b6]at z;cases z) (by intro _ z;rw[b6]at z;cases z)),b4,b5,b6⟩⟩
  have e0:Env0 P w K mg (qI s₁.heap H) callerA [] s₁ H:=⟨rfl,hM,fun b o e=>xY e,Nat.le_of_eq (uo _ _),trivial,fun b hb=>absurd (show b∈([]:List Addr) from hb) (by simp),hok,.of_eq hg⟩
  refine codeAny_mono ((F _ hKb (nsK hns)).run callerA [] s₁ H ⟨[.ref a],[]⟩ [.ref a] [.ref a] _ _ hr e0 (hbind s₁ (.ref a)) (.cons rfl .nil) (hsp H hT hS)) fun r s' h=>?_
  cases r with
  | error e=>exact(hCX H e s' h).elim
  | ok fl =>
    cases fl with
    | next=>exact False.elim h
    | brk=>exact False.elim h
    | cont=>exact False.elim h
    | ret u =>
      obtain⟨v,H',os,bare,un,hok',r',q⟩:=h
      have q' : v = .bl true:=q
      subst q'
      obtain rfl:u=Value.bool true:=r'
      have all:∀ b o,s₁.heap.get? b=some o→s'.heap.get? b=some o∨∃ p∈tb,p.1=b∧∃ ps,s'.heap.get? b=some (PySem.W.tabObj ps):=fun b o e=>by
       cases q:H b with
       | none=>exact .inl (un.keep b o e q (by intro z;exact absurd (show b∈([]:List Addr) from z) (by simp)) (by simp))
       | some u =>
         rcases hA b u q with⟨z,_,z2⟩|⟨p,hp,z,z2⟩
         ·rw[z2]at q
          obtain⟨e1,_⟩:=hok b _ q
          obtain⟨e2,_⟩:=hok' b _ (un.frzs b _ _ q)
          rw[e]at e1;cases e1
          exact .inl e2
         ·rw[z2]at q
          obtain⟨more,q2⟩:=un.tbls b _ q
          obtain⟨ps,e2,_⟩:=hok' b _ q2
          exact .inr ⟨p,hp,z,ps,e2⟩
      refine⟨rfl,⟨fun b o e=>?_,fun b o e=>?_⟩,os,bare⟩
      ·rcases all b o e with z|⟨p,hp,z,ps,e2⟩
       ·exact .inl z
       ·obtain⟨c,hc⟩:=TB.code p hp
        have e1:=TB.mt p hp
        subst z
        rw[e]at e1;cases e1
        exact .inr (.inl ⟨(hc.tab e).isCodeTable,rfl,#[],ps,rfl,by rw[e2,Array.empty_append]⟩)
      ·rcases all b o e with z|⟨p,hp,z,ps,e2⟩
       ·exact⟨o,z⟩
       ·exact⟨_,e2⟩
 have tok:∀{H:Hp} {b:Addr} {p},p∈tb→p.1=b→aV P w H s₁.heap b (.tbl (eK p.2.1 p.2.2)):=fun {H b p} hp z=>⟨#[],by rw[← z];exact TB.mt p hp,.inl ⟨rfl,.inl rfl⟩⟩
 cases hk:K.lookup a with
 | some o =>
   have e:=KX a o hk
   rw[ha]at e
   cases e
   refine core (qG tb) (.inr ⟨_,vs.toArray,_,hk,rfl,rfl,rfl,by rw[List.size_toArray,lenV];exact hl,by simpa using rv⟩) (pW TB.nd) (fun b u e=>?_) fun b u e=>.inr (iN e)
   obtain⟨p,hp,z,rfl⟩:=iN e
   exact tok hp z
 | none =>
   refine core (fun b=>if b=a then some fz else qG tb b) (.inl (.inr ⟨{ cls:=.type "list",data:=.seq vs.toArray},if_pos rfl⟩)) (fun p hp=>?_) (fun b u e=>?_) fun b u e=>?_
   ·show(if p.1=a then some fz else qG tb p.1)=_
    rw[if_neg (aT p hp)]
    exact pW TB.nd p hp
   ·by_cases hb:b=a
    ·have z:=(if_pos hb).symm.trans e
     cases z
     subst hb
     exact⟨ha,by rw[List.length_map];exact hl,vs,_,rv,ha⟩
    ·have z:=(if_neg hb).symm.trans e
     obtain⟨p,hp,z2,rfl⟩:=iN z
     exact tok hp z2
   ·by_cases hb:b=a
    ·have z:=(if_pos hb).symm.trans e
     exact .inl ⟨hb,hk,(Option.some.inj z).symm⟩
    ·exact .inr (iN ((if_neg hb).symm.trans e))
theorem xa{l:PySem.W.OpenLaw}{n k:Nat}{q:Program}{loose:List Str}{XP:(Str→Option Value)→Heap→Prop}{YP:World→Heap→Prop}{d:DefRec}{K:Params→PySem.W.Frag}{CX:World→CXT}{sp:World→kQ→Sp}{x:Str}{ts:List Addr}
 (hn:l.most=some n) (hn2:n≤sizeLine) (hdf:d.params.defaults=[]) (hr:Room k callerA)
 (hY:∀(w:World) (h:Heap),YP w h→(K w.params).In h∧∀ P∈ts,h.get? P=some (PySem.W.tabObj #[]))
 (F:∀(w:World) (mg:Str→Option Value) (fa:Addr) (h:Heap),(K w.params).In h→h.Ns mainGlobals mg→mg d.name=some (.ref fa)→
  ∃(fd:FuncData) (tb:kQ),((tb.map (·.1)).Nodup∧PySem.W.noTabs (K w.params)=true∧∀ p∈tb,p.1∈ts∧∃ c,PySem.W.codeHdIn (K w.params) c p.1=true)∧(∀(s:Shared) (u:Value),BindsTo s fd ⟨[u],[]⟩ [(x,u)])∧
   ∀ base:Heap,(K w.params).In base→base.Ns mainGlobals mg→FnOk l.prog w (K w.params) mg base (CX w) k fa fd [x] (sp w tb))
 (hsp:∀(w:World) (H:Hp) (a:Addr) (ns:List Int) (tb:kQ),ns.length≤n→ng tb H→SqL (K w.params) H a (ns.map V.int)→sp w tb [.ref a] H (fun v _=>v = .bl true) fun _ _ _=>False)
 (hCX:∀(w:World) (H:Hp) (s:Shared) (e:Value) (s' : Shared),CX w [] H s (fun _ _ _=>False) e s'→False) :
 PySem.W.WalkO q loose XP YP l.row.toRowW d [] (fun f vs=>PySem.call f vs):=by
 refine Att.qU hn hdf fun w s₀ s₁ mg mb fa o pm cd doc a vs ns G Y ho hd hcd hmg hobj hints hlen hg=>?_
 obtain⟨KX,hts⟩:=hY w _ Y
 obtain⟨fd,tb,⟨nd,nt,ht⟩,hb,hF⟩:=F w mg fa _ KX G.T.g hmg
 have TB:TabsOk (K w.params) s₁.heap tb:=⟨nd,fun p hp=>hts _ (ht p hp).1,fun p hp=>let⟨_,c,e⟩:=ht p hp;⟨c,PySem.W.codeHd_of_K KX e⟩,fun p hp=>by
  cases e:(K w.params).lookup p.1 with
  | none=>rfl
  | some ob =>
    have e1:=KX _ _ e
    rw[hts _ (ht p hp).1]at e1
    cases e1
    have z:=List.all_eq_true.mp nt (p.1,PySem.W.tabObj #[]) (PySem.W.mem_of_lookupK e)
    exact absurd (show false=true from z) Bool.false_ne_true⟩
 exact uS KX TB G.T.g G.T.b G.T.builtins G.T.nolimit G.T.bmain hg hobj hints (Nat.le_trans hlen hn2) hr hF hb (fun H hT hS=>hsp w H a ns tb hlen hT hS) fun H e s'=>hCX w H s₁ e s'
end L2
namespace L2
open PySem PySem.Spec PyProof.Rows
def uJ(f:Str):Str:=f ++ ".<locals>." ++ "<lambda>"
structure FunL(K:PySem.W.Frag)(x qual:Str)(st:Stmt)(f:Addr)(fd:FuncData)(c0 P:Addr):Prop where
 ex:∃(oc:Value) (od:Option Addr) (kV doc pm:Value) (an:Option Addr) (ct:Value) (osl:Array (Option Value)),
  fd=PySem.W.fnOf x qual (aw st) (av st) (ae st) .none kV doc pm an (.ref c0) ct∧K.lookup f=some ⟨oc,od,.func fd,osl⟩∧PySem.W.codeIn K (.ref c0) qual=true
 kp:PySem.W.keepIn K (.ref f)=true
 hd:PySem.W.codeHdIn K c0 P=true
section
variable {P:Program}{w:World}{K:PySem.W.Frag}{mg:Str→Option Value}{base:Heap}{x qual:Str}{st:Stmt}{f c0 p0:Addr}{fd:FuncData}
theorem FunL.ok{N ps:List Str}{k:Nat}{sp:Sp}(F:FunL K x qual st f fd c0 p0)(S:FnScope N ps (ae st))(len:∀ vs H Q E,sp vs H Q E→vs.length=ps.length)
 (hbody:∀(A:Around) (outer:List Env) (s:Shared) (H:Hp) (vs:List V) (Q:VK) (E:XK),Room k (A.deeper (envOfC qual (ae st) s.heap.objs.size f (.ref c0)))→sp vs H Q E→
  ∃ t,PSs (lS CX0 P w K mg base N qual (ae st) f (.ref c0) A outer s H E).nox (av st) t∧t { nx:=fun _ H'=>Q .non H',rt:=Q} (start N vs) H):FnOk P w K mg base CX0 (k+1) f fd ps sp:=by
 obtain⟨oc,od,kV,doc,pm,an,ct,osl,rfl,lk,hcd⟩:=F.ex
 refine vN lk hcd S len fun A outer s H vs Q E hr hsp=>?_
 obtain⟨t,h,q⟩:=hbody A outer s H vs Q E hr hsp
 exact⟨t,h.nox,q⟩
theorem FunL.binds{ps:List Str}(F:FunL K x qual st f fd c0 p0)
 (h:∀(kV doc pm:Value) (an:Option Addr) (cdv ct:Value) (us:List Value),us.length=ps.length→bindArgs (PySem.W.fnOf x qual (aw st) (av st) (ae st) .none kV doc pm an cdv ct) ⟨us,[]⟩=pure (ps.zip us)):aI K fd ps []:=by
 obtain⟨oc,od,kV,doc,pm,an,ct,osl,rfl,lk,hcd⟩:=F.ex
 exact .all (h kV doc pm an (.ref c0) ct)
theorem xX{oc:Value}{od an:Option Addr}{osl:Array (Option Value)}{kV doc pm ct:Value}(l:K.lookup f=some ⟨oc,od,.func (PySem.W.fnOf x qual (aw st) (av st) (ae st) .none kV doc pm an (.ref c0) ct),osl⟩)
 (c:PySem.W.codeIn K (.ref c0) qual=true) (k:PySem.W.keepIn K (.ref f)=true) (hd:PySem.W.codeHdIn K c0 p0=true):FunL K x qual st f (PySem.W.fnOf x qual (aw st) (av st) (ae st) .none kV doc pm an (.ref c0) ct) c0 p0 :=
 ⟨⟨oc,od,kV,doc,pm,an,ct,osl,rfl,l,c⟩,k,hd⟩
end
end L2
namespace RM
abbrev OW:=Nat→Bool→Option (Int×Nat)
def fK(F:OW)(x:Nat)(s:Bool)(d:Int×Nat):OW:=fun y t=>if y=x∧t=s then some d else F y t
def p7(F:OW)(x:Nat)(s:Bool):OW:=fun y t=>if y=x∧t=s then none else F y t
theorem be(F:OW)(x:Nat)(s:Bool)(d:Int×Nat):fK F x s d x s=some d:=if_pos ⟨rfl,rfl⟩
theorem aS{F:OW}{x y:Nat}{s t:Bool}{d:Int×Nat}(h : ¬(y=x∧t=s)):fK F x s d y t=F y t:=if_neg h
theorem lh(F:OW)(x:Nat)(s:Bool):p7 F x s x s=none:=if_pos ⟨rfl,rfl⟩
theorem iT{F:OW}{x y:Nat}{s t:Bool}(h : ¬(y=x∧t=s)):p7 F x s y t=F y t:=if_neg h
def Wz(N:Net)(L:Nat→Int)(m u v:Nat)(s:Bool)(z:Int)(e:Nat):Prop:=∃ pre,Wl N L m u pre v s z e
structure Dj(N:Net)(L:Nat→Int)(m u:Nat)(F W:OW)(now:Option (Nat×Bool))(done:Nat→Nat→Prop):Prop where
 fw:∀ x s d,F x s=some d→Wz N L m u x s d.1 d.2
 ww:∀ x s d,W x s=some d→Wz N L m u x s d.1 d.2
 dj:∀ x s d,W x s=some d→F x s=none
 le:∀ x s d y t d',F x s=some d→W y t=some d'→d.1≤d'.1
 mx:∀ x s d y t d',now=some (x,s)→F x s=some d→F y t=some d'→d'.1≤d.1
 cl:∀ x s d k y,F x s=some d→k<N.n→Jn N k x y→(now=some (x,s)→done k y)→∃ d',(F y (s^^m.testBit k)=some d'∨W y (s^^m.testBit k)=some d')∧d'.1≤d.1+L k
 st:∃ d,(F u false=some d∨W u false=some d)∧d.1≤0
section
variable {N:Net}{L:Nat→Int}{m u:Nat}{F W:OW}
theorem Dj.start:Dj N L m u (fun _ _=>none) (fK (fun _ _=>none) u false (0,0)) none (fun _ _=>False):=by
 refine⟨fun _ _ _ h=>(nomatch h),fun x s d h=>?_,fun _ _ _ _=>rfl,fun _ _ _ _ _ _ h=>(nomatch h),fun _ _ _ _ _ _ h=>(nomatch h),fun _ _ _ _ _ h=>(nomatch h),⟨(0,0),.inr (be _ _ _ _),Int.le_refl _⟩⟩
 by_cases e:x=u∧s=false
 ·obtain⟨rfl,rfl⟩:=e
  rw[be]at h
  cases h
  exact⟨[],.nil⟩
 ·rw[aS e]at h
  cases h
theorem Dj.pop(h:Dj N L m u F W none (fun _ _=>False)){x:Nat}{s:Bool}{d:Int×Nat}(e:W x s=some d)(hmin:∀ y t d',W y t=some d'→d.1≤d'.1):Dj N L m u (fK F x s d) (p7 W x s) (some (x,s)) (fun _ _=>False):=by
 have hF:=h.dj x s d e
 have of:∀ y t d',fK F x s d y t=some d'→(y=x∧t=s∧d' = d)∨F y t=some d':=fun y t d' q=>by
  by_cases z:y=x∧t=s
  ·obtain⟨rfl,rfl⟩:=z
   rw[be]at q
   exact .inl ⟨rfl,rfl,(Option.some.inj q).symm⟩
  ·rw[aS z]at q
   exact .inr q
 have ow:∀ y t d',p7 W x s y t=some d'→¬(y=x∧t=s)∧W y t=some d':=fun y t d' q=>by
  by_cases z:y=x∧t=s
  ·obtain⟨rfl,rfl⟩:=z
   rw[lh]at q
   cases q
  ·rw[iT z]at q
   exact⟨z,q⟩
 have moved:∀ y t d',F y t=some d'∨W y t=some d'→fK F x s d y t=some d'∨p7 W x s y t=some d':=fun y t d' q=>by
  by_cases z:y=x∧t=s
  ·obtain⟨rfl,rfl⟩:=z
   rcases q with q|q
   ·rw[hF]at q;cases q
   ·rw[e]at q;cases q
    exact .inl (be _ _ _ _)
  ·rw[aS z,iT z];exact q
 refine⟨fun y t d' q=>?_,fun y t d' q=>h.ww y t d' (ow y t d' q).2,fun y t d' q=>?_,fun y t d' y2 t2 d2 q q2=>?_,fun y t d' y2 t2 d2 hn q q2=>?_,fun y t d' k y2 q hk hj hd=>?_,?_⟩
 ·rcases of y t d' q with⟨rfl,rfl,rfl⟩|q
  ·exact h.ww _ _ _ e
  ·exact h.fw y t d' q
 ·obtain⟨z,q⟩:=ow y t d' q
  rw[aS z]
  exact h.dj y t d' q
 ·obtain⟨_,q2⟩:=ow y2 t2 d2 q2
  rcases of y t d' q with⟨_,_,rfl⟩|q
  ·exact hmin _ _ _ q2
  ·exact h.le _ _ _ _ _ _ q q2
 ·cases hn
  rw[be]at q
  cases q
  rcases of y2 t2 d2 q2 with⟨_,_,rfl⟩|q2
  ·exact Int.le_refl _
  ·exact h.le _ _ _ _ _ _ q2 e
 ·rcases of y t d' q with⟨rfl,rfl,rfl⟩|q
  ·exact(hd rfl).elim
  ·obtain⟨d2,q2,l2⟩:=h.cl y t d' k y2 q hk hj (fun z=>nomatch z)
   exact⟨d2,moved _ _ _ q2,l2⟩
 ·obtain⟨d2,q2,l2⟩:=h.st
  exact⟨d2,moved _ _ _ q2,l2⟩
theorem Dj.put{done:Nat→Nat→Prop}{x:Nat}{s:Bool}(h:Dj N L m u F W (some (x,s)) done){d:Int×Nat}{k y:Nat}(e:F x s=some d)(hk:k<N.n)(hL:0≤L k)(hj:Jn N k x y)(hF:F y (s^^m.testBit k)=none)
 (hW:∀ d',W y (s^^m.testBit k)=some d'→d.1+L k≤d'.1):Dj N L m u F (fK W y (s^^m.testBit k) (d.1+L k,d.2^^^2^k)) (some (x,s)) (fun k' y'=>done k' y'∨(k' = k∧y' = y)):=by
 have ow:∀ v t d',fK W y (s^^m.testBit k) (d.1+L k,d.2^^^2^k) v t=some d'→(v=y∧t=(s^^m.testBit k)∧d' = (d.1+L k,d.2^^^2^k))∨W v t=some d':=fun v t d' q=>by
  by_cases z:v=y∧t=(s^^m.testBit k)
  ·obtain⟨rfl,rfl⟩:=z
   rw[be]at q
   exact .inl ⟨rfl,rfl,(Option.some.inj q).symm⟩
  ·rw[aS z]at q
   exact .inr q
 have moved:∀ v t d',F v t=some d'∨W v t=some d'→∃ d2,(F v t=some d2∨fK W y (s^^m.testBit k) (d.1+L k,d.2^^^2^k) v t=some d2)∧d2.1≤d'.1:=fun v t d' q=>by
  rcases q with q|q
  ·exact⟨d',.inl q,Int.le_refl _⟩
  ·by_cases z:v=y∧t=(s^^m.testBit k)
   ·obtain⟨rfl,rfl⟩:=z
    exact⟨_,.inr (be _ _ _ _),hW d' q⟩
   ·exact⟨d',.inr (by rw[aS z];exact q),Int.le_refl _⟩
 refine⟨h.fw,fun v t d' q=>?_,fun v t d' q=>?_,fun v t d' v2 t2 d2 q q2=>?_,h.mx,fun v t d' k2 y2 q hk2 hj2 hd=>?_,?_⟩
 ·rcases ow v t d' q with⟨rfl,rfl,rfl⟩|q
  ·obtain⟨pre,w⟩:=h.fw x s d e
   exact⟨_,w.go hk hj⟩
  ·exact h.ww v t d' q
 ·rcases ow v t d' q with⟨rfl,rfl,rfl⟩|q
  ·exact hF
  ·exact h.dj v t d' q
 ·rcases ow v2 t2 d2 q2 with⟨rfl,rfl,rfl⟩|q2
  ·have:=h.mx x s d v t d' rfl e q
   show d'.1≤d.1+L k
   omega
  ·exact h.le _ _ _ _ _ _ q q2
 ·by_cases hd2:some (x,s)=some (v,t)→done k2 y2
  ·obtain⟨d2,q2,l2⟩:=h.cl v t d' k2 y2 q hk2 hj2 hd2
   obtain⟨d3,q3,l3⟩:=moved _ _ _ q2
   exact⟨d3,q3,Int.le_trans l3 l2⟩
  ·have hn:some (x,s)=some (v,t):=Classical.byContradiction fun z=>hd2 fun z2=>absurd z2 z
   rcases hd hn with z|⟨rfl,rfl⟩
   ·exact absurd (fun _=>z) hd2
   ·cases hn
    rw[e]at q
    cases q
    exact⟨_,.inr (be _ _ _ _),Int.le_refl _⟩
 ·obtain⟨d2,q2,l2⟩:=h.st
  obtain⟨d3,q3,l3⟩:=moved _ _ _ q2
  exact⟨d3,q3,Int.le_trans l3 l2⟩
theorem Dj.skip{done:Nat→Nat→Prop}{x:Nat}{s:Bool}(h:Dj N L m u F W (some (x,s)) done){d d2:Int×Nat}{k y:Nat}(e:F x s=some d)(hL:0≤L k)(q2:F y (s^^m.testBit k)=some d2∨(W y (s^^m.testBit k)=some d2∧d2.1≤d.1+L k)):
 Dj N L m u F W (some (x,s)) (fun k' y'=>done k' y'∨(k' = k∧y' = y)):=by
 refine⟨h.fw,h.ww,h.dj,h.le,h.mx,fun v t d' k2 y2 q hk2 hj2 hd=>?_,h.st⟩
 by_cases hd2:some (x,s)=some (v,t)→done k2 y2
 ·exact h.cl v t d' k2 y2 q hk2 hj2 hd2
 ·have hn:some (x,s)=some (v,t):=Classical.byContradiction fun z=>hd2 fun z2=>absurd z2 z
  rcases hd hn with z|⟨rfl,rfl⟩
  ·exact absurd (fun _=>z) hd2
  ·cases hn
   rw[e]at q
   cases q
   rcases q2 with q2|⟨q2,l2⟩
   ·have:=h.mx x s d _ _ d2 rfl e q2
    exact⟨d2,.inl q2,by omega⟩
   ·exact⟨d2,.inr q2,l2⟩
theorem Dj.all{done:Nat→Nat→Prop}{x:Nat}{s:Bool}(h:Dj N L m u F W (some (x,s)) done)(ha:∀ k y,k<N.n→Jn N k x y→done k y):Dj N L m u F W none (fun _ _=>False) :=
 ⟨h.fw,h.ww,h.dj,h.le,fun _ _ _ _ _ _ z=>(nomatch z),fun v t d k y q hk hj _=>h.cl v t d k y q hk hj fun z=>by cases z;exact ha k y hk hj,h.st⟩
theorem Dj.best(h:Dj N L m u F W none (fun _ _=>False))(hW:∀ x s,W x s=none)(x:Nat)(s:Bool):m9 N L m u x s ((F x s).map (·.1)):=by
 have low:∀{pre:List Nat} {v e:Nat} {t:Bool} {z:Int},Wl N L m u pre v t z e→∃ d,F v t=some d∧d.1≤z:=fun {pre v e t z} w=>by
  induction w with
  | nil =>
    obtain⟨d,q,l⟩:=h.st
    rcases q with q|q
    ·exact⟨d,q,l⟩
    ·rw[hW]at q;cases q
  | @go pre v w k e s z _ hk hj ih =>
    obtain⟨d,q,l⟩:=ih
    obtain⟨d2,q2,l2⟩:=h.cl _ _ d k _ q hk hj (fun z=>nomatch z)
    rcases q2 with q2|q2
    ·exact⟨d2,q2,by omega⟩
    ·rw[hW]at q2;cases q2
 cases q:F x s with
 | none =>
   intro z ⟨_,_,w⟩
   obtain⟨d,q2,_⟩:=low w
   rw[q]at q2;cases q2
 | some d =>
   obtain⟨pre,w⟩:=h.fw x s d q
   refine⟨⟨_,_,w⟩,fun z ⟨_,_,w2⟩=>?_⟩
   obtain⟨d2,q2,l2⟩:=low w2
   rw[q]at q2;cases q2
   exact l2
end
end RM
namespace L2
open PySem Ring
abbrev ky(x:Nat)(s:Bool):List Key:=[.inl (x:Int),.inl (s.toNat:Int)]
theorem sK{x y:Nat}{s t:Bool}(h:ky x s=ky y t):x=y∧s=t:=by
 injection h with h1 h2
 injection h2 with h2 _
 injection h1 with h1
 injection h2 with h2
 refine⟨by omega,?_⟩
 cases s<;>cases t<;>first | rfl | (simp at h2)
def wV(H:Hp):Option (Int×Nat)→V→Prop
 | none,v=>v = .non
 | some d,v=>∃ c,v = .ref c∧H c=some (.tup [.int d.1,.int (d.2:Int)])
theorem wV.tups{H H' : Hp}{o:Option (Int×Nat)}{v:V}(h:wV H o v)(s:dL H H'):wV H' o v:=by
 cases o with
 | none=>exact h
 | some d=>obtain⟨c,e,q⟩:=h;exact⟨c,e,s _ _ q⟩
structure LwV(p:Nat)(H0:Hp)(D wd:Addr)(es:List Addr)(kvs:List (List Key×V))(F W:RM.OW)(H:Hp):Prop where
 same:am H0 H
 nd:es.Nodup
 ne:D∉es
 fr:∀ b∈es,H0 b=none
 Dn:H0 D=none
 wn:H0 wd=none
 wD:wd≠D
 wE:wd∉es
 lst:H D=some (.lst (es.map V.ref))
 at_:∀ i b,es[i]?=some b→∃ v0 v1,H b=some (.lst [v0,v1])∧wV H (F i false) v0∧wV H (F i true) v1
 dt:H wd=some (.dT kvs)
 kn:(kvs.map (·.1)).Nodup
 keys:∀ kv∈kvs,∃ x s,x<p∧kv.1=ky x s
 out:∀ x s d,W x s=some d→x<p
 val:∀ x s,(W x s=none∧cR kvs (ky x s)=none)∨∃ d c,W x s=some d∧cR kvs (ky x s)=some (.ref c)∧H c=some (.tup [.int d.1,.int (d.2:Int)])
section
variable {p:Nat}{H0 H H' : Hp}{D wd:Addr}{es:List Addr}{kvs:List (List Key×V)}{F W:RM.OW}
theorem LwV.go(h:LwV p H0 D wd es kvs F W H)(s:am H H'):LwV p H0 D wd es kvs F W H' :=
 ⟨h.same.trans s,h.nd,h.ne,h.fr,h.Dn,h.wn,h.wD,h.wE,s _ _ h.lst,fun i b e=>let⟨v0,v1,a,b1,c⟩:=h.at_ i b e;⟨v0,v1,s _ _ a,b1.tups s.tups,c.tups s.tups⟩,s _ _ h.dt,h.kn,h.keys,h.out,
  fun x t=>(h.val x t).imp (fun z=>z) fun⟨d,c,a,b,e⟩=>⟨d,c,a,b,s _ _ e⟩⟩
theorem LwV.len(h:LwV p H0 D wd es kvs F W H):kvs.length≤2*p:=by
 have hn:=h.kn
 have hk:=h.keys
 let code:List Key→Nat:=fun k=>match k with | [.inl x,.inl s]=>2*x.toNat+s.toNat | _=>0
 have inj:∀ a∈kvs.map (·.1),∀ b∈kvs.map (·.1),code a=code b→a=b:=fun a ha b hb e=>by
  obtain⟨u,hu,rfl⟩:=List.mem_map.mp ha
  obtain⟨v,hv,rfl⟩:=List.mem_map.mp hb
  obtain⟨x,s,_,ex⟩:=hk u hu
  obtain⟨y,t,_,ey⟩:=hk v hv
  rw[ex,ey]at e ⊢
  have e:2*((x:Int)).toNat+((s.toNat:Int)).toNat=2*((y:Int)).toNat+((t.toNat:Int)).toNat:=e
  rw[Int.toNat_natCast,Int.toNat_natCast,Int.toNat_natCast,Int.toNat_natCast]at e
  have hs:s.toNat<2:=by cases s<;>decide
  have ht:t.toNat<2:=by cases t<;>decide
  have e1:x=y:=by omega
  have e2:s.toNat=t.toNat:=by omega
  have e3:s=t:=by cases s<;>cases t<;>first | rfl | (simp at e2)
  rw[e1,e3]
 have nd:((kvs.map (·.1)).map code).Nodup:=by
  revert inj
  generalize kvs.map (·.1)=l at hn
  intro inj
  induction hn with
  | nil=>exact List.nodup_nil
  | @cons a l h1 h2 ih =>
    rw[List.map_cons,List.nodup_cons]
    refine⟨fun hm=>?_,ih fun a ha b hb e=>inj a (List.mem_cons_of_mem _ ha) b (List.mem_cons_of_mem _ hb) e⟩
    obtain⟨b,hb,e⟩:=List.mem_map.mp hm
    exact h1 b hb (inj a List.mem_cons_self b (List.mem_cons_of_mem _ hb) e.symm)
 have sub:∀ c∈(kvs.map (·.1)).map code,c∈List.range (2*p):=fun c hc=>by
  obtain⟨a,ha,rfl⟩:=List.mem_map.mp hc
  obtain⟨u,hu,rfl⟩:=List.mem_map.mp ha
  obtain⟨x,s,hx,ex⟩:=hk u hu
  rw[ex,List.mem_range]
  show 2*((x:Int)).toNat+((s.toNat:Int)).toNat<2*p
  rw[Int.toNat_natCast,Int.toNat_natCast]
  have hs:s.toNat<2:=by cases s<;>decide
  omega
 have:=nd.length_le_of_subset sub
 simpa using this
theorem LwV.row(h:LwV p H0 D wd es kvs F W H){i:Nat}(hi:i<es.length):∃ b v0 v1,(es.map V.ref)[i]?=some (.ref b)∧es[i]?=some b∧H b=some (.lst [v0,v1])∧wV H (F i false) v0∧wV H (F i true) v1:=by
 have e:es[i]?=some es[i]:=List.getElem?_eq_getElem hi
 obtain⟨v0,v1,a,b,c⟩:=h.at_ i _ e
 exact⟨es[i],v0,v1,by rw[List.getElem?_map,e];rfl,e,a,b,c⟩
theorem kh{κ:Type}[DecidableEq κ](k j:κ):∀ kvs:List (κ×V),cR (cr kvs k) j=if j=k then none else cR kvs j
 | []=>by rw[show cr ([]:List (κ×V)) k=[] from rfl,mM];split<;>rfl
 | q::r=>by
   by_cases e:q.1=k
   ·rw[n6 e,kh k j r]
    by_cases e2:j=k
    ·rw[if_pos e2,if_pos e2]
    ·rw[if_neg e2,if_neg e2,bE (fun z=>e2 (z.symm.trans e))]
   ·rw[o5 e]
    by_cases e3:q.1=j
    ·rw[bM e3,if_neg (fun z=>e (e3.trans z)),bM e3]
    ·rw[bE e3,kh k j r,bE e3]
theorem LwV.take(h:LwV p H0 D wd es kvs F W H){x:Nat}{s:Bool}{d:Int×Nat}{b c:Addr}{v0 v1:V}(e:W x s=some d)(hc:H c=some (.tup [.int d.1,.int (d.2:Int)]))(hb:es[x]?=some b)(hv:H b=some (.lst [v0,v1])):
 LwV p H0 D wd es (cr kvs (ky x s)) (RM.fK F x s d) (RM.p7 W x s) (upd (upd H wd (.dT (cr kvs (ky x s)))) b (.lst (([v0,v1]:List V).set s.toNat (.ref c)))):=by
 have hm:=List.mem_of_getElem? hb
 have bw:b≠wd:=fun z=>h.wE (z▸hm)
 have bD:D≠b:=fun z=>h.ne (z▸hm)
 have tp:dL H (upd (upd H wd (.dT (cr kvs (ky x s)))) b (.lst (([v0,v1]:List V).set s.toNat (.ref c)))):=fun a ys q=>by
  rw[ak (aO q hv (by intro z;cases z)),ak (aO q h.dt (by intro z;cases z))]
  exact q
 refine⟨(h.same.put h.wn).put (h.fr b hm),h.nd,h.ne,h.fr,h.Dn,h.wn,h.wD,h.wE,by rw[ak bD,ak (Ne.symm h.wD)];exact h.lst,fun i b' hb'=>?_,by rw[ak (Ne.symm bw),ag],mq h.kn,fun kv hkv=>h.keys kv (oB hkv),fun y t d' q=>?_,fun y t=>?_⟩
 ·by_cases ei:i=x
  ·subst ei
   rw[hb]at hb';cases hb'
   obtain⟨w0,w1,q1,q2,q3⟩:=h.at_ _ _ hb
   rw[hv]at q1
   cases q1
   cases s with
   | false=>exact⟨.ref c,v1,ag,by rw[RM.be];exact⟨c,rfl,tp _ _ hc⟩,by rw[RM.aS (fun z=>by cases z.2)];exact q3.tups tp⟩
   | true=>exact⟨v0,.ref c,ag,by rw[RM.aS (fun z=>by cases z.2)];exact q2.tups tp,by rw[RM.be];exact⟨c,rfl,tp _ _ hc⟩⟩
  ·have bb:b'≠b:=fun z=>by
    subst z
    obtain⟨h1,h2⟩:=List.getElem?_eq_some_iff.mp hb'
    obtain⟨h3,h4⟩:=List.getElem?_eq_some_iff.mp hb
    exact ei ((List.getElem_inj h.nd).mp (h2.trans h4.symm))
   obtain⟨w0,w1,q1,q2,q3⟩:=h.at_ _ _ hb'
   exact⟨w0,w1,by rw[ak bb,ak (show b'≠wd from fun z=>h.wE (z▸List.mem_of_getElem? hb'))];exact q1,by rw[RM.aS (fun z=>ei z.1)];exact q2.tups tp,by rw[RM.aS (fun z=>ei z.1)];exact q3.tups tp⟩
 ·by_cases z:y=x∧t=s
  ·obtain⟨rfl,rfl⟩:=z;rw[RM.lh]at q;cases q
  ·rw[RM.iT z]at q;exact h.out y t d' q
 ·rw[kh]
  by_cases z:y=x∧t=s
  ·obtain⟨rfl,rfl⟩:=z
   exact .inl ⟨RM.lh _ _ _,if_pos rfl⟩
  ·rw[RM.iT z,if_neg (fun q=>z (sK q))]
   rcases h.val y t with q|⟨d',c',q1,q2,q3⟩
   ·exact .inl q
   ·exact .inr ⟨d',c',q1,q2,tp _ _ q3⟩
theorem LwV.wait(h:LwV p H0 D wd es kvs F W H){x:Nat}{s:Bool}{d:Int×Nat}{c:Addr}(hx:x<p)(hc:H c=some (.tup [.int d.1,.int (d.2:Int)])):
 LwV p H0 D wd es (eZ kvs (ky x s) (.ref c)) F (RM.fK W x s d) (upd H wd (.dT (eZ kvs (ky x s) (.ref c)))):=by
 have tp:dL H (upd H wd (.dT (eZ kvs (ky x s) (.ref c)))):=fun a ys q=>by
  rw[ak (aO q h.dt (by intro z;cases z))]
  exact q
 have keysp:(∀ kv∈eZ kvs (ky x s) (.ref c),∃ x s,x<p∧kv.1=ky x s)∧((eZ kvs (ky x s) (.ref c)).map (·.1)).Nodup:=by
  cases q:cR kvs (ky x s) with
  | none =>
    refine⟨fun kv hkv=>?_,xR _ h.kn q⟩
    rw[rp _ q]at hkv
    rcases List.mem_append.mp hkv with z|z
    ·exact h.keys kv z
    ·rw[List.mem_singleton.mp z]
     exact⟨x,s,hx,rfl⟩
  | some v =>
    have hany:(kvs.any fun kv=>decide (kv.1=ky x s))=true:=by rw[eN,q];rfl
    have e:eZ kvs (ky x s) (.ref c)=kvs.map fun kv=>if kv.1=ky x s then(kv.1,.ref c) else kv:=by unfold eZ;rw[if_pos hany]
    have ek:(eZ kvs (ky x s) (.ref c)).map (·.1)=kvs.map (·.1):=by
     rw[e,List.map_map]
     refine List.map_congr_left fun kv _=>?_
     show(if kv.1=ky x s then(kv.1,V.ref c) else kv).1=kv.1
     split<;>rfl
    refine⟨fun kv hkv=>?_,by rw[ek];exact h.kn⟩
    have hm:kv.1∈kvs.map (·.1):=by rw[← ek];exact List.mem_map_of_mem hkv
    obtain⟨kv',h1,h2⟩:=List.mem_map.mp hm
    rw[← h2]
    exact h.keys kv' h1
 refine⟨h.same.put h.wn,h.nd,h.ne,h.fr,h.Dn,h.wn,h.wD,h.wE,by rw[ak (Ne.symm h.wD)];exact h.lst,fun i b hb=>?_,ag,keysp.2,keysp.1,fun y t d' q=>?_,fun y t=>?_⟩
 ·obtain⟨w0,w1,q1,q2,q3⟩:=h.at_ _ _ hb
  exact⟨w0,w1,by rw[ak (show b≠wd from fun z=>h.wE (z▸List.mem_of_getElem? hb))];exact q1,q2.tups tp,q3.tups tp⟩
 ·by_cases z:y=x∧t=s
  ·rw[z.1];exact hx
  ·rw[RM.aS z]at q;exact h.out y t d' q
 ·rw[vX]
  by_cases z:y=x∧t=s
  ·obtain⟨rfl,rfl⟩:=z
   exact .inr ⟨d,c,RM.be _ _ _ _,if_pos rfl,tp _ _ hc⟩
  ·rw[RM.aS z,if_neg (fun q=>z (sK q))]
   rcases h.val y t with q|⟨d',c',q1,q2,q3⟩
   ·exact .inl q
   ·exact .inr ⟨d',c',q1,q2,tp _ _ q3⟩
end
end L2
namespace L2
open PySem Ring
abbrev fM(m:Nat)(H:Hp)(c:Addr)(kw:Nat×Nat):Prop:=H c=some (.tup [.int (kw.1:Int),.int (kw.2:Int),.int ((m.testBit kw.1).toNat:Int)])
structure StV(m:Nat)(H0:Hp)(D:Addr)(es:List Addr)(S:Nat→List (Nat×Nat))(H:Hp):Prop where
 same:am H0 H
 nd:es.Nodup
 ne:D∉es
 fr:∀ b∈es,H0 b=none
 Dn:H0 D=none
 lst:H D=some (.lst (es.map V.ref))
 at_:∀ i b,es[i]?=some b→∃ cs,H b=some (.lst (cs.map V.ref))∧Paired (fM m H) cs (S i)
section
variable {m:Nat}{H0 H H' : Hp}{D b:Addr}{es:List Addr}{S:Nat→List (Nat×Nat)}{i:Nat}
theorem StV.go(h:StV m H0 D es S H)(s:am H H'):StV m H0 D es S H' :=
 ⟨h.same.trans s,h.nd,h.ne,h.fr,h.Dn,s _ _ h.lst,fun i b e=>let⟨cs,a,q⟩:=h.at_ i b e;⟨cs,s _ _ a,Paired.mapP q fun _ _ z=>s _ _ z⟩⟩
def lZ(S:Nat→List (Nat×Nat))(x:Nat)(kw:Nat×Nat):Nat→List (Nat×Nat):=fun i=>if i=x then S i++[kw] else S i
theorem StV.get(h:StV m H0 D es S H)(hi:i<es.length):∃ b cs,(es.map V.ref)[i]?=some (.ref b)∧es[i]?=some b∧H b=some (.lst (cs.map V.ref))∧Paired (fM m H) cs (S i):=by
 have e:es[i]?=some es[i]:=List.getElem?_eq_getElem hi
 obtain⟨cs,a,q⟩:=h.at_ i _ e
 exact⟨es[i],cs,by rw[List.getElem?_map,e];rfl,e,a,q⟩
theorem StV.put(h:StV m H0 D es S H){cs:List Addr}{c:Addr}{kw:Nat×Nat}(hb:es[i]?=some b)(hcs:H b=some (.lst (cs.map V.ref)))(q:Paired (fM m H) cs (S i))(hc:fM m H c kw):
 StV m H0 D es (lZ S i kw) (upd H b (.lst (cs.map V.ref++[.ref c]))):=by
 have hm:=List.mem_of_getElem? hb
 have hne:D≠b:=fun z=>h.ne (z▸hm)
 have tp:∀ c kw,fM m H c kw→fM m (upd H b (.lst (cs.map V.ref++[.ref c]))) c kw:=fun c kw z=>by
  show upd H b _ c=_
  rw[ak (aO z hcs (by intro z;cases z))]
  exact z
 have tp' : ∀ x kw,fM m H x kw→fM m (upd H b (.lst (cs.map V.ref++[.ref c]))) x kw:=fun x kw z=>by
  show upd H b _ x=_
  rw[ak (aO z hcs (by intro z;cases z))]
  exact z
 refine⟨h.same.put (h.fr b hm),h.nd,h.ne,h.fr,h.Dn,by rw[ak hne];exact h.lst,fun j b' hb'=>?_⟩
 by_cases e:j=i
 ·subst e
  rw[hb]at hb';cases hb'
  refine⟨cs++[c],by rw[ag];simp,?_⟩
  unfold lZ
  rw[if_pos rfl]
  exact Paired.snoc (Paired.mapP q fun _ _ z=>tp' _ _ z) (tp' _ _ hc)
 ·have bb:b'≠b:=fun z=>by
   subst z
   obtain⟨h1,h2⟩:=List.getElem?_eq_some_iff.mp hb'
   obtain⟨h3,h4⟩:=List.getElem?_eq_some_iff.mp hb
   exact e ((List.getElem_inj h.nd).mp (h2.trans h4.symm))
  obtain⟨cs',q1,q2⟩:=h.at_ j b' hb'
  refine⟨cs',by rw[ak bb];exact q1,?_⟩
  unfold lZ
  rw[if_neg e]
  exact Paired.mapP q2 fun _ _ z=>tp' _ _ z
theorem StV.off(h:StV m H0 D es S H){L:Addr}(hL:H L=none):L∉es:=fun z=>by
 obtain⟨j,hj⟩:=List.getElem?_of_mem z
 obtain⟨_,q,_⟩:=h.at_ j L hj
 rw[hL]at q
 cases q
def StC(m:Nat)(H0:Hp)(D:Addr)(i:Nat)(acc:List V)(H:Hp):Prop:=∃ es,acc=es.map V.ref∧es.length=i∧StV m H0 D es (fun _=>[]) H
theorem StC.start(hD:H0 D=none):StC m H0 D 0 [] (upd H0 D (.lst [])) :=
 ⟨[],rfl,rfl,am.new hD,List.nodup_nil,List.not_mem_nil,fun _ h=>(List.not_mem_nil h).elim,hD,ag,fun i b e=>by cases e⟩
theorem StC.len{acc:List V}(h:StC m H0 D i acc H):H D=some (.lst acc)∧acc.length≤i:=by
 obtain⟨es,rfl,e,r⟩:=h
 exact⟨r.lst,by rw[List.length_map];omega⟩
theorem StC.next{acc:List V}(h:StC m H0 D i acc H)(hb:H b=none):upd H b (.lst []) D=some (.lst acc)∧StC m H0 D (i+1) (acc++[.ref b]) (upd (upd H b (.lst [])) D (.lst (acc++[.ref b]))):=by
 obtain⟨es,rfl,e,r⟩:=h
 have hDb:D≠b:=fun z=>by
  have:=r.lst
  rw[z,hb]at this
  cases this
 have hbn:b∉es:=r.off hb
 have hb0:H0 b=none:=r.same.free hb
 refine⟨by rw[ak hDb];exact r.lst,es++[b],by simp,by simp[e],(r.same.put hb0).put r.Dn,?_,?_,fun c hc=>?_,r.Dn,by rw[ag];simp,fun j c hc=>?_⟩
 ·exact List.nodup_append.mpr ⟨r.nd,by simp,fun x hx y hy=>by rw[List.mem_singleton.mp hy];exact fun z=>hbn (z▸hx)⟩
 ·intro hm
  rcases List.mem_append.mp hm with z|z
  ·exact r.ne z
  ·exact hDb (List.mem_singleton.mp z)
 ·rcases List.mem_append.mp hc with z|z
  ·exact r.fr c z
  ·rw[List.mem_singleton.mp z]
   exact hb0
 ·have hcD:c≠D:=fun z=>by
   subst z
   rcases List.mem_append.mp (List.mem_of_getElem? hc) with z|z
   ·exact r.ne z
   ·exact hDb (List.mem_singleton.mp z)
  refine⟨[],?_,.nil⟩
  rw[ak hcD]
  by_cases ec:c=b
  ·rw[ec,ag]
   rfl
  ·rw[ak ec]
   by_cases hj:j<es.length
   ·rw[List.getElem?_append_left hj]at hc
    obtain⟨cs,q1,q2⟩:=r.at_ j c hc
    cases q2
    exact q1
   ·rw[List.getElem?_append_right (by omega)]at hc
    have:=List.mem_of_getElem? hc
    exact absurd (List.mem_singleton.mp this) ec
end
structure StK(N:RM.Net)(k:Nat)(S:Nat→List (Nat×Nat)):Prop where
 mem:∀ i kw,kw∈S i↔(kw.1<k∧RM.Jn N kw.1 i kw.2)
 len:∀ i,(S i).length≤2*k
theorem StK.start{N:RM.Net}:StK N 0 (fun _=>[]):=⟨fun i kw=>⟨fun h=>(nomatch h),fun h=>absurd h.1 (Nat.not_lt_zero _)⟩,fun _=>Nat.zero_le _⟩
theorem StK.next{N:RM.Net}{k:Nat}{S:Nat→List (Nat×Nat)}(h:StK N k S):StK N (k+1) (lZ (lZ S (N.a k) (k,N.b k)) (N.b k) (k,N.a k)):=by
 refine⟨fun i kw=>?_,fun i=>?_⟩
 ·have one:∀(S:Nat→List (Nat×Nat)) (x:Nat) (q:Nat×Nat),kw∈lZ S x q i↔kw∈S i∨(i=x∧kw=q):=fun S x q=>by
   unfold lZ
   by_cases e:i=x
   ·rw[if_pos e,List.mem_append,List.mem_singleton];simp[e]
   ·rw[if_neg e];simp[e]
  rw[one,one,h.mem]
  obtain⟨k',w⟩:=kw
  constructor
  ·rintro((⟨h1,h2⟩|⟨rfl,h2⟩) | ⟨rfl,h2⟩)
   ·exact⟨Nat.lt_succ_of_lt h1,h2⟩
   ·cases h2;exact⟨Nat.lt_succ_self _,.inl ⟨rfl,rfl⟩⟩
   ·cases h2;exact⟨Nat.lt_succ_self _,.inr ⟨rfl,rfl⟩⟩
  ·rintro⟨h1,h2⟩
   by_cases e:k'<k
   ·exact .inl (.inl ⟨e,h2⟩)
   ·have e:k' = k:=by have:k'<k+1:=h1;omega
    subst e
    rcases h2 with⟨h3,h4⟩|⟨h3,h4⟩
    ·exact .inl (.inr ⟨h3.symm,by have h4:N.b k' = w:=h4;rw[h4]⟩)
    ·exact .inr ⟨h3.symm,by have h4:N.a k' = w:=h4;rw[h4]⟩
 ·have one:∀(S:Nat→List (Nat×Nat)) (x:Nat) (q:Nat×Nat),(lZ S x q i).length≤(S i).length+1:=fun S x q=>by
   unfold lZ
   split
   ·simp
   ·omega
  have h1:=one (lZ S (N.a k) (k,N.b k)) (N.b k) (k,N.a k)
  have h2:=one S (N.a k) (k,N.b k)
  have h3:=h.len i
  omega
end L2
namespace RM
def left(F:OW):Nat→Nat
 | 0=>0
 | p+1=>left F p+(if(F p false).isNone then 1 else 0)+(if(F p true).isNone then 1 else 0)
theorem oK{F G:OW}:∀{p:Nat},(∀ x,x<p→∀ s,F x s=G x s)→left F p=left G p
 | 0,_=>rfl
 | p+1,h=>by
   unfold left
   rw[oK fun x hx=>h x (by omega),h p (by omega),h p (by omega)]
theorem qj{F:OW}{x:Nat}{s:Bool}{d:Int×Nat}(hn:F x s=none):∀{p:Nat},x<p→left (fK F x s d) p<left F p
 | 0,h=>absurd h (Nat.not_lt_zero _)
 | p+1,h=>by
   unfold left
   by_cases e:x=p
   ·subst e
    rw[oK (F:=fK F x s d) (G:=F) fun y hy t=>aS fun z=>by omega]
    cases s with
    | false=>rw[be,aS (fun z=>by cases z.2),hn];simp
    | true=>rw[be,aS (fun z=>by cases z.2),hn];simp
   ·have ih:=qj (F:=F) (x:=x) (s:=s) (d:=d) hn (p:=p) (by omega)
    rw[aS (fun z=>e z.1.symm),aS (fun z=>e z.1.symm)]
    omega
end RM
namespace L2
open PySem Ring
def wOf(W:RM.OW)(k:List Key):List Int:=match k with
 | [.inl x,.inl s]=>(match W x.toNat (decide (s=1)) with | some d=>[d.1,(d.2:Int)] | none=>[])
 | _=>[]
theorem vZ{W:RM.OW}{x:Nat}{s:Bool}{d:Int×Nat}(h:W x s=some d):wOf W (ky x s)=[d.1,(d.2:Int)]:=by
 have e:(decide (((s.toNat:Nat):Int)=1))=s:=by cases s<;>rfl
 show(match W ((x:Int)).toNat (decide (((s.toNat:Nat):Int)=1)) with | some d=>[d.1,(d.2:Int)] | none=>[])=_
 rw[Int.toNat_natCast,e,h]
def wu(W:RM.OW)(kvs:List (List Key×V))(i:Nat):List Int:=wOf W ((kvs[i]?.map (·.1)).getD [])
theorem pZ{a b c d:Int}(h:HT.bN [a,b] [c,d]=false):c≤a:=by
 rw[HT.dX]at h
 by_cases e:a=c
 ·omega
 ·rw[if_neg e]at h
  have:=of_decide_eq_false h
  omega
theorem nQ{κ:Type}[DecidableEq κ]:∀{kvs:List (κ×V)} {k:κ} {v:V},(kvs.map (·.1)).Nodup→(k,v)∈kvs→cR kvs k=some v
 | [],_,_,_,h=>nomatch h
 | q::r,k,v,nd,h=>by
   rw[List.map_cons,List.nodup_cons]at nd
   rcases List.mem_cons.mp h with e|h
   ·subst e
    exact bM rfl
   ·have ne : ¬ q.1=k:=fun z=>nd.1 (by rw[z];exact List.mem_map_of_mem (f:=(·.1)) h)
    rw[bE ne]
    exact nQ nd.2 h
theorem LwV.entry{p:Nat}{H0 H:Hp}{D wd:Addr}{es:List Addr}{kvs:List (List Key×V)}{F W:RM.OW}(h:LwV p H0 D wd es kvs F W H){i:Nat}{kv:List Key×V}(e:kvs[i]?=some kv):
 ∃ x s d c,x<p∧kv.1=ky x s∧W x s=some d∧cR kvs (ky x s)=some (.ref c)∧kv.2 = .ref c∧H c=some (.tup [.int d.1,.int (d.2:Int)])∧wu W kvs i=[d.1,(d.2:Int)]:=by
 have hm:=List.mem_of_getElem? e
 obtain⟨x,s,hx,ek⟩:=h.keys kv hm
 have hv:cR kvs (ky x s)=some kv.2:=nQ h.kn (by rw[← ek];exact hm)
 rcases h.val x s with⟨_,z⟩|⟨d,c,h1,h2,h3⟩
 ·rw[hv]at z;cases z
 ·rw[hv]at h2
  refine⟨x,s,d,c,hx,ek,h1,hv.trans h2,Option.some.inj h2,h3,?_⟩
  unfold wu
  rw[e]
  show wOf W kv.1=_
  rw[ek]
  exact vZ h1
theorem LwV.find{p:Nat}{H0 H:Hp}{D wd:Addr}{es:List Addr}{kvs:List (List Key×V)}{F W:RM.OW}(h:LwV p H0 D wd es kvs F W H){x:Nat}{s:Bool}{d:Int×Nat}(e:W x s=some d):∃(i:Nat) (kv:List Key×V),kvs[i]?=some kv∧kv.1=ky x s∧wu W kvs i=[d.1,(d.2:Int)]:=by
 rcases h.val x s with⟨z,_⟩|⟨d',c,h1,h2,h3⟩
 ·rw[e]at z;cases z
 ·have hm:=yk h2
  obtain⟨kv,hkv,ek⟩:=List.mem_map.mp hm
  obtain⟨i,hi⟩:=List.getElem?_of_mem hkv
  refine⟨i,kv,hi,ek,?_⟩
  unfold wu
  rw[hi]
  show wOf W kv.1=_
  rw[ek]
  exact vZ e
theorem LwV.start{p:Nat}{H0 H:Hp}{D wd c:Addr}{es:List Addr}{u:Nat}(f:FarV H0 D es (fun _ _=>none) H)(hu:u<p)(hw:H wd=some (.dT []))(h0:H0 wd=none)(hc:H c=some (.tup [.int 0,.int 0])):
 LwV p H0 D wd es [(ky u false,.ref c)] (fun _ _=>none) (RM.fK (fun _ _=>none) u false (0,0)) (upd H wd (.dT [(ky u false,.ref c)])):=by
 have wD:wd≠D:=fun z=>by rw[z,f.lst]at hw;cases hw
 have wE:wd∉es:=fun z=>by
  obtain⟨j,hj⟩:=List.getElem?_of_mem z
  have:=f.at_ j wd hj
  rw[hw]at this;cases this
 refine⟨f.same.put h0,f.nd,f.ne,f.fr,f.Dn,h0,wD,wE,by rw[ak (Ne.symm wD)];exact f.lst,fun i b hb=>?_,ag,by simp,fun kv hkv=>?_,fun x s d e=>?_,fun x s=>?_⟩
 ·have nb:b≠wd:=fun z=>wE (z▸List.mem_of_getElem? hb)
  exact⟨.non,.non,by rw[ak nb];exact f.at_ i b hb,rfl,rfl⟩
 ·rw[List.mem_singleton.mp hkv]
  exact⟨u,false,hu,rfl⟩
 ·by_cases z:x=u∧s=false
  ·rw[z.1];exact hu
  ·rw[RM.aS z]at e;cases e
 ·by_cases z:x=u∧s=false
  ·obtain⟨rfl,rfl⟩:=z
   exact .inr ⟨(0,0),c,RM.be _ _ _ _,bM rfl,by rw[ak (aO hc hw (by intro z;cases z))];exact hc⟩
  ·refine .inl ⟨RM.aS z,?_⟩
   rw[bE (fun q=>z ?_),mM]
   obtain⟨e1,e2⟩:=sK q
   exact⟨e1.symm,e2.symm⟩
end L2
namespace L2
open PySem PySem.Spec PyProof.Rows
section
variable {P:Program}{w:World}{A:Around}{E:Value→Shared→Prop}{s:Shared}
theorem wC{l:Addr}{u0 u1:Value}{Q:List Value→Shared→Prop}(hh:A.handled=none)(hl:s.heap.IsList l #[u0,u1])
 (hQ:∀ h' tk,(∀ b o,s.heap.get? b=some o→h'.get? b=some o)→Q [u0,u1] { s with heap:=h',toks:=tk}):wpAny (model P w) A (unpackItems (.ref l) 2 none) Q E s:=by
 obtain⟨ol,hol,hcl,nl,hdl⟩:=id hl
 have hT:s.TypeIs (.ref l) "list":=⟨ol,hol,hcl⟩
 have hne:l≠s.heap.objs.size:=Nat.ne_of_lt (Heap.lt_size hol)
 unfold unpackItems
 refine wpAny_bind ?_
 unfold notIterableAtAll
 refine wpAny_bind (wpAny_specialOf hT PySem.F.slot_list_iter.lookup (wpAny_pure ?_))
 simp only[Bool.false_eq_true,if_false]
 refine wpAny_bind (wpAny_holding (wpAny_pyIter_list hl ?_))
 have W:=Walks.list (prog:=P) (w:=w) (A:=A) hh s.heap.objs.size l hne #[u0,u1]
 generalize hg:s.heap.push { cls:=.type "list_iterator",data:=.fields #[.ref l,.int 0 0]}=g0
 have g0k:∀ b o,s.heap.get? b=some o→g0.get? b=some o:=fun b o e=>by rw[← hg];exact Heap.get?_push_of_some _ e
 have g0i:g0.IsListIter s.heap.objs.size l 0:=by rw[← hg];exact⟨_,Heap.get?_push_size _ rfl,rfl,rfl⟩
 have g0l:g0.IsList l #[u0,u1]:=by rw[← hg];exact⟨ol,Heap.get?_push_of_some _ hol,hcl,nl,hdl⟩
 have nI:∀ b o,s.heap.get? b=some o→b∉[s.heap.objs.size]:=fun b o e z=>Nat.ne_of_lt (Heap.lt_size e) (List.mem_singleton.mp z)
 refine wpAny_bind (wpAny_holding ?_)
 show wpAny _ _ (pyNext (.ref s.heap.objs.size) >>= _) _ _ _
 refine wpAny_bind (W.item 0 _ _ _ (by simp) ⟨g0i,g0l⟩ fun v1 h1 tk1 hv1 st1 k1=>?_)
 obtain rfl:u0=v1:=by simpa using hv1
 refine wpAny_bind (wpAny_holding ?_)
 show wpAny _ _ (pyNext (.ref s.heap.objs.size) >>= _) _ _ _
 refine wpAny_bind (W.item 1 _ _ _ (by simp) st1 fun v2 h2 tk2 hv2 st2 k2=>?_)
 obtain rfl:u1=v2:=by simpa using hv2
 refine wpAny_bind (wpAny_holding ?_)
 show wpAny _ _ (pure []) _ _ _
 refine wpAny_pure (wpAny_pure (wpAny_pure ?_))
 rw[if_neg (by simp)]
 refine wpAny_bind (wpAny_holding (W.done _ _ _ st2 fun h3 tk3 k3=>?_))
 simp only[Option.isSome_none,Bool.false_eq_true,if_false]
 exact wpAny_pure (hQ h3 tk3 fun b o e=>k3 b o (nI b o e) (k2 b o (nI b o e) (k1 b o (nI b o e) (g0k b o e))))
theorem xf{env:Env}{elts:List Expr}{x1}{pos:Pos}{l:Addr}{u0 u1:Value}{Q:Unit→Shared→Prop}(hh:A.handled=none)(hl:s.heap.IsList l #[u0,u1])
 (hn:(assignEach elts env).length=2) (hstar:(assignEach elts env).findIdx? (·.1)=none)
 (h:∀ h' tk,(∀ b o,s.heap.get? b=some o→h'.get? b=some o)→wpAny (model P w) A (assignInOrder ((assignEach elts env).map (·.2)) [u0,u1]) Q E { s with heap:=h',toks:=tk}) :
 wpAny (model P w) A (assign (.Tuple elts x1 pos) env (.ref l)) Q E s:=by
 rw[arm_assign_Tuple]
 refine wpAny_bind (wpAny_standAt ?_)
 unfold unpack
 rw[hn,hstar]
 exact wpAny_bind (wpAny_holding (wC hh hl h))
end
section
variable {X:Cx}{es:List Expr}{pos:Pos}
def aan(K:PySem.W.Frag)(t:TGs):TG:=fun v σ H Q=>∃ a x y,v = .ref a∧SqL K H a [x,y]∧t [x,y] σ H Q
theorem aa9(K:PySem.W.Frag){k:Nat}{t:TGs}(hc:X.calm=true)(h:PGs X es t)
 (hn:(assignEach es X.env).length=2:=by rfl) (hst:(assignEach es X.env).findIdx? (·.1)=none:=by rfl) (hK:X.K=K:=by rfl):PG X (.Tuple es k pos) (aan K t):=by
 subst hK
 intro pins s σ H v u Q I r hw
 obtain⟨a,x,y,e1,hq,hw⟩:=hw
 subst e1
 cases r
 obtain⟨its,rv,ht,hz⟩:=I.list hq
 cases rv with
 | cons r1 rr=>cases rr with
   | cons r2 rr2 =>
     cases rr2
     refine xf (I.ok.hd hc) ht.isList hn hst fun h' tk hx=>?_
     exact h pins _ σ H [x,y] _ Q (I.kept (t':=tk) hx) (.cons r1 (.cons r2 .nil)) hw
end
end L2
namespace RM
section
variable {N:Net}{L:Nat→Int}{m u:Nat}
theorem kO{f g:Nat→Bool}:∀{n:Nat},(∀ k,k<n→0<L k)→(∀ k,k<n→f k=true→g k=true)→∀ k,k<n→f k=false→g k=true→cE L f n<cE L g n
 | 0,_,_,k,hk,_,_=>absurd hk (Nat.not_lt_zero _)
 | n+1,hL,h,k,hk,hf,hg=>by
   unfold cE
   have hn:=h n (by omega)
   have h0:=hL n (by omega)
   by_cases e:k=n
   ·subst e
    have:=iJ (L:=L) (f:=f) (g:=g) (n:=k) (fun j hj=>Int.le_of_lt (hL j (by omega))) fun j hj=>h j (by omega)
    rw[hf,hg]
    simp only[Bool.false_eq_true,if_false,if_true]
    omega
   ·have ih:=kO (n:=n) (fun j hj=>hL j (by omega)) (fun j hj=>h j (by omega)) k (by omega) hf hg
    cases hfn:f n with
    | false=>cases g n<;>simp<;>omega
    | true=>rw[hn hfn];simp;omega
theorem rR(hL:∀ k,k<N.n→0<L k)(hu:u<N.p){z:Int}{e:Nat}(h:Wz N L m u u true z e)(hmin:∀ x z',x<N.p→Wy N L m x x true z'→z≤z'):
 N.Ring e∧e<2^N.n∧N.par e m=true∧cE L (fun k=>e.testBit k) N.n=z:=by
 have hL0:∀ k,k<N.n→0≤L k:=fun k hk=>Int.le_of_lt (hL k hk)
 obtain⟨pre,h⟩:=h
 obtain⟨_,h2,h3,h4,h5,_⟩:=gr hL0 hu h
 obtain⟨r,r1,r2,r3⟩:=lF _ e rfl h2 (fun x _=>by rw[h3,Bool.xor_self]) h4
 have rlt:r<2^N.n:=cJ fun k hk=>je h2 (r2 k hk)
 obtain⟨x,hx,hw⟩:=mW hL0 m r1 rlt
 rw[r3]at hw
 have hz:=hmin x _ hx hw
 have hle:=iJ (L:=L) (f:=fun k=>r.testBit k) (g:=fun k=>e.testBit k) hL0 fun k _ hk=>r2 k hk
 have er:e=r:=Nat.eq_of_testBit_eq fun k=>by
  cases hr:r.testBit k with
  | true=>exact r2 k hr
  | false =>
    cases he:e.testBit k with
    | false=>rfl
    | true =>
      have:=kO (L:=L) (f:=fun k=>r.testBit k) (g:=fun k=>e.testBit k) hL (fun k _ hk=>r2 k hk) k (je h2 he) hr he
      omega
 rw[er]
 exact⟨r1,rlt,r3,by omega⟩
theorem qO(hL:∀ k,k<N.n→0≤L k)(hno:∀ x z',x<N.p→¬ Wy N L m x x true z'){r:Nat}(hr:N.Ring r)(hm:r<2^N.n):N.par r m=false:=by
 cases hp:N.par r m with
 | false=>rfl
 | true =>
   obtain⟨x,hx,hw⟩:=mW hL m hr hm
   rw[hp]at hw
   exact absurd hw (hno x _ hx)
end
end RM
namespace L2
open PySem PySem.Spec PyProof.Rows
section
variable {X:Cx}{pins:List (Addr×Obj)}{σ:St}{H:Hp}{l It S:Addr}{cs:List Addr}{ks:Nat→List Int}{R:Result→Shared→Prop}
theorem gU{pa:List (Addr×Obj)}{s:Shared}(I:Inv X pa σ H s)(hl:SqL X.K H l (cs.map V.ref)):s.heap.IsList l (cs.map Value.ref).toArray:=by
 obtain⟨its,rv,p,hz⟩:=I.list hl
 have e:its=cs.map Value.ref:=by
  clear hl p hz
  induction cs generalizing its with
  | nil=>cases rv;rfl
  | cons c r ih =>
    rw[List.map_cons]at rv
    cases rv with
    | cons h t=>cases h;rw[ih _ t];rfl
 rw[e]at p
 exact p.isList
theorem ur(hh:X.A.handled=none)(un:X.A.in1.units<cLine)(hl:SqL X.K H l (cs.map V.ref))(hk:∀(i:Nat) c,cs[i]?=some c→SqT X.K H c ((ks i).map V.int))(oS:vg X S)(oI:vg X It)(SI:S≠It)(lI:l≠It)
 (pI:∀ p∈pins,p.1≠It) (pS:∀ p∈pins,p.1≠S)
 (hR:∀(i:Nat) c s',cs[i]?=some c→(∀ j,j<cs.length→HT.bN (ks j) (ks i)=false)→Inv X pins σ H s'→R (.ok (.ret (.ref c))) s') :
 ∀(r j i:Nat) (c:Addr) (s:Shared) (n:Nat) (oI' : Obj),cs.length-j=r→j≤cs.length→i<j→cs[i]?=some c→Inv X ((S,seqObj "list" #[.ref c,.ref c] n)::(It,oI')::pins) σ H s→s.heap.IsListIter It l j→
  (∀ j',j'<j→HT.bN (ks j') (ks i)=false)→codeAny (model X.prog X.w) X.A (.builtin "min.loop" ⟨[.ref It,.none,.ref S],[]⟩) R s:=by
 have hname:(toString "min" ++ toString ".loop":String)="min.loop":=by decide
 have W:=Walks.list (prog:=X.prog) (w:=X.w) (A:=X.A.in1) hh It l lI (cs.map Value.ref).toArray
 have hsz:(cs.map Value.ref).toArray.size=cs.length:=by simp
 intro r
 induction r with
 | zero =>
   intro j i c s n oI' hr hj hij hc I hit hbest
   have hjn:j=cs.length:=by omega
   have pinS:=I.pin (S,_) (List.mem_append_right _ (.head _))
   refine codeAny_builtin PySem.F.entry_min_loop ?_
   rw[Around.under_plainId PySem.F.plain_min_loop _]
   show wpAny _ X.A.in1 (seqItems? (.ref S) >>= _) _ _ _
   refine wpAny_bind (wpAny_seqItems pinS.1 rfl ?_)
   show wpAny _ X.A.in1 (tryCatch (pyNext (.ref It)) _ >>= _) _ _ _
   refine wpAny_bind (wpAny_tryCatch (W.done _ _ _ ⟨by rw[hsz,← hjn];exact hit,gU I hl⟩ fun h' tk' hk'=>?_))
   have I1:=I.repin (t':=tk') (h':=h') (pb:=(S,seqObj "list" #[.ref c,.ref c] n)::pins) oI (List.Mem.tail _ (.head _)) (fun b u hb e=>hk' b u (by simpa using hb) e) (fun p hp=>by
    rcases List.mem_cons.mp hp with rfl|hp
    ·exact .inr ⟨.head _,SI⟩
    ·exact .inr ⟨.tail _ (.tail _ hp),pI p hp⟩)
   have pinS1:=I1.pin (S,_) (List.mem_append_right _ (.head _))
   show wpAny _ X.A.in1 (updateSeq S (fun _=>#[]) >>= _) _ _ _
   refine wpAny_bind (wpAny_updateSeq pinS1.1 rfl (wpAny_bind (wpAny_letGo (wpAny_pure ?_))))
   have s1:=Heap.SameBut.update h' S (Obj.mapSeq fun _=>(#[]:Array Value))
   exact hR i c _ hc (fun j' hj'=>hbest j' (by omega)) (I1.repin (t':=tk') (pb:=pins) oS (.head _) (fun b u hb e=>(s1.2 b hb).trans e) fun p hp=>.inr ⟨.tail _ hp,pS p hp⟩)
 | succ r ih =>
   intro j i c s n oI' hr hj hij hc I hit hbest
   have hjn:j<cs.length:=by omega
   have pinS:=I.pin (S,_) (List.mem_append_right _ (.head _))
   refine codeAny_builtin PySem.F.entry_min_loop ?_
   rw[Around.under_plainId PySem.F.plain_min_loop _]
   show wpAny _ X.A.in1 (seqItems? (.ref S) >>= _) _ _ _
   refine wpAny_bind (wpAny_seqItems pinS.1 rfl ?_)
   show wpAny _ X.A.in1 (tryCatch (pyNext (.ref It)) _ >>= _) _ _ _
   refine wpAny_bind (wpAny_tryCatch (W.item j _ _ _ (by rw[hsz];exact hjn) ⟨hit,gU I hl⟩ fun v h' tk' hv st' hk'=>?_))
   have hcj:cs[j]?=some cs[j]:=List.getElem?_eq_getElem hjn
   obtain rfl:v = .ref cs[j]:=by
    have:(cs.map Value.ref)[j]?=some v:=by simpa using hv
    rw[List.getElem?_map,hcj]at this
    exact(Option.some.inj this).symm
   obtain⟨oI2,hoI2,hoc,hod⟩:=id st'.1
   have I1:=I.repin (t':=tk') (h':=h') (pb:=(S,seqObj "list" #[.ref c,.ref c] n)::(It,oI2)::pins) oI (List.Mem.tail _ (.head _)) (fun b u hb e=>hk' b u (by simpa using hb) e) (fun p hp=>by
    rcases List.mem_cons.mp hp with rfl|hp
    ·exact .inr ⟨.head _,SI⟩
    ·rcases List.mem_cons.mp hp with rfl|hp
     ·exact .inl ⟨rfl,hoI2,fun v z=>by rw[hod]at z;cases z⟩
     ·exact .inr ⟨.tail _ (.tail _ hp),pI p hp⟩)
   have pinS2:=I1.pin (S,_) (List.mem_append_right _ (.head _))
   show wpAny _ X.A.in1 (tryCatch (holding [.ref cs[j],.ref cs[j]] (richCompare .Lt (.ref cs[j]) (.ref c) >>= _)) _ >>= _) _ _ _
   refine wpAny_bind (wpAny_tryCatch (wpAny_holding (wpAny_bind (xn I1 (hk j _ hcj) (hk i c hc) un ?_))))
   refine wpAny_bind (wpAny_holding (wpAny_truthy_bool (wpAny_bind (wpAny_letGo (wpAny_pure ?_)))))
   cases hlt:HT.bN (ks j) (ks i) with
   | true =>
     have s1:=Heap.SameBut.update h' S (Obj.mapSeq fun _=>(#[.ref cs[j],.ref cs[j]]:Array Value))
     obtain⟨n2,hn2⟩:∃ n2,(h'.update S (Obj.mapSeq fun _=>(#[.ref cs[j],.ref cs[j]]:Array Value))).get? S=some (seqObj "list" #[.ref cs[j],.ref cs[j]] n2):=⟨_,get?_update_seq pinS2.1 fun _=>#[.ref cs[j],.ref cs[j]]⟩
     simp only[if_true]
     refine wpAny_bind (wpAny_updateSeq pinS2.1 rfl (wpAny_bind (wpAny_letGo ?_)))
     rw[hname]
     have I3:=I1.repin (t':=tk') (pb:=(S,seqObj "list" #[.ref cs[j],.ref cs[j]] n2)::(It,oI2)::pins) oS (.head _) (fun b u hb e=>(s1.2 b hb).trans e) (fun p hp=>by
      rcases List.mem_cons.mp hp with rfl|hp
      ·exact .inl ⟨rfl,hn2,fun v z=>by cases z⟩
      ·rcases List.mem_cons.mp hp with rfl|hp
       ·exact .inr ⟨.tail _ (.head _),SI.symm⟩
       ·exact .inr ⟨.tail _ (.tail _ hp),pS p hp⟩)
     refine wpAny_pure ⟨plainId_quiet PySem.F.plain_min_loop _,ih (j+1) j cs[j] _ n2 oI2 (by omega) (by omega) (by omega) hcj I3 ⟨oI2,(s1.2 It SI.symm).trans hoI2,hoc,hod⟩ fun j' hj'=>?_⟩
     by_cases e:j' = j
     ·rw[e];exact HT.dH _
     ·exact HT.mB (hbest j' (by omega)) hlt
   | false =>
     simp only[Bool.false_eq_true,if_false]
     refine wpAny_bind (wpAny_letGo ?_)
     rw[hname]
     refine wpAny_pure ⟨plainId_quiet PySem.F.plain_min_loop _,ih (j+1) i c _ n oI2 (by omega) (by omega) (by omega) hc I1 st'.1 fun j' hj'=>?_⟩
     by_cases e:j' = j
     ·rw[e];exact hlt
     ·exact hbest j' (by omega)
theorem aa2(hr:X.A.handled=none)(un:X.A.in1.units<cLine):dF X (.builtin "min") (fun xs H Q=>∃(l:Addr) (cs:List Addr) (ks:Nat→List Int),xs=[.ref l]∧SqL X.K H l (cs.map V.ref)∧0<cs.length∧(∀(i:Nat) c,cs[i]?=some c→SqT X.K H c ((ks i).map V.int))∧
 ∀(i:Nat) c,cs[i]?=some c→(∀ j,j<cs.length→HT.bN (ks j) (ks i)=false)→Q (.ref c) H):=by
 intro pins s σ H xs us Q I r h
 obtain⟨l,cs,ks,rfl,hl,hne,hk,q⟩:=h
 obtain⟨u,rfl,rx⟩:=gn r
 cases rx
 have hname:(toString "min" ++ toString ".loop":String)="min.loop":=by decide
 have hls:=gU I hl
 obtain⟨ol,hol,_⟩:=id hls
 have hll:l<s.heap.objs.size:=Heap.lt_size hol
 refine call_function_tree PySem.F.kind_min PySem.F.plain_min PySem.F.entry_min (PySem.F.args_min1 _) ?_
 show wpAny _ X.A.in1 (Builtin.Builtins.bindParams "min" ["key","default"] 0 ⟨[],[]⟩ >>= _) _ _ s
 refine wpAny_bind (wpAny_of_eq (show Builtin.Builtins.bindParams "min" ["key","default"] 0 ⟨[],[]⟩=pure [none,none] from rfl) ?_)
 refine wpAny_bind (wpAny_pure (wpAny_bind (wpAny_pyIter_list hls (wpAny_bind (wpAny_newList ?_ (Nat.zero_le _))))))
 rw[hname]
 refine wpAny_pure ⟨plainId_quiet PySem.F.plain_min_loop _,?_⟩
 generalize hoI:({ cls:=.type "list_iterator",data:=.fields #[.ref l,.int 0 0]}:Obj)=oI
 have hS:(s.heap.push oI).objs.size=s.heap.objs.size+1:=size_push' ..
 have hk2:∀ b o,s.heap.get? b=some o→((s.heap.push oI).push (seqObj "list" #[] 0)).get? b=some o:=fun b o e=>Heap.get?_push_of_some _ (Heap.get?_push_of_some _ e)
 have gI:((s.heap.push oI).push (seqObj "list" #[] 0)).get? s.heap.objs.size=some oI:=Heap.get?_push_of_some _ (Heap.get?_push_size _ (by rw[← hoI];rfl))
 have gS:((s.heap.push oI).push (seqObj "list" #[] 0)).get? (s.heap.push oI).objs.size=some (seqObj "list" #[] 0):=Heap.get?_push_size _ rfl
 have ltp:∀ p∈pins,p.1<s.heap.objs.size:=fun p hp=>Heap.lt_size (I.pin p (List.mem_append_right _ hp)).1
 have oIt:=I.ours (Nat.le_refl s.heap.objs.size)
 have oS:=I.ours (b:=(s.heap.push oI).objs.size) (by rw[hS];exact Nat.le_succ _)
 have SI:(s.heap.push oI).objs.size≠s.heap.objs.size:=by rw[hS];exact Nat.succ_ne_self _
 have lI:l≠s.heap.objs.size:=Nat.ne_of_lt hll
 have pI:∀ p∈pins,p.1≠s.heap.objs.size:=fun p hp=>Nat.ne_of_lt (ltp p hp)
 have pS:∀ p∈pins,p.1≠(s.heap.push oI).objs.size:=fun p hp=>by rw[hS];exact Nat.ne_of_lt (Nat.lt_succ_of_lt (ltp p hp))
 have J:Inv X (((s.heap.push oI).objs.size,seqObj "list" #[] 0)::(s.heap.objs.size,oI)::pins) σ H { s with heap:=(s.heap.push oI).push (seqObj "list" #[] 0)}:=by
  have K:=I.kept (t':=s.toks) hk2
  refine K.pins_of fun p hp=>?_
  rcases List.mem_cons.mp hp with rfl|hp
  ·exact⟨gS,I.hok.fresh (by rw[hS];exact Nat.le_succ _),oS.2.1,oS.2.2.1,fun v z=>by cases z⟩
  ·rcases List.mem_cons.mp hp with rfl|hp
   ·exact⟨gI,I.hok.fresh (Nat.le_refl _),oIt.2.1,oIt.2.2.1,fun v z=>by rw[← hoI]at z;cases z⟩
   ·exact K.pin p (List.mem_append_right _ hp)
 have W:=Walks.list (prog:=X.prog) (w:=X.w) (A:=X.A.in1) hr s.heap.objs.size l lI (cs.map Value.ref).toArray
 have pinS:=J.pin ((s.heap.push oI).objs.size,seqObj "list" #[] 0) (List.mem_append_right _ (.head _))
 refine codeAny_builtin PySem.F.entry_min_loop ?_
 rw[Around.under_plainId PySem.F.plain_min_loop _]
 show wpAny _ X.A.in1 (seqItems? (.ref _) >>= _) _ _ _
 refine wpAny_bind (wpAny_seqItems pinS.1 rfl ?_)
 show wpAny _ X.A.in1 (tryCatch (pyNext (.ref s.heap.objs.size)) _ >>= _) _ _ _
 refine wpAny_bind (wpAny_tryCatch (W.item 0 _ _ _ (by simpa using hne) ⟨⟨oI,gI,by rw[← hoI],by rw[← hoI];rfl⟩,gU J hl⟩ fun v h' tk' hv st' hk'=>?_))
 have hcj:cs[0]?=some cs[0]:=List.getElem?_eq_getElem hne
 obtain rfl:v = .ref cs[0]:=by
  have:(cs.map Value.ref)[0]?=some v:=by simpa using hv
  rw[List.getElem?_map,hcj]at this
  exact(Option.some.inj this).symm
 obtain⟨oI2,hoI2,hoc,hod⟩:=id st'.1
 have I1:=J.repin (t':=tk') (h':=h') (pb:=((s.heap.push oI).objs.size,seqObj "list" #[] 0)::(s.heap.objs.size,oI2)::pins) oIt (List.Mem.tail _ (.head _)) (fun b u hb e=>hk' b u (by simpa using hb) e) (fun p hp=>by
  rcases List.mem_cons.mp hp with rfl|hp
  ·exact .inr ⟨.head _,SI⟩
  ·rcases List.mem_cons.mp hp with rfl|hp
   ·exact .inl ⟨rfl,hoI2,fun v z=>by rw[hod]at z;cases z⟩
   ·exact .inr ⟨.tail _ (.tail _ hp),pI p hp⟩)
 have pinS2:=I1.pin ((s.heap.push oI).objs.size,_) (List.mem_append_right _ (.head _))
 have s1:=Heap.SameBut.update h' (s.heap.push oI).objs.size (Obj.mapSeq fun _=>(#[.ref cs[0],.ref cs[0]]:Array Value))
 obtain⟨n2,hn2⟩:∃ n2,(h'.update (s.heap.push oI).objs.size (Obj.mapSeq fun _=>(#[.ref cs[0],.ref cs[0]]:Array Value))).get? (s.heap.push oI).objs.size=some (seqObj "list" #[.ref cs[0],.ref cs[0]] n2):=⟨_,get?_update_seq pinS2.1 fun _=>#[.ref cs[0],.ref cs[0]]⟩
 show wpAny _ X.A.in1 (updateSeq (s.heap.push oI).objs.size (fun _=>#[.ref cs[0],.ref cs[0]]) >>= _) _ _ _
 refine wpAny_bind (wpAny_updateSeq pinS2.1 rfl ?_)
 rw[hname]
 have I3:=I1.repin (t':=tk') (pb:=((s.heap.push oI).objs.size,seqObj "list" #[.ref cs[0],.ref cs[0]] n2)::(s.heap.objs.size,oI2)::pins) oS (.head _) (fun b u hb e=>(s1.2 b hb).trans e) (fun p hp=>by
  rcases List.mem_cons.mp hp with rfl|hp
  ·exact .inl ⟨rfl,hn2,fun v z=>by cases z⟩
  ·rcases List.mem_cons.mp hp with rfl|hp
   ·exact .inr ⟨.tail _ (.head _),SI.symm⟩
   ·exact .inr ⟨.tail _ (.tail _ hp),pS p hp⟩)
 refine wpAny_pure ⟨plainId_quiet PySem.F.plain_min_loop _,ur hr un hl hk oS oIt SI lI pI pS (fun i c s' hc best I7=>⟨.ref c,H,I7,rfl,q i c hc best⟩) _ 1 0 cs[0] _ n2 oI2 rfl hne (Nat.lt_succ_self _) hcj I3 ⟨oI2,(s1.2 _ SI.symm).trans hoI2,hoc,hod⟩ fun j hj=>?_⟩
 have e:j=0:=by omega
 rw[e];exact HT.dH _
end
end L2
namespace RM
def lx(a b:Int×Nat):Prop:=a.1<b.1∨(a.1=b.1∧a.2≤b.2)
theorem lx.anti{a b:Int×Nat}(h1:lx a b)(h2:lx b a):a=b:=by
 obtain⟨a1,a2⟩:=a
 obtain⟨b1,b2⟩:=b
 unfold lx at h1 h2
 simp only at h1 h2
 have e1:a1=b1:=by omega
 have e2:a2=b2:=by omega
 rw[e1,e2]
def stp(L:Nat→Int)(d:Int×Nat)(k:Nat):Int×Nat:=(d.1+L k,d.2^^^2^k)
structure Fx(N:Net)(L:Nat→Int)(m u:Nat)(F:OW):Prop where
 st:F u false=some (0,0)
 cx:∀ x s d k y,F x s=some d→k<N.n→Jn N k x y→∃ d',F y (s^^m.testBit k)=some d'∧lx d' (stp L d k)
 org:∀ y t d,F y t=some d→(y=u∧t=false∧d=(0,0))∨∃ x s d0 k,F x s=some d0∧k<N.n∧Jn N k x y∧t=(s^^m.testBit k)∧d=stp L d0 k
 nn:∀ y t d,F y t=some d→0≤d.1
section
variable {N:Net}{L:Nat→Int}{m u:Nat}{F G:OW}
theorem Fx.part(hL:∀ k,k<N.n→0<L k)(f:Fx N L m u F)(g:Fx N L m u G):∀(n:Nat),(∀ y t d,d.1<(n:Int)→(F y t=some d↔G y t=some d)):=by
 intro n
 induction n with
 | zero =>
   intro y t d hd
   have hd:d.1<0:=hd
   exact⟨fun h=>absurd (f.nn y t d h) (by omega),fun h=>absurd (g.nn y t d h) (by omega)⟩
 | succ n ih =>
   have one:∀{F G:OW},Fx N L m u F→Fx N L m u G→(∀ y t d,d.1<(n:Int)→(F y t=some d↔G y t=some d))→∀ y t d,d.1<((n+1:Nat):Int)→F y t=some d→∃ d',G y t=some d'∧lx d' d:=fun {F G} f g ih y t d hd h=>by
    rcases f.org y t d h with⟨rfl,rfl,rfl⟩|⟨x,s,d0,k,h0,hk,hj,rfl,rfl⟩
    ·exact⟨_,g.st,.inr ⟨rfl,Nat.le_refl _⟩⟩
    ·have hLk:=hL k hk
     have hd0:d0.1<(n:Int):=by
      have hd:d0.1+L k<((n+1:Nat):Int):=hd
      omega
     exact g.cx x s d0 k y ((ih x s d0 hd0).mp h0) hk hj
   have wG:∀{F G:OW},Fx N L m u F→Fx N L m u G→(∀ y t d,d.1<(n:Int)→(F y t=some d↔G y t=some d))→∀ y t d,d.1<((n+1:Nat):Int)→F y t=some d→G y t=some d:=fun {F G} f g ih y t d hd h=>by
    obtain⟨d',h',l'⟩:=one f g ih y t d hd h
    have hd' : d'.1<((n+1:Nat):Int):=by
     rcases l' with z|z<;>omega
    obtain⟨d2,h2,l2⟩:=one g f (fun y t d hd=>(ih y t d hd).symm) y t d' hd' h'
    rw[h]at h2
    cases h2
    rw[l'.anti l2]at h'
    exact h'
   intro y t d hd
   exact⟨wG f g ih y t d hd,wG g f (fun y t d hd=>(ih y t d hd).symm) y t d hd⟩
theorem Fx.uniq(hL:∀ k,k<N.n→0<L k)(f:Fx N L m u F)(g:Fx N L m u G):F=G:=by
 have go:∀{F G:OW},Fx N L m u F→Fx N L m u G→∀ y t d,F y t=some d→G y t=some d:=fun {F G} f g y t d h=>by
  have hn:=f.nn y t d h
  exact(Fx.part hL f g (d.1.toNat+1) y t d (by omega)).mp h
 funext y t
 cases h:F y t with
 | some d=>exact(go f g y t d h).symm
 | none =>
   cases h' : G y t with
   | none=>rfl
   | some d=>rw[go g f y t d h']at h;cases h
end
end RM
namespace RM
def Org(N:Net)(L:Nat→Int)(m u:Nat)(F:OW)(y:Nat)(t:Bool)(d:Int×Nat):Prop:=(y=u∧t=false∧d=(0,0))∨∃ x s d0 k,F x s=some d0∧k<N.n∧Jn N k x y∧t=(s^^m.testBit k)∧d=stp L d0 k
structure Dx(N:Net)(L:Nat→Int)(m u:Nat)(F W:OW)(now:Option (Nat×Bool))(done:Nat→Nat→Prop):Prop where
 dj:Dj N L m u F W now done
 cx:∀ x s d k y,F x s=some d→k<N.n→Jn N k x y→(now=some (x,s)→done k y)→∃ d',(F y (s^^m.testBit k)=some d'∨W y (s^^m.testBit k)=some d')∧lx d' (stp L d k)
 fo:∀ y t d,F y t=some d→Org N L m u F y t d
 wo:∀ y t d,W y t=some d→Org N L m u F y t d
 s0:F u false=some (0,0)∨W u false=some (0,0)
section
variable {N:Net}{L:Nat→Int}{m u:Nat}{F W:OW}
theorem Org.grow{y x:Nat}{t s:Bool}{d e:Int×Nat}(h:Org N L m u F y t d)(hF:F x s=none):Org N L m u (fK F x s e) y t d:=by
 rcases h with h|⟨x',s',d0,k,h0,r⟩
 ·exact .inl h
 ·refine .inr ⟨x',s',d0,k,?_,r⟩
  rw[aS (fun z=>by rw[z.1,z.2,hF]at h0;cases h0)]
  exact h0
theorem Dx.start:Dx N L m u (fun _ _=>none) (fK (fun _ _=>none) u false (0,0)) none (fun _ _=>False):=by
 refine⟨.start,fun _ _ _ _ _ h=>(nomatch h),fun _ _ _ h=>(nomatch h),fun y t d h=>?_,.inr (be _ _ _ _)⟩
 by_cases e:y=u∧t=false
 ·obtain⟨rfl,rfl⟩:=e
  rw[be]at h
  exact .inl ⟨rfl,rfl,(Option.some.inj h).symm⟩
 ·rw[aS e]at h
  cases h
theorem Dx.pop(h:Dx N L m u F W none (fun _ _=>False)){x:Nat}{s:Bool}{d:Int×Nat}(e:W x s=some d)(hmin:∀ y t d',W y t=some d'→d.1≤d'.1):Dx N L m u (fK F x s d) (p7 W x s) (some (x,s)) (fun _ _=>False):=by
 have hF:=h.dj.dj x s d e
 have moved:∀ y t d',F y t=some d'∨W y t=some d'→fK F x s d y t=some d'∨p7 W x s y t=some d':=fun y t d' q=>by
  by_cases z:y=x∧t=s
  ·obtain⟨rfl,rfl⟩:=z
   rcases q with q|q
   ·rw[hF]at q;cases q
   ·rw[e]at q;cases q
    exact .inl (be _ _ _ _)
  ·rw[aS z,iT z];exact q
 refine⟨h.dj.pop e hmin,fun y t d' k y2 q hk hj hd=>?_,fun y t d' q=>?_,fun y t d' q=>?_,moved _ _ _ h.s0⟩
 ·by_cases z:y=x∧t=s
  ·obtain⟨rfl,rfl⟩:=z
   exact(hd rfl).elim
  ·rw[aS z]at q
   obtain⟨d2,q2,l2⟩:=h.cx y t d' k y2 q hk hj (fun z=>nomatch z)
   exact⟨d2,moved _ _ _ q2,l2⟩
 ·by_cases z:y=x∧t=s
  ·obtain⟨rfl,rfl⟩:=z
   rw[be]at q;cases q
   exact(h.wo _ _ _ e).grow hF
  ·rw[aS z]at q
   exact(h.fo y t d' q).grow hF
 ·by_cases z:y=x∧t=s
  ·obtain⟨rfl,rfl⟩:=z
   rw[lh]at q;cases q
  ·rw[iT z]at q
   exact(h.wo y t d' q).grow hF
theorem lx.trans{a b c:Int×Nat}(h1:lx a b)(h2:lx b c):lx a c:=by
 unfold lx at *
 omega
theorem Dx.put{done:Nat→Nat→Prop}{x:Nat}{s:Bool}(h:Dx N L m u F W (some (x,s)) done){d:Int×Nat}{k y:Nat}(e:F x s=some d)(h0:0≤d.1)(hk:k<N.n)(hL:0<L k)(hj:Jn N k x y)(hF:F y (s^^m.testBit k)=none)
 (hW:∀ d',W y (s^^m.testBit k)=some d'→lx (stp L d k) d'):Dx N L m u F (fK W y (s^^m.testBit k) (stp L d k)) (some (x,s)) (fun k' y'=>done k' y'∨(k' = k∧y' = y)):=by
 have moved:∀ v t d',F v t=some d'∨W v t=some d'→∃ d2,(F v t=some d2∨fK W y (s^^m.testBit k) (stp L d k) v t=some d2)∧lx d2 d':=fun v t d' q=>by
  rcases q with q|q
  ·exact⟨d',.inl q,.inr ⟨rfl,Nat.le_refl _⟩⟩
  ·by_cases z:v=y∧t=(s^^m.testBit k)
   ·obtain⟨rfl,rfl⟩:=z
    exact⟨_,.inr (be _ _ _ _),hW d' q⟩
   ·exact⟨d',.inr (by rw[aS z];exact q),.inr ⟨rfl,Nat.le_refl _⟩⟩
 refine⟨h.dj.put e hk (Int.le_of_lt hL) hj hF fun d' q=>?_,fun v t d' k2 y2 q hk2 hj2 hd=>?_,h.fo,fun v t d' q=>?_,?_⟩
 ·have:=hW d' q
  unfold lx stp at this
  simp only at this
  omega
 ·by_cases hd2:some (x,s)=some (v,t)→done k2 y2
  ·obtain⟨d2,q2,l2⟩:=h.cx v t d' k2 y2 q hk2 hj2 hd2
   obtain⟨d3,q3,l3⟩:=moved _ _ _ q2
   exact⟨d3,q3,l3.trans l2⟩
  ·have hn:some (x,s)=some (v,t):=Classical.byContradiction fun z=>hd2 fun z2=>absurd z2 z
   rcases hd hn with z|⟨rfl,rfl⟩
   ·exact absurd (fun _=>z) hd2
   ·cases hn
    rw[e]at q
    cases q
    exact⟨_,.inr (be _ _ _ _),.inr ⟨rfl,Nat.le_refl _⟩⟩
 ·by_cases z:v=y∧t=(s^^m.testBit k)
  ·obtain⟨rfl,rfl⟩:=z
   rw[be]at q;cases q
   exact .inr ⟨x,s,d,k,e,hk,hj,rfl,rfl⟩
  ·rw[aS z]at q
   exact h.wo v t d' q
 ·rcases h.s0 with q|q
  ·exact .inl q
  ·right
   rw[aS (fun z=>?_)]
   ·exact q
   ·obtain⟨z1,z2⟩:=z
    have q':=q
    rw[z1,z2]at q'
    have:=hW _ q'
    unfold lx stp at this
    simp only at this
    omega
theorem Dx.skip{done:Nat→Nat→Prop}{x:Nat}{s:Bool}(h:Dx N L m u F W (some (x,s)) done){d d2:Int×Nat}{k y:Nat}(e:F x s=some d)(hL:0<L k)(q2:F y (s^^m.testBit k)=some d2∨(W y (s^^m.testBit k)=some d2∧lx d2 (stp L d k))):
 Dx N L m u F W (some (x,s)) (fun k' y'=>done k' y'∨(k' = k∧y' = y)):=by
 have q3:F y (s^^m.testBit k)=some d2∨(W y (s^^m.testBit k)=some d2∧d2.1≤d.1+L k):=by
  rcases q2 with q2|⟨q2,l2⟩
  ·exact .inl q2
  ·refine .inr ⟨q2,?_⟩
   unfold lx stp at l2
   simp only at l2
   omega
 refine⟨h.dj.skip e (Int.le_of_lt hL) q3,fun v t d' k2 y2 q hk2 hj2 hd=>?_,h.fo,h.wo,h.s0⟩
 by_cases hd2:some (x,s)=some (v,t)→done k2 y2
 ·exact h.cx v t d' k2 y2 q hk2 hj2 hd2
 ·have hn:some (x,s)=some (v,t):=Classical.byContradiction fun z=>hd2 fun z2=>absurd z2 z
  rcases hd hn with z|⟨rfl,rfl⟩
  ·exact absurd (fun _=>z) hd2
  ·cases hn
   rw[e]at q
   cases q
   rcases q2 with q2|⟨q2,l2⟩
   ·have:=h.dj.mx x s d _ _ d2 rfl e q2
    refine⟨d2,.inl q2,.inl ?_⟩
    show d2.1<d.1+L k2
    omega
   ·exact⟨d2,.inr q2,l2⟩
theorem Dx.all{done:Nat→Nat→Prop}{x:Nat}{s:Bool}(h:Dx N L m u F W (some (x,s)) done)(ha:∀ k y,k<N.n→Jn N k x y→done k y):Dx N L m u F W none (fun _ _=>False) :=
 ⟨h.dj.all ha,fun v t d k y q hk hj _=>h.cx v t d k y q hk hj fun z=>by cases z;exact ha k y hk hj,h.fo,h.wo,h.s0⟩
theorem Dj.less{now:Option (Nat×Bool)}{done done' : Nat→Nat→Prop}(h:Dj N L m u F W now done)(hd:∀ k y,done' k y→done k y):Dj N L m u F W now done' :=
 ⟨h.fw,h.ww,h.dj,h.le,h.mx,fun v t d k y q hk hj z=>h.cl v t d k y q hk hj fun z2=>hd _ _ (z z2),h.st⟩
theorem Dx.less{now:Option (Nat×Bool)}{done done' : Nat→Nat→Prop}(h:Dx N L m u F W now done)(hd:∀ k y,done' k y→done k y):Dx N L m u F W now done' :=
 ⟨h.dj.less hd,fun v t d k y q hk hj z=>h.cx v t d k y q hk hj fun z2=>hd _ _ (z z2),h.fo,h.wo,h.s0⟩
theorem Dx.fin(hL:∀ k,k<N.n→0<L k)(hu:u<N.p)(h:Dx N L m u F W none (fun _ _=>False))(hW:∀ x s,W x s=none):Fx N L m u F:=by
 refine⟨?_,fun x s d k y e hk hj=>?_,h.fo,fun y t d e=>?_⟩
 ·rcases h.s0 with q|q
  ·exact q
  ·rw[hW]at q;cases q
 ·obtain⟨d',q,l⟩:=h.cx x s d k y e hk hj (fun z=>nomatch z)
  rcases q with q|q
  ·exact⟨d',q,l⟩
  ·rw[hW]at q;cases q
 ·obtain⟨pre,w⟩:=h.dj.fw y t d e
  exact(gr (fun k hk=>Int.le_of_lt (hL k hk)) hu w).2.2.2.2.2
end
end RM
namespace RM
section
variable {N:Net}{L:Nat→Int}{m:Nat}
def Lo(N:Net)(L:Nat→Int)(m:Nat)(z:Int)(e:Nat):Prop:=∃ Fs:Nat→OW,(∀ i,i<N.p→Fx N L m i (Fs i))∧(∃ i,i<N.p∧Fs i i true=some (z,e))∧∀ j d,j<N.p→Fs j j true=some d→lx (z,e) d
theorem Lo.uniq(hL:∀ k,k<N.n→0<L k){z z' : Int}{e e' : Nat}(h:Lo N L m z e)(h' : Lo N L m z' e'):z=z'∧e=e':=by
 obtain⟨F,f1,⟨i,hi,f2⟩,f3⟩:=h
 obtain⟨G,g1,⟨j,hj,g2⟩,g3⟩:=h'
 have e1:F j=G j:=Fx.uniq hL (f1 j hj) (g1 j hj)
 have e2:F i=G i:=Fx.uniq hL (f1 i hi) (g1 i hi)
 have:=(f3 j (z',e') hj (by rw[e1];exact g2)).anti (g3 i (z,e) hi (by rw[← e2];exact f2))
 exact⟨congrArg Prod.fst this,congrArg Prod.snd this⟩
structure LeastOdd(N:Net)(L:Nat→Int)(m:Nat)(z:Int)(e:Nat):Prop where
 ring:N.Ring e
 lt:e<2^N.n
 par:N.par e m=true
 len:cE L (fun k=>e.testBit k) N.n=z
 way:∃ x,x<N.p∧Wy N L m x x true z
 min:∀ x z',x<N.p→Wy N L m x x true z'→z≤z'
theorem LeastOdd.least(hL:∀ k,k<N.n→0≤L k){z:Int}{e r:Nat}(h:LeastOdd N L m z e)(hr:N.Ring r)(lr:r<2^N.n)(pr:N.par r m=true):z≤cE L (fun k=>r.testBit k) N.n:=by
 obtain⟨x,hx,hw⟩:=mW hL m hr lr
 rw[pr]at hw
 exact h.min x _ hx hw
end
end RM
namespace L2
open PySem
theorem fE{lo:Int}{n:Nat}{g:TG}{tb:TS}{D:Ends}{σ:St}{H:Hp}(Pv:Nat→St→Hp→Prop)(h0:Pv 0 σ H)
 (hs:∀ i,let D' : Ends:={ D with nx:=Pv (i+1),ct:=Pv (i+1),bk:=D.nx};∀ σ H,i<n→Pv i σ H→g (.int (lo+i)) σ H fun σ2 H2=>tb D' σ2 H2) (hd:∀ σ H,Pv n σ H→D.nx σ H) :
 ∃ W:Nat→Nat→St→Hp→Prop,(∃ m,W 0 m σ H)∧∀ i m σ H,W i m σ H→
   ((Itr lo n).stop i H∧D.nx σ H)∨((Itr lo n).go i H∧∃ N:St→Hp→Prop,(∀ σ' H',N σ' H'→∃ m',m'<m∧W (i+1) m' σ' H')∧∀ x H',(Itr lo n).yld i H x H'→g x σ H' fun σ2 H2=>tb { D with nx:=N,ct:=N,bk:=D.nx} σ2 H2) :=
 og Pv h0 (fun i σ H hi p=>hs i σ H hi p) hd
theorem dy{K:PySem.W.Frag}{a:Addr}{xs:List V}{g:TG}{tb:TS}{D:Ends}{σ:St}{H:Hp}(Pv:Nat→St→Hp→Prop)(h0:Pv 0 σ H)(hl:∀ i σ H,i≤xs.length→Pv i σ H→SqL K H a xs)
 (hs:∀ i x,let D' : Ends:={ D with nx:=Pv (i+1),ct:=Pv (i+1),bk:=D.nx};∀ σ H,xs[i]?=some x→Pv i σ H→g x σ H fun σ2 H2=>tb D' σ2 H2) (hd:∀ σ H,Pv xs.length σ H→D.nx σ H) :
 ∃ W:Nat→Nat→St→Hp→Prop,(∃ m,W 0 m σ H)∧∀ i m σ H,W i m σ H→
   ((Itl K a).stop i H∧D.nx σ H)∨((Itl K a).go i H∧∃ N:St→Hp→Prop,(∀ σ' H',N σ' H'→∃ m',m'<m∧W (i+1) m' σ' H')∧∀ x H',(Itl K a).yld i H x H'→g x σ H' fun σ2 H2=>tb { D with nx:=N,ct:=N,bk:=D.nx} σ2 H2) :=
 lG Pv h0 hl (fun i x σ H hi p=>hs i x σ H hi p) hd
theorem bmK{X:Cx}{e:Expr}{T:String}{r:V→List V→Hp→VK→Prop}{to:TE}{t:TA}(K:PySem.W.Frag)(p:PE X e (tBM X.K T r to t))(h:X.K=K:=by rfl):PE X e (tBM K T r to t):=by subst h;exact p
end L2
namespace L2
open PySem
theorem ixq{K:PySem.W.Frag}{H:Hp}{a:Addr}{xs:List V}{k:Int}{v:V}{R:V→Prop}(hs:SqT K H a xs)(ha:atI xs k=some v)(q:R v):∃ p ys k' w,V.ref a = .ref p∧V.int k = .int k'∧SqT K H p ys∧atI ys k' = some w∧R w:=⟨a,xs,k,v,rfl,rfl,hs,ha,q⟩
theorem ixl{K:PySem.W.Frag}{H:Hp}{a:Addr}{xs:List V}{k:Int}{v:V}{R:V→Prop}(hs:SqL K H a xs)(ha:atI xs k=some v)(q:R v):∃ p ys k' w,V.ref a = .ref p∧V.int k = .int k'∧SqL K H p ys∧atI ys k' = some w∧R w:=⟨a,xs,k,v,rfl,rfl,hs,ha,q⟩
theorem ijq{i j:Int}{R:Int→Int→Prop}(h:R i j):∃ i' j',V.int i = .int i'∧V.int j = .int j'∧R i' j':=⟨i,j,rfl,rfl,h⟩
end L2
namespace L2
open PySem
theorem lnq{K:PySem.W.Frag}{H:Hp}{a:Addr}{xs:List V}{E:Addr→Prop}{R:List V→Prop}(e:E a)(h:SqL K H a xs∨SqT K H a xs)(q:R xs):∃ p ys,E p∧(SqL K H p ys∨SqT K H p ys)∧R ys:=⟨a,xs,e,h,q⟩
theorem exq{α:Type}{A R:α→Prop}{x:α}(h:A x)(r:R x):∃ x,A x∧R x:=⟨x,h,r⟩
end L2
namespace L2
open PySem PySem.Spec PyProof.Rows
section
variable {P:Program}{w:World}{K:PySem.W.Frag}{mg:Str→Option Value}{base:Heap}
end
end L2
set_option Elab.async false
set_option maxRecDepth 100000
set_option maxHeartbeats 4000000
namespace K23
open PySem L2 Ring
def top(i:Nat):Stmt:=PySem.Challenge.pw_ringbase_k23_least_odd_refused.main.body.getD i (.Pass ⟨0,0,0,0⟩)
abbrev fh:Stmt:=top 15
theorem r6:FnScope ["tie_set","tie"] ["tie_set","tie"] (ae fh):=⟨rfl,rfl,rfl,by decide +kernel,rfl,by decide +kernel,by decide +kernel⟩
abbrev ee:Stmt:=top 16
theorem sA:FnScope ["tie_set"] ["tie_set"] (ae ee):=⟨rfl,rfl,rfl,by decide +kernel,rfl,by decide +kernel,by decide +kernel⟩
abbrev gw:Stmt:=top 17
theorem iS:FnScope ["web","ties","found","tie"] ["web","ties"] (ae gw):=⟨rfl,rfl,rfl,by decide +kernel,rfl,by decide +kernel,by decide +kernel⟩
theorem uq{sa0 sa1 sa2 sa3:TS}{sc0:TT}{si0:TI}{sg0:TG}{D:Ends}{σ:St}{H:Hp}(h:let zz0:TS:=sa0;let zz1:TS:=sa1;let zz2:TS:=sa2;let zz3:TS:=(ap (br sc0 zz2 aL) zz1);let zz4:TS:=(ap (cI si0 sg0 zz3) zz0);(ap sa3 zz4) D σ H):(ap sa3 (ap (cI si0 sg0 (ap (br sc0 sa2 aL) sa1)) sa0)) D σ H:=h
abbrev d8:Stmt:=top 18
theorem rC:FnScope ["web"] ["web"] (ae d8):=⟨rfl,rfl,rfl,by decide +kernel,rfl,by decide +kernel,by decide +kernel⟩
abbrev gi:Stmt:=top 19
theorem vd:FnScope ["web","number"] ["web","number"] (ae gi):=⟨rfl,rfl,rfl,by decide +kernel,rfl,by decide +kernel,by decide +kernel⟩
abbrev dA:Stmt:=top 20
theorem pj:FnScope ["web","tie_set"] ["web","tie_set"] (ae dA):=⟨rfl,rfl,rfl,by decide +kernel,rfl,by decide +kernel,by decide +kernel⟩
theorem pK{sa0:TS}{sc0:TT}{D:Ends}{σ:St}{H:Hp}(h:let zz0:TS:=sa0;(br sc0 zz0 aL) D σ H):(br sc0 sa0 aL) D σ H:=h
abbrev ck:Stmt:=top 21
theorem nH:FnScope ["web","tie_set"] ["web","tie_set"] (ae ck):=⟨rfl,rfl,rfl,by decide +kernel,rfl,by decide +kernel,by decide +kernel⟩
theorem nL{sa0 sa1:TS}{D:Ends}{σ:St}{H:Hp}(h:let zz0:TS:=sa0;(ap sa1 zz0) D σ H):(ap sa1 sa0) D σ H:=h
abbrev cM:Stmt:=top 22
theorem pH:FnScope ["web","tie_set"] ["web","tie_set"] (ae cM):=⟨rfl,rfl,rfl,by decide +kernel,rfl,by decide +kernel,by decide +kernel⟩
abbrev cn:Stmt:=top 23
theorem di:FnScope ["web","tie_set","ends","one","other","length"] ["web","tie_set"] (ae cn):=⟨rfl,rfl,rfl,by decide +kernel,rfl,by decide +kernel,by decide +kernel⟩
theorem nC{sa0 sa1 sa2 sa3:TS}{si0:TI}{sg0:TG}{D:Ends}{σ:St}{H:Hp}(h:let zz0:TS:=sa0;let zz1:TS:=sa1;let zz2:TS:=(ap sa2 zz1);let zz3:TS:=(ap (cI si0 sg0 zz2) zz0);(ap sa3 zz3) D σ H):(ap sa3 (ap (cI si0 sg0 (ap sa2 sa1)) sa0)) D σ H:=h
abbrev bq:Stmt:=top 24
theorem dM:FnScope ["leasts","one","other","low","high"] ["leasts","one","other"] (ae bq):=⟨rfl,rfl,rfl,by decide +kernel,rfl,by decide +kernel,by decide +kernel⟩
theorem jM{sa0 sa1 sa2:TS}{D:Ends}{σ:St}{H:Hp}(h:let zz0:TS:=sa0;let zz1:TS:=(ap sa1 zz0);(ap sa2 zz1) D σ H):(ap sa2 (ap sa1 sa0)) D σ H:=h
abbrev fC:Stmt:=top 25
theorem dB:FnScope ["web","tie_set","leasts","one","other","length","found","start"] ["web","tie_set"] (ae fC):=⟨rfl,rfl,rfl,by decide +kernel,rfl,by decide +kernel,by decide +kernel⟩
theorem uP{sa0 sa1 sa2 sa3 sa4:TS}{sc0:TT}{si0 si1:TI}{sg0 sg1:TG}{D:Ends}{σ:St}{H:Hp}(h:let zz0:TS:=sa0;let zz1:TS:=sa1;let zz2:TS:=(br sc0 zz1 aL);let zz3:TS:=(ap (cI si0 sg0 zz2) zz0);let zz4:TS:=(ap sa2 zz3);let zz5:TS:=sa3;let zz6:TS:=(ap (cI si1 sg1 zz5) zz4);(ap sa4 zz6) D σ H):(ap sa4 (ap (cI si1 sg1 sa3) (ap sa2 (ap (cI si0 sg0 (br sc0 sa1 aL)) sa0)))) D σ H:=h
abbrev fg:Stmt:=top 27
theorem rN:FnScope ["web","tie_set"] ["web","tie_set"] (ae fg):=⟨rfl,rfl,rfl,by decide +kernel,rfl,by decide +kernel,by decide +kernel⟩
abbrev bC:Stmt:=top 28
theorem aM:FnScope ["web","leasts","trails","tie","one","other","bridge","moved"] ["web"] (ae bC):=⟨rfl,rfl,rfl,by decide +kernel,rfl,by decide +kernel,by decide +kernel⟩
theorem j4{sa0 sa1 sa2 sa3 sa4 sa5 sa6 sa7 sa8:TS}{sc0:TT}{si0:TI}{sg0:TG}{D:Ends}{σ:St}{H:Hp}(h:let zz0:TS:=sa0;let zz1:TS:=sa1;let zz2:TS:=(ap sa2 zz1);let zz3:TS:=(ap sa3 zz2);let zz4:TS:=(ap sa4 zz3);let zz5:TS:=(br sc0 zz4 aL);let zz6:TS:=(ap sa5 zz5);let zz7:TS:=(ap sa6 zz6);let zz8:TS:=(ap (cI si0 sg0 zz7) zz0);let zz9:TS:=(ap sa7 zz8);(ap sa8 zz9) D σ H):(ap sa8 (ap sa7 (ap (cI si0 sg0 (ap sa6 (ap sa5 (br sc0 (ap sa4 (ap sa3 (ap sa2 sa1))) aL)))) sa0))) D σ H:=h
abbrev gD:Stmt:=top 29
theorem iI:FnScope ["web","found","trail"] ["web"] (ae gD):=⟨rfl,rfl,rfl,by decide +kernel,rfl,by decide +kernel,by decide +kernel⟩
theorem u8{sa0 sa1 sa2:TS}{si0:TI}{sg0:TG}{D:Ends}{σ:St}{H:Hp}(h:let zz0:TS:=sa0;let zz1:TS:=sa1;let zz2:TS:=(ap (cI si0 sg0 zz1) zz0);(ap sa2 zz2) D σ H):(ap sa2 (ap (cI si0 sg0 sa1) sa0)) D σ H:=h
abbrev gk:Stmt:=top 30
theorem u4:FnScope ["web"] ["web"] (ae gk):=⟨rfl,rfl,rfl,by decide +kernel,rfl,by decide +kernel,by decide +kernel⟩
abbrev cA:Stmt:=top 31
theorem ii:FnScope ["web","trails","chord","tie"] ["web","trails","chord"] (ae cA):=⟨rfl,rfl,rfl,by decide +kernel,rfl,by decide +kernel,by decide +kernel⟩
theorem m5{sa0 sa1:TS}{D:Ends}{σ:St}{H:Hp}(h:let zz0:TS:=sa0;(ap sa1 zz0) D σ H):(ap sa1 sa0) D σ H:=h
abbrev dc:Stmt:=top 32
theorem nE:FnScope ["web","tie"] ["web","tie"] (ae dc):=⟨rfl,rfl,rfl,by decide +kernel,rfl,by decide +kernel,by decide +kernel⟩
theorem nB{sa0 sa1:TS}{sc0:TT}{D:Ends}{σ:St}{H:Hp}(h:let zz0:TS:=sa0;let zz1:TS:=sa1;(ap (br sc0 zz1 aL) zz0) D σ H):(ap (br sc0 sa1 aL) sa0) D σ H:=h
abbrev dZ:Stmt:=top 34
theorem m3:FnScope ["web","tie_set","touched"] ["web","tie_set"] (ae dZ):=⟨rfl,rfl,rfl,by decide +kernel,rfl,by decide +kernel,by decide +kernel⟩
theorem su{sa0 sa1 sa2:TS}{sc0:TT}{D:Ends}{σ:St}{H:Hp}(h:let zz0:TS:=sa0;let zz1:TS:=(ap sa1 zz0);let zz2:TS:=sa2;(ap (br sc0 zz2 aL) zz1) D σ H):(ap (br sc0 sa2 aL) (ap sa1 sa0)) D σ H:=h
abbrev bJ:Stmt:=top 35
theorem jN:FnScope ["web","number"] ["web","number"] (ae bJ):=⟨rfl,rfl,rfl,by decide +kernel,rfl,by decide +kernel,by decide +kernel⟩
abbrev gz:Stmt:=top 37
theorem uQ:FnScope ["one","other"] ["one","other"] (ae gz):=⟨rfl,rfl,rfl,by decide +kernel,rfl,by decide +kernel,by decide +kernel⟩
abbrev cu:Stmt:=top 38
theorem mF:FnScope ["tie_set","marks"] ["tie_set","marks"] (ae cu):=⟨rfl,rfl,rfl,by decide +kernel,rfl,by decide +kernel,by decide +kernel⟩
abbrev fq:Stmt:=top 39
theorem cL:FnScope ["web","side","ahead","point"] ["web","side"] (ae fq):=⟨rfl,rfl,rfl,by decide +kernel,rfl,by decide +kernel,by decide +kernel⟩
theorem mU{sa0 sa1 sa2 sa3:TS}{sc0:TT}{si0:TI}{sg0:TG}{D:Ends}{σ:St}{H:Hp}(h:let zz0:TS:=sa0;let zz1:TS:=sa1;let zz2:TS:=sa2;let zz3:TS:=(ap (br sc0 zz2 aL) zz1);let zz4:TS:=(ap (cI si0 sg0 zz3) zz0);(ap sa3 zz4) D σ H):(ap sa3 (ap (cI si0 sg0 (ap (br sc0 sa2 aL) sa1)) sa0)) D σ H:=h
abbrev fu:Stmt:=top 40
theorem uw:FnScope ["web","side"] ["web","side"] (ae fu):=⟨rfl,rfl,rfl,by decide +kernel,rfl,by decide +kernel,by decide +kernel⟩
theorem uM{sa0 sa1:TS}{sc0:TT}{D:Ends}{σ:St}{H:Hp}(h:let zz0:TS:=sa0;let zz1:TS:=sa1;(ap (br sc0 zz1 aL) zz0) D σ H):(ap (br sc0 sa1 aL) sa0) D σ H:=h
abbrev et:Stmt:=top 41
theorem gY:FnScope ["web","tie_set","trails","side","amiss"] ["web","tie_set"] (ae et):=⟨rfl,rfl,rfl,by decide +kernel,rfl,by decide +kernel,by decide +kernel⟩
theorem rL{sa0 sa1 sa2 sa3 sa4 sa5:TS}{sc0:TT}{D:Ends}{σ:St}{H:Hp}(h:let zz0:TS:=sa0;let zz1:TS:=sa1;let zz2:TS:=(ap (br sc0 zz1 aL) zz0);let zz3:TS:=(ap sa2 zz2);let zz4:TS:=(ap sa3 zz3);let zz5:TS:=(ap sa4 zz4);(ap sa5 zz5) D σ H):(ap sa5 (ap sa4 (ap sa3 (ap sa2 (ap (br sc0 sa1 aL) sa0))))) D σ H:=h
abbrev cW:Stmt:=top 42
theorem nF:FnScope ["web","side","tie_set"] ["web","side","tie_set"] (ae cW):=⟨rfl,rfl,rfl,by decide +kernel,rfl,by decide +kernel,by decide +kernel⟩
abbrev bn:Stmt:=top 44
theorem bV:FnScope ["web","marks","steps","tie","ends","turn"] ["web","marks"] (ae bn):=⟨rfl,rfl,rfl,by decide +kernel,rfl,by decide +kernel,by decide +kernel⟩
theorem jy{sa0 sa1 sa2 sa3 sa4:TS}{si0:TI}{sg0:TG}{D:Ends}{σ:St}{H:Hp}(h:let zz0:TS:=sa0;let zz1:TS:=sa1;let zz2:TS:=(ap sa2 zz1);let zz3:TS:=(ap sa3 zz2);let zz4:TS:=(ap (cI si0 sg0 zz3) zz0);(ap sa4 zz4) D σ H):(ap sa4 (ap (cI si0 sg0 (ap sa3 (ap sa2 sa1))) sa0)) D σ H:=h
abbrev bW:Stmt:=top 45
theorem aW:FnScope ["web","marks","start","steps","found","waiting","nearest","way","tie","point","turn","part","further"] ["web","marks","start"] (ae bW):=⟨rfl,rfl,rfl,by decide +kernel,rfl,by decide +kernel,by decide +kernel⟩
theorem nN{sa0 sa1 sa2 sa3 sa4 sa5 sa6 sa7 sa8 sa9:TS}{sc0 sc1:TT}{si0:TI}{sg0:TG}{D:Ends}{σ:St}{H:Hp}(h:let zz0:TS:=sa0;let zz1:TS:=sa1;let zz2:TS:=(br sc1 zz1 aL);let zz3:TS:=(ap sa2 zz2);let zz4:TS:=(ap sa3 zz3);let zz5:TS:=(cI si0 sg0 zz4);let zz6:TS:=(ap sa4 zz5);let zz7:TS:=(ap sa5 zz6);let zz8:TS:=(ap sa6 zz7);let zz9:TS:=(ap (jf sc0 zz8) zz0);let zz10:TS:=(ap sa7 zz9);let zz11:TS:=(ap sa8 zz10);(ap sa9 zz11) D σ H):(ap sa9 (ap sa8 (ap sa7 (ap (jf sc0 (ap sa6 (ap sa5 (ap sa4 (cI si0 sg0 (ap sa3 (ap sa2 (br sc1 sa1 aL)))))))) sa0)))) D σ H:=h
def aX:Pos:=⟨153,35,153,63⟩
abbrev bT:Stmt:=top 46
theorem kj:FnScope ["way"] ["way"] (ae bT):=⟨rfl,rfl,rfl,by decide +kernel,rfl,by decide +kernel,by decide +kernel⟩
abbrev bj:Stmt:=top 47
theorem jx:FnScope ["ways"] ["ways"] (ae bj):=⟨rfl,rfl,rfl,by decide +kernel,rfl,by decide +kernel,by decide +kernel⟩
abbrev bp:Stmt:=top 49
theorem jH:FnScope ["web","marks"] ["web","marks"] (ae bp):=⟨rfl,rfl,rfl,by decide +kernel,rfl,by decide +kernel,by decide +kernel⟩
abbrev bB:Stmt:=top 50
theorem ki:FnScope ["ways"] ["ways"] (ae bB):=⟨rfl,rfl,rfl,by decide +kernel,rfl,by decide +kernel,by decide +kernel⟩
abbrev cN:Stmt:=top 51
theorem gM:FnScope ["web","marks","ways","rounds"] ["web","marks"] (ae cN):=⟨rfl,rfl,rfl,by decide +kernel,rfl,by decide +kernel,by decide +kernel⟩
theorem pq{sa0 sa1 sa2 sa3 sa4:TS}{sc0:TT}{D:Ends}{σ:St}{H:Hp}(h:let zz0:TS:=sa0;let zz1:TS:=sa1;let zz2:TS:=(ap (br sc0 zz1 aL) zz0);let zz3:TS:=(ap sa2 zz2);let zz4:TS:=(ap sa3 zz3);(ap sa4 zz4) D σ H):(ap sa4 (ap sa3 (ap sa2 (ap (br sc0 sa1 aL) sa0)))) D σ H:=h
abbrev cB:Stmt:=top 52
theorem lv:FnScope ["one","other","length"] ["one","other","length"] (ae cB):=⟨rfl,rfl,rfl,by decide +kernel,rfl,by decide +kernel,by decide +kernel⟩
theorem lY{sa0 sa1:TS}{sc0:TT}{D:Ends}{σ:St}{H:Hp}(h:let zz0:TS:=sa0;let zz1:TS:=sa1;(ap (br sc0 zz1 aL) zz0) D σ H):(ap (br sc0 sa1 aL) sa0) D σ H:=h
abbrev cY:Stmt:=top 53
theorem fX:FnScope ["tie","turn","worths","here","there"] ["tie","turn","worths"] (ae cY):=⟨rfl,rfl,rfl,by decide +kernel,rfl,by decide +kernel,by decide +kernel⟩
theorem nv{sa0 sa1 sa2:TS}{D:Ends}{σ:St}{H:Hp}(h:let zz0:TS:=sa0;let zz1:TS:=(ap sa1 zz0);(ap sa2 zz1) D σ H):(ap sa2 (ap sa1 sa0)) D σ H:=h
abbrev cb:Stmt:=top 54
theorem dm:FnScope ["web","marks","worths","point","place","tie"] ["web","marks","worths"] (ae cb):=⟨rfl,rfl,rfl,by decide +kernel,rfl,by decide +kernel,by decide +kernel⟩
theorem kT{sa0 sa1 sa2 sa3:TS}{sc0 sc1:TT}{si0 si1:TI}{sg0 sg1:TG}{D:Ends}{σ:St}{H:Hp}(h:let zz0:TS:=sa0;let zz1:TS:=sa1;let zz2:TS:=(br sc0 zz1 aL);let zz3:TS:=(cI si1 sg1 zz2);let zz4:TS:=sa2;let zz5:TS:=(ap (br sc1 zz4 aL) zz3);let zz6:TS:=(ap (cI si0 sg0 zz5) zz0);(ap sa3 zz6) D σ H):(ap sa3 (ap (cI si0 sg0 (ap (br sc1 sa2 aL) (cI si1 sg1 (br sc0 sa1 aL)))) sa0)) D σ H:=h
abbrev bu:Stmt:=top 55
theorem ib:FnScope ["worths","length","rounds"] ["worths","length"] (ae bu):=⟨rfl,rfl,rfl,by decide +kernel,rfl,by decide +kernel,by decide +kernel⟩
theorem kR{sa0 sa1:TS}{D:Ends}{σ:St}{H:Hp}(h:let zz0:TS:=sa0;(ap sa1 zz0) D σ H):(ap sa1 sa0) D σ H:=h
abbrev cC:Stmt:=top 56
theorem lP:FnScope ["web","marks","ring","worths"] ["web","marks","ring","worths"] (ae cC):=⟨rfl,rfl,rfl,by decide +kernel,rfl,by decide +kernel,by decide +kernel⟩
theorem mY{sa0 sa1:TS}{sc0:TT}{D:Ends}{σ:St}{H:Hp}(h:let zz0:TS:=sa0;let zz1:TS:=sa1;(ap (br sc0 zz1 aL) zz0) D σ H):(ap (br sc0 sa1 aL) sa0) D σ H:=h
abbrev cT:Stmt:=top 57
theorem nk:FnScope ["web","marks","answer"] ["web","marks","answer"] (ae cT):=⟨rfl,rfl,rfl,by decide +kernel,rfl,by decide +kernel,by decide +kernel⟩
theorem nM{sa0 sa1 sa2:TS}{sc0:TT}{D:Ends}{σ:St}{H:Hp}(h:let zz0:TS:=sa0;let zz1:TS:=sa1;let zz2:TS:=(ap (br sc0 zz1 aL) zz0);(ap sa2 zz2) D σ H):(ap sa2 (ap (br sc0 sa1 aL) sa0)) D σ H:=h
abbrev cz:Stmt:=top 59
theorem md:FnScope ["script","k"] ["script","k"] (ae cz):=⟨rfl,rfl,rfl,by decide +kernel,rfl,by decide +kernel,by decide +kernel⟩
theorem mC{sa0 sa1:TS}{sc0:TT}{D:Ends}{σ:St}{H:Hp}(h:let zz0:TS:=sa0;let zz1:TS:=sa1;(ap (br sc0 zz1 aL) zz0) D σ H):(ap (br sc0 sa1 aL) sa0) D σ H:=h
abbrev d7:Stmt:=top 60
theorem kA:FnScope ["cell","k","way","stir"] ["cell","k","way"] (ae d7):=⟨rfl,rfl,rfl,by decide +kernel,rfl,by decide +kernel,by decide +kernel⟩
theorem qB{sa0 sa1 sa2:TS}{sc0:TT}{D:Ends}{σ:St}{H:Hp}(h:let zz0:TS:=sa0;let zz1:TS:=(ap sa1 zz0);let zz2:TS:=sa2;(ap (br sc0 zz2 aL) zz1) D σ H):(ap (br sc0 sa2 aL) (ap sa1 sa0)) D σ H:=h
abbrev ff:Stmt:=top 61
theorem fJ:FnScope ["left","points","mode","one","other"] ["left","points","mode"] (ae ff):=⟨rfl,rfl,rfl,by decide +kernel,rfl,by decide +kernel,by decide +kernel⟩
theorem se{sa0 sa1 sa2 sa3 sa4:TS}{D:Ends}{σ:St}{H:Hp}(h:let zz0:TS:=sa0;let zz1:TS:=(ap sa1 zz0);let zz2:TS:=(ap sa2 zz1);let zz3:TS:=(ap sa3 zz2);(ap sa4 zz3) D σ H):(ap sa4 (ap sa3 (ap sa2 (ap sa1 sa0)))) D σ H:=h
abbrev fe:Stmt:=top 62
theorem bZ:FnScope ["script","most_points","most_ties","way","left","points","mode","cells","k","ties"] ["script","most_points","most_ties"] (ae fe):=⟨rfl,rfl,rfl,by decide +kernel,rfl,by decide +kernel,by decide +kernel⟩
theorem sv{sa0 sa1 sa2 sa3 sa4 sa5 sa6 sa7 sa8 sa9:TS}{sc0:TT}{si0 si1:TI}{sg0 sg1:TG}{D:Ends}{σ:St}{H:Hp}(h:let zz0:TS:=sa0;let zz1:TS:=sa1;let zz2:TS:=(ap (cI si0 sg0 zz1) zz0);let zz3:TS:=(ap sa2 zz2);let zz4:TS:=sa3;let zz5:TS:=(ap (br sc0 zz4 aL) zz3);let zz6:TS:=sa4;let zz7:TS:=(ap (cI si1 sg1 zz6) zz5);let zz8:TS:=(ap sa5 zz7);let zz9:TS:=(ap sa6 zz8);let zz10:TS:=(ap sa7 zz9);let zz11:TS:=(ap sa8 zz10);(ap sa9 zz11) D σ H):(ap sa9 (ap sa8 (ap sa7 (ap sa6 (ap sa5 (ap (cI si1 sg1 sa4) (ap (br sc0 sa3 aL) (ap sa2 (ap (cI si0 sg0 sa1) sa0))))))))) D σ H:=h
abbrev cj:Stmt:=top 63
theorem bH:FnScope ["web","some","ends","ties","k","start","at","walk","tie"] ["web","some"] (ae cj):=⟨rfl,rfl,rfl,by decide +kernel,rfl,by decide +kernel,by decide +kernel⟩
theorem qX{sa0 sa1 sa2 sa3 sa4 sa5 sa6 sa7 sa8 sa9 sa10 sa11 sa12 sa13:TS}{sc0 sc1 sc2 sc3:TT}{si0:TI}{sg0:TG}{D:Ends}{σ:St}{H:Hp}(h:let zz0:TS:=sa0;let zz1:TS:=sa1;let zz2:TS:=(ap (br sc0 zz1 aL) zz0);let zz3:TS:=sa2;let zz4:TS:=sa4;let zz5:TS:=(ap sa3 zz3);let zz6:TS:=(ap sa5 zz4);let zz7:TS:=(br sc2 zz5 zz6);let zz8:TS:=(ap sa6 zz7);let zz9:TS:=(ap (jf sc1 zz8) zz2);let zz10:TS:=(ap sa7 zz9);let zz11:TS:=(ap sa8 zz10);let zz12:TS:=sa9;let zz13:TS:=(ap (br sc3 zz12 aL) zz11);let zz14:TS:=sa10;let zz15:TS:=(ap sa11 zz14);let zz16:TS:=(ap (cI si0 sg0 zz15) zz13);let zz17:TS:=(ap sa12 zz16);(ap sa13 zz17) D σ H):(ap sa13 (ap sa12 (ap (cI si0 sg0 (ap sa11 sa10)) (ap (br sc3 sa9 aL) (ap sa8 (ap sa7 (ap (jf sc1 (ap sa6 (br sc2 (ap sa3 sa2) (ap sa5 sa4)))) (ap (br sc0 sa1 aL) sa0)))))))) D σ H:=h
abbrev fj:Stmt:=top 64
theorem gJ:FnScope ["number","odd"] ["number"] (ae fj):=⟨rfl,rfl,rfl,by decide +kernel,rfl,by decide +kernel,by decide +kernel⟩
theorem sG{sa0 sa1 sa2 sa3:TS}{sc0:TT}{D:Ends}{σ:St}{H:Hp}(h:let zz0:TS:=sa0;let zz1:TS:=sa1;let zz2:TS:=(ap sa2 zz1);let zz3:TS:=(ap (jf sc0 zz2) zz0);(ap sa3 zz3) D σ H):(ap sa3 (ap (jf sc0 (ap sa2 sa1)) sa0)) D σ H:=h
abbrev cO:Stmt:=top 65
theorem dQ:FnScope ["e","first","more","last","heard"] ["e"] (ae cO):=⟨rfl,rfl,rfl,by decide +kernel,rfl,by decide +kernel,by decide +kernel⟩
theorem pN{sa0 sa1 sa2 sa3 sa4:TS}{D:Ends}{σ:St}{H:Hp}(h:let zz0:TS:=sa0;let zz1:TS:=(ap sa1 zz0);let zz2:TS:=(ap sa2 zz1);let zz3:TS:=(ap sa3 zz2);(ap sa4 zz3) D σ H):(ap sa4 (ap sa3 (ap sa2 (ap sa1 sa0)))) D σ H:=h
abbrev cy:Stmt:=top 66
theorem dN:FnScope ["web","marks","heard","e"] ["web","marks"] (ae cy):=⟨rfl,rfl,rfl,by decide +kernel,rfl,by decide +kernel,by decide +kernel⟩
theorem ly{sa0 sa1 sa2:TS}{D:Ends}{σ:St}{H:Hp}(h:let zz0:TS:=sa0;let zz1:TS:=(ap sa1 zz0);(ap sa2 zz1) D σ H):(ap sa2 (ap sa1 sa0)) D σ H:=h
abbrev cv:Stmt:=top 67
theorem ij:FnScope ["web","marks","some"] ["web","marks"] (ae cv):=⟨rfl,rfl,rfl,by decide +kernel,rfl,by decide +kernel,by decide +kernel⟩
theorem lD{sa0 sa1:TS}{sc0:TT}{si0:TI}{sg0:TG}{D:Ends}{σ:St}{H:Hp}(h:let zz0:TS:=sa0;let zz1:TS:=sa1;let zz2:TS:=(br sc0 zz1 aL);(ap (cI si0 sg0 zz2) zz0) D σ H):(ap (cI si0 sg0 (br sc0 sa1 aL)) sa0) D σ H:=h
abbrev jG:Stmt:=top 68
theorem iC:FnScope ["script","web","left","many","far","bad","marks","found"] ["script"] (ae jG):=⟨rfl,rfl,rfl,by decide +kernel,rfl,by decide +kernel,by decide +kernel⟩
theorem zt{sa0 sa1 sa2 sa3 sa4 sa5 sa6 sa7:TS}{sc0 sc1 sc2:TT}{si0 si1:TI}{sg0 sg1:TG}{D:Ends}{σ:St}{H:Hp}(h:let zz0:TS:=sa0;let zz1:TS:=sa1;let zz2:TS:=(br sc0 zz1 aL);let zz3:TS:=sa2;let zz4:TS:=(ap (br sc1 zz3 aL) zz2);let zz5:TS:=(ap sa3 zz4);let zz6:TS:=(ap (cI si0 sg0 zz5) zz0);let zz7:TS:=sa4;let zz8:TS:=(br sc2 zz7 aL);let zz9:TS:=(ap (cI si1 sg1 zz8) zz6);let zz10:TS:=(ap sa5 zz9);let zz11:TS:=(ap sa6 zz10);(ap sa7 zz11) D σ H):(ap sa7 (ap sa6 (ap sa5 (ap (cI si1 sg1 (br sc2 sa4 aL)) (ap (cI si0 sg0 (ap sa3 (ap (br sc1 sa2 aL) (br sc0 sa1 aL)))) sa0))))) D σ H:=h
set_option genInjectivity false
set_option genSizeOf false
structure Adr where
 f_has_tie:Addr
 d_has_tie:FuncData
 f_ties_in:Addr
 d_ties_in:FuncData
 f_set_of:Addr
 d_set_of:FuncData
 f_all_ties:Addr
 d_all_ties:FuncData
 f_is_set:Addr
 d_is_set:FuncData
 f_check_set:Addr
 d_check_set:FuncData
 f_triples_in:Addr
 d_triples_in:FuncData
 f_length_of:Addr
 d_length_of:FuncData
 f_odd_points:Addr
 d_odd_points:FuncData
 f_drawn_together:Addr
 d_drawn_together:FuncData
 f_pieces:Addr
 d_pieces:FuncData
 f_is_even:Addr
 d_is_even:FuncData
 f_forest_trails:Addr
 d_forest_trails:FuncData
 f_forest:Addr
 d_forest:FuncData
 f_chords:Addr
 d_chords:FuncData
 f_ring_closed:Addr
 d_ring_closed:FuncData
 f_chord_ring:Addr
 d_chord_ring:FuncData
 f_is_ring:Addr
 d_is_ring:FuncData
 f_is_ring_number:Addr
 d_is_ring_number:FuncData
 f_common:Addr
 d_common:FuncData
 f_bears_oddly:Addr
 d_bears_oddly:FuncData
 f_is_side:Addr
 d_is_side:FuncData
 f_cut_of:Addr
 d_cut_of:FuncData
 f_side_of:Addr
 d_side_of:FuncData
 f_is_side_of:Addr
 d_is_side_of:FuncData
 f_steps_by_point:Addr
 d_steps_by_point:FuncData
 f_least_ways:Addr
 d_least_ways:FuncData
 f_length_of_way:Addr
 d_length_of_way:FuncData
 f_worths_of_ways:Addr
 d_worths_of_ways:FuncData
 f_all_least_ways:Addr
 d_all_least_ways:FuncData
 f_worths_of_all:Addr
 d_worths_of_all:FuncData
 f_least_odd:Addr
 d_least_odd:FuncData
 f_near_enough:Addr
 d_near_enough:FuncData
 f_tie_stands:Addr
 d_tie_stands:FuncData
 f_worths_stand:Addr
 d_worths_stand:FuncData
 f_none_shorter:Addr
 d_none_shorter:FuncData
 f_ring_stands:Addr
 d_ring_stands:FuncData
 f_odd_judged:Addr
 d_odd_judged:FuncData
 f_law_cell_at:Addr
 d_law_cell_at:FuncData
 f_law_left:Addr
 d_law_left:FuncData
 f_law_tie:Addr
 d_law_tie:FuncData
 f_law_web:Addr
 d_law_web:FuncData
 f_law_walk:Addr
 d_law_walk:FuncData
 f_law_odd:Addr
 d_law_odd:FuncData
 f_law_kinds:Addr
 d_law_kinds:FuncData
 f_law_refusal:Addr
 d_law_refusal:FuncData
 f_law_any_odd:Addr
 d_law_any_odd:FuncData
 f_law:Addr
 d_law:FuncData
 c_RingError:Addr
 c_BadWeb:Addr
 c_BadSet:Addr
 c_BadPoint:Addr
 c_NotRing:Addr
 c_NoChord:Addr
 c_NoBase:Addr
 c_NoSuch:Addr
 c_TooMany:Addr
 c_BadRow:Addr
 c_NoDeed:Addr
 c_NotEven:Addr
 c_NoText:Addr
 k_least_ways:Addr
 p_least_ways:Addr
structure Txt(K:PySem.W.Frag)(mg:Str→Option Value)(a:Adr):Prop where
 F_has_tie:Fun K "has_tie" "has_tie" fh a.f_has_tie a.d_has_tie
 m_has_tie:mg "has_tie"=some (.ref a.f_has_tie)
 b_has_tie:aI K a.d_has_tie ["tie_set","tie"] []
 F_ties_in:Fun K "ties_in" "ties_in" ee a.f_ties_in a.d_ties_in
 m_ties_in:mg "ties_in"=some (.ref a.f_ties_in)
 b_ties_in:aI K a.d_ties_in ["tie_set"] []
 F_set_of:Fun K "set_of" "set_of" gw a.f_set_of a.d_set_of
 m_set_of:mg "set_of"=some (.ref a.f_set_of)
 b_set_of:aI K a.d_set_of ["web","ties"] []
 F_all_ties:Fun K "all_ties" "all_ties" d8 a.f_all_ties a.d_all_ties
 m_all_ties:mg "all_ties"=some (.ref a.f_all_ties)
 b_all_ties:aI K a.d_all_ties ["web"] []
 F_is_set:Fun K "is_set" "is_set" gi a.f_is_set a.d_is_set
 m_is_set:mg "is_set"=some (.ref a.f_is_set)
 b_is_set:aI K a.d_is_set ["web","number"] []
 F_check_set:Fun K "check_set" "check_set" dA a.f_check_set a.d_check_set
 m_check_set:mg "check_set"=some (.ref a.f_check_set)
 b_check_set:aI K a.d_check_set ["web","tie_set"] []
 F_triples_in:Fun K "triples_in" "triples_in" ck a.f_triples_in a.d_triples_in
 m_triples_in:mg "triples_in"=some (.ref a.f_triples_in)
 b_triples_in:aI K a.d_triples_in ["web","tie_set"] []
 F_length_of:Fun K "length_of" "length_of" cM a.f_length_of a.d_length_of
 m_length_of:mg "length_of"=some (.ref a.f_length_of)
 b_length_of:aI K a.d_length_of ["web","tie_set"] []
 F_odd_points:Fun K "odd_points" "odd_points" cn a.f_odd_points a.d_odd_points
 m_odd_points:mg "odd_points"=some (.ref a.f_odd_points)
 b_odd_points:aI K a.d_odd_points ["web","tie_set"] []
 F_drawn_together:Fun K "drawn_together" "drawn_together" bq a.f_drawn_together a.d_drawn_together
 m_drawn_together:mg "drawn_together"=some (.ref a.f_drawn_together)
 b_drawn_together:aI K a.d_drawn_together ["leasts","one","other"] []
 F_pieces:Fun K "pieces" "pieces" fC a.f_pieces a.d_pieces
 m_pieces:mg "pieces"=some (.ref a.f_pieces)
 b_pieces:aI K a.d_pieces ["web","tie_set"] []
 F_is_even:Fun K "is_even" "is_even" fg a.f_is_even a.d_is_even
 m_is_even:mg "is_even"=some (.ref a.f_is_even)
 b_is_even:aI K a.d_is_even ["web","tie_set"] []
 F_forest_trails:Fun K "forest_trails" "forest_trails" bC a.f_forest_trails a.d_forest_trails
 m_forest_trails:mg "forest_trails"=some (.ref a.f_forest_trails)
 b_forest_trails:aI K a.d_forest_trails ["web"] []
 F_forest:Fun K "forest" "forest" gD a.f_forest a.d_forest
 m_forest:mg "forest"=some (.ref a.f_forest)
 b_forest:aI K a.d_forest ["web"] []
 F_chords:Fun K "chords" "chords" gk a.f_chords a.d_chords
 m_chords:mg "chords"=some (.ref a.f_chords)
 b_chords:aI K a.d_chords ["web"] []
 F_ring_closed:Fun K "ring_closed" "ring_closed" cA a.f_ring_closed a.d_ring_closed
 m_ring_closed:mg "ring_closed"=some (.ref a.f_ring_closed)
 b_ring_closed:aI K a.d_ring_closed ["web","trails","chord"] []
 F_chord_ring:Fun K "chord_ring" "chord_ring" dc a.f_chord_ring a.d_chord_ring
 m_chord_ring:mg "chord_ring"=some (.ref a.f_chord_ring)
 b_chord_ring:aI K a.d_chord_ring ["web","tie"] []
 F_is_ring:Fun K "is_ring" "is_ring" dZ a.f_is_ring a.d_is_ring
 m_is_ring:mg "is_ring"=some (.ref a.f_is_ring)
 b_is_ring:aI K a.d_is_ring ["web","tie_set"] []
 F_is_ring_number:Fun K "is_ring_number" "is_ring_number" bJ a.f_is_ring_number a.d_is_ring_number
 m_is_ring_number:mg "is_ring_number"=some (.ref a.f_is_ring_number)
 b_is_ring_number:aI K a.d_is_ring_number ["web","number"] []
 F_common:Fun K "common" "common" gz a.f_common a.d_common
 m_common:mg "common"=some (.ref a.f_common)
 b_common:aI K a.d_common ["one","other"] []
 F_bears_oddly:Fun K "bears_oddly" "bears_oddly" cu a.f_bears_oddly a.d_bears_oddly
 m_bears_oddly:mg "bears_oddly"=some (.ref a.f_bears_oddly)
 b_bears_oddly:aI K a.d_bears_oddly ["tie_set","marks"] []
 F_is_side:Fun K "is_side" "is_side" fq a.f_is_side a.d_is_side
 m_is_side:mg "is_side"=some (.ref a.f_is_side)
 b_is_side:aI K a.d_is_side ["web","side"] []
 F_cut_of:Fun K "cut_of" "cut_of" fu a.f_cut_of a.d_cut_of
 m_cut_of:mg "cut_of"=some (.ref a.f_cut_of)
 b_cut_of:aI K a.d_cut_of ["web","side"] []
 F_side_of:Fun K "side_of" "side_of" et a.f_side_of a.d_side_of
 m_side_of:mg "side_of"=some (.ref a.f_side_of)
 b_side_of:aI K a.d_side_of ["web","tie_set"] []
 F_is_side_of:Fun K "is_side_of" "is_side_of" cW a.f_is_side_of a.d_is_side_of
 m_is_side_of:mg "is_side_of"=some (.ref a.f_is_side_of)
 b_is_side_of:aI K a.d_is_side_of ["web","side","tie_set"] []
 F_steps_by_point:Fun K "steps_by_point" "steps_by_point" bn a.f_steps_by_point a.d_steps_by_point
 m_steps_by_point:mg "steps_by_point"=some (.ref a.f_steps_by_point)
 b_steps_by_point:aI K a.d_steps_by_point ["web","marks"] []
 F_least_ways:FunL K "least_ways" "least_ways" bW a.f_least_ways a.d_least_ways a.k_least_ways a.p_least_ways
 m_least_ways:mg "least_ways"=some (.ref a.f_least_ways)
 b_least_ways:aI K a.d_least_ways ["web","marks","start"] []
 F_length_of_way:Fun K "length_of_way" "length_of_way" bT a.f_length_of_way a.d_length_of_way
 m_length_of_way:mg "length_of_way"=some (.ref a.f_length_of_way)
 b_length_of_way:aI K a.d_length_of_way ["way"] []
 F_worths_of_ways:Fun K "worths_of_ways" "worths_of_ways" bj a.f_worths_of_ways a.d_worths_of_ways
 m_worths_of_ways:mg "worths_of_ways"=some (.ref a.f_worths_of_ways)
 b_worths_of_ways:aI K a.d_worths_of_ways ["ways"] []
 F_all_least_ways:Fun K "all_least_ways" "all_least_ways" bp a.f_all_least_ways a.d_all_least_ways
 m_all_least_ways:mg "all_least_ways"=some (.ref a.f_all_least_ways)
 b_all_least_ways:aI K a.d_all_least_ways ["web","marks"] []
 F_worths_of_all:Fun K "worths_of_all" "worths_of_all" bB a.f_worths_of_all a.d_worths_of_all
 m_worths_of_all:mg "worths_of_all"=some (.ref a.f_worths_of_all)
 b_worths_of_all:aI K a.d_worths_of_all ["ways"] []
 F_least_odd:Fun K "least_odd" "least_odd" cN a.f_least_odd a.d_least_odd
 m_least_odd:mg "least_odd"=some (.ref a.f_least_odd)
 b_least_odd:aI K a.d_least_odd ["web","marks"] []
 F_near_enough:Fun K "near_enough" "near_enough" cB a.f_near_enough a.d_near_enough
 m_near_enough:mg "near_enough"=some (.ref a.f_near_enough)
 b_near_enough:aI K a.d_near_enough ["one","other","length"] []
 F_tie_stands:Fun K "tie_stands" "tie_stands" cY a.f_tie_stands a.d_tie_stands
 m_tie_stands:mg "tie_stands"=some (.ref a.f_tie_stands)
 b_tie_stands:aI K a.d_tie_stands ["tie","turn","worths"] []
 F_worths_stand:Fun K "worths_stand" "worths_stand" cb a.f_worths_stand a.d_worths_stand
 m_worths_stand:mg "worths_stand"=some (.ref a.f_worths_stand)
 b_worths_stand:aI K a.d_worths_stand ["web","marks","worths"] []
 F_none_shorter:Fun K "none_shorter" "none_shorter" bu a.f_none_shorter a.d_none_shorter
 m_none_shorter:mg "none_shorter"=some (.ref a.f_none_shorter)
 b_none_shorter:aI K a.d_none_shorter ["worths","length"] []
 F_ring_stands:Fun K "ring_stands" "ring_stands" cC a.f_ring_stands a.d_ring_stands
 m_ring_stands:mg "ring_stands"=some (.ref a.f_ring_stands)
 b_ring_stands:aI K a.d_ring_stands ["web","marks","ring","worths"] []
 F_odd_judged:Fun K "odd_judged" "odd_judged" cT a.f_odd_judged a.d_odd_judged
 m_odd_judged:mg "odd_judged"=some (.ref a.f_odd_judged)
 b_odd_judged:aI K a.d_odd_judged ["web","marks","answer"] []
 F_law_cell_at:Fun K "_law_cell_at" "_law_cell_at" cz a.f_law_cell_at a.d_law_cell_at
 m_law_cell_at:mg "_law_cell_at"=some (.ref a.f_law_cell_at)
 b_law_cell_at:aI K a.d_law_cell_at ["script","k"] []
 F_law_left:Fun K "_law_left" "_law_left" d7 a.f_law_left a.d_law_left
 m_law_left:mg "_law_left"=some (.ref a.f_law_left)
 b_law_left:aI K a.d_law_left ["cell","k","way"] []
 F_law_tie:Fun K "_law_tie" "_law_tie" ff a.f_law_tie a.d_law_tie
 m_law_tie:mg "_law_tie"=some (.ref a.f_law_tie)
 b_law_tie:aI K a.d_law_tie ["left","points","mode"] []
 F_law_web:Fun K "_law_web" "_law_web" fe a.f_law_web a.d_law_web
 m_law_web:mg "_law_web"=some (.ref a.f_law_web)
 b_law_web:aI K a.d_law_web ["script","most_points","most_ties"] []
 F_law_walk:Fun K "_law_walk" "_law_walk" cj a.f_law_walk a.d_law_walk
 m_law_walk:mg "_law_walk"=some (.ref a.f_law_walk)
 b_law_walk:aI K a.d_law_walk ["web","some"] []
 F_law_odd:Fun K "_law_odd" "_law_odd" fj a.f_law_odd a.d_law_odd
 m_law_odd:mg "_law_odd"=some (.ref a.f_law_odd)
 b_law_odd:aI K a.d_law_odd ["number"] []
 F_law_kinds:Fun K "_law_kinds" "_law_kinds" cO a.f_law_kinds a.d_law_kinds
 m_law_kinds:mg "_law_kinds"=some (.ref a.f_law_kinds)
 b_law_kinds:aI K a.d_law_kinds ["e"] []
 F_law_refusal:Fun K "_law_refusal" "_law_refusal" cy a.f_law_refusal a.d_law_refusal
 m_law_refusal:mg "_law_refusal"=some (.ref a.f_law_refusal)
 b_law_refusal:aI K a.d_law_refusal ["web","marks"] []
 F_law_any_odd:Fun K "_law_any_odd" "_law_any_odd" cv a.f_law_any_odd a.d_law_any_odd
 m_law_any_odd:mg "_law_any_odd"=some (.ref a.f_law_any_odd)
 b_law_any_odd:aI K a.d_law_any_odd ["web","marks"] []
 F_law:Fun K "law" "law" jG a.f_law a.d_law
 m_law:mg "law"=some (.ref a.f_law)
 b_law:aI K a.d_law ["script"] []
 n_ValueError:mg "ValueError"=none
 n_abs:mg "abs"=none
 n_all:mg "all"=none
 n_enumerate:mg "enumerate"=none
 n_int:mg "int"=none
 n_isinstance:mg "isinstance"=none
 n_len:mg "len"=none
 n_list:mg "list"=none
 n_max:mg "max"=none
 n_min:mg "min"=none
 n_range:mg "range"=none
 n_sum:mg "sum"=none
 n_tuple:mg "tuple"=none
 n_zip:mg "zip"=none
 g_RingError:mg "RingError"=some (.ref a.c_RingError)
 g_BadWeb:mg "BadWeb"=some (.ref a.c_BadWeb)
 g_BadSet:mg "BadSet"=some (.ref a.c_BadSet)
 g_BadPoint:mg "BadPoint"=some (.ref a.c_BadPoint)
 g_NotRing:mg "NotRing"=some (.ref a.c_NotRing)
 g_NoChord:mg "NoChord"=some (.ref a.c_NoChord)
 g_NoBase:mg "NoBase"=some (.ref a.c_NoBase)
 g_NoSuch:mg "NoSuch"=some (.ref a.c_NoSuch)
 g_TooMany:mg "TooMany"=some (.ref a.c_TooMany)
 g_BadRow:mg "BadRow"=some (.ref a.c_BadRow)
 g_NoDeed:mg "NoDeed"=some (.ref a.c_NoDeed)
 g_NotEven:mg "NotEven"=some (.ref a.c_NotEven)
 g_NoText:mg "NoText"=some (.ref a.c_NoText)
 x_BadSet:∀ h:Heap,K.In h→h.Ns mainGlobals mg→PyProof.Rows.OwnCls "BadSet" a.c_BadSet [.type "ValueError",.type "Exception",.type "BaseException",.type "object"] "ValueError.__new__" mg h
 e_BadSet:ExcCls K a.c_BadSet
 h_BadSet:PySem.W.exmOne K (.ref a.c_BadSet) (.ref a.c_RingError)=some true
 qV_BadSet:PySem.W.kitOne K (.ref a.c_BadSet) (.type "ValueError")=some true
 q_BadSet_BadWeb:PySem.W.kitOne K (.ref a.c_BadSet) (.ref a.c_BadWeb)=some false
 q_BadSet_BadSet:PySem.W.kitOne K (.ref a.c_BadSet) (.ref a.c_BadSet)=some true
 q_BadSet_BadPoint:PySem.W.kitOne K (.ref a.c_BadSet) (.ref a.c_BadPoint)=some false
 q_BadSet_NotRing:PySem.W.kitOne K (.ref a.c_BadSet) (.ref a.c_NotRing)=some false
 q_BadSet_NoChord:PySem.W.kitOne K (.ref a.c_BadSet) (.ref a.c_NoChord)=some false
 q_BadSet_NoBase:PySem.W.kitOne K (.ref a.c_BadSet) (.ref a.c_NoBase)=some false
 q_BadSet_NoSuch:PySem.W.kitOne K (.ref a.c_BadSet) (.ref a.c_NoSuch)=some false
 q_BadSet_TooMany:PySem.W.kitOne K (.ref a.c_BadSet) (.ref a.c_TooMany)=some false
 q_BadSet_BadRow:PySem.W.kitOne K (.ref a.c_BadSet) (.ref a.c_BadRow)=some false
 q_BadSet_NoDeed:PySem.W.kitOne K (.ref a.c_BadSet) (.ref a.c_NoDeed)=some false
 q_BadSet_NotEven:PySem.W.kitOne K (.ref a.c_BadSet) (.ref a.c_NotEven)=some false
 q_BadSet_NoText:PySem.W.kitOne K (.ref a.c_BadSet) (.ref a.c_NoText)=some false
 x_NoChord:∀ h:Heap,K.In h→h.Ns mainGlobals mg→PyProof.Rows.OwnCls "NoChord" a.c_NoChord [.type "ValueError",.type "Exception",.type "BaseException",.type "object"] "ValueError.__new__" mg h
 e_NoChord:ExcCls K a.c_NoChord
 h_NoChord:PySem.W.exmOne K (.ref a.c_NoChord) (.ref a.c_RingError)=some true
 qV_NoChord:PySem.W.kitOne K (.ref a.c_NoChord) (.type "ValueError")=some true
 q_NoChord_BadWeb:PySem.W.kitOne K (.ref a.c_NoChord) (.ref a.c_BadWeb)=some false
 q_NoChord_BadSet:PySem.W.kitOne K (.ref a.c_NoChord) (.ref a.c_BadSet)=some false
 q_NoChord_BadPoint:PySem.W.kitOne K (.ref a.c_NoChord) (.ref a.c_BadPoint)=some false
 q_NoChord_NotRing:PySem.W.kitOne K (.ref a.c_NoChord) (.ref a.c_NotRing)=some false
 q_NoChord_NoChord:PySem.W.kitOne K (.ref a.c_NoChord) (.ref a.c_NoChord)=some true
 q_NoChord_NoBase:PySem.W.kitOne K (.ref a.c_NoChord) (.ref a.c_NoBase)=some false
 q_NoChord_NoSuch:PySem.W.kitOne K (.ref a.c_NoChord) (.ref a.c_NoSuch)=some false
 q_NoChord_TooMany:PySem.W.kitOne K (.ref a.c_NoChord) (.ref a.c_TooMany)=some false
 q_NoChord_BadRow:PySem.W.kitOne K (.ref a.c_NoChord) (.ref a.c_BadRow)=some false
 q_NoChord_NoDeed:PySem.W.kitOne K (.ref a.c_NoChord) (.ref a.c_NoDeed)=some false
 q_NoChord_NotEven:PySem.W.kitOne K (.ref a.c_NoChord) (.ref a.c_NotEven)=some false
 q_NoChord_NoText:PySem.W.kitOne K (.ref a.c_NoChord) (.ref a.c_NoText)=some false
section
variable {K:PySem.W.Frag}{mg:Str→Option Value}{a:Adr}
theorem Txt.k_has_tie(T:Txt K mg a):PySem.W.keepIn K (.ref a.f_has_tie)=true:=T.F_has_tie.kp
theorem Txt.k_ties_in(T:Txt K mg a):PySem.W.keepIn K (.ref a.f_ties_in)=true:=T.F_ties_in.kp
theorem Txt.k_set_of(T:Txt K mg a):PySem.W.keepIn K (.ref a.f_set_of)=true:=T.F_set_of.kp
theorem Txt.k_all_ties(T:Txt K mg a):PySem.W.keepIn K (.ref a.f_all_ties)=true:=T.F_all_ties.kp
theorem Txt.k_is_set(T:Txt K mg a):PySem.W.keepIn K (.ref a.f_is_set)=true:=T.F_is_set.kp
theorem Txt.k_check_set(T:Txt K mg a):PySem.W.keepIn K (.ref a.f_check_set)=true:=T.F_check_set.kp
theorem Txt.k_triples_in(T:Txt K mg a):PySem.W.keepIn K (.ref a.f_triples_in)=true:=T.F_triples_in.kp
theorem Txt.k_length_of(T:Txt K mg a):PySem.W.keepIn K (.ref a.f_length_of)=true:=T.F_length_of.kp
theorem Txt.k_odd_points(T:Txt K mg a):PySem.W.keepIn K (.ref a.f_odd_points)=true:=T.F_odd_points.kp
theorem Txt.k_drawn_together(T:Txt K mg a):PySem.W.keepIn K (.ref a.f_drawn_together)=true:=T.F_drawn_together.kp
theorem Txt.k_pieces(T:Txt K mg a):PySem.W.keepIn K (.ref a.f_pieces)=true:=T.F_pieces.kp
theorem Txt.k_is_even(T:Txt K mg a):PySem.W.keepIn K (.ref a.f_is_even)=true:=T.F_is_even.kp
theorem Txt.k_forest_trails(T:Txt K mg a):PySem.W.keepIn K (.ref a.f_forest_trails)=true:=T.F_forest_trails.kp
theorem Txt.k_forest(T:Txt K mg a):PySem.W.keepIn K (.ref a.f_forest)=true:=T.F_forest.kp
theorem Txt.k_chords(T:Txt K mg a):PySem.W.keepIn K (.ref a.f_chords)=true:=T.F_chords.kp
theorem Txt.k_ring_closed(T:Txt K mg a):PySem.W.keepIn K (.ref a.f_ring_closed)=true:=T.F_ring_closed.kp
theorem Txt.k_chord_ring(T:Txt K mg a):PySem.W.keepIn K (.ref a.f_chord_ring)=true:=T.F_chord_ring.kp
theorem Txt.k_is_ring(T:Txt K mg a):PySem.W.keepIn K (.ref a.f_is_ring)=true:=T.F_is_ring.kp
theorem Txt.k_is_ring_number(T:Txt K mg a):PySem.W.keepIn K (.ref a.f_is_ring_number)=true:=T.F_is_ring_number.kp
theorem Txt.k_common(T:Txt K mg a):PySem.W.keepIn K (.ref a.f_common)=true:=T.F_common.kp
theorem Txt.k_bears_oddly(T:Txt K mg a):PySem.W.keepIn K (.ref a.f_bears_oddly)=true:=T.F_bears_oddly.kp
theorem Txt.k_is_side(T:Txt K mg a):PySem.W.keepIn K (.ref a.f_is_side)=true:=T.F_is_side.kp
theorem Txt.k_cut_of(T:Txt K mg a):PySem.W.keepIn K (.ref a.f_cut_of)=true:=T.F_cut_of.kp
theorem Txt.k_side_of(T:Txt K mg a):PySem.W.keepIn K (.ref a.f_side_of)=true:=T.F_side_of.kp
theorem Txt.k_is_side_of(T:Txt K mg a):PySem.W.keepIn K (.ref a.f_is_side_of)=true:=T.F_is_side_of.kp
theorem Txt.k_steps_by_point(T:Txt K mg a):PySem.W.keepIn K (.ref a.f_steps_by_point)=true:=T.F_steps_by_point.kp
theorem Txt.k_least_ways(T:Txt K mg a):PySem.W.keepIn K (.ref a.f_least_ways)=true:=T.F_least_ways.kp
theorem Txt.k_length_of_way(T:Txt K mg a):PySem.W.keepIn K (.ref a.f_length_of_way)=true:=T.F_length_of_way.kp
theorem Txt.k_worths_of_ways(T:Txt K mg a):PySem.W.keepIn K (.ref a.f_worths_of_ways)=true:=T.F_worths_of_ways.kp
theorem Txt.k_all_least_ways(T:Txt K mg a):PySem.W.keepIn K (.ref a.f_all_least_ways)=true:=T.F_all_least_ways.kp
theorem Txt.k_worths_of_all(T:Txt K mg a):PySem.W.keepIn K (.ref a.f_worths_of_all)=true:=T.F_worths_of_all.kp
theorem Txt.k_least_odd(T:Txt K mg a):PySem.W.keepIn K (.ref a.f_least_odd)=true:=T.F_least_odd.kp
theorem Txt.k_near_enough(T:Txt K mg a):PySem.W.keepIn K (.ref a.f_near_enough)=true:=T.F_near_enough.kp
theorem Txt.k_tie_stands(T:Txt K mg a):PySem.W.keepIn K (.ref a.f_tie_stands)=true:=T.F_tie_stands.kp
theorem Txt.k_worths_stand(T:Txt K mg a):PySem.W.keepIn K (.ref a.f_worths_stand)=true:=T.F_worths_stand.kp
theorem Txt.k_none_shorter(T:Txt K mg a):PySem.W.keepIn K (.ref a.f_none_shorter)=true:=T.F_none_shorter.kp
theorem Txt.k_ring_stands(T:Txt K mg a):PySem.W.keepIn K (.ref a.f_ring_stands)=true:=T.F_ring_stands.kp
theorem Txt.k_odd_judged(T:Txt K mg a):PySem.W.keepIn K (.ref a.f_odd_judged)=true:=T.F_odd_judged.kp
theorem Txt.k_law_cell_at(T:Txt K mg a):PySem.W.keepIn K (.ref a.f_law_cell_at)=true:=T.F_law_cell_at.kp
theorem Txt.k_law_left(T:Txt K mg a):PySem.W.keepIn K (.ref a.f_law_left)=true:=T.F_law_left.kp
theorem Txt.k_law_tie(T:Txt K mg a):PySem.W.keepIn K (.ref a.f_law_tie)=true:=T.F_law_tie.kp
theorem Txt.k_law_web(T:Txt K mg a):PySem.W.keepIn K (.ref a.f_law_web)=true:=T.F_law_web.kp
theorem Txt.k_law_walk(T:Txt K mg a):PySem.W.keepIn K (.ref a.f_law_walk)=true:=T.F_law_walk.kp
theorem Txt.k_law_odd(T:Txt K mg a):PySem.W.keepIn K (.ref a.f_law_odd)=true:=T.F_law_odd.kp
theorem Txt.k_law_kinds(T:Txt K mg a):PySem.W.keepIn K (.ref a.f_law_kinds)=true:=T.F_law_kinds.kp
theorem Txt.k_law_refusal(T:Txt K mg a):PySem.W.keepIn K (.ref a.f_law_refusal)=true:=T.F_law_refusal.kp
theorem Txt.k_law_any_odd(T:Txt K mg a):PySem.W.keepIn K (.ref a.f_law_any_odd)=true:=T.F_law_any_odd.kp
end
def gE:Sp:=fun vs H Q _=>∃(S:Int) (k:Nat),vs=[.int S,.int (k:Int)]∧Q (.bl (bit S k)) H
def en:Sp:=fun vs H Q _=>∃ m:Nat,vs=[.int (m:Int)]∧Builtin.Int.intBits (m:Int)≤1000∧∀ D H',H D=none→am H H'→H' D=some (.lst (aJ (aB (m:Int))))→Q (.ref D) H'
def iw:Sp:=fun vs H Q _=>∃ w p ts,vs=[.ref w]∧WebAt H w p ts∧Web p ts∧Q (.int (2^ts.length-1)) H
def jZ:Sp:=fun vs H Q _=>∃ w p ts S,vs=[.ref w,.int S]∧WebAt H w p ts∧Web p ts∧Q (.bl (decide (0≤S∧S<2^ts.length))) H
def iA(ts:List Tie)(S:Int)(bad:Prop)(R:Nat→Prop):Prop:=(∃ m:Nat,S=(m:Int)∧m<2^ts.length∧R m)∨((S<0∨2^ts.length≤S)∧bad)
def cU(C:Addr):Sp:=fun vs H Q E=>∃ w p ts S,vs=[.ref w,.int S]∧WebAt H w p ts∧Web p ts∧iA ts S (E (.ref C) none H) fun _=>Q .non H
def eB(C:Addr):Sp:=fun vs H Q E=>∃ w p ts S,vs=[.ref w,.int S]∧WebAt H w p ts∧Web p ts∧iA ts S (E (.ref C) none H) fun m =>
 ∀ D ys H',H D=none→am H H'→H' D=some (.lst ys)→Paired (jq H') ys ((aB (m:Int)).map (bc ts))→Q (.ref D) H'
def i7(C:Addr):Sp:=fun vs H Q E=>∃ w p ts S,vs=[.ref w,.int S]∧WebAt H w p ts∧Web p ts∧iA ts S (∀ H',am H H'→E (.ref C) none H') fun m =>
 ∀ D H',am H H'→H' D=some (.lst (aJ (m7 p ts (m:Int))))→Q (.ref D) H'
def nc(C:Addr):Sp:=fun vs H Q E=>∃ w p ts S,vs=[.ref w,.int S]∧WebAt H w p ts∧Web p ts∧iA ts S (∀ H',am H H'→E (.ref C) none H') fun m=>∀ H',am H H'→Q (.bl (decide (m7 p ts (m:Int)=[]))) H'
section
variable {P:Program}{w:World}{K:PySem.W.Frag}{mg:Str→Option Value}{base:Heap}{a:Adr}
theorem cX(T:Txt K mg a):FnOk P w K mg base CX0 1 a.f_has_tie a.d_has_tie ["tie_set","tie"] gE:=by
 refine T.F_has_tie.ok r6 (fun vs H Q E h=>?_) (fun cdv A outer s H vs Q E hr h=>?_)
 ·obtain⟨S,k,rfl,_⟩:=h
  rfl
 ·obtain⟨S,k,rfl,q⟩:=h
  refine⟨_,(@ao _ _ _ (@az _ _ _ _ (@bQ _ _ _ _ _ _ _ _ dU (@ay _ _ _ _ _ _ _ _ pO (@ay _ _ _ _ _ _ _ _ xm (pv 0) (pv 1)) ah) ah (aD _)))),?_⟩
  refine(exq rfl (exq rfl (ijq ⟨(by omega),ijq ⟨rfl,?_⟩⟩)))
  rw[Int.toNat_natCast,wF]
  exact q
theorem bo(T:Txt K mg a):FnOk P w K mg base CX0 2 a.f_ties_in a.d_ties_in ["tie_set"] en:=by
 have cX:FnOk P w K mg base CX0 1 a.f_has_tie a.d_has_tie ["tie_set","tie"] gE:=cX T
 refine T.F_ties_in.ok sA (fun vs H Q E h=>?_) (fun cdv A outer s H vs Q E hr h=>?_)
 ·obtain⟨m,rfl,_⟩:=h
  rfl
 ·obtain⟨m,rfl,hm,k⟩:=h
  refine⟨_,(@ao _ _ _ (@az _ _ _ _ (@dr _ _ _ _ _ _ _ ["tie"] ["tie_set"] [0] _ _ _ _ (aF (ae ee) ["tie_set"]) rfl (@bh _ _ _ _ _ _ (by rfl) T.n_range (@aa _ _ _ _ _ (@zB _ _ _ _ _ _ _ _ _ PySem.F.plainAttrs_int PyProof.Rows.slot_int_bit_length PyProof.Rows.type_int_bit_length yc (pv 0) (by rfl) (by rfl)) af (by rfl)) (by rfl)) (fun _ _ _ _=>(ax (i:=0) (show(["tie","tie_set"]:List Str).Nodup by decide +kernel) rfl (Or.inl rfl))) (fun _ _ _ _=>(eC (eT (au cX (hr.mono (by decide)) (by rfl) T.m_has_tie T.k_has_tie T.b_has_tie .nil aK (aa (pv 1) (aa (pv 0) af)))))) (fun _ _ _ _=>(pv 0)) (by intro _;rfl)))),?_⟩
  refine(exq rfl ⟨rfl,exq rfl ⟨rfl,exq rfl ⟨(by omega),(by omega),fun D hD=>bL (lo:=0) (m:=Builtin.Int.intBits (m:Int)) (iu (bit (m:Int)) H D) (.start hD) (fun i acc H2 _ p=>p.len) (dl (Nat.ble_eq.mpr hm)) ?_ ?_⟩⟩⟩)
  ·intro i acc H2 hi p
   rw[Int.zero_add]
   refine⟨rfl,exq rfl (exq rfl ⟨(m:Int),i,rfl,exq rfl (?_)⟩)⟩
   cases hb:bit (m:Int) i with
   | true=>exact(exq rfl (p.yes hD (am.refl _) hb))
   | false=>exact p.no (am.refl _) hb
  ·intro acc H2 p
   exact k D H2 hD p.1 (by rw[p.2.1,p.2.2];rfl)
theorem dY(T:Txt K mg a):FnOk P w K mg base CX0 1 a.f_all_ties a.d_all_ties ["web"] iw:=by
 refine T.F_all_ties.ok rC (fun vs H Q E h=>?_) (fun cdv A outer s H vs Q E hr h=>?_)
 ·obtain⟨w,p,ts,rfl,_⟩:=h
  rfl
 ·obtain⟨wb,p,ts,rfl,hw,W,q⟩:=h
  refine⟨_,(@ao _ _ _ (@az _ _ _ _ (@ay _ _ _ _ _ _ _ _ jj (@ay _ _ _ _ _ _ _ _ fA ah (@aA _ _ _ _ _ _ _ _ _ (gN K) (by rfl) T.n_len PySem.boot_len (@aa _ _ _ _ _ (@aq _ _ _ _ _ _ _ (ixT K) (pv 0) ah (fun _ _=>rfl)) af (by rfl)) (by decide) (by decide) (by rfl) (by rfl))) ah))),?_⟩
  obtain⟨b,xs,h1,h2,h3⟩:=hw.ex
  have hl:=h3.length
  have wl:=W.len
  refine(exq rfl (ixq (SqT.of h1) (ai (j:=1) rfl) (lnq rfl (.inr (SqT.of h2)) (ijq ⟨⟨by omega,by omega,by decide⟩,ijq (?_)⟩))))
  rw[Int.toNat_natCast,hl,Int.one_mul]
  exact q
theorem gq(T:Txt K mg a):FnOk P w K mg base CX0 2 a.f_is_set a.d_is_set ["web","number"] jZ:=by
 have dY:FnOk P w K mg base CX0 1 a.f_all_ties a.d_all_ties ["web"] iw:=dY T
 refine T.F_is_set.ok vd (fun vs H Q E h=>?_) (fun cdv A outer s H vs Q E hr h=>?_)
 ·obtain⟨w,p,ts,S,rfl,_⟩:=h
  rfl
 ·obtain⟨wb,p,ts,S,rfl,hw,W,q⟩:=h
  refine⟨_,(@ao _ _ _ (@az _ _ _ _ (@jk _ _ _ _ _ _ _ (@bQ _ _ _ _ _ _ _ _ qp (pv 1) ah (aD _)) (@iG _ _ _ _ _ (@bQ _ _ _ _ _ _ _ _ tQ (pv 1) (@au _ _ _ _ _ _ _ _ _ _ _ _ _ _ _ _ dY (hr.mono (by decide)) (by rfl) T.m_all_ties T.k_all_ties T.b_all_ties .nil aK (@aa _ _ _ _ _ (pv 0) af (by rfl)) (by decide) (by rfl) (by rfl)) (aD _)))))),?_⟩
  refine(exq rfl (ijq (exq rfl (sa (fun hlt=>?_) (fun hlt=>?_)))))
  ·have hlt:0≤S:=of_decide_eq_true hlt
   refine(exq rfl (exq rfl ⟨wb,p,ts,rfl,hw,W,_,_,rfl,rfl,?_⟩))
   have e:decide (S≤2^ts.length-1)=decide (0≤S∧S<2^ts.length):=decide_eq_decide.mpr ⟨fun z=>⟨hlt,by omega⟩,fun z=>by omega⟩
   rw[← e]at q
   exact q
  ·have hlt : ¬ 0≤S:=fun z=>hlt (decide_eq_true z)
   rw[decide_eq_false (fun z=>hlt z.1)]at q
   exact q
theorem aP(T:Txt K mg a):FnOk P w K mg base (CX1 P w) 3 a.f_check_set a.d_check_set ["web","tie_set"] (cU a.c_BadSet):=by
 have gq:FnOk P w K mg base CX0 2 a.f_is_set a.d_is_set ["web","number"] jZ:=gq T
 refine T.F_check_set.ok1 pj (fun vs H Q E h=>?_) (fun cdv A outer s H vs Q E hr h=>?_)
 ·obtain⟨w,p,ts,S,rfl,_⟩:=h
  rfl
 ·obtain⟨wb,p,ts,S,rfl,hw,W,q⟩:=h
  refine⟨_,(@ao _ _ _ (@ce _ _ _ _ _ _ _ _ (@kb _ _ _ _ (@eT _ _ _ (@au _ _ _ _ _ _ _ _ _ _ _ _ _ _ _ _ gq (hr.mono (by decide)) (by rfl) T.m_is_set T.k_is_set T.b_is_set .nil aK (@aa _ _ _ _ _ (pv 0) (@aa _ _ _ _ _ (pv 1) af (by rfl)) (by rfl)) (by decide) (by rfl) (by rfl)) (by intro _;rfl))) (@ao _ _ _ (@qP _ _ _ _ _ _ _ _ _ _ _ _ _ _ du.thr rfl (by rfl) T.x_BadSet PySem.F.excBase_ValueError (@aa _ _ _ _ _ g7 af (by rfl)) (by rfl) (by rfl) (by decide))) aU)),?_⟩
  refine pK ?_
  intro zz0
  refine(exq rfl (exq rfl ⟨wb,p,ts,S,rfl,hw,W,?_⟩))
  have h2:((2:Int)^ts.length)=((2^ts.length:Nat):Int):=by simp
  rcases q with⟨m,rfl,hm,q⟩|⟨hS,q⟩
  ·rw[decide_eq_true ⟨by omega,by omega⟩]
   exact(exq rfl (cg q))
  ·rw[decide_eq_false (by omega)]
   exact(exq rfl (df ⟨dl rfl,q⟩))
theorem bG(T:Txt K mg a):FnOk P w K mg base (CX1 P w) 4 a.f_triples_in a.d_triples_in ["web","tie_set"] (eB a.c_BadSet):=by
 have aP:FnOk P w K mg base (CX1 P w) 3 a.f_check_set a.d_check_set ["web","tie_set"] (cU a.c_BadSet):=aP T
 have bo:FnOk P w K mg base CX0 2 a.f_ties_in a.d_ties_in ["tie_set"] en:=bo T
 refine T.F_triples_in.ok1 nH (fun vs H Q E h=>?_) (fun cdv A outer s H vs Q E hr h=>?_)
 ·obtain⟨w,p,ts,S,rfl,_⟩:=h
  rfl
 ·obtain⟨wb,p,ts,S,rfl,hw,W,q⟩:=h
  refine⟨_,(@aj _ _ _ _ _ (@cG _ _ _ _ (@au _ _ _ _ _ _ _ _ _ _ _ _ _ _ _ _ aP (hr.mono (by decide)) (by rfl) T.m_check_set T.k_check_set T.b_check_set .nil du.passes (@aa _ _ _ _ _ (pv 0) (@aa _ _ _ _ _ (pv 1) af (by rfl)) (by rfl)) (by decide) (by rfl) (by rfl)) (by rfl)) (@ao _ _ _ (@az _ _ _ _ (@dr _ _ _ _ _ _ _ ["tie"] ["web"] [0] _ _ _ _ (aF (ae ck) ["web","tie_set"]) rfl (@piL _ _ _ _ K (@au _ _ _ _ _ _ _ _ _ _ _ _ _ _ _ _ bo (hr.mono (by decide)) (by rfl) T.m_ties_in T.k_ties_in T.b_ties_in .nil aK (@aa _ _ _ _ _ (pv 1) af (by rfl)) (by decide) (by rfl) (by rfl)) (by rfl)) (fun _ _ _ _=>(ax (i:=0) (show(["tie","web"]:List Str).Nodup by decide +kernel) rfl (Or.inl rfl))) (fun _ _ _ _=>dk) (fun _ _ _ _=>(aq (ixT K) (aq (ixT K) (pv 1) ah (fun _ _=>rfl)) (pv 0) (fun _ _=>rfl))) (by intro _;rfl))))),?_⟩
  refine nL ?_
  intro zz0
  refine(exq rfl (exq rfl ⟨wb,p,ts,S,rfl,hw,W,?_⟩))
  rcases q with⟨m,rfl,hm,q⟩|⟨hS,q⟩
  ·refine .inl ⟨m,rfl,hm,?_⟩
   have wl:=W.len
   have hb:Builtin.Int.intBits (m:Int)≤ts.length:=eE hm
   refine(exq rfl ⟨m,rfl,by omega,fun L H1 _ s1 hL=>⟨L,rfl,⟨_,SqL.of hL⟩,fun D hD=>?_⟩⟩)
   obtain⟨b,xs,h1,h2,h3⟩:=(hw.same s1).ex
   have hxl:=h3.length
   refine dz (xs:=aJ (aB (m:Int))) (fun i acc H2=>am H1 H2∧H2 D=some (.lst acc)∧Paired (jq H2) acc (((aB (m:Int)).take i).map (bc ts))∧acc.length=i) ⟨am.new hD,ag,.nil,rfl⟩ ?_ ?_ ?_ ?_
   ·rintro i acc H2 _ ⟨s2,hd,pr,hac⟩
    exact⟨SqL.of (s2 _ _ hL),hd,Nat.le_of_eq hac⟩
   ·rw[bA]
    refine dl (Nat.ble_eq.mpr (Nat.le_trans (List.length_filter_le _ _) ?_))
    rw[List.length_range]
    omega
   ·rintro i x acc H2 hx ⟨s2,hd,pr,hac⟩
    obtain⟨k,hk,rfl⟩:=iR hx
    have hkl:k<ts.length:=jK hm (List.mem_of_getElem? hk)
    have hkx:k<xs.length:=by omega
    obtain⟨t,ht,c,hc,hct⟩:=Paired.getP h3 (i:=k) (x:=xs[k]) (by simp[hkx])
    have htt:bc ts k=t:=by
     unfold bc
     rw[List.getD_eq_getElem?_getD,ht]
     rfl
    refine⟨rfl,exq rfl (ixq (SqT.of (s2 _ _ h1)) (ai (j:=1) rfl) (exq rfl (ixq (v:=xs[k]) (SqT.of (s2 _ _ h2)) (ai (j:=k) (by simp[hkx])) (?_))))⟩
    rw[hc]
    refine⟨hd,s2.put hD,ag,?_,by rw[List.length_append,List.length_singleton,hac]⟩
    rw[List.take_add_one,hk,List.map_append]
    refine Paired.snoc (Paired.imp' (fun _ _ z=>z.tups (dL.put hd)) pr) ?_
    rw[htt]
    exact⟨c,rfl,dL.put hd _ _ (s2 _ _ hct)⟩
   ·rintro acc H2 ⟨s2,hd,pr,hac⟩
    rw[bA,List.take_length]at pr
    exact q D acc H2 (s1.free hD) (s1.trans s2) hd pr
  ·exact .inr ⟨hS,q⟩
end
section
variable {P:Program}{w:World}{K:PySem.W.Frag}{mg:Str→Option Value}{base:Heap}{a:Adr}
theorem ia(T:Txt K mg a):FnOk P w K mg base (CX1 P w) 5 a.f_odd_points a.d_odd_points ["web","tie_set"] (i7 a.c_BadSet):=by
 have bG:FnOk P w K mg base (CX1 P w) 4 a.f_triples_in a.d_triples_in ["web","tie_set"] (eB a.c_BadSet):=bG T
 refine T.F_odd_points.ok1 di (fun vs H Q E h=>?_) (fun cdv A outer s H vs Q E hr h=>?_)
 ·obtain⟨w,p,ts,S,rfl,_⟩:=h
  rfl
 ·obtain⟨wb,p,ts,S,rfl,hw,W,q⟩:=h
  refine⟨_,(@aj _ _ _ _ _ (@aC _ _ 2 _ _ _ _ di.nd rfl (Or.inr rfl) (@ay _ _ _ _ _ _ _ _ wj (@bY _ _ _ _ (@aa _ _ _ _ _ ah af (by rfl))) (@aq _ _ _ _ _ _ _ (ixT K) (pv 0) ah (fun _ _=>rfl))) (by rfl) (by first | exact .inl rfl | exact .inr rfl | assumption)) (@aj _ _ _ _ _ (@kZ _ _ _ _ _ _ _ _ rfl (@piL _ _ _ _ K (@au _ _ _ _ _ _ _ _ _ _ _ _ _ _ _ _ bG (hr.mono (by decide)) (by rfl) T.m_triples_in T.k_triples_in T.b_triples_in .nil du.passes (@aa _ _ _ _ _ (pv 0) (@aa _ _ _ _ _ (pv 1) af (by rfl)) (by rfl)) (by decide) (by rfl) (by rfl)) (by rfl)) (@pgT _ _ K _ _ 3 _ rfl (@aQ _ _ _ _ _ (ax (i:=3) di.nd rfl (Or.inl rfl)) (@aQ _ _ _ _ _ (ax (i:=4) di.nd rfl (Or.inl rfl)) (@aQ _ _ _ _ _ (ax (i:=5) di.nd rfl (Or.inl rfl)) eD (by rfl)) (by rfl)) (by rfl)) (by rfl) (by rfl) (by rfl)) (@aj _ _ _ _ _ (@tz _ _ _ _ _ _ _ _ _ _ _ _ _ (pv 2) (pv 3) (zX K) ah tO jL (by intros;rfl)) (@ao _ _ _ (@tz _ _ _ _ _ _ _ _ _ _ _ _ _ (pv 2) (pv 4) (zX K) ah tO jL (by intros;rfl)))) (by intro _;rfl)) (@ao _ _ _ (@az _ _ _ _ (@dr _ _ _ _ _ _ _ ["point"] ["ends"] [2] _ _ _ _ (aF (ae cn) ["web","tie_set","ends","one","other","length"]) rfl (@bh _ _ _ _ _ _ (by rfl) T.n_range (@aa _ _ _ _ _ (@aq _ _ _ _ _ _ _ (ixT K) (pv 0) ah (fun _ _=>rfl)) af (by rfl)) (by rfl)) (fun _ _ _ _=>(ax (i:=0) (show(["point","ends"]:List Str).Nodup by decide +kernel) rfl (Or.inl rfl))) (fun _ _ _ _=>(eC (aE dU (ay ci (aq (ixL K) (pv 1) (pv 0) (fun _ _=>rfl)) ah) ah (aD _)))) (fun _ _ _ _=>(pv 0)) (by intro _;rfl)))))),?_⟩
  refine nC ?_
  intro zz0 zz1 zz2 zz3
  obtain⟨b,xs,h1,h2,h3⟩:=id hw.ex
  have wp:=W.pts
  refine⟨dl rfl,fun l0 hl0=>?_⟩
  have s0:am H (upd H l0 (.lst [.int 0])):=am.new hl0
  refine(exq rfl (ixq (SqT.of (s0 _ _ h1)) (ai (j:=0) rfl) ⟨l0,(p:Int),exq rfl ⟨rfl,ag,by omega,by omega,(by rw[Int.toNat_natCast];show 1*p≤sizeLine;exact dl (Nat.ble_eq.mpr (by omega))),fun e he=>?_⟩⟩))
  have s1:=s0.trans (am.new (o:=.lst (List.replicate (p:Int).toNat [V.int 0]).flatten) he)
  have he1:upd (upd H l0 (.lst [.int 0])) e (.lst (List.replicate (p:Int).toNat [V.int 0]).flatten) e=some (.lst (iq (List.replicate p 0))):=by
   rw[ag,Int.toNat_natCast,w5]
  generalize upd (upd H l0 (.lst [.int 0])) e (.lst (List.replicate (p:Int).toNat [V.int 0]).flatten)=H1 at s1 he1
  have heH:H e=none:=s0.free he
  refine(exq rfl (exq rfl ⟨wb,p,ts,S,rfl,hw.same s1,W,?_⟩))
  rcases q with⟨m,rfl,hm,q⟩|⟨hS,q⟩
  ·refine .inl ⟨m,rfl,hm,fun L ys H2 hLn s2 hL pr=>⟨L,rfl,⟨_,SqL.of hL⟩,?_⟩⟩
   have s12:=s1.trans s2
   have heL:e≠L:=bi he1 hLn
   have hyl:ys.length≤24:=by
    rw[pr.length,List.length_map]
    have hb:Builtin.Int.intBits (m:Int)≤ts.length:=eE hm
    have wl:=W.len
    have:=List.length_filter_le (bit (m:Int)) (List.range (Builtin.Int.intBits (m:Int)))
    rw[List.length_range]at this
    exact Nat.le_trans this (by omega)
   refine dy (K:=K) (a:=L) (xs:=ys) (fun i σ H3=>∃ v1 v2 v3,σ=[some (.ref wb),some (.int (m:Int)),some (.ref e),v1,v2,v3]∧(∀ x o,H2 x=some o→x≠e→H3 x=some o)∧H3 e=some (.lst (iq ((((aB (m:Int)).map (bc ts)).take i).foldl jp (List.replicate p 0)))))
    ⟨none,none,none,rfl,fun _ _ z _=>z,s2 _ _ he1⟩ (fun i σ H3 _ ⟨_,_,_,_,z,_⟩=>SqL.of (z _ _ hL (Ne.symm heL))) ?_ ?_
   ·rintro i y D' σ H3 hi ⟨v1,v2,v3,rfl,z3,he3⟩
    obtain⟨t,ht,c,rfl,hc⟩:=Paired.getP pr hi
    have hce:c≠e:=aO hc (s2 _ _ he1) (by intro z;cases z)
    have hc3:=z3 _ _ hc hce
    have htm:t∈ts:=by
     obtain⟨k,hk,rfl⟩:=List.mem_map.mp (List.mem_of_getElem? ht)
     unfold bc
     have hkl:=jK hm hk
     rw[List.getD_eq_getElem?_getD]
     simp[hkl]
    obtain⟨a0,a1,b0,b1⟩:=W.inw.ends t htm
    obtain⟨t1,t2,t3⟩:=t
    dsimp only at a0 a1 b0 b1
    obtain⟨j1,rfl⟩:=Int.eq_ofNat_of_zero_le a0
    obtain⟨j2,rfl⟩:=Int.eq_ofNat_of_zero_le b0
    generalize hE:(((aB (m:Int)).map (bc ts)).take i).foldl jp (List.replicate p 0)=EE at he3
    have hEl:EE.length=p:=by rw[← hE,jW,List.length_replicate]
    have hj1:j1<EE.length:=by omega
    have hj2:j2<(mI EE (j1:Int)).length:=by rw[gy];omega
    refine⟨c,_,rfl,SqT.of hc3,rfl,_,_,rfl,_,_,rfl,_,_,rfl,rfl,?_⟩
    refine(exq rfl (exq rfl ⟨e,_,j1,_,rfl,rfl,SqL.of he3,j7 hj1,_,_,rfl,rfl,e,_,_,j1,rfl,rfl,he3,kW (by rw[iq,List.length_map];exact hj1),?_⟩))
    rw[mh]
    refine(exq rfl (exq rfl ⟨e,_,j2,_,rfl,rfl,SqL.of ag,j7 hj2,_,_,rfl,rfl,e,_,_,j2,rfl,rfl,ag,kW (by rw[iq,List.length_map];exact hj2),?_⟩))
    rw[mh]
    refine⟨_,_,_,rfl,fun x o z hx=>by rw[ak hx,ak hx];exact z3 x o z hx,?_⟩
    rw[ag,List.take_add_one,ht,List.foldl_append,hE]
    rfl
   ·rintro σ H3 ⟨v1,v2,v3,rfl,z3,he3⟩
    have hwe:wb≠e:=bi h1 heH
    have s13:am H H3:=fun x o z=>z3 x o (s12 x o z) (bi z heH)
    have hE:H3 e=some (.lst (iq (gc p ts (m:Int)))):=by
     rw[he3,List.take_of_length_le (by rw[← pr.length];exact Nat.le_refl _),ph hm]
    have hEl:(gc p ts (m:Int)).length=p:=by rw[ph hm,jW,List.length_replicate]
    refine(exq rfl (ixq (SqT.of (s13 _ _ h1)) (ai (j:=0) rfl) (exq rfl ⟨(by omega),(by omega),fun D hD=>bL (lo:=0) (m:=p) (iu (fun i=>decide ((gc p ts (m:Int)).getD i 0%2=1)) H3 D) (.start hD) (fun i acc H4 _ p=>p.len) (dl (Nat.ble_eq.mpr (by omega))) ?_ ?_⟩)))
    ·intro i acc H4 hi pk
     rw[Int.zero_add]
     refine⟨rfl,exq rfl (exq rfl (ixl (SqL.of (pk.1 _ _ hE)) (ai (j:=i) (j7 (by rw[hEl];exact hi))) (ijq ⟨(nJ rfl),rfl,exq rfl (?_)⟩)))⟩
     rw[yx]
     cases hb:decide ((gc p ts (m:Int)).getD i 0%2=1) with
     | true=>exact(exq rfl (pk.yes hD (am.refl _) hb))
     | false=>exact pk.no (am.refl _) hb
    ·intro acc H4 pk
     exact q D H4 (s13.trans pk.1) (by rw[pk.2.1,pk.2.2];rfl)
  ·exact .inr ⟨hS,q _ s1⟩
end
section
variable {P:Program}{w:World}{K:PySem.W.Frag}{mg:Str→Option Value}{base:Heap}{a:Adr}
theorem kf(T:Txt K mg a):FnOk P w K mg base (CX1 P w) 6 a.f_is_even a.d_is_even ["web","tie_set"] (nc a.c_BadSet):=by
 have ia:FnOk P w K mg base (CX1 P w) 5 a.f_odd_points a.d_odd_points ["web","tie_set"] (i7 a.c_BadSet):=ia T
 refine T.F_is_even.ok1 rN (fun vs H Q E h=>?_) (fun cdv A outer s H vs Q E hr h=>?_)
 ·obtain⟨w,p,ts,S,rfl,_⟩:=h
  rfl
 ·obtain⟨wb,p,ts,S,rfl,hw,W,q⟩:=h
  refine⟨_,(@ao _ _ _ (@az _ _ _ _ (@bQ _ _ _ _ _ _ _ _ (sN K hr.units) (@au _ _ _ _ _ _ _ _ _ _ _ _ _ _ _ _ ia (hr.mono (by decide)) (by rfl) T.m_odd_points T.k_odd_points T.b_odd_points .nil du.passes (@aa _ _ _ _ _ (pv 0) (@aa _ _ _ _ _ (pv 1) af (by rfl)) (by rfl)) (by decide) (by rfl) (by rfl)) (@bY _ _ _ _ af) (aD _)))),?_⟩
  refine(exq rfl (exq rfl ⟨wb,p,ts,S,rfl,hw,W,?_⟩))
  rcases q with⟨m,rfl,hm,q⟩|⟨hS,q⟩
  ·refine .inl ⟨m,rfl,hm,fun D H1 s1 hD=>⟨dl rfl,fun l hl=>?_⟩⟩
   have s2:am H1 (upd H1 l (.lst [])):=am.new hl
   refine⟨_,_,.lst (SqL.of (s2 _ _ hD)) (gp _),.lst (SqL.of ag) .nil,fP _,rfl,?_⟩
   rw[sY]
   exact q _ (s1.trans s2)
  ·exact .inr ⟨hS,q⟩
end
def m6:Sp:=fun vs H Q _=>∃(l:Addr) (L:Nat→Nat) (p u v:Nat),vs=[.ref l,.int (u:Int),.int (v:Int)]∧H l=some (.lst (eJ L p))∧p≤10∧u<p∧v<p∧
 ∀ D H',H D=none→am H H'→H' D=some (.lst (eJ (RM.cZ L u v) p))→Q (.ref D) H'
def oU(C:Addr):Sp:=fun vs H Q E=>∃ w p ts,∃ g:GoodWeb p ts,∃ S,vs=[.ref w,.int S]∧WebAt H w p ts∧iA ts S (∀ H',am H H'→E (.ref C) none H') fun m =>
 ∀ D ys H',H D=none→am H H'→H' D=some (.lst ys)→Paired (yL D H H') ys ((eA (bf p ts g m) p).map (eF (bf p ts g m) p))→Q (.ref D) H'
section
variable {P:Program}{w:World}{K:PySem.W.Frag}{mg:Str→Option Value}{base:Heap}{a:Adr}
theorem bI(T:Txt K mg a):FnOk P w K mg base CX0 1 a.f_drawn_together a.d_drawn_together ["leasts","one","other"] m6:=by
 refine T.F_drawn_together.ok dM (fun vs H Q E h=>?_) (fun cdv A outer s H vs Q E hr h=>?_)
 ·obtain⟨l,L,p,u,v,rfl,_⟩:=h
  rfl
 ·obtain⟨l,L,p,u,v,rfl,hl,hp,hu,hv,q⟩:=h
  refine⟨_,(@aj _ _ _ _ _ (@aC _ _ 3 _ _ _ _ dM.nd rfl (Or.inr rfl) (@aA _ _ _ _ _ _ _ _ _ (u6 rfl) (by rfl) T.n_min PyProof.Rows.boot_min (@aa _ _ _ _ _ (@aq _ _ _ _ _ _ _ (ixL K) (pv 0) (pv 1) (fun _ _=>rfl)) (@aa _ _ _ _ _ (@aq _ _ _ _ _ _ _ (ixL K) (pv 0) (pv 2) (fun _ _=>rfl)) af (by rfl)) (by rfl)) (by decide) (by decide) (by rfl) (by rfl)) (by rfl) (by first | exact .inl rfl | exact .inr rfl | assumption)) (@aj _ _ _ _ _ (@aC _ _ 4 _ _ _ _ dM.nd rfl (Or.inr rfl) (@aA _ _ _ _ _ _ _ _ _ (oE rfl) (by rfl) T.n_max PyProof.Rows.boot_max (@aa _ _ _ _ _ (@aq _ _ _ _ _ _ _ (ixL K) (pv 0) (pv 1) (fun _ _=>rfl)) (@aa _ _ _ _ _ (@aq _ _ _ _ _ _ _ (ixL K) (pv 0) (pv 2) (fun _ _=>rfl)) af (by rfl)) (by rfl)) (by decide) (by decide) (by rfl) (by rfl)) (by rfl) (by first | exact .inl rfl | exact .inr rfl | assumption)) (@ao _ _ _ (@az _ _ _ _ (@dr _ _ _ _ _ _ _ ["least"] ["low","high"] [3,4] _ _ _ _ (aF (ae bq) ["leasts","one","other","low","high"]) rfl (@piL _ _ _ _ K (pv 0) (by rfl)) (fun _ _ _ _=>(ax (i:=0) (show(["least","low","high"]:List Str).Nodup by decide +kernel) rfl (Or.inl rfl))) (fun _ _ _ _=>dk) (fun _ _ _ _=>(iE (aE dU (pv 0) (pv 2) (aD _)) (pv 1) (pv 0))) (by intro _;rfl)))))),?_⟩
  refine jM ?_
  intro zz0 zz1
  refine(exq rfl (exq rfl (ixl (SqL.of hl) (ai (j:=u) (bF hu)) (exq rfl (exq rfl (ixl (SqL.of hl) (ai (j:=v) (bF hv)) ⟨_,_,rfl,?_⟩))))))
  refine(exq rfl (exq rfl (ixl (SqL.of hl) (ai (j:=u) (bF hu)) (exq rfl (exq rfl (ixl (SqL.of hl) (ai (j:=v) (bF hv)) ⟨_,_,rfl,?_⟩))))))
  refine(exq rfl ⟨l,rfl,⟨_,SqL.of hl⟩,fun D hD=>dz (xs:=eJ L p) (p5 (RM.cZ L u v) H D) (.start hD) (fun i acc H2 _ pd=>⟨SqL.of (pd.1 _ _ hl),pd.len⟩) (by rw[dE];exact dl (Nat.ble_eq.mpr (by omega))) ?_ ?_⟩)
  ·intro i x acc H2 hx pd
   obtain⟨hi,rfl⟩:=lj hx
   refine⟨rfl,exq rfl (exq rfl ⟨rfl,exq rfl (?_)⟩)⟩
   rw[tJ,eW]
   by_cases hm:L i=max (L u) (L v)
   ·rw[decide_eq_true hm]
    refine df (exq rfl (pd.next hD (am.refl _) ?_))
    rw[xE]
    unfold RM.cZ
    rw[if_pos hm]
   ·rw[decide_eq_false hm]
    refine cg (exq rfl (pd.next hD (am.refl _) ?_))
    unfold RM.cZ
    rw[if_neg hm]
  ·intro acc H2 pd
   rw[dE]at pd
   exact q D H2 hD pd.1 (by rw[pd.2.1,pd.2.2])
theorem mG(T:Txt K mg a):FnOk P w K mg base (CX1 P w) 5 a.f_pieces a.d_pieces ["web","tie_set"] (oU a.c_BadSet):=by
 have bG:FnOk P w K mg base (CX1 P w) 4 a.f_triples_in a.d_triples_in ["web","tie_set"] (eB a.c_BadSet):=bG T
 have bI:FnOk P w K mg base CX0 1 a.f_drawn_together a.d_drawn_together ["leasts","one","other"] m6:=bI T
 refine T.F_pieces.ok1 dB (fun vs H Q E h=>?_) (fun cdv A outer s H vs Q E hr h=>?_)
 ·obtain⟨w,p,ts,g,S,rfl,_⟩:=h
  rfl
 ·obtain⟨wb,p,ts,g,S,rfl,hw,q⟩:=h
  refine⟨_,(@aj _ _ _ _ _ (@aC _ _ 2 _ _ _ _ dB.nd rfl (Or.inr rfl) (@da _ _ _ _ _ _ _ _ _ (yH rfl) (by rfl) T.n_list PyProof.Rows.boot_list (@aa _ _ _ _ _ (@da _ _ _ _ _ _ _ _ _ qQ (by rfl) T.n_range PyProof.Rows.boot_range (@aa _ _ _ _ _ (@aq _ _ _ _ _ _ _ (ixT K) (pv 0) ah (fun _ _=>rfl)) af (by rfl)) (by decide) (by decide) (by rfl) (by rfl)) af (by rfl)) (by decide) (by decide) (by rfl) (by rfl)) (by rfl) (by first | exact .inl rfl | exact .inr rfl | assumption)) (@aj _ _ _ _ _ (@kZ _ _ _ _ _ _ _ _ rfl (@piL _ _ _ _ K (@au _ _ _ _ _ _ _ _ _ _ _ _ _ _ _ _ bG (hr.mono (by decide)) (by rfl) T.m_triples_in T.k_triples_in T.b_triples_in .nil du.passes (@aa _ _ _ _ _ (pv 0) (@aa _ _ _ _ _ (pv 1) af (by rfl)) (by rfl)) (by decide) (by rfl) (by rfl)) (by rfl)) (@pgT _ _ K _ _ 3 _ rfl (@aQ _ _ _ _ _ (ax (i:=3) dB.nd rfl (Or.inl rfl)) (@aQ _ _ _ _ _ (ax (i:=4) dB.nd rfl (Or.inl rfl)) (@aQ _ _ _ _ _ (ax (i:=5) dB.nd rfl (Or.inl rfl)) eD (by rfl)) (by rfl)) (by rfl)) (by rfl) (by rfl) (by rfl)) (@ao _ _ _ (@aC _ _ 2 _ _ _ _ dB.nd rfl (Or.inr rfl) (@au _ _ _ _ _ _ _ _ _ _ _ _ _ _ _ _ bI (hr.mono (by decide)) (by rfl) T.m_drawn_together T.k_drawn_together T.b_drawn_together .nil aK (@aa _ _ _ _ _ (pv 2) (@aa _ _ _ _ _ (pv 3) (@aa _ _ _ _ _ (pv 4) af (by rfl)) (by rfl)) (by rfl)) (by decide) (by rfl) (by rfl)) (by rfl) (by first | exact .inl rfl | exact .inr rfl | assumption))) (by intro _;rfl)) (@aj _ _ _ _ _ (@aC _ _ 6 _ _ _ _ dB.nd rfl (Or.inl rfl) (@bY _ _ _ _ af) (by rfl) (by first | exact .inl rfl | exact .inr rfl | assumption)) (@aj _ _ _ _ _ (@kZ _ _ _ _ _ _ _ _ rfl (@bh _ _ _ _ _ _ (by rfl) T.n_range (@aa _ _ _ _ _ (@aq _ _ _ _ _ _ _ (ixT K) (pv 0) ah (fun _ _=>rfl)) af (by rfl)) (by rfl)) (ax (i:=7) dB.nd rfl (Or.inr rfl)) (@ao _ _ _ (@ce _ _ _ _ _ _ _ _ (@aE _ _ _ _ _ _ _ _ dU (@aq _ _ _ _ _ _ _ (ixL K) (pv 2) (pv 7) (fun _ _=>rfl)) (pv 7) (aD _)) (@ao _ _ _ (@cG _ _ _ _ (@bmK _ _ _ _ _ _ K (@kI _ _ _ _ _ _ _ _ _ _ _ _ PySem.F.plainAttrs_list PySem.F.slot_list_append PySem.F.type_list_append cV (pv 6) (@aa _ _ _ _ _ (@dr _ _ _ _ _ _ _ ["point"] ["leasts","start"] [2,7] _ _ _ _ (aF (ae fC) ["web","tie_set","leasts","one","other","length","found","start"]) rfl (@bh _ _ _ _ _ _ (by rfl) T.n_range (@aa _ _ _ _ _ (@aq _ _ _ _ _ _ _ (ixT K) (pv 0) ah (fun _ _=>rfl)) af (by rfl)) (by rfl)) (fun _ _ _ _=>(ax (i:=0) (show(["point","leasts","start"]:List Str).Nodup by decide +kernel) rfl (Or.inl rfl))) (fun _ _ _ _=>(eC (aE dU (aq (ixL K) (pv 1) (pv 0) (fun _ _=>rfl)) (pv 2) (aD _)))) (fun _ _ _ _=>(pv 0)) (by intro _;rfl)) af (by rfl)) (by rfl) (by rfl) (by rfl) (by rfl) (by rfl)) (by rfl)) (by rfl))) aU)) (by intro _;rfl)) (@ao _ _ _ (@az _ _ _ _ (pv 6))))))),?_⟩
  refine uP ?_
  intro zz0 zz1 zz2 zz3 zz4 zz5 zz6
  obtain⟨b,xs,h1,h2,h3⟩:=id hw.ex
  have W:=g.web
  have wp:=W.pts
  have wl:=W.len
  refine(exq rfl (ixq (SqT.of h1) (ai (j:=0) rfl) (exq rfl (fun r hr=>⟨r,p,rfl,ag,by omega,fun l hl=>?_⟩))))
  have s1:am H (upd (upd H r (.rng 0 (p:Int))) l (.lst (ni p))):=(am.new hr).trans (am.new hl)
  have hl1:upd (upd H r (.rng 0 (p:Int))) l (.lst (ni p)) l=some (.lst (eJ (fun x=>x) p)):=ag
  generalize upd (upd H r (.rng 0 (p:Int))) l (.lst (ni p))=H1 at s1 hl1
  refine(exq rfl (exq rfl ⟨wb,p,ts,S,rfl,hw.same s1,W,?_⟩))
  rcases q with⟨m,rfl,hm,q⟩|⟨hS,q⟩
  ·refine .inl ⟨m,rfl,hm,fun T0 ys H2 hTn s2 hT pr=>⟨T0,rfl,⟨_,SqL.of hT⟩,?_⟩⟩
   have hyl:ys.length≤24:=by
    rw[pr.length,List.length_map]
    have hb:Builtin.Int.intBits (m:Int)≤ts.length:=eE hm
    have:=List.length_filter_le (bit (m:Int)) (List.range (Builtin.Int.intBits (m:Int)))
    rw[List.length_range]at this
    exact Nat.le_trans this (by omega)
   refine dy (K:=K) (a:=T0) (xs:=ys) (fun i σ H3=>∃ la v3 v4 v5,σ=[some (.ref wb),some (.int (m:Int)),some (.ref la),v3,v4,v5,none,none]∧am H2 H3∧H3 la=some (.lst (eJ (kH p ts g ((aB (m:Int)).take i)) p)))
    ⟨l,none,none,none,rfl,am.refl _,s2 _ _ hl1⟩ (fun i σ H3 _ ⟨_,_,_,_,_,z,_⟩=>SqL.of (z _ _ hT)) ?_ ?_
   ·rintro i y D' σ H3 hi ⟨la,v3,v4,v5,rfl,s3,hla⟩
    obtain⟨t,ht,c,rfl,hc⟩:=Paired.getP pr hi
    have hc3:=s3 _ _ hc
    rw[List.getElem?_map]at ht
    obtain⟨k,hk,hkt⟩:=Option.map_eq_some_iff.mp ht
    have hkl:=jK hm (List.mem_of_getElem? hk)
    have ea:=tM (g:=g) hkl
    have eb:=tw (g:=g) hkl
    rw[hkt]at ea eb
    have la':=(ad p ts g).al k hkl
    have lb':=(ad p ts g).bl k hkl
    refine⟨c,_,rfl,SqT.of hc3,rfl,_,_,rfl,_,_,rfl,_,_,rfl,rfl,?_⟩
    refine(exq rfl (exq rfl (exq rfl ⟨la,kH p ts g ((aB (m:Int)).take i),p,(ad p ts g).a k,(ad p ts g).b k,?_,hla,wp,la',lb',fun D H4 hDn s4 hD=>?_⟩)))
    ·rw[← ea,← eb]
     rfl
    ·refine⟨D,_,_,_,rfl,s3.trans s4,?_⟩
     rw[hD,List.take_add_one,hk]
     show _=some (HO.lst (eJ (kH p ts g ((aB (m:Int)).take i++[k])) p))
     rw[rH]
   ·rintro σ H3 ⟨la,v3,v4,v5,rfl,s3,hla⟩
    have hys:ys.length=(aB (m:Int)).length:=by rw[pr.length,List.length_map]
    rw[hys,List.take_length,sM hm]at hla
    have s13:am H H3:=(s1.trans s2).trans s3
    refine⟨dl rfl,fun D hD=>?_⟩
    have t0:mo (bf p ts g m) p H3 D 0 (upd H3 D (.lst [])):=mo.start hD
    generalize upd H3 D (.lst [])=H4 at t0
    refine(exq rfl (ixq (SqT.of (t0.1 _ _ (s13 _ _ h1))) (ai (j:=0) rfl) (exq rfl ⟨(by omega),(by omega),?_⟩)))
    refine fE (lo:=0) (n:=(p:Int).toNat) (fun i σ H5=>∃ v7,σ=[some (.ref wb),some (.int (m:Int)),some (.ref la),v3,v4,v5,some (.ref D),v7]∧mo (bf p ts g m) p H3 D i H5) ⟨none,rfl,t0⟩ ?_ ?_
    ·rintro i D' σ H5 hi ⟨v7,rfl,t5⟩
     rw[Int.toNat_natCast]at hi
     rw[Int.zero_add]
     have hla5:=t5.1 _ _ hla
     refine(exq rfl (exq rfl (ixl (SqL.of hla5) (ai (j:=i) (bF hi)) (exq rfl ⟨rfl,exq rfl (?_)⟩))))
     rw[eW]
     by_cases hr:bf p ts g m i=i
     ·rw[decide_eq_true hr]
      obtain⟨ys0,hD5⟩:∃ ys,H5 D=some (.lst ys):=let⟨_,ys,z,_⟩:=t5;⟨ys,z⟩
      refine df (exq rfl ⟨.inl ⟨rfl,_,SqL.of hD5⟩,exq rfl (ixq (SqT.of (t5.1 _ _ (s13 _ _ h1))) (ai (j:=0) rfl) (exq rfl ⟨(by omega),(by omega),fun B hB=>bL (lo:=0) (m:=(p:Int).toNat) (iu (fun x=>decide (bf p ts g m x=i)) H5 B) (.start hB) (fun i acc H6 _ pk=>pk.len) (dl (Nat.ble_eq.mpr (by omega))) ?_ ?_⟩))⟩)
      ·intro x acc H6 hx pk
       rw[Int.toNat_natCast]at hx
       rw[Int.zero_add]
       refine⟨rfl,exq rfl (exq rfl (ixl (SqL.of (pk.1 _ _ hla5)) (ai (j:=x) (bF hx)) (exq rfl ⟨rfl,exq rfl (?_)⟩)))⟩
       rw[eW]
       cases hb:decide (bf p ts g m x=i) with
       | true=>exact(exq rfl (pk.yes hB (am.refl _) hb))
       | false=>exact pk.no (am.refl _) hb
      ·intro acc H6 pk
       have hB6:H6 B=some (.lst (aJ (eF (bf p ts g m) p i))):=by rw[pk.2.1,pk.2.2,Int.toNat_natCast];rfl
       obtain⟨ys1,hD6,hl1,t7⟩:=t5.push hD hr pk.1 hB hB6
       exact⟨D,ys1,_,rfl,rfl,hD6,jg (by omega),exq rfl (t7)⟩
     ·rw[decide_eq_false hr]
      exact cg (exq rfl (t5.skip hr))
    ·rintro σ H5 ⟨v7,rfl,t5⟩
     rw[Int.toNat_natCast]at t5
     obtain⟨s5,ys5,hD5,pr5,hl5⟩:=t5
     exact(exq rfl (q D ys5 H5 (s13.free hD) (s13.trans s5) hD5 (Paired.imp' (fun _ _ ⟨e,he,hn,h0,z⟩=>⟨e,he,hn,s13.free h0,z⟩) pr5)))
  ·exact .inr ⟨hS,q _ s1⟩
end
def mE(C:Addr):Sp:=fun vs H Q E=>∃ w p ts,∃ g:GoodWeb p ts,∃ S,vs=[.ref w,.int S]∧WebAt H w p ts∧iA ts S (∀ H',am H H'→E (.ref C) none H') fun m=>∀ H',am H H'→Q (.bl (kM p ts g m)) H'
section
variable {P:Program}{w:World}{K:PySem.W.Frag}{mg:Str→Option Value}{base:Heap}{a:Adr}
theorem j9(T:Txt K mg a):FnOk P w K mg base (CX1 P w) 7 a.f_is_ring a.d_is_ring ["web","tie_set"] (mE a.c_BadSet):=by
 have kf:FnOk P w K mg base (CX1 P w) 6 a.f_is_even a.d_is_even ["web","tie_set"] (nc a.c_BadSet):=kf T
 have mG:FnOk P w K mg base (CX1 P w) 5 a.f_pieces a.d_pieces ["web","tie_set"] (oU a.c_BadSet):=mG T
 have bo:FnOk P w K mg base CX0 2 a.f_ties_in a.d_ties_in ["tie_set"] en:=bo T
 refine T.F_is_ring.ok1 m3 (fun vs H Q E h=>?_) (fun cdv A outer s H vs Q E hr h=>?_)
 ·obtain⟨w,p,ts,g,S,rfl,_⟩:=h
  rfl
 ·obtain⟨wb,p,ts,g,S,rfl,hw,q⟩:=h
  refine⟨_,(@aj _ _ _ _ _ (@ce _ _ _ _ _ _ _ _ (@kb _ _ _ _ (@eT _ _ _ (@au _ _ _ _ _ _ _ _ _ _ _ _ _ _ _ _ kf (hr.mono (by decide)) (by rfl) T.m_is_even T.k_is_even T.b_is_even .nil du.passes (@aa _ _ _ _ _ (pv 0) (@aa _ _ _ _ _ (pv 1) af (by rfl)) (by rfl)) (by decide) (by rfl) (by rfl)) (by intro _;rfl))) (@ao _ _ _ (@az _ _ _ _ eM)) aU) (@aj _ _ _ _ _ (@e8 _ _ _ _ _ _ _ ["piece"] [] [] _ _ _ _ 2 _ _ _ m3.nd rfl rfl (aF (ae dZ) ["web","tie_set","touched"]) rfl (@piL _ _ _ _ K (@au _ _ _ _ _ _ _ _ _ _ _ _ _ _ _ _ mG (hr.mono (by decide)) (by rfl) T.m_pieces T.k_pieces T.b_pieces .nil du.passes (@aa _ _ _ _ _ (pv 0) (@aa _ _ _ _ _ (pv 1) af (by rfl)) (by rfl)) (by decide) (by rfl) (by rfl)) (by rfl)) (fun _ _ _ _=>(ax (i:=0) (show(["piece"]:List Str).Nodup by decide +kernel) rfl (Or.inl rfl))) (fun _ _ _ _=>(eC (aE tE (aA (gN K) (by rfl) T.n_len PySem.boot_len (aa (pv 0) af)) ah (aD _)))) (fun _ _ _ _=>(pv 0)) (by rfl) (by intro _;rfl)) (@ao _ _ _ (@az _ _ _ _ (@jk _ _ _ _ _ _ _ (@bQ _ _ _ _ _ _ _ _ dU (@aA _ _ _ _ _ _ _ _ _ (gN K) (by rfl) T.n_len PySem.boot_len (@aa _ _ _ _ _ (pv 2) af (by rfl)) (by decide) (by decide) (by rfl) (by rfl)) ah (aD _)) (@iG _ _ _ _ _ (@bQ _ _ _ _ _ _ _ _ dU (@aA _ _ _ _ _ _ _ _ _ (gN K) (by rfl) T.n_len PySem.boot_len (@aa _ _ _ _ _ (@aq _ _ _ _ _ _ _ (ixL K) (pv 2) ah (fun _ _=>rfl)) af (by rfl)) (by decide) (by decide) (by rfl) (by rfl)) (@aA _ _ _ _ _ _ _ _ _ (gN K) (by rfl) T.n_len PySem.boot_len (@aa _ _ _ _ _ (@au _ _ _ _ _ _ _ _ _ _ _ _ _ _ _ _ bo (hr.mono (by decide)) (by rfl) T.m_ties_in T.k_ties_in T.b_ties_in .nil aK (@aa _ _ _ _ _ (pv 1) af (by rfl)) (by decide) (by rfl) (by rfl)) af (by rfl)) (by decide) (by decide) (by rfl) (by rfl)) (aD _)))))))),?_⟩
  refine su ?_
  intro zz0 zz1 zz2
  have W:=g.web
  have wp:=g.p2
  have wl:=g.len
  refine(exq rfl (exq rfl ⟨wb,p,ts,S,rfl,hw,W,?_⟩))
  rcases q with⟨m,rfl,hm,q⟩|⟨hS,q⟩
  ·refine .inl ⟨m,rfl,hm,fun H1 s1=>(exq rfl (?_))⟩
   by_cases ev:m7 p ts (m:Int)=[]
   ·rw[decide_eq_true ev]
    rw[rY ev]at q
    refine cg (exq rfl (exq rfl ⟨wb,p,ts,g,_,rfl,hw.same s1,.inl ⟨m,rfl,hm,fun D ys H2 hDn s2 hD pr=>⟨D,rfl,⟨_,SqL.of hD⟩,fun C hC=>?_⟩⟩⟩))
    have hyl:ys.length≤10:=by
     rw[pr.length,List.length_map]
     unfold eA
     have:=List.length_filter_le (fun x=>decide (bf p ts g m x=x)) (List.range p)
     rw[List.length_range]at this
     exact Nat.le_trans this wp
    refine dz (xs:=ys) (mL (fun l=>decide (1<l.length)) ((eA (bf p ts g m) p).map (eF (bf p ts g m) p)) H2 C) (.start hC) (fun i acc H3 _ sf=>⟨SqL.of (sf.1 _ _ hD),sf.len⟩) (fb (by omega)) ?_ ?_
    ·intro i x acc H3 hx sf
     obtain⟨l,hl,b,rfl,hbn,hb0,hb⟩:=Paired.getP pr hx
     refine⟨rfl,exq rfl (lnq rfl (.inl (SqL.of (sf.1 _ _ hb))) (ijq (exq rfl (?_))))⟩
     cases hb2:decide (1<l.length) with
     | true =>
       have e:decide ((1:Int)<((aJ l).length:Int))=true:=decide_eq_true (by have:=of_decide_eq_true hb2;rw[bA];omega)
       show if decide ((1:Int)<((aJ l).length:Int))=true then _ else _
       rw[e]
       exact df (exq rfl (sf.yes hC hl hb2 ⟨b,rfl,hb⟩))
     | false =>
       have e:decide ((1:Int)<((aJ l).length:Int))=false:=decide_eq_false (by have:=of_decide_eq_false hb2;rw[bA];omega)
       show if decide ((1:Int)<((aJ l).length:Int))=true then _ else _
       rw[e]
       exact cg (sf.no hl hb2)
    ·intro acc H3 sf
     have pa:Paired (zA H2) acc ((cw (bf p ts g m) p).map (eF (bf p ts g m) p)):=by
      have h:=sf.2.2
      rw[pr.length,List.take_length,List.filter_map]at h
      exact h
     have hal:=pa.length
     rw[List.length_map]at hal
     refine(exq rfl (lnq rfl (.inl (SqL.of sf.2.1)) ⟨rfl,exq rfl (?_)⟩))
     have s13:=(s1.trans s2).trans sf.1
     have hb24:Builtin.Int.intBits (m:Int)≤ts.length:=eE hm
     generalize cw (bf p ts g m) p=tl at q pa hal
     cases tl with
     | nil =>
       have hal:acc.length=0:=hal
       rw[hal]
       exact cg (q H3 s13)
     | cons s r =>
       cases r with
       | nil =>
         cases pa with
         | cons hy pn =>
           cases pn
           obtain⟨b,rfl,hb⟩:=hy
           refine df (exq rfl (ixl (SqL.of sf.2.1) (ai (j:=0) rfl) (lnq rfl (.inl (SqL.of (sf.1 _ _ hb))) (exq rfl ⟨m,rfl,by omega,fun D4 H4 hn4 s4 hD4=>(lnq rfl (.inl (SqL.of hD4)) ⟨rfl,?_⟩)⟩))))
           rw[bA,bA,eW]
           exact q H4 (s13.trans s4)
       | cons t r =>
         have hal:acc.length=r.length+2:=hal
         have e:decide (V.int ((acc.length:Nat):Int)=V.int 1)=false:=decide_eq_false fun z=>by
          have:=V.int.inj z
          omega
         rw[e]
         exact cg (q H3 s13)
   ·rw[decide_eq_false ev]
    have er:kM p ts g m=false:=by
     unfold kM
     rw[decide_eq_false ev,Bool.false_and]
    rw[er]at q
    exact df (q H1 s1)
  ·exact .inr ⟨hS,q⟩
end
def iQ:Sp:=fun vs H Q _=>∃ w p ts,∃ g:GoodWeb p ts,vs=[.ref w]∧WebAt H w p ts∧∀ D H',H D=none→am H H'→H' D=some (.lst (eJ ((ad p ts g).trail ts.length) p))→Q (.ref D) H'
def oj:Sp:=fun vs H Q _=>∃ w p ts,∃ g:GoodWeb p ts,vs=[.ref w]∧WebAt H w p ts∧∀ H',am H H'→Q (.int ((fQ p ts g:Nat):Int)) H'
def n5:Sp:=fun vs H Q _=>∃ w p ts,∃ g:GoodWeb p ts,vs=[.ref w]∧WebAt H w p ts∧∀ D H',H D=none→am H H'→H' D=some (.lst (aJ (ad p ts g).chords))→Q (.ref D) H'
def iB:Sp:=fun vs H Q _=>∃ w p ts,∃ g:GoodWeb p ts,∃(D:Addr) (c:Nat),vs=[.ref w,.ref D,.int (c:Int)]∧WebAt H w p ts∧H D=some (.lst (eJ ((ad p ts g).trail ts.length) p))∧c<ts.length∧Q (.int (((ad p ts g).ring c:Nat):Int)) H
section
variable {P:Program}{w:World}{K:PySem.W.Frag}{mg:Str→Option Value}{base:Heap}{a:Adr}
theorem si{H:Hp}{xs:List V}{p:Nat}{ts:List Tie}{g:GoodWeb p ts}{k:Nat}(h3:Paired (jq H) xs ts)(hk:k<ts.length):∃ c,xs[k]?=some (.ref c)∧H c=some (.tup [.int (((ad p ts g).a k:Nat):Int),.int (((ad p ts g).b k:Nat):Int),.int (bc ts k).2.2]):=by
 have hkx:k<xs.length:=by rw[h3.length];exact hk
 obtain⟨t,ht,c,hc,hct⟩:=Paired.getP h3 (i:=k) (x:=xs[k]) (by simp[hkx])
 have htt:t=bc ts k:=by
  have z:=jT hk
  rw[ht]at z
  exact Option.some.inj z
 refine⟨c,by rw[← hc];simp[hkx],?_⟩
 rw[hct,← tM hk,← tw hk,htt]
 rfl
theorem aZ(T:Txt K mg a):FnOk P w K mg base CX0 2 a.f_forest_trails a.d_forest_trails ["web"] iQ:=by
 have bI:FnOk P w K mg base CX0 1 a.f_drawn_together a.d_drawn_together ["leasts","one","other"] m6:=bI T
 refine T.F_forest_trails.ok aM (fun vs H Q E h=>?_) (fun cdv A outer s H vs Q E hr h=>?_)
 ·obtain⟨w,p,ts,g,rfl,_⟩:=h
  rfl
 ·obtain⟨wb,p,ts,g,rfl,hw,q⟩:=h
  refine⟨_,(@aj _ _ _ _ _ (@aC _ _ 1 _ _ _ _ aM.nd rfl (Or.inl rfl) (@da _ _ _ _ _ _ _ _ _ (yH rfl) (by rfl) T.n_list PyProof.Rows.boot_list (@aa _ _ _ _ _ (@da _ _ _ _ _ _ _ _ _ qQ (by rfl) T.n_range PyProof.Rows.boot_range (@aa _ _ _ _ _ (@aq _ _ _ _ _ _ _ (ixT K) (pv 0) ah (fun _ _=>rfl)) af (by rfl)) (by decide) (by decide) (by rfl) (by rfl)) af (by rfl)) (by decide) (by decide) (by rfl) (by rfl)) (by rfl) (by first | exact .inl rfl | exact .inr rfl | assumption)) (@aj _ _ _ _ _ (@aC _ _ 2 _ _ _ _ aM.nd rfl (Or.inl rfl) (@ay _ _ _ _ _ _ _ _ wj (@bY _ _ _ _ (@aa _ _ _ _ _ ah af (by rfl))) (@aq _ _ _ _ _ _ _ (ixT K) (pv 0) ah (fun _ _=>rfl))) (by rfl) (by first | exact .inl rfl | exact .inr rfl | assumption)) (@aj _ _ _ _ _ (@dR _ _ _ _ _ _ _ _ PassesOwn.never rfl (@bh _ _ _ _ _ _ (by rfl) T.n_range (@aa _ _ _ _ _ (@aA _ _ _ _ _ _ _ _ _ (gN K) (by rfl) T.n_len PySem.boot_len (@aa _ _ _ _ _ (@aq _ _ _ _ _ _ _ (ixT K) (pv 0) ah (fun _ _=>rfl)) af (by rfl)) (by decide) (by decide) (by rfl) (by rfl)) af (by rfl)) (by rfl)) (ax (i:=3) aM.nd rfl (Or.inl rfl)) (@aj _ _ _ _ _ (@aC _ _ 4 _ _ _ _ aM.nd rfl (Or.inl rfl) (@aq _ _ _ _ _ _ _ (ixT K) (@aq _ _ _ _ _ _ _ (ixT K) (@aq _ _ _ _ _ _ _ (ixT K) (pv 0) ah (fun _ _=>rfl)) (pv 3) (fun _ _=>rfl)) ah (fun _ _=>rfl)) (by rfl) (by first | exact .inl rfl | exact .inr rfl | assumption)) (@aj _ _ _ _ _ (@aC _ _ 5 _ _ _ _ aM.nd rfl (Or.inl rfl) (@aq _ _ _ _ _ _ _ (ixT K) (@aq _ _ _ _ _ _ _ (ixT K) (@aq _ _ _ _ _ _ _ (ixT K) (pv 0) ah (fun _ _=>rfl)) (pv 3) (fun _ _=>rfl)) ah (fun _ _=>rfl)) (by rfl) (by first | exact .inl rfl | exact .inr rfl | assumption)) (@ao _ _ _ (@ce _ _ _ _ _ _ _ _ (@aE _ _ _ _ _ _ _ _ ml (@aq _ _ _ _ _ _ _ (ixL K) (pv 1) (pv 4) (fun _ _=>rfl)) (@aq _ _ _ _ _ _ _ (ixL K) (pv 1) (pv 5) (fun _ _=>rfl)) (aD _)) (@aj _ _ _ _ _ (@aC _ _ 6 _ _ _ _ aM.nd rfl (Or.inr rfl) (@ay _ _ _ _ _ _ _ _ gQ (@ay _ _ _ _ _ _ _ _ gQ (@aq _ _ _ _ _ _ _ (ixL K) (pv 2) (pv 4) (fun _ _=>rfl)) (@aq _ _ _ _ _ _ _ (ixL K) (pv 2) (pv 5) (fun _ _=>rfl))) (@ay _ _ _ _ _ _ _ _ fA ah (pv 3))) (by rfl) (by first | exact .inl rfl | exact .inr rfl | assumption)) (@aj _ _ _ _ _ (@aC _ _ 7 _ _ _ _ aM.nd rfl (Or.inr rfl) (@aA _ _ _ _ _ _ _ _ _ (oE rfl) (by rfl) T.n_max PyProof.Rows.boot_max (@aa _ _ _ _ _ (@aq _ _ _ _ _ _ _ (ixL K) (pv 1) (pv 4) (fun _ _=>rfl)) (@aa _ _ _ _ _ (@aq _ _ _ _ _ _ _ (ixL K) (pv 1) (pv 5) (fun _ _=>rfl)) af (by rfl)) (by rfl)) (by decide) (by decide) (by rfl) (by rfl)) (by rfl) (by first | exact .inl rfl | exact .inr rfl | assumption)) (@aj _ _ _ _ _ (@e8 _ _ _ _ _ _ _ ["trail","least"] ["bridge","moved"] [6,7] _ _ _ _ 2 _ _ _ aM.nd rfl rfl (aF (ae bC) ["web","leasts","trails","tie","one","other","bridge","moved"]) rfl (@zm _ _ _ _ K _ _ _ _ _ (by rfl) T.n_zip (@aa _ _ _ _ _ (pv 2) (@aa _ _ _ _ _ (pv 1) af (by rfl)) (by rfl)) (by rfl) (by rfl) (by rfl)) (fun _ _ _ _=>(pgT K (n:=2) rfl (aQ (ax (i:=0) (show(["trail","least","bridge","moved"]:List Str).Nodup by decide +kernel) rfl (Or.inl rfl)) (aQ (ax (i:=1) (show(["trail","least","bridge","moved"]:List Str).Nodup by decide +kernel) rfl (Or.inl rfl)) eD)))) (fun _ _ _ _=>dk) (fun _ _ _ _=>(iE (aE dU (pv 1) (pv 3) (aD _)) (ay gQ (pv 0) (pv 2)) (pv 0))) (by rfl) (by intro _;rfl)) (@ao _ _ _ (@aC _ _ 1 _ _ _ _ aM.nd rfl (Or.inl rfl) (@au _ _ _ _ _ _ _ _ _ _ _ _ _ _ _ _ bI (hr.mono (by decide)) (by rfl) T.m_drawn_together T.k_drawn_together T.b_drawn_together .nil aK (@aa _ _ _ _ _ (pv 1) (@aa _ _ _ _ _ (pv 4) (@aa _ _ _ _ _ (pv 5) af (by rfl)) (by rfl)) (by rfl)) (by decide) (by rfl) (by rfl)) (by rfl) (by first | exact .inl rfl | exact .inr rfl | assumption)))))) aU)))) (by intro _;rfl)) (@ao _ _ _ (@az _ _ _ _ (pv 2)))))),?_⟩
  refine j4 ?_
  intro zz0 zz1 zz2 zz3 zz4 zz5 zz6 zz7 zz8 zz9
  obtain⟨bt,xs,h1,h2,h3⟩:=id hw.ex
  have wp:=g.p2
  have wl:=g.len
  have hxl:=h3.length
  refine(exq rfl (ixq (SqT.of h1) (ai (j:=0) rfl) (exq rfl (fun r hr=>⟨r,p,rfl,ag,by omega,fun l hl=>?_⟩))))
  have s1:am H (upd (upd H r (.rng 0 (p:Int))) l (.lst (ni p))):=(am.new hr).trans (am.new hl)
  have hl1:upd (upd H r (.rng 0 (p:Int))) l (.lst (ni p)) l=some (.lst (eJ ((ad p ts g).lab 0) p)):=ag
  generalize upd (upd H r (.rng 0 (p:Int))) l (.lst (ni p))=H1 at s1 hl1
  refine⟨dl rfl,fun l0 hl0=>?_⟩
  have s0:am H1 (upd H1 l0 (.lst [.int 0])):=am.new hl0
  refine(exq rfl (ixq (SqT.of (s0 _ _ (s1 _ _ h1))) (ai (j:=0) rfl) ⟨l0,(p:Int),exq rfl ⟨rfl,ag,by omega,by omega,(by rw[Int.toNat_natCast];show 1*p≤sizeLine;exact dl (Nat.ble_eq.mpr (by omega))),fun e he=>?_⟩⟩))
  have s2:=s0.trans (am.new (o:=.lst (List.replicate (p:Int).toNat [V.int 0]).flatten) he)
  have he2:upd (upd H1 l0 (.lst [.int 0])) e (.lst (List.replicate (p:Int).toNat [V.int 0]).flatten) e=some (.lst (eJ ((ad p ts g).trail 0) p)):=by
   rw[ag,Int.toNat_natCast,vL]
   rfl
  generalize upd (upd H1 l0 (.lst [.int 0])) e (.lst (List.replicate (p:Int).toNat [V.int 0]).flatten)=H2 at s2 he2
  refine(exq rfl (ixq (SqT.of ((s1.trans s2) _ _ h1)) (ai (j:=1) rfl) (lnq rfl (.inr (SqT.of ((s1.trans s2) _ _ h2))) (exq rfl ⟨(by omega),(by omega),?_⟩))))
  refine fE (lo:=0) (n:=(xs.length:Int).toNat) (fun k σ H3=>∃ la ta v3 v4 v5 v6 v7,σ=[some (.ref wb),some (.ref la),some (.ref ta),v3,v4,v5,v6,v7]∧am H H3∧H3 la=some (.lst (eJ ((ad p ts g).lab k) p))∧H3 ta=some (.lst (eJ ((ad p ts g).trail k) p))∧H ta=none)
   ⟨l,e,none,none,none,none,none,rfl,s1.trans s2,s2 _ _ hl1,he2,s1.free (s0.free he)⟩ ?_ ?_
  ·rintro k D' σ H3 hk ⟨la,ta,v3,v4,v5,v6,v7,rfl,s3,hla,hta,htn⟩
   rw[Int.toNat_natCast,hxl]at hk
   rw[Int.zero_add]
   obtain⟨c,hxc,hct⟩:=si (g:=g) h3 hk
   have hA:=(ad p ts g).al k hk
   have hB:=(ad p ts g).bl k hk
   have hls:=RM.qu (N:=ad p ts g) k
   have hinF:(ad p ts g).inF k = !decide ((ad p ts g).lab k ((ad p ts g).a k)=(ad p ts g).lab k ((ad p ts g).b k)):=rfl
   have htr:(ad p ts g).trail (k+1)=if(ad p ts g).inF k=true then fun v=>if(ad p ts g).lab k v=max ((ad p ts g).lab k ((ad p ts g).a k)) ((ad p ts g).lab k ((ad p ts g).b k)) then(ad p ts g).trail k v^^^((ad p ts g).trail k ((ad p ts g).a k)^^^(ad p ts g).trail k ((ad p ts g).b k)^^^2^k) else(ad p ts g).trail k v else(ad p ts g).trail k:=rfl
   generalize (ad p ts g).a k=A0 at *
   generalize (ad p ts g).b k=B0 at *
   refine(exq rfl (ixq (SqT.of (s3 _ _ h1)) (ai (j:=1) rfl) (exq rfl (ixq (SqT.of (s3 _ _ h2)) (ai (j:=k) hxc) (ixq (SqT.of (s3 _ _ hct)) (ai (j:=0) rfl) (?_))))))
   refine(exq rfl (ixq (SqT.of (s3 _ _ h1)) (ai (j:=1) rfl) (exq rfl (ixq (SqT.of (s3 _ _ h2)) (ai (j:=k) hxc) (ixq (SqT.of (s3 _ _ hct)) (ai (j:=1) rfl) (?_))))))
   refine(exq rfl (exq rfl (ixl (SqL.of hla) (ai (j:=A0) (bF hA)) (exq rfl (exq rfl (ixl (SqL.of hla) (ai (j:=B0) (bF hB)) ⟨rfl,exq rfl (?_)⟩))))))
   rw[eW]
   by_cases he:(ad p ts g).lab k A0=(ad p ts g).lab k B0
   ·rw[decide_eq_true he]at hinF
    rw[hinF,if_neg (by decide)]at hls htr
    rw[decide_eq_true he]
    exact cg ⟨la,ta,_,_,_,_,_,rfl,s3,by rw[hls];exact hla,by rw[htr];exact hta,htn⟩
   ·rw[decide_eq_false he]at hinF
    rw[hinF,if_pos (by rfl)]at hls htr
    rw[decide_eq_false he]
    have hbr:Builtin.bitXor (Builtin.bitXor (((ad p ts g).trail k A0:Nat):Int) (((ad p ts g).trail k B0:Nat):Int)) (1*2^(k:Int).toNat)=(((ad p ts g).trail k A0^^^(ad p ts g).trail k B0^^^2^k:Nat):Int):=by
     rw[kU,xor_int,xor_int]
    refine df (exq rfl (exq rfl (ixl (SqL.of hta) (ai (j:=A0) (bF hA)) (exq rfl (exq rfl (ixl (SqL.of hta) (ai (j:=B0) (bF hB)) (ijq (exq rfl (ijq ⟨⟨by omega,by omega,by decide⟩,ijq (?_)⟩)))))))))
    refine(exq rfl (exq rfl (ixl (SqL.of hla) (ai (j:=A0) (bF hA)) (exq rfl (exq rfl (ixl (SqL.of hla) (ai (j:=B0) (bF hB)) ⟨_,_,rfl,?_⟩))))))
    refine(exq rfl (exq rfl ⟨ta,la,rfl,⟨_,SqL.of hta⟩,⟨_,SqL.of hla⟩,fun D hD=>wS (xs:=eJ ((ad p ts g).trail k) p) (ys:=eJ ((ad p ts g).lab k) p) (by rw[dE,dE]) (p5 ((ad p ts g).trail (k+1)) H3 D) (.start hD) (fun i acc H4 _ pd=>⟨SqL.of (pd.1 _ _ hta),SqL.of (pd.1 _ _ hla),pd.len⟩) (by rw[dE];exact dl (Nat.ble_eq.mpr (by omega))) ?_ ?_⟩))
    ·intro i x y T0 acc H4 hx hy pd hT
     obtain⟨hi,rfl⟩:=lj hx
     obtain⟨_,rfl⟩:=lj hy
     refine⟨T0,_,rfl,SqT.of ag,rfl,_,_,rfl,_,_,rfl,rfl,rfl,exq rfl (exq rfl ⟨rfl,exq rfl (?_)⟩)⟩
     rw[tJ,eW]
     by_cases hm:(ad p ts g).lab k i=max ((ad p ts g).lab k A0) ((ad p ts g).lab k B0)
     ·rw[decide_eq_true hm]
      refine df (exq rfl (exq rfl (ijq (pd.next hD (am.new hT) ?_))))
      show V.int (Builtin.bitXor _ (Builtin.bitXor (Builtin.bitXor _ _) _))=_
      rw[hbr,xor_int,htr]
      show _=V.int (((if _ then _ else _:Nat)):Int)
      rw[if_pos hm]
     ·rw[decide_eq_false hm]
      refine cg (exq rfl (pd.next hD (am.new hT) ?_))
      rw[htr]
      show _=V.int (((if _ then _ else _:Nat)):Int)
      rw[if_neg hm]
    ·intro acc H4 pd
     rw[dE]at pd
     have hD4:H4 D=some (.lst (eJ ((ad p ts g).trail (k+1)) p)):=by rw[pd.2.1,pd.2.2]
     refine(exq rfl (exq rfl (exq rfl ⟨la,(ad p ts g).lab k,p,A0,B0,rfl,pd.1 _ _ hla,wp,hA,hB,fun D2 H5 hn5 s5 hD2=>?_⟩)))
     exact⟨D2,D,_,_,_,_,_,rfl,(s3.trans pd.1).trans s5,by rw[hls];exact hD2,s5 _ _ hD4,s3.free hD⟩
  ·rintro σ H3 ⟨la,ta,v3,v4,v5,v6,v7,rfl,s3,hla,hta,htn⟩
   rw[Int.toNat_natCast,hxl]at hta
   exact(exq rfl (q ta H3 htn s3 hta))
theorem mT(T:Txt K mg a):FnOk P w K mg base CX0 3 a.f_forest a.d_forest ["web"] oj:=by
 have aZ:FnOk P w K mg base CX0 2 a.f_forest_trails a.d_forest_trails ["web"] iQ:=aZ T
 refine T.F_forest.ok iI (fun vs H Q E h=>?_) (fun cdv A outer s H vs Q E hr h=>?_)
 ·obtain⟨w,p,ts,g,rfl,_⟩:=h
  rfl
 ·obtain⟨wb,p,ts,g,rfl,hw,q⟩:=h
  refine⟨_,(@aj _ _ _ _ _ (@aC _ _ 1 _ _ _ _ iI.nd rfl (Or.inl rfl) ah (by rfl) (by first | exact .inl rfl | exact .inr rfl | assumption)) (@aj _ _ _ _ _ (@dR _ _ _ _ _ _ _ _ PassesOwn.never rfl (@piL _ _ _ _ K (@au _ _ _ _ _ _ _ _ _ _ _ _ _ _ _ _ aZ (hr.mono (by decide)) (by rfl) T.m_forest_trails T.k_forest_trails T.b_forest_trails .nil aK (@aa _ _ _ _ _ (pv 0) af (by rfl)) (by decide) (by rfl) (by rfl)) (by rfl)) (ax (i:=2) iI.nd rfl (Or.inl rfl)) (@ao _ _ _ (@vz _ _ 1 _ _ _ _ _ _ iI.nd rfl (Or.inl rfl) (pv 2) wU (by first | exact .inl rfl | exact .inr rfl | assumption))) (by intro _;rfl)) (@ao _ _ _ (@az _ _ _ _ (pv 1))))),?_⟩
  refine u8 ?_
  intro zz0 zz1 zz2
  refine(exq rfl ⟨wb,p,ts,g,rfl,hw,fun D H1 hDn s1 hD=>⟨D,rfl,⟨_,SqL.of hD⟩,?_⟩⟩)
  refine dy (K:=K) (a:=D) (xs:=eJ ((ad p ts g).trail ts.length) p) (fun i σ H2=>∃ v2,σ=[some (.ref wb),some (.int ((orT ((ad p ts g).trail ts.length) i:Nat):Int)),v2]∧H2=H1) ⟨none,rfl,rfl⟩ (fun i σ H2 _ ⟨_,_,z⟩=>by rw[z];exact SqL.of hD) ?_ ?_
  ·rintro i x D' σ H2 hx ⟨v2,rfl,rfl⟩
   obtain⟨hi,rfl⟩:=lj hx
   refine(exq rfl (exq rfl (ijq ⟨some (.int (((ad p ts g).trail ts.length i:Nat):Int)),?_,rfl⟩)))
   show[_,some (V.int (Builtin.bitOr _ _)),_]=_
   rw[xl]
   rfl
  ·rintro σ H2 ⟨v2,rfl,rfl⟩
   rw[dE,sF]
   exact(exq rfl (q _ s1))
theorem lM(T:Txt K mg a):FnOk P w K mg base CX0 4 a.f_chords a.d_chords ["web"] n5:=by
 have mT:FnOk P w K mg base CX0 3 a.f_forest a.d_forest ["web"] oj:=mT T
 have dY:FnOk P w K mg base CX0 1 a.f_all_ties a.d_all_ties ["web"] iw:=dY T
 have bo:FnOk P w K mg base CX0 2 a.f_ties_in a.d_ties_in ["tie_set"] en:=bo T
 refine T.F_chords.ok u4 (fun vs H Q E h=>?_) (fun cdv A outer s H vs Q E hr h=>?_)
 ·obtain⟨w,p,ts,g,rfl,_⟩:=h
  rfl
 ·obtain⟨wb,p,ts,g,rfl,hw,q⟩:=h
  refine⟨_,(@ao _ _ _ (@az _ _ _ _ (@au _ _ _ _ _ _ _ _ _ _ _ _ _ _ _ _ bo (hr.mono (by decide)) (by rfl) T.m_ties_in T.k_ties_in T.b_ties_in .nil aK (@aa _ _ _ _ _ (@ay _ _ _ _ _ _ _ _ gQ (@au _ _ _ _ _ _ _ _ _ _ _ _ _ _ _ _ dY (hr.mono (by decide)) (by rfl) T.m_all_ties T.k_all_ties T.b_all_ties .nil aK (@aa _ _ _ _ _ (pv 0) af (by rfl)) (by decide) (by rfl) (by rfl)) (@au _ _ _ _ _ _ _ _ _ _ _ _ _ _ _ _ mT (hr.mono (by decide)) (by rfl) T.m_forest T.k_forest T.b_forest .nil aK (@aa _ _ _ _ _ (pv 0) af (by rfl)) (by decide) (by rfl) (by rfl))) af (by rfl)) (by decide) (by rfl) (by rfl)))),?_⟩
  have wl:=g.len
  refine(exq rfl ⟨wb,p,ts,rfl,hw,g.web,_,rfl,wb,p,ts,g,rfl,hw,fun H1 s1=>(ijq ⟨(2^ts.length-1)^^^fQ p ts g,?_,?_,fun D H2 hDn s2 hD=>?_⟩)⟩)
  ·show[V.int (Builtin.bitXor _ _)]=_
   rw[yb,xor_int]
  ·exact Nat.le_trans (eE nO) (by omega)
  ·rw[qz]at hD
   exact q D H2 (s1.free hDn) (s1.trans s2) hD
theorem fU(T:Txt K mg a):FnOk P w K mg base CX0 1 a.f_ring_closed a.d_ring_closed ["web","trails","chord"] iB:=by
 refine T.F_ring_closed.ok ii (fun vs H Q E h=>?_) (fun cdv A outer s H vs Q E hr h=>?_)
 ·obtain⟨w,p,ts,g,D,c,rfl,_⟩:=h
  rfl
 ·obtain⟨wb,p,ts,g,D,c,rfl,hw,hD,hc,q⟩:=h
  refine⟨_,(@aj _ _ _ _ _ (@aC _ _ 3 _ _ _ _ ii.nd rfl (Or.inl rfl) (@aq _ _ _ _ _ _ _ (ixT K) (@aq _ _ _ _ _ _ _ (ixT K) (pv 0) ah (fun _ _=>rfl)) (pv 2) (fun _ _=>rfl)) (by rfl) (by first | exact .inl rfl | exact .inr rfl | assumption)) (@ao _ _ _ (@az _ _ _ _ (@ay _ _ _ _ _ _ _ _ gQ (@ay _ _ _ _ _ _ _ _ gQ (@aq _ _ _ _ _ _ _ (ixL K) (pv 1) (@aq _ _ _ _ _ _ _ (ixT K) (pv 3) ah (fun _ _=>rfl)) (fun _ _=>rfl)) (@aq _ _ _ _ _ _ _ (ixL K) (pv 1) (@aq _ _ _ _ _ _ _ (ixT K) (pv 3) ah (fun _ _=>rfl)) (fun _ _=>rfl))) (@ay _ _ _ _ _ _ _ _ fA ah (pv 2)))))),?_⟩
  refine m5 ?_
  intro zz0
  obtain⟨bt,xs,h1,h2,h3⟩:=id hw.ex
  have wl:=g.len
  obtain⟨b,hxc,hct⟩:=si (g:=g) h3 hc
  have hA:=(ad p ts g).al c hc
  have hB:=(ad p ts g).bl c hc
  refine(exq rfl (ixq (SqT.of h1) (ai (j:=1) rfl) (exq rfl (ixq (SqT.of h2) (ai (j:=c) hxc) (?_)))))
  refine(exq rfl (exq rfl (ixq (SqT.of hct) (ai (j:=0) rfl) (ixl (SqL.of hD) (ai (j:=(ad p ts g).a c) (bF hA)) (exq rfl (exq rfl (ixq (SqT.of hct) (ai (j:=1) rfl) (ixl (SqL.of hD) (ai (j:=(ad p ts g).b c) (bF hB)) (ijq (exq rfl (ijq ⟨⟨by omega,by omega,by decide⟩,ijq (?_)⟩)))))))))))
  show Q (V.int (Builtin.bitXor (Builtin.bitXor _ _) _)) H
  rw[kU,xor_int,xor_int]
  exact q
end
def i9(C:Addr):Sp:=fun vs H Q E=>∃ w p ts,∃ g:GoodWeb p ts,∃ S,vs=[.ref w,.int S]∧WebAt H w p ts∧
 ((∃ c:Nat,S=(c:Int)∧c∈(ad p ts g).chords∧∀ H',am H H'→Q (.int (((ad p ts g).ring c:Nat):Int)) H')∨((∀ c∈(ad p ts g).chords,S≠((c:Nat):Int))∧∀ H',am H H'→E (.ref C) none H'))
section
variable {P:Program}{w:World}{K:PySem.W.Frag}{mg:Str→Option Value}{base:Heap}{a:Adr}
theorem gX(T:Txt K mg a):FnOk P w K mg base (CX1 P w) 5 a.f_chord_ring a.d_chord_ring ["web","tie"] (i9 a.c_NoChord):=by
 have lM:FnOk P w K mg base CX0 4 a.f_chords a.d_chords ["web"] n5:=lM T
 have aZ:FnOk P w K mg base CX0 2 a.f_forest_trails a.d_forest_trails ["web"] iQ:=aZ T
 have fU:FnOk P w K mg base CX0 1 a.f_ring_closed a.d_ring_closed ["web","trails","chord"] iB:=fU T
 refine T.F_chord_ring.ok1 nE (fun vs H Q E h=>?_) (fun cdv A outer s H vs Q E hr h=>?_)
 ·obtain⟨w,p,ts,g,S,rfl,_⟩:=h
  rfl
 ·obtain⟨wb,p,ts,g,S,rfl,hw,q⟩:=h
  refine⟨_,(@aj _ _ _ _ _ (@ce _ _ _ _ _ _ _ _ (@aE _ _ _ _ _ _ _ _ (sI K) (pv 1) (@au _ _ _ _ _ _ _ _ _ _ _ _ _ _ _ _ lM (hr.mono (by decide)) (by rfl) T.m_chords T.k_chords T.b_chords .nil aK (@aa _ _ _ _ _ (pv 0) af (by rfl)) (by decide) (by rfl) (by rfl)) (by with_unfolding_all rfl)) (@ao _ _ _ (@qP _ _ _ _ _ _ _ _ _ _ _ _ _ _ du.thr rfl (by rfl) T.x_NoChord PySem.F.excBase_ValueError (@aa _ _ _ _ _ g7 af (by rfl)) (by rfl) (by rfl) (by decide))) aU) (@ao _ _ _ (@az _ _ _ _ (@au _ _ _ _ _ _ _ _ _ _ _ _ _ _ _ _ fU (hr.mono (by decide)) (by rfl) T.m_ring_closed T.k_ring_closed T.b_ring_closed .nil aK (@aa _ _ _ _ _ (pv 0) (@aa _ _ _ _ _ (@au _ _ _ _ _ _ _ _ _ _ _ _ _ _ _ _ aZ (hr.mono (by decide)) (by rfl) T.m_forest_trails T.k_forest_trails T.b_forest_trails .nil aK (@aa _ _ _ _ _ (pv 0) af (by rfl)) (by decide) (by rfl) (by rfl)) (@aa _ _ _ _ _ (pv 1) af (by rfl)) (by rfl)) (by rfl)) (by decide) (by rfl) (by rfl))))),?_⟩
  refine nB ?_
  intro zz0 zz1
  refine(exq rfl (exq rfl ⟨wb,p,ts,g,rfl,hw,fun D H1 hDn s1 hD=>(lnq rfl (.inl (SqL.of hD)) ⟨rfl,kl _,_,rfl,?_⟩)⟩))
  rcases q with⟨c,rfl,hc,q⟩|⟨hS,q⟩
  ·rw[jI,decide_eq_true hc]
   refine cg (exq rfl (exq rfl ⟨wb,p,ts,g,rfl,hw.same s1,fun D2 H2 hn2 s2 hD2=>(exq rfl ⟨wb,p,ts,g,D2,c,rfl,hw.same (s1.trans s2),hD2,(RM.hV.mp hc).1,q _ (s1.trans s2)⟩)⟩))
  ·rw[y6 hS]
   exact df ⟨dl rfl,q _ s1⟩
end
def oH:Sp:=fun vs H Q _=>∃ S1 S2,∃ a b:Nat,vs=[.int S1,.int S2]∧S1=(a:Int)∧S2=(b:Int)∧Builtin.Int.intBits ((a&&&b:Nat):Int)≤1000∧∀ H',am H H'→Q (.int (((aB ((a&&&b:Nat):Int)).length:Nat):Int)) H'
def mV:Sp:=fun vs H Q _=>∃ S1 S2,∃ a b:Nat,vs=[.int S1,.int S2]∧S1=(a:Int)∧S2=(b:Int)∧Builtin.Int.intBits ((a&&&b:Nat):Int)≤1000∧∀ H',am H H'→Q (.bl (decide ((aB ((a&&&b:Nat):Int)).length%2=1))) H'
structure Side(p:Nat)(xs:List Nat):Prop where
 up:xs.Pairwise (· < ·)
 lt:∀ x∈xs,x<p
def mO:Sp:=fun vs H Q _=>∃ w p ts,∃(l:Addr) (xs:List Nat),vs=[.ref w,.ref l]∧WebAt H w p ts∧H l=some (.lst (aJ xs))∧Side p xs∧Q (.bl true) H
def oY:Sp:=fun vs H Q _=>∃ w p ts,∃(l:Addr) (ks:List Nat),vs=[.ref w,.ref l]∧WebAt H w p ts∧Web p ts∧H l=some (.lst (aJ ks))∧(∀ k∈ks,k<ts.length)∧Q (.int ((orM ks:Nat):Int)) H
def jR:Sp:=fun vs H Q _=>∃ w p ts,∃ g:GoodWeb p ts,∃(l:Addr) (xs:List Nat),vs=[.ref w,.ref l]∧WebAt H w p ts∧H l=some (.lst (aJ xs))∧Side p xs∧
 ∀ H',am H H'→Q (.int (((ad p ts g).cut (fun x=>decide (x∈xs)):Nat):Int)) H'
theorem kr(p:Nat)(f:Nat→Bool):Side p ((List.range p).filter f):=⟨sy,fun x hx=>List.mem_range.mp (List.mem_filter.mp hx).1⟩
theorem tX(n:Nat):decide (V.int (((n:Nat):Int)%2)=V.int 1)=decide (n%2=1):=decide_eq_decide.mpr ⟨fun z=>by have:=V.int.inj z;omega,fun z=>congrArg V.int (by omega)⟩
section
variable {P:Program}{w:World}{K:PySem.W.Frag}{mg:Str→Option Value}{base:Heap}{a:Adr}
theorem lH(T:Txt K mg a):FnOk P w K mg base CX0 3 a.f_common a.d_common ["one","other"] oH:=by
 have bo:FnOk P w K mg base CX0 2 a.f_ties_in a.d_ties_in ["tie_set"] en:=bo T
 refine T.F_common.ok uQ (fun vs H Q E h=>?_) (fun cdv A outer s H vs Q E hr h=>?_)
 ·obtain⟨S1,S2,u,v,rfl,_⟩:=h
  rfl
 ·obtain⟨S1,S2,u,v,rfl,rfl,rfl,hb,q⟩:=h
  refine⟨_,(@ao _ _ _ (@az _ _ _ _ (@aA _ _ _ _ _ _ _ _ _ (gN K) (by rfl) T.n_len PySem.boot_len (@aa _ _ _ _ _ (@au _ _ _ _ _ _ _ _ _ _ _ _ _ _ _ _ bo (hr.mono (by decide)) (by rfl) T.m_ties_in T.k_ties_in T.b_ties_in .nil aK (@aa _ _ _ _ _ (@ay _ _ _ _ _ _ _ _ pO (pv 0) (pv 1)) af (by rfl)) (by decide) (by rfl) (by rfl)) af (by rfl)) (by decide) (by decide) (by rfl) (by rfl)))),?_⟩
  refine(exq rfl (exq rfl (ijq ⟨u&&&v,?_,hb,fun D H1 hn s1 hD=>(lnq rfl (.inl (SqL.of hD)) (?_))⟩)))
  ·show[V.int (Builtin.bitAnd _ _)]=_
   rw[and_int]
  ·rw[bA]
   exact q H1 s1
theorem cD(T:Txt K mg a):FnOk P w K mg base CX0 4 a.f_bears_oddly a.d_bears_oddly ["tie_set","marks"] mV:=by
 have lH:FnOk P w K mg base CX0 3 a.f_common a.d_common ["one","other"] oH:=lH T
 refine T.F_bears_oddly.ok mF (fun vs H Q E h=>?_) (fun cdv A outer s H vs Q E hr h=>?_)
 ·obtain⟨S1,S2,u,v,rfl,_⟩:=h
  rfl
 ·obtain⟨S1,S2,u,v,rfl,rfl,rfl,hb,q⟩:=h
  refine⟨_,(@ao _ _ _ (@az _ _ _ _ (@bQ _ _ _ _ _ _ _ _ dU (@ay _ _ _ _ _ _ _ _ ci (@au _ _ _ _ _ _ _ _ _ _ _ _ _ _ _ _ lH (hr.mono (by decide)) (by rfl) T.m_common T.k_common T.b_common .nil aK (@aa _ _ _ _ _ (pv 0) (@aa _ _ _ _ _ (pv 1) af (by rfl)) (by rfl)) (by decide) (by rfl) (by rfl)) ah) ah (aD _)))),?_⟩
  refine(exq rfl (exq rfl ⟨_,_,u,v,rfl,rfl,rfl,hb,fun H1 s1=>(ijq ⟨(nJ rfl),rfl,?_⟩)⟩))
  rw[tX]
  exact q H1 s1
theorem gu(T:Txt K mg a):FnOk P w K mg base CX0 1 a.f_is_side a.d_is_side ["web","side"] mO:=by
 refine T.F_is_side.ok cL (fun vs H Q E h=>?_) (fun cdv A outer s H vs Q E hr h=>?_)
 ·obtain⟨w,p,ts,l,xs,rfl,_⟩:=h
  rfl
 ·obtain⟨wb,p,ts,l,zs,rfl,hw,hl,sd,q⟩:=h
  refine⟨_,(@aj _ _ _ _ _ (@aC _ _ 2 _ _ _ _ cL.nd rfl (Or.inl rfl) (@om _ _ _ _ _ _ jU ah) (by rfl) (by first | exact .inl rfl | exact .inr rfl | assumption)) (@aj _ _ _ _ _ (@dR _ _ _ _ _ _ _ _ PassesOwn.never rfl (@piL _ _ _ _ K (pv 1) (by rfl)) (ax (i:=3) cL.nd rfl (Or.inl rfl)) (@aj _ _ _ _ _ (@ce _ _ _ _ _ _ _ _ (PW.pt (@kC _ _ _ _ _ _ _ (@aE _ _ _ _ _ _ _ _ tQ (pv 3) (pv 2) (aD _)) (@iy _ _ _ _ (@aE _ _ _ _ _ _ _ _ qp (pv 3) (@aq _ _ _ _ _ _ _ (ixT K) (pv 0) ah (fun _ _=>rfl)) (aD _))))) (@ao _ _ _ (@az _ _ _ _ eM)) aU) (@ao _ _ _ (@aC _ _ 2 _ _ _ _ cL.nd rfl (Or.inl rfl) (pv 3) (by rfl) (by first | exact .inl rfl | exact .inr rfl | assumption)))) (by intro _;rfl)) (@ao _ _ _ (@az _ _ _ _ eM)))),?_⟩
  refine mU ?_
  intro zz0 zz1 zz2 zz3 zz4
  obtain⟨bt,xs,h1,h2,h3⟩:=id hw.ex
  refine(exq rfl (exq rfl ⟨l,rfl,⟨_,SqL.of hl⟩,lG (K:=K) (a:=l) (xs:=aJ zs) (fun i σ H2=>∃ z v3,σ=[some (.ref wb),some (.ref l),some (.int z),v3]∧H2=H∧∀ x∈zs.drop i,z<(x:Int)) ⟨_,none,rfl,rfl,fun x _=>by show(-1:Int)<_;omega⟩ (fun i σ H2 _ ⟨_,_,_,z,_⟩=>by rw[z];exact SqL.of hl) ?_ ?_⟩))
  ·rintro i y σ H2 hy ⟨z,v3,rfl,rfl,hz⟩
   obtain⟨x,hx,rfl⟩:=iR hy
   have hdr:zs.drop i=x::zs.drop (i+1):=by
    obtain⟨hi,e⟩:=List.getElem?_eq_some_iff.mp hx
    rw[List.drop_eq_getElem_cons hi,e]
   have hzx:=hz x (by rw[hdr];exact List.mem_cons_self)
   have hxp:=sd.lt x (List.mem_of_getElem? hx)
   refine(exq rfl (exq rfl (ijq (exq rfl (kS (by omega) (exq rfl (exq rfl (ixq (SqT.of h1) (ai (j:=0) rfl) (ijq (exq rfl (kS (by omega) ?_)))))))))))
   refine(exq rfl ⟨(x:Int),exq rfl ⟨rfl,fun y hy=>?_⟩⟩)
   have pw:(zs.drop i).Pairwise (· < ·):=sd.up.sublist (List.drop_sublist _ _)
   rw[hdr]at pw
   have:=(List.pairwise_cons.mp pw).1 y hy
   omega
  ·rintro σ H2 ⟨z,v3,rfl,rfl,_⟩
   exact q
theorem mz(T:Txt K mg a):FnOk P w K mg base CX0 1 a.f_set_of a.d_set_of ["web","ties"] oY:=by
 refine T.F_set_of.ok iS (fun vs H Q E h=>?_) (fun cdv A outer s H vs Q E hr h=>?_)
 ·obtain⟨w,p,ts,l,ks,rfl,_⟩:=h
  rfl
 ·obtain⟨wb,p,ts,l,ks,rfl,hw,W,hl,hk,q⟩:=h
  refine⟨_,(@aj _ _ _ _ _ (@aC _ _ 2 _ _ _ _ iS.nd rfl (Or.inl rfl) ah (by rfl) (by first | exact .inl rfl | exact .inr rfl | assumption)) (@aj _ _ _ _ _ (@dR _ _ _ _ _ _ _ _ PassesOwn.never rfl (@piL _ _ _ _ K (pv 1) (by rfl)) (ax (i:=3) iS.nd rfl (Or.inl rfl)) (@aj _ _ _ _ _ (@ce _ _ _ _ _ _ _ _ (PW.pt (@kC _ _ _ _ _ _ _ (@aE _ _ _ _ _ _ _ _ yJ (pv 3) ah (aD _)) (@iy _ _ _ _ (@aE _ _ _ _ _ _ _ _ qp (pv 3) (@aA _ _ _ _ _ _ _ _ _ (gN K) (by rfl) T.n_len PySem.boot_len (@aa _ _ _ _ _ (@aq _ _ _ _ _ _ _ (ixT K) (pv 0) ah (fun _ _=>rfl)) af (by rfl)) (by decide) (by decide) (by rfl) (by rfl)) (aD _))))) pg aU) (@ao _ _ _ (@vz _ _ 2 _ _ _ _ _ _ iS.nd rfl (Or.inl rfl) (@ay _ _ _ _ _ _ _ _ fA ah (pv 3)) wU (by first | exact .inl rfl | exact .inr rfl | assumption)))) (by intro _;rfl)) (@ao _ _ _ (@az _ _ _ _ (pv 2))))),?_⟩
  refine uq ?_
  intro zz0 zz1 zz2 zz3 zz4
  obtain⟨bt,xs,h1,h2,h3⟩:=id hw.ex
  have hxl:=h3.length
  have wl:=W.len
  refine(exq rfl ⟨l,rfl,⟨_,SqL.of hl⟩,lG (K:=K) (a:=l) (xs:=aJ ks) (fun i σ H2=>∃ v3,σ=[some (.ref wb),some (.ref l),some (.int ((orM (ks.take i):Nat):Int)),v3]∧H2=H) ⟨none,rfl,rfl⟩ (fun i σ H2 _ ⟨_,_,z⟩=>by rw[z];exact SqL.of hl) ?_ ?_⟩)
  ·rintro i x σ H2 hx ⟨v3,rfl,rfl⟩
   obtain⟨k,hki,rfl⟩:=iR hx
   have hkn:=hk k (List.mem_of_getElem? hki)
   refine(exq rfl (ijq (exq rfl (kS (by omega) (exq rfl (exq rfl (ixq (SqT.of h1) (ai (j:=1) rfl) (lnq rfl (.inr (SqT.of h2)) (ijq (exq rfl (kS (by omega) ?_)))))))))))
   refine(exq rfl (exq rfl (ijq ⟨⟨by omega,by omega,by decide⟩,ijq ⟨some (.int (k:Int)),?_,rfl⟩⟩)))
   show[_,_,some (V.int (Builtin.bitOr _ (1*2^(k:Int).toNat))),_]=_
   rw[kU,xl,List.take_add_one,hki]
   unfold Ring.orM
   rw[List.foldl_append]
   rfl
  ·rintro σ H2 ⟨v3,rfl,rfl⟩
   rw[bA,List.take_length]
   exact(exq rfl (q))
theorem gs(T:Txt K mg a):FnOk P w K mg base CX0 2 a.f_cut_of a.d_cut_of ["web","side"] jR:=by
 have gu:FnOk P w K mg base CX0 1 a.f_is_side a.d_is_side ["web","side"] mO:=gu T
 have mz:FnOk P w K mg base CX0 1 a.f_set_of a.d_set_of ["web","ties"] oY:=mz T
 refine T.F_cut_of.ok uw (fun vs H Q E h=>?_) (fun cdv A outer s H vs Q E hr h=>?_)
 ·obtain⟨w,p,ts,g,l,xs,rfl,_⟩:=h
  rfl
 ·obtain⟨wb,p,ts,g,l,zs,rfl,hw,hl,sd,q⟩:=h
  refine⟨_,(@aj _ _ _ _ _ (@ce _ _ _ _ _ _ _ _ (@kb _ _ _ _ (@eT _ _ _ (@au _ _ _ _ _ _ _ _ _ _ _ _ _ _ _ _ gu (hr.mono (by decide)) (by rfl) T.m_is_side T.k_is_side T.b_is_side .nil aK (@aa _ _ _ _ _ (pv 0) (@aa _ _ _ _ _ (pv 1) af (by rfl)) (by rfl)) (by decide) (by rfl) (by rfl)) (by intro _;rfl))) pg aU) (@ao _ _ _ (@az _ _ _ _ (@au _ _ _ _ _ _ _ _ _ _ _ _ _ _ _ _ mz (hr.mono (by decide)) (by rfl) T.m_set_of T.k_set_of T.b_set_of .nil aK (@aa _ _ _ _ _ (pv 0) (@aa _ _ _ _ _ (@dr _ _ _ _ _ _ _ ["k","tie"] ["side"] [1] _ _ _ _ (aF (ae fu) ["web","side"]) rfl (@mQ _ _ _ _ K _ _ _ _ (by rfl) T.n_enumerate (@aa _ _ _ _ _ (@aq _ _ _ _ _ _ _ (ixT K) (pv 0) ah (fun _ _=>rfl)) af (by rfl)) (by rfl) (by rfl)) (fun _ _ _ _=>(pgT K (n:=2) rfl (aQ (ax (i:=0) (show(["k","tie","side"]:List Str).Nodup by decide +kernel) rfl (Or.inl rfl)) (aQ (ax (i:=1) (show(["k","tie","side"]:List Str).Nodup by decide +kernel) rfl (Or.inl rfl)) eD)))) (fun _ _ _ _=>(eC (aE ml (bQ (inK K) (aq (ixT K) (pv 1) ah (fun _ _=>rfl)) (pv 2) (by with_unfolding_all rfl)) (bQ (inK K) (aq (ixT K) (pv 1) ah (fun _ _=>rfl)) (pv 2) (by with_unfolding_all rfl)) (aD _)))) (fun _ _ _ _=>(pv 0)) (by intro _;rfl)) af (by rfl)) (by rfl)) (by decide) (by rfl) (by rfl))))),?_⟩
  refine uM ?_
  intro zz0 zz1
  obtain⟨bt,xs,h1,h2,h3⟩:=id hw.ex
  have hxl:=h3.length
  have wl:=g.len
  refine(exq rfl (exq rfl ⟨wb,p,ts,l,zs,rfl,hw,hl,sd,_,rfl,cg ?_⟩))
  refine(exq rfl (exq rfl (ixq (SqT.of h1) (ai (j:=1) rfl) ⟨bt,rfl,⟨_,SqT.of h2⟩,fun D hD=>rW (xs:=xs) (iu (fun k=>decide ((ad p ts g).a k∈zs)^^decide ((ad p ts g).b k∈zs)) H D) (.start hD) (fun i acc H2 _ pk=>⟨SqT.of (pk.1 _ _ h2),pk.len⟩) (fb (by omega)) ?_ ?_⟩)))
  ·intro i x T0 acc H2 hx pk hT
   have hi:i<ts.length:=by have:=(List.getElem?_eq_some_iff.mp hx).1;omega
   obtain⟨b,hxb,hct⟩:=si (g:=g) h3 hi
   rw[hx]at hxb
   cases hxb
   have hct2:upd H2 T0 (.tup [.int (i:Int),.ref b]) b=some _:=am.new hT _ _ (pk.1 _ _ hct)
   have hl2:upd H2 T0 (.tup [.int (i:Int),.ref b]) l=some _:=am.new hT _ _ (pk.1 _ _ hl)
   refine⟨T0,_,rfl,SqT.of ag,rfl,_,_,rfl,_,_,rfl,rfl,rfl,?_⟩
   refine(exq rfl (ixq (SqT.of hct2) (ai (j:=0) rfl) (exq rfl (lnq rfl (.inl (SqL.of hl2)) ⟨rfl,kl _,_,rfl,ixq (SqT.of hct2) (ai (j:=1) rfl) (exq rfl (lnq rfl (.inl (SqL.of hl2)) ⟨rfl,kl _,rfl,exq rfl (?_)⟩))⟩))))
   rw[jI,jI]
   cases e1:decide ((ad p ts g).a i∈zs)<;>cases e2:decide ((ad p ts g).b i∈zs)
   ·exact pk.no (am.new hT) (by rw[e1,e2];rfl)
   ·exact(exq rfl (pk.yes hD (am.new hT) (by rw[e1,e2];rfl)))
   ·exact(exq rfl (pk.yes hD (am.new hT) (by rw[e1,e2];rfl)))
   ·exact pk.no (am.new hT) (by rw[e1,e2];rfl)
  ·intro acc H2 pk
   refine⟨wb,p,ts,D,_,rfl,hw.same pk.1,g.web,by rw[pk.2.1,pk.2.2],fun k hk=>?_,?_⟩
   ·have:=List.mem_range.mp (List.mem_filter.mp hk).1
    omega
   ·rw[rZ,hxl]
    exact q H2 pk.1
end
def iH(p:Nat)(ts:List Tie)(g:GoodWeb p ts)(m:Nat):List Nat:=(List.range p).filter fun x=>(ad p ts g).par ((ad p ts g).trail ts.length x) m
def aaZ(p:Nat)(ts:List Tie)(g:GoodWeb p ts)(m:Nat)(H H' : Hp)(t:Addr):Prop :=
 (m=(ad p ts g).cut (fun x=>decide (x∈iH p ts g m))∧∃ l,H l=none∧H' t=some (.tup [.str "side",.ref l])∧H' l=some (.lst (aJ (iH p ts g m))))∨
 (∃ c,c∈(ad p ts g).chords∧(ad p ts g).par ((ad p ts g).ring c) m=true∧H' t=some (.tup [.str "ring",.int (((ad p ts g).ring c:Nat):Int)]))
def mS(C:Addr):Sp:=fun vs H Q E=>∃ w p ts,∃ g:GoodWeb p ts,∃ S,vs=[.ref w,.int S]∧WebAt H w p ts∧iA ts S (E (.ref C) none H) fun m=>∀ t H',H t=none→am H H'→aaZ p ts g m H H' t→Q (.ref t) H'
theorem rn{p:Nat}{ts:List Tie}{g:GoodWeb p ts}{m:Nat}:(ad p ts g).cut (fun x=>decide (x∈iH p ts g m))=(ad p ts g).cut fun x=>(ad p ts g).par ((ad p ts g).trail (ad p ts g).n x) m:=RM.uH fun x hx=>by
 unfold iH
 rw[Bool.eq_iff_iff,decide_eq_true_eq,List.mem_filter,List.mem_range]
 exact⟨fun z=>z.2,fun z=>⟨hx,z⟩⟩
theorem rO{m:Nat}(h:m≠0):∃ c,(aB (m:Int))[0]?=some c∧m.testBit c=true:=by
 obtain⟨k,hk⟩:=Nat.exists_testBit_of_ne_zero h
 have hm:k∈aB (m:Int):=by
  unfold aB
  refine List.mem_filter.mpr ⟨List.mem_range.mpr (Nat.lt_of_not_le fun z=>?_),by rw[dS];exact hk⟩
  have:=lN z
  rw[dS,hk]at this
  cases this
 cases e:aB (m:Int) with
 | nil =>
   rw[e]at hm
   cases hm
 | cons c r =>
   have hc:c∈aB (m:Int):=by rw[e];exact List.mem_cons_self
   unfold aB at hc
   have:=(List.mem_filter.mp hc).2
   rw[dS]at this
   exact⟨c,rfl,this⟩
theorem qv{u v:Nat}(h:u^^^v=0):u=v:=by
 have:=congrArg (fun x=>x^^^v) h
 simpa[Nat.xor_assoc]using this
theorem wB(n:Nat):decide (V.int ((n:Nat):Int)=V.int 0)=decide (n=0):=decide_eq_decide.mpr ⟨fun z=>by have:=V.int.inj z;omega,fun z=>by rw[z];rfl⟩
section
variable {P:Program}{w:World}{K:PySem.W.Frag}{mg:Str→Option Value}{base:Heap}{a:Adr}
theorem kd(T:Txt K mg a):FnOk P w K mg base (CX1 P w) 6 a.f_side_of a.d_side_of ["web","tie_set"] (mS a.c_BadSet):=by
 have aP:FnOk P w K mg base (CX1 P w) 3 a.f_check_set a.d_check_set ["web","tie_set"] (cU a.c_BadSet):=aP T
 have aZ:FnOk P w K mg base CX0 2 a.f_forest_trails a.d_forest_trails ["web"] iQ:=aZ T
 have cD:FnOk P w K mg base CX0 4 a.f_bears_oddly a.d_bears_oddly ["tie_set","marks"] mV:=cD T
 have gs:FnOk P w K mg base CX0 2 a.f_cut_of a.d_cut_of ["web","side"] jR:=gs T
 have bo:FnOk P w K mg base CX0 2 a.f_ties_in a.d_ties_in ["tie_set"] en:=bo T
 have gX:FnOk P w K mg base (CX1 P w) 5 a.f_chord_ring a.d_chord_ring ["web","tie"] (i9 a.c_NoChord):=gX T
 refine T.F_side_of.ok1 gY (fun vs H Q E h=>?_) (fun cdv A outer s H vs Q E hr h=>?_)
 ·obtain⟨w,p,ts,g,S,rfl,_⟩:=h
  rfl
 ·obtain⟨wb,p,ts,g,S,rfl,hw,q⟩:=h
  refine⟨_,(@aj _ _ _ _ _ (@cG _ _ _ _ (@au _ _ _ _ _ _ _ _ _ _ _ _ _ _ _ _ aP (hr.mono (by decide)) (by rfl) T.m_check_set T.k_check_set T.b_check_set .nil du.passes (@aa _ _ _ _ _ (pv 0) (@aa _ _ _ _ _ (pv 1) af (by rfl)) (by rfl)) (by decide) (by rfl) (by rfl)) (by rfl)) (@aj _ _ _ _ _ (@aC _ _ 2 _ _ _ _ gY.nd rfl (Or.inr rfl) (@au _ _ _ _ _ _ _ _ _ _ _ _ _ _ _ _ aZ (hr.mono (by decide)) (by rfl) T.m_forest_trails T.k_forest_trails T.b_forest_trails .nil aK (@aa _ _ _ _ _ (pv 0) af (by rfl)) (by decide) (by rfl) (by rfl)) (by rfl) (by first | exact .inl rfl | exact .inr rfl | assumption)) (@aj _ _ _ _ _ (@e8 _ _ _ _ _ _ _ ["point"] ["tie_set","trails"] [1,2] _ _ _ _ 3 _ _ _ gY.nd rfl rfl (aF (ae et) ["web","tie_set","trails","side","amiss"]) rfl (@bh _ _ _ _ _ _ (by rfl) T.n_range (@aa _ _ _ _ _ (@aq _ _ _ _ _ _ _ (ixT K) (pv 0) ah (fun _ _=>rfl)) af (by rfl)) (by rfl)) (fun _ _ _ _=>(ax (i:=0) (show(["point","tie_set","trails"]:List Str).Nodup by decide +kernel) rfl (Or.inl rfl))) (fun _ _ _ _=>(eC (eT (au cD (hr.mono (by decide)) (by rfl) T.m_bears_oddly T.k_bears_oddly T.b_bears_oddly .nil aK (aa (aq (ixL K) (pv 2) (pv 0) (fun _ _=>rfl)) (aa (pv 1) af)))))) (fun _ _ _ _=>(pv 0)) (by rfl) (by intro _;rfl)) (@aj _ _ _ _ _ (@aC _ _ 4 _ _ _ _ gY.nd rfl (Or.inl rfl) (@ay _ _ _ _ _ _ _ _ gQ (pv 1) (@au _ _ _ _ _ _ _ _ _ _ _ _ _ _ _ _ gs (hr.mono (by decide)) (by rfl) T.m_cut_of T.k_cut_of T.b_cut_of .nil aK (@aa _ _ _ _ _ (pv 0) (@aa _ _ _ _ _ (pv 3) af (by rfl)) (by rfl)) (by decide) (by rfl) (by rfl))) (by rfl) (by first | exact .inl rfl | exact .inr rfl | assumption)) (@aj _ _ _ _ _ (@ce _ _ _ _ _ _ _ _ (@aE _ _ _ _ _ _ _ _ dU (pv 4) ah (aD _)) (@ao _ _ _ (@az _ _ _ _ (@cq _ _ _ _ _ (@aa _ _ _ _ _ g7 (@aa _ _ _ _ _ (pv 3) af (by rfl)) (by rfl))))) aU) (@ao _ _ _ (@az _ _ _ _ (@cq _ _ _ _ _ (@aa _ _ _ _ _ g7 (@aa _ _ _ _ _ (@au _ _ _ _ _ _ _ _ _ _ _ _ _ _ _ _ gX (hr.mono (by decide)) (by rfl) T.m_chord_ring T.k_chord_ring T.b_chord_ring .nil du.passes (@aa _ _ _ _ _ (pv 0) (@aa _ _ _ _ _ (@aq _ _ _ _ _ _ _ (ixL K) (@au _ _ _ _ _ _ _ _ _ _ _ _ _ _ _ _ bo (hr.mono (by decide)) (by rfl) T.m_ties_in T.k_ties_in T.b_ties_in .nil aK (@aa _ _ _ _ _ (pv 4) af (by rfl)) (by decide) (by rfl) (by rfl)) ah (fun _ _=>rfl)) af (by rfl)) (by rfl)) (by decide) (by rfl) (by rfl)) af (by rfl)) (by rfl)))))))))),?_⟩
  refine rL ?_
  intro zz0 zz1 zz2 zz3 zz4 zz5
  obtain⟨bt,xs,h1,h2,h3⟩:=id hw.ex
  have wl:=g.len
  have wp:=g.p2
  have W:=g.web
  rcases q with⟨m,rfl,hm,q⟩|⟨hS,q⟩
  case inr=>exact(exq rfl (exq rfl ⟨wb,p,ts,_,rfl,hw,W,.inr ⟨hS,q⟩⟩))
  refine(exq rfl (exq rfl ⟨wb,p,ts,_,rfl,hw,W,.inl ⟨m,rfl,hm,?_⟩⟩))
  refine(exq rfl ⟨wb,p,ts,g,rfl,hw,fun D H1 hn1 s1 hD=>?_⟩)
  refine(exq rfl (ixq (SqT.of (s1 _ _ h1)) (ai (j:=0) rfl) (exq rfl ⟨(by omega),(by omega),fun C hC=>bL (lo:=0) (m:=(p:Int).toNat) (iu (fun x=>(ad p ts g).par ((ad p ts g).trail ts.length x) m) H1 C) (.start hC) (fun i acc H2 _ pk=>pk.len) (fb (by omega)) ?_ ?_⟩)))
  ·intro i acc H2 hi pk
   rw[Int.toNat_natCast]at hi
   rw[Int.zero_add]
   have hbits:Builtin.Int.intBits (((ad p ts g).trail ts.length i&&&m:Nat):Int)≤1000:=Nat.le_trans (eE (Nat.and_lt_two_pow _ hm)) (by omega)
   refine⟨rfl,exq rfl (exq rfl (ixl (SqL.of (pk.1 _ _ hD)) (ai (j:=i) (bF hi)) (exq rfl ⟨_,_,(ad p ts g).trail ts.length i,m,rfl,rfl,rfl,hbits,fun H3 s3=>(exq rfl (?_))⟩)))⟩
   rw[tS (g:=g) hm]
   cases hb:(ad p ts g).par ((ad p ts g).trail ts.length i) m with
   | true=>exact(exq rfl (pk.yes hC s3 hb))
   | false=>exact pk.no s3 hb
  ·intro acc H2 pk
   have hC2:H2 C=some (.lst (aJ (iH p ts g m))):=by rw[pk.2.1,pk.2.2,Int.toNat_natCast];rfl
   have s12:=s1.trans pk.1
   refine(exq rfl (exq rfl (exq rfl ⟨wb,p,ts,g,C,_,rfl,hw.same s12,hC2,kr p _,fun H3 s3=>(ijq (?_))⟩)))
   have s13:=s12.trans s3
   dsimp only
   rw[xor_int,rn]
   have ac:=fun k=>RM.qg (N:=ad p ts g) (m:=m) (k:=k) hm
   have hlt:(m^^^(ad p ts g).cut fun x=>(ad p ts g).par ((ad p ts g).trail (ad p ts g).n x) m)<2^ts.length:=Nat.xor_lt_two_pow hm (RM.zn _)
   have hz:(m^^^(ad p ts g).cut fun x=>(ad p ts g).par ((ad p ts g).trail (ad p ts g).n x) m)=0→m=(ad p ts g).cut (fun x=>decide (x∈iH p ts g m)):=fun z=>by rw[rn];exact qv z
   generalize (m^^^(ad p ts g).cut fun x=>(ad p ts g).par ((ad p ts g).trail (ad p ts g).n x) m)=A at ac hlt hz
   refine(exq rfl ⟨rfl,exq rfl (?_)⟩)
   rw[wB]
   by_cases hA:A=0
   ·rw[decide_eq_true hA]
    refine df (exq rfl ⟨dl rfl,fun t ht=>q t _ (s13.free ht) (s13.trans (am.new ht)) (.inl ⟨hz hA,C,s1.free hC,ag,am.new ht _ _ (s3 _ _ hC2)⟩)⟩)
   ·rw[decide_eq_false hA]
    obtain⟨c,hc0,hcb⟩:=rO hA
    obtain⟨hcn,hcf,hcp⟩:=ac c hcb
    refine cg (exq rfl (exq rfl ⟨A,rfl,Nat.le_trans (eE hlt) (by omega),fun D4 H4 hn4 s4 hD4=>(ixl (SqL.of hD4) (ai (j:=0) (qb hc0)) ⟨wb,p,ts,g,_,rfl,hw.same (s13.trans s4),.inl ⟨c,rfl,RM.hV.mpr ⟨hcn,hcf⟩,fun H5 s5=>⟨dl rfl,fun t ht=>?_⟩⟩⟩)⟩))
    have s15:=(s13.trans s4).trans s5
    exact q t _ (s15.free ht) (s15.trans (am.new ht)) (.inr ⟨c,RM.hV.mpr ⟨hcn,hcf⟩,hcp,ag⟩)
end
def jB(C:Addr):Sp:=fun vs H Q E=>∃ w p ts S,vs=[.ref w,.int S]∧WebAt H w p ts∧Web p ts∧iA ts S (∀ H',am H H'→E (.ref C) none H') fun m=>∀ H',am H H'→Q (.int (rB ts m)) H'
section
variable {P:Program}{w:World}{K:PySem.W.Frag}{mg:Str→Option Value}{base:Heap}{a:Adr}
theorem il(T:Txt K mg a):FnOk P w K mg base (CX1 P w) 5 a.f_length_of a.d_length_of ["web","tie_set"] (jB a.c_BadSet):=by
 have bG:FnOk P w K mg base (CX1 P w) 4 a.f_triples_in a.d_triples_in ["web","tie_set"] (eB a.c_BadSet):=bG T
 refine T.F_length_of.ok1 pH (fun vs H Q E h=>?_) (fun cdv A outer s H vs Q E hr h=>?_)
 ·obtain⟨w,p,ts,S,rfl,_⟩:=h
  rfl
 ·obtain⟨wb,p,ts,S,rfl,hw,W,q⟩:=h
  refine⟨_,(@ao _ _ _ (@az _ _ _ _ (@aA _ _ _ _ _ _ _ _ _ (aaq K rfl) (by rfl) T.n_sum PyProof.Rows.boot_sum (@aa _ _ _ _ _ (@dr _ _ _ _ _ _ _ ["tie"] [] [] _ _ _ _ (aF (ae cM) ["web","tie_set"]) rfl (@piL _ _ _ _ K (@au _ _ _ _ _ _ _ _ _ _ _ _ _ _ _ _ bG (hr.mono (by decide)) (by rfl) T.m_triples_in T.k_triples_in T.b_triples_in .nil du.passes (@aa _ _ _ _ _ (pv 0) (@aa _ _ _ _ _ (pv 1) af (by rfl)) (by rfl)) (by decide) (by rfl) (by rfl)) (by rfl)) (fun _ _ _ _=>(ax (i:=0) (show(["tie"]:List Str).Nodup by decide +kernel) rfl (Or.inl rfl))) (fun _ _ _ _=>dk) (fun _ _ _ _=>(aq (ixT K) (pv 0) ah (fun _ _=>rfl))) (by intro _;rfl)) af (by rfl)) (by decide) (by decide) (by rfl) (by rfl)))),?_⟩
  refine(exq rfl (exq rfl ⟨wb,p,ts,S,rfl,hw,W,?_⟩))
  rcases q with⟨m,rfl,hm,q⟩|⟨hS,q⟩
  ·refine .inl ⟨m,rfl,hm,fun L ys H1 hLn s1 hL pr=>⟨L,rfl,⟨_,SqL.of hL⟩,fun D hD=>?_⟩⟩
   have wl:=W.len
   have hyl:ys.length=(aB (m:Int)).length:=by rw[pr.length,List.length_map]
   have hyl2:ys.length≤24:=by
    rw[hyl]
    have hb:Builtin.Int.intBits (m:Int)≤ts.length:=eE hm
    have:=List.length_filter_le (bit (m:Int)) (List.range (Builtin.Int.intBits (m:Int)))
    rw[List.length_range]at this
    exact Nat.le_trans this (by omega)
   refine dz (xs:=ys) (ny (fun k=>(bc ts k).2.2) (aB (m:Int)) H1 D) (.start hD) (fun i acc H2 _ pm=>⟨SqL.of (pm.1 _ _ hL),pm.len⟩) (fb hyl2) ?_ ?_
   ·intro i x acc H2 hx pm
    obtain⟨t,ht,c,rfl,hc⟩:=Paired.getP pr hx
    rw[List.getElem?_map]at ht
    obtain⟨k,hk,rfl⟩:=Option.map_eq_some_iff.mp ht
    exact⟨rfl,exq rfl (ixq (SqT.of (pm.1 _ _ hc)) (ai (j:=2) rfl) (pm.next hD (am.refl _) hk rfl))⟩
   ·intro acc H2 pm
    rw[hyl]at pm
    exact⟨D,_,rfl,SqL.of pm.fin,q H2 (s1.trans pm.1)⟩
  ·exact .inr ⟨hS,q _ (am.refl _)⟩
end
def dI(p:Nat):Int→List Int→Bool
 | _,[]=>true
 | z,x::r=>if x≤z∨(p:Int)≤x then false else dI p x r
theorem nA(p:Nat)(z x:Int)(r:List Int):dI p z (x::r)=if x≤z∨(p:Int)≤x then false else dI p x r:=rfl
theorem gZ{p:Nat}:∀{zs:List Int} {z:Int},-1≤z→(dI p z zs=true↔∃ xs:List Nat,zs=xs.map (fun x=>((x:Nat):Int))∧Side p xs∧∀ x∈xs,z<((x:Nat):Int))
 | [],z,_=>⟨fun _=>⟨[],rfl,⟨List.Pairwise.nil,(fun _ h=>nomatch h)⟩,(fun _ h=>nomatch h)⟩,fun _=>rfl⟩
 | x::r,z,hz=>by
   unfold dI
   by_cases h:x≤z∨(p:Int)≤x
   ·rw[if_pos h]
    refine⟨(fun e=>by cases e),?_⟩
    rintro⟨xs,e,sd,hx⟩
    cases xs with
    | nil=>cases e
    | cons y ys =>
      obtain⟨e1,_⟩:=List.cons.inj e
      have e1:x=((y:Nat):Int):=e1
      have h1:=hx y List.mem_cons_self
      have h2:=sd.lt y List.mem_cons_self
      omega
   ·rw[if_neg h,gZ (by omega)]
    obtain⟨y,rfl⟩:=Int.eq_ofNat_of_zero_le (show(0:Int)≤x by omega)
    constructor
    ·rintro⟨xs,rfl,sd,hx⟩
     refine⟨y::xs,rfl,⟨List.pairwise_cons.mpr ⟨fun w hw=>by have:=hx w hw;omega,sd.up⟩,fun w hw=>?_⟩,fun w hw=>?_⟩
     ·rcases List.mem_cons.mp hw with e|e
      ·omega
      ·exact sd.lt w e
     ·rcases List.mem_cons.mp hw with e|e
      ·omega
      ·have:=hx w e
       omega
    ·rintro⟨xs,e,sd,hx⟩
     cases xs with
     | nil=>cases e
     | cons y' ys =>
       obtain⟨e1,e2⟩:=List.cons.inj e
       have e1:((y:Nat):Int)=((y' : Nat):Int):=e1
       have ey:y=y':=by omega
       subst ey
       exact⟨ys,e2,⟨(List.pairwise_cons.mp sd.up).2,fun w hw=>sd.lt w (List.mem_cons_of_mem _ hw)⟩,fun w hw=>by have:=(List.pairwise_cons.mp sd.up).1 w hw;omega⟩
def abe(H:Hp)(b:Addr):List Int ⊕ Int→Prop
 | .inl zs=>∃ l,H b=some (.tup [.str "side",.ref l])∧H l=some (.lst (zs.map V.int))∧zs.length≤40
 | .inr z=>H b=some (.tup [.str "ring",.int z])
def yI(p:Nat)(ts:List Tie)(g:GoodWeb p ts)(m:Nat):List Int ⊕ Int→Prop
 | .inl zs=>∃ xs:List Nat,zs=xs.map (fun x=>((x:Nat):Int))∧Side p xs∧(ad p ts g).cut (fun x=>decide (x∈xs))=m
 | .inr z=>∃ r:Nat,z=(r:Int)∧r<2^ts.length∧(ad p ts g).Ring r∧(aB ((r&&&m:Nat):Int)).length%2=1
def fN:Sp:=fun vs H Q _=>∃ w p ts,∃ g:GoodWeb p ts,∃ S:Int,vs=[.ref w,.int S]∧WebAt H w p ts∧∀ H' (d:Bool),am H H'→(d=true↔∃ m:Nat,S=(m:Int)∧m<2^ts.length∧(ad p ts g).Ring m)→Q (.bl d) H'
def kz:Sp:=fun vs H Q _=>∃ w p ts,∃(l:Addr) (zs:List Int),vs=[.ref w,.ref l]∧WebAt H w p ts∧H l=some (.lst (zs.map V.int))∧Q (.bl (dI p (-1) zs)) H
def iX:Sp:=fun vs H Q _=>∃ w p ts,∃ g:GoodWeb p ts,∃(l:Addr) (zs:List Int) (m:Nat),vs=[.ref w,.ref l,.int (m:Int)]∧WebAt H w p ts∧H l=some (.lst (zs.map V.int))∧∀ H' (d:Bool),am H H'→(d=true↔yI p ts g m (.inl zs))→Q (.bl d) H'
section
variable {P:Program}{w:World}{K:PySem.W.Frag}{mg:Str→Option Value}{base:Heap}{a:Adr}
theorem sk(T:Txt K mg a):FnOk P w K mg base CX0 1 a.f_is_side a.d_is_side ["web","side"] kz:=by
 refine T.F_is_side.ok cL (fun vs H Q E h=>?_) (fun cdv A outer s H vs Q E hr h=>?_)
 ·obtain⟨w,p,ts,l,zs,rfl,_⟩:=h
  rfl
 ·obtain⟨wb,p,ts,l,zs,rfl,hw,hl,q⟩:=h
  refine⟨_,(@aj _ _ _ _ _ (@aC _ _ 2 _ _ _ _ cL.nd rfl (Or.inl rfl) (@om _ _ _ _ _ _ jU ah) (by rfl) (by first | exact .inl rfl | exact .inr rfl | assumption)) (@aj _ _ _ _ _ (@dR _ _ _ _ _ _ _ _ PassesOwn.never rfl (@piL _ _ _ _ K (pv 1) (by rfl)) (ax (i:=3) cL.nd rfl (Or.inl rfl)) (@aj _ _ _ _ _ (@ce _ _ _ _ _ _ _ _ (PW.pt (@kC _ _ _ _ _ _ _ (@aE _ _ _ _ _ _ _ _ tQ (pv 3) (pv 2) (aD _)) (@iy _ _ _ _ (@aE _ _ _ _ _ _ _ _ qp (pv 3) (@aq _ _ _ _ _ _ _ (ixT K) (pv 0) ah (fun _ _=>rfl)) (aD _))))) (@ao _ _ _ (@az _ _ _ _ eM)) aU) (@ao _ _ _ (@aC _ _ 2 _ _ _ _ cL.nd rfl (Or.inl rfl) (pv 3) (by rfl) (by first | exact .inl rfl | exact .inr rfl | assumption)))) (by intro _;rfl)) (@ao _ _ _ (@az _ _ _ _ eM)))),?_⟩
  refine mU ?_
  intro zz0 zz1 zz2 zz3 zz4
  obtain⟨bt,xs,h1,h2,h3⟩:=id hw.ex
  refine(exq rfl (exq rfl ⟨l,rfl,⟨_,SqL.of hl⟩,dy (K:=K) (a:=l) (xs:=zs.map V.int) (fun i σ H2=>∃ z v3,σ=[some (.ref wb),some (.ref l),some (.int z),v3]∧H2=H∧dI p z (zs.drop i)=dI p (-1) zs) ⟨-1,none,rfl,rfl,rfl⟩ (fun i σ H2 _ ⟨_,_,_,z,_⟩=>by rw[z];exact SqL.of hl) ?_ ?_⟩))
  ·rintro i y D' σ H2 hy ⟨z,v3,rfl,rfl,hz⟩
   rw[List.getElem?_map]at hy
   obtain⟨x,hx,rfl⟩:=Option.map_eq_some_iff.mp hy
   have hdr:zs.drop i=x::zs.drop (i+1):=by
    obtain⟨hi,e⟩:=List.getElem?_eq_some_iff.mp hx
    rw[List.drop_eq_getElem_cons hi,e]
   rw[hdr,nA]at hz
   refine(exq rfl (exq rfl (ijq (exq rfl (?_)))))
   by_cases c1:x≤z
   ·rw[if_pos (.inl c1)]at hz
    rw[decide_eq_true c1]
    rw[← hz]at q
    exact df q
   ·rw[decide_eq_false c1]
    refine cg (exq rfl (exq rfl (ixq (SqT.of h1) (ai (j:=0) rfl) (ijq (exq rfl (?_))))))
    by_cases c2:(p:Int)≤x
    ·rw[if_pos (.inr c2)]at hz
     rw[decide_eq_true c2]
     rw[← hz]at q
     exact df q
    ·rw[if_neg (fun z=>z.elim c1 c2)]at hz
     rw[decide_eq_false c2]
     exact cg (exq rfl ⟨x,_,rfl,rfl,hz⟩)
  ·rintro σ H2 ⟨z,v3,rfl,rfl,hz⟩
   rw[List.length_map,List.drop_length]at hz
   have hz:true=_:=hz
   rw[← hz]at q
   exact q
theorem eh(T:Txt K mg a):FnOk P w K mg base CX0 8 a.f_is_ring_number a.d_is_ring_number ["web","number"] fN:=by
 have gq:FnOk P w K mg base CX0 2 a.f_is_set a.d_is_set ["web","number"] jZ:=gq T
 have j9:FnOk P w K mg base (CX1 P w) 7 a.f_is_ring a.d_is_ring ["web","tie_set"] (mE a.c_BadSet):=j9 T
 refine T.F_is_ring_number.ok jN (fun vs H Q E h=>?_) (fun cdv A outer s H vs Q E hr h=>?_)
 ·obtain⟨w,p,ts,g,S,rfl,_⟩:=h
  rfl
 ·obtain⟨wb,p,ts,g,S,rfl,hw,q⟩:=h
  refine⟨_,(@ao _ _ _ (@az _ _ _ _ (@jk _ _ _ _ _ _ _ (@au _ _ _ _ _ _ _ _ _ _ _ _ _ _ _ _ gq (hr.mono (by decide)) (by rfl) T.m_is_set T.k_is_set T.b_is_set .nil aK (@aa _ _ _ _ _ (pv 0) (@aa _ _ _ _ _ (pv 1) af (by rfl)) (by rfl)) (by decide) (by rfl) (by rfl)) (@iG _ _ _ _ _ (@au _ _ _ _ _ _ _ _ _ _ _ _ _ _ _ _ j9 (hr.mono (by decide)) (by rfl) T.m_is_ring T.k_is_ring T.b_is_ring .nil pe (@aa _ _ _ _ _ (pv 0) (@aa _ _ _ _ _ (pv 1) af (by rfl)) (by rfl)) (by decide) (by rfl) (by rfl)))))),?_⟩
  have h2n:((2:Int)^ts.length)=((2^ts.length:Nat):Int):=by simp
  refine(exq rfl (exq rfl ⟨wb,p,ts,S,rfl,hw,g.web,_,rfl,?_⟩))
  by_cases hs:0≤S∧S<2^ts.length
  ·rw[decide_eq_true hs]
   obtain⟨m,rfl⟩:=Int.eq_ofNat_of_zero_le hs.1
   have hm:m<2^ts.length:=by omega
   refine df (exq rfl (exq rfl ⟨wb,p,ts,g,_,rfl,hw,.inl ⟨m,rfl,hm,fun H1 s1=>q H1 _ s1 ?_⟩⟩))
   rw[uf g hm]
   exact⟨fun r=>⟨m,rfl,hm,r⟩,fun⟨m',e,_,r⟩=>by
    have:m=m':=by omega
    rw[this]
    exact r⟩
  ·rw[decide_eq_false hs]
   refine cg (q H false (am.refl _) ⟨fun z=>(Bool.false_ne_true z).elim,fun⟨m',e,hm,_⟩=>absurd ⟨by omega,by omega⟩ hs⟩)
theorem g8(T:Txt K mg a):FnOk P w K mg base CX0 3 a.f_is_side_of a.d_is_side_of ["web","side","tie_set"] iX:=by
 have gu:FnOk P w K mg base CX0 1 a.f_is_side a.d_is_side ["web","side"] kz:=sk T
 have gs:FnOk P w K mg base CX0 2 a.f_cut_of a.d_cut_of ["web","side"] jR:=gs T
 refine T.F_is_side_of.ok nF (fun vs H Q E h=>?_) (fun cdv A outer s H vs Q E hr h=>?_)
 ·obtain⟨w,p,ts,g,l,zs,m,rfl,_⟩:=h
  rfl
 ·obtain⟨wb,p,ts,g,l,zs,m,rfl,hw,hl,q⟩:=h
  refine⟨_,(@ao _ _ _ (@az _ _ _ _ (@jk _ _ _ _ _ _ _ (@au _ _ _ _ _ _ _ _ _ _ _ _ _ _ _ _ gu (hr.mono (by decide)) (by rfl) T.m_is_side T.k_is_side T.b_is_side .nil aK (@aa _ _ _ _ _ (pv 0) (@aa _ _ _ _ _ (pv 1) af (by rfl)) (by rfl)) (by decide) (by rfl) (by rfl)) (@iG _ _ _ _ _ (@bQ _ _ _ _ _ _ _ _ dU (@au _ _ _ _ _ _ _ _ _ _ _ _ _ _ _ _ gs (hr.mono (by decide)) (by rfl) T.m_cut_of T.k_cut_of T.b_cut_of .nil aK (@aa _ _ _ _ _ (pv 0) (@aa _ _ _ _ _ (pv 1) af (by rfl)) (by rfl)) (by decide) (by rfl) (by rfl)) (pv 2) (aD _)))))),?_⟩
  refine(exq rfl (exq rfl ⟨wb,p,ts,l,zs,rfl,hw,hl,_,rfl,?_⟩))
  cases hs:dI p (-1) zs with
  | false =>
    refine cg (q H false (am.refl _) ⟨fun z=>(Bool.false_ne_true z).elim,fun⟨xs,e,sd,_⟩=>?_⟩)
    rw[(gZ (Int.le_refl _)).mpr ⟨xs,e,sd,fun x _=>by omega⟩]at hs
    cases hs
  | true =>
    obtain⟨xs,rfl,sd,_⟩:=(gZ (Int.le_refl _)).mp hs
    rw[← mX]at hl
    refine df (exq rfl (exq rfl ⟨wb,p,ts,g,l,xs,rfl,hw,hl,sd,fun H1 s1=>(exq rfl ⟨rfl,q H1 _ s1 ?_⟩)⟩))
    rw[decide_eq_true_iff]
    constructor
    ·intro e
     have e:=V.int.inj e
     exact⟨xs,rfl,sd,by omega⟩
    ·rintro⟨ys,e,_,hc⟩
     have e2:ys=xs:=by
      have:=congrArg (List.map Int.toNat) e
      rw[List.map_map,List.map_map]at this
      have h1:(Int.toNat∘fun x=>((x:Nat):Int))=id:=funext fun x=>rfl
      rw[h1,List.map_id,List.map_id]at this
      exact this.symm
     rw[e2]at hc
     exact congrArg (fun n:Nat=>V.int (n:Int)) hc
end
def tF:Sp:=fun vs H Q _=>∃(x y:Option Int) (l:Int),vs=[oV x,oV y,.int l]∧Q (.bl (lQ x y l)) H
def i8:Sp:=fun vs H Q _=>∃(b c:Addr) (t:Tie) (u:Bool) (ys:List V) (R:List Pr),vs=[.ref b,.int (u.toNat:Int),.ref c]∧H b=some (.tup (yf t))∧H c=some (.tup ys)∧Paired (dG H) ys R∧0≤t.1∧t.1<(R.length:Int)∧0≤t.2.1∧t.2.1<(R.length:Int)∧Q (.bl (rk R t u)) H
def ie(C:Addr):Sp:=fun vs H Q E=>∃(w b:Addr) (p:Nat) (ts:List Tie) (W:List (List Pr)) (S:Int),vs=[.ref w,.int S,.ref b]∧WebAt H w p ts∧Web p ts∧cQ H b W∧Sqr p W∧iA ts S (∀ H',am H H'→E (.ref C) none H') fun m =>
 (pz p ts m W→∀ H',am H H'→Q (.bl true) H')∧(¬ pz p ts m W→∀ H',am H H'→Q (.bl false) H')
theorem yh(a:Option Int):yQ (oV a) (V.int 0)=true:=by cases a<;>rfl
theorem xj{x y:V}{A B:Prop}(h:x≠y)(ha:A):if(!decide (x=y))=true then A else B:=by
 rw[decide_eq_false h]
 exact df ha
section
variable {P:Program}{w:World}{K:PySem.W.Frag}{mg:Str→Option Value}{base:Heap}{a:Adr}
theorem eG(T:Txt K mg a):FnOk P w K mg base CX0 1 a.f_near_enough a.d_near_enough ["one","other","length"] tF:=by
 refine T.F_near_enough.ok lv (fun vs H Q E h=>?_) (fun cdv A outer s H vs Q E hr h=>?_)
 ·obtain⟨x,y,l,rfl,_⟩:=h
  rfl
 ·obtain⟨x,y,l,rfl,q⟩:=h
  refine⟨_,(@aj _ _ _ _ _ (@ce _ _ _ _ _ _ _ _ (PW.pt (@kC _ _ _ _ _ _ _ (@aE _ _ _ _ _ _ _ _ jm (pv 0) dJ (aD _)) (@iy _ _ _ _ (@aE _ _ _ _ _ _ _ _ jm (pv 1) dJ (aD _))))) (@ao _ _ _ (@az _ _ _ _ (@jk _ _ _ _ _ _ _ (@bQ _ _ _ _ _ _ _ _ jm (pv 0) dJ (aD _)) (@iG _ _ _ _ _ (@bQ _ _ _ _ _ _ _ _ jm (pv 1) dJ (aD _)))))) aU) (@ao _ _ _ (@az _ _ _ _ (@bQ _ _ _ _ _ _ _ _ tQ (@aA _ _ _ _ _ _ _ _ _ wZ (by rfl) T.n_abs PyProof.Rows.boot_abs (@aa _ _ _ _ _ (@ay _ _ _ _ _ _ _ _ jj (pv 0) (pv 1)) af (by rfl)) (by decide) (by decide) (by rfl) (by rfl)) (pv 2) (aD _))))),?_⟩
  refine lY ?_
  intro zz0 zz1
  cases x with
  | none =>
    refine(exq rfl ⟨rfl,exq rfl (sw rfl (exq rfl ⟨rfl,exq rfl (sw rfl (exq rfl ⟨rfl,?_⟩))⟩))⟩)
    cases y with
    | none=>exact q
    | some y=>exact q
  | some x =>
    cases y with
    | none=>exact(exq rfl ⟨rfl,exq rfl (kS (fun z=>nomatch z) (exq rfl ⟨rfl,exq rfl (sw rfl (exq rfl ⟨rfl,exq rfl (kS (fun z=>nomatch z) q)⟩))⟩))⟩)
    | some y=>exact(exq rfl ⟨rfl,exq rfl (kS (fun z=>nomatch z) (exq rfl ⟨rfl,exq rfl (kS (fun z=>nomatch z) (exq rfl (exq rfl (ijq (exq rfl (exq rfl (ijq (q))))))))⟩))⟩)
theorem hJ(T:Txt K mg a):FnOk P w K mg base CX0 2 a.f_tie_stands a.d_tie_stands ["tie","turn","worths"] i8:=by
 have eG:FnOk P w K mg base CX0 1 a.f_near_enough a.d_near_enough ["one","other","length"] tF:=eG T
 refine T.F_tie_stands.ok fX (fun vs H Q E h=>?_) (fun cdv A outer s H vs Q E hr h=>?_)
 ·obtain⟨b,c,t,u,ys,R,rfl,_⟩:=h
  rfl
 ·obtain⟨b,c,t,u,ys,R,rfl,hb,hc,pr,a0,a1,b0,b1,q⟩:=h
  refine⟨_,(@aj _ _ _ _ _ (@aC _ _ 3 _ _ _ _ fX.nd rfl (Or.inl rfl) (@aq _ _ _ _ _ _ _ (ixT K) (pv 2) (@aq _ _ _ _ _ _ _ (ixT K) (pv 0) ah (fun _ _=>rfl)) (fun _ _=>rfl)) (by rfl) (by first | exact .inl rfl | exact .inr rfl | assumption)) (@aj _ _ _ _ _ (@aC _ _ 4 _ _ _ _ fX.nd rfl (Or.inl rfl) (@aq _ _ _ _ _ _ _ (ixT K) (pv 2) (@aq _ _ _ _ _ _ _ (ixT K) (pv 0) ah (fun _ _=>rfl)) (fun _ _=>rfl)) (by rfl) (by first | exact .inl rfl | exact .inr rfl | assumption)) (@ao _ _ _ (@az _ _ _ _ (@jk _ _ _ _ _ _ _ (@au _ _ _ _ _ _ _ _ _ _ _ _ _ _ _ _ eG (hr.mono (by decide)) (by rfl) T.m_near_enough T.k_near_enough T.b_near_enough .nil aK (@aa _ _ _ _ _ (@aq _ _ _ _ _ _ _ (ixT K) (pv 3) ah (fun _ _=>rfl)) (@aa _ _ _ _ _ (@aq _ _ _ _ _ _ _ (ixT K) (pv 4) (pv 1) (fun _ _=>rfl)) (@aa _ _ _ _ _ (@aq _ _ _ _ _ _ _ (ixT K) (pv 0) ah (fun _ _=>rfl)) af (by rfl)) (by rfl)) (by rfl)) (by decide) (by rfl) (by rfl)) (@iG _ _ _ _ _ (@au _ _ _ _ _ _ _ _ _ _ _ _ _ _ _ _ eG (hr.mono (by decide)) (by rfl) T.m_near_enough T.k_near_enough T.b_near_enough .nil aK (@aa _ _ _ _ _ (@aq _ _ _ _ _ _ _ (ixT K) (pv 3) ah (fun _ _=>rfl)) (@aa _ _ _ _ _ (@aq _ _ _ _ _ _ _ (ixT K) (pv 4) (@ay _ _ _ _ _ _ _ _ jj ah (pv 1)) (fun _ _=>rfl)) (@aa _ _ _ _ _ (@aq _ _ _ _ _ _ _ (ixT K) (pv 0) ah (fun _ _=>rfl)) af (by rfl)) (by rfl)) (by rfl)) (by decide) (by rfl) (by rfl)))))))),?_⟩
  refine nv ?_
  intro zz0 zz1
  obtain⟨c1,e1,h1⟩:=jc.at pr (i:=t.1.toNat) (by omega)
  obtain⟨c2,e2,h2⟩:=jc.at pr (i:=t.2.1.toNat) (by omega)
  have i1:atI ys t.1=some (.ref c1):=by
   have:=ai e1
   rwa [Int.toNat_of_nonneg a0]at this
  have i2:atI ys t.2.1=some (.ref c2):=by
   have:=ai e2
   rwa [Int.toNat_of_nonneg b0]at this
  have eu:(1:Int)-(u.toNat:Int)=((!u).toNat:Int):=by cases u<;>rfl
  refine(exq rfl (exq rfl (ixq (SqT.of hb) (ai (j:=0) rfl) (ixq (SqT.of hc) (i1) (?_)))))
  refine(exq rfl (exq rfl (ixq (SqT.of hb) (ai (j:=1) rfl) (ixq (SqT.of hc) (i2) (?_)))))
  refine(exq rfl (ixq (SqT.of h1) (ai (j:=0) rfl) (exq rfl (exq rfl (ixq (SqT.of h2) (ai (vK _ u)) (exq rfl (ixq (SqT.of hb) (ai (j:=2) rfl) ⟨_,_,_,rfl,_,rfl,?_⟩)))))))
  unfold rk at q
  cases hB:lQ (cH R t.1.toNat).1 (sel (cH R t.2.1.toNat) u) t.2.2 with
  | false =>
    rw[hB]at q
    exact cg q
  | true =>
    rw[hB]at q
    refine df (exq rfl (ixq (SqT.of h1) (ai (j:=1) rfl) (exq rfl (exq rfl (ijq (ixq (SqT.of h2) (?_) (exq rfl (ixq (SqT.of hb) (ai (j:=2) rfl) ⟨_,_,_,rfl,q⟩))))))))
    rw[eu]
    exact ai (vK _ (!u))
theorem fF(T:Txt K mg a):FnOk P w K mg base (CX1 P w) 4 a.f_worths_stand a.d_worths_stand ["web","marks","worths"] (ie a.c_BadSet):=by
 have aP:FnOk P w K mg base (CX1 P w) 3 a.f_check_set a.d_check_set ["web","tie_set"] (cU a.c_BadSet):=aP T
 have cX:FnOk P w K mg base CX0 1 a.f_has_tie a.d_has_tie ["tie_set","tie"] gE:=cX T
 have hJ:FnOk P w K mg base CX0 2 a.f_tie_stands a.d_tie_stands ["tie","turn","worths"] i8:=hJ T
 refine T.F_worths_stand.ok1 dm (fun vs H Q E h=>?_) (fun cdv A outer s H vs Q E hr h=>?_)
 ·obtain⟨w,b,p,ts,W,S,rfl,_⟩:=h
  rfl
 ·obtain⟨wb,b,p,ts,W,S,rfl,hw,Wb,hW,sq,q⟩:=h
  refine⟨_,(@aj _ _ _ _ _ (@cG _ _ _ _ (@au _ _ _ _ _ _ _ _ _ _ _ _ _ _ _ _ aP (hr.mono (by decide)) (by rfl) T.m_check_set T.k_check_set T.b_check_set .nil du.passes (@aa _ _ _ _ _ (pv 0) (@aa _ _ _ _ _ (pv 1) af (by rfl)) (by rfl)) (by decide) (by rfl) (by rfl)) (by rfl)) (@aj _ _ _ _ _ (@kZ _ _ _ _ _ _ _ _ rfl (@bh _ _ _ _ _ _ (by rfl) T.n_range (@aa _ _ _ _ _ (@aq _ _ _ _ _ _ _ (ixT K) (pv 0) ah (fun _ _=>rfl)) af (by rfl)) (by rfl)) (ax (i:=3) dm.nd rfl (Or.inl rfl)) (@aj _ _ _ _ _ (@ce _ _ _ _ _ _ _ _ (@aE _ _ _ _ _ _ _ _ ml (@aq _ _ _ _ _ _ _ (ixT K) (@aq _ _ _ _ _ _ _ (ixT K) (@aq _ _ _ _ _ _ _ (ixT K) (pv 2) (pv 3) (fun _ _=>rfl)) (pv 3) (fun _ _=>rfl)) ah (fun _ _=>rfl)) ah (aD _)) (@ao _ _ _ (@az _ _ _ _ eM)) aU) (@ao _ _ _ (@dR _ _ _ _ _ _ _ _ PassesOwn.never rfl (@mQ _ _ _ _ K _ _ _ _ (by rfl) T.n_enumerate (@aa _ _ _ _ _ (@aq _ _ _ _ _ _ _ (ixT K) (pv 0) ah (fun _ _=>rfl)) af (by rfl)) (by rfl) (by rfl)) (@pgT _ _ K _ _ 2 _ rfl (@aQ _ _ _ _ _ (ax (i:=4) dm.nd rfl (Or.inl rfl)) (@aQ _ _ _ _ _ (ax (i:=5) dm.nd rfl (Or.inl rfl)) eD (by rfl)) (by rfl)) (by rfl) (by rfl) (by rfl)) (@ao _ _ _ (@ce _ _ _ _ _ _ _ _ (@kb _ _ _ _ (@eT _ _ _ (@au _ _ _ _ _ _ _ _ _ _ _ _ _ _ _ _ hJ (hr.mono (by decide)) (by rfl) T.m_tie_stands T.k_tie_stands T.b_tie_stands .nil aK (@aa _ _ _ _ _ (pv 5) (@aa _ _ _ _ _ (@iE _ _ _ _ _ _ _ _ (@eT _ _ _ (@au _ _ _ _ _ _ _ _ _ _ _ _ _ _ _ _ cX (hr.mono (by decide)) (by rfl) T.m_has_tie T.k_has_tie T.b_has_tie .nil aK (@aa _ _ _ _ _ (pv 1) (@aa _ _ _ _ _ (pv 4) af (by rfl)) (by rfl)) (by decide) (by rfl) (by rfl)) (by intro _;rfl)) ah ah) (@aa _ _ _ _ _ (@aq _ _ _ _ _ _ _ (ixT K) (pv 2) (pv 3) (fun _ _=>rfl)) af (by rfl)) (by rfl)) (by rfl)) (by decide) (by rfl) (by rfl)) (by intro _;rfl))) (@ao _ _ _ (@az _ _ _ _ eM)) aU)) (by intro _;rfl)))) (by intro _;rfl)) (@ao _ _ _ (@az _ _ _ _ eM)))),?_⟩
  refine kT ?_
  intro zz0 zz1 zz2 zz3 zz4 zz5 zz6
  refine(exq rfl (exq rfl ⟨wb,p,ts,S,rfl,hw,Wb,?_⟩))
  rcases q with⟨m,rfl,hm,q1,q2⟩|⟨hS,q⟩
  ·refine .inl ⟨m,rfl,hm,?_⟩
   obtain⟨bt,xs,h1,h2,h3⟩:=id hw.ex
   obtain⟨ws,hws,prW⟩:=id hW
   have hxl:=h3.length
   have wp:=Wb.pts
   have wl:=Wb.len
   refine(exq rfl (ixq (SqT.of h1) (ai (j:=0) rfl) (exq rfl ⟨(by omega),(by omega),?_⟩)))
   refine og (lo:=0) (n:=(p:Int).toNat) (fun i σ H2=>∃ v3 v4 v5,σ=[some (.ref wb),some (.int (m:Int)),some (.ref b),v3,v4,v5]∧am H H2∧∀ j,j<i→yN ts m j (W.getD j [])) ⟨none,none,none,rfl,am.refl _,fun j hj=>by omega⟩ ?_ ?_
   ·rintro i σ H2 hi ⟨v3,v4,v5,rfl,s2,ok⟩
    rw[Int.toNat_natCast]at hi
    rw[Int.zero_add]
    obtain⟨x,hx,bR,ys,rfl,hbR,prR⟩:=eg prW (i:=i) (by rw[sq.1];exact hi) []
    have rl:=sq.row hi
    obtain⟨bP,eP,hbP⟩:=jc.at prR (i:=i) (by omega)
    refine(exq rfl (exq rfl (ixq (SqT.of (s2 _ _ hws)) (ai (j:=i) hx) (exq rfl (ixq (SqT.of (s2 _ _ hbR)) (ai (j:=i) eP) (ixq (SqT.of (s2 _ _ hbP)) (ai (j:=0) rfl) (?_)))))))
    refine⟨yh _,_,rfl,?_⟩
    by_cases h0:(cH (W.getD i []) i).1=some 0
    case neg =>
     refine xj (fun z=>h0 ?_) (q2 (fun z=>h0 (z i hi).1) _ s2)
     have e:=yl (cH (W.getD i []) i).1
     rw[decide_eq_true z]at e
     exact of_decide_eq_true e.symm
    refine vq (by rw[h0];rfl) ?_
    refine(exq rfl (ixq (SqT.of (s2 _ _ h1)) (ai (j:=1) rfl) ⟨bt,rfl,⟨_,SqT.of (s2 _ _ h2)⟩,?_⟩))
    refine nY (K:=K) (a:=bt) (xs:=xs) (fun k σ H3=>∃ v4 v5,σ=[some (.ref wb),some (.int (m:Int)),some (.ref b),some (.int (i:Int)),v4,v5]∧am H H3∧∀ j,j<k→rk (W.getD i []) (bc ts j) (m.testBit j)=true) ⟨v4,v5,rfl,s2,fun j hj=>by omega⟩ (fun k σ H3 _ ⟨_,_,_,z,_⟩=>SqT.of (z _ _ h2)) ?_ ?_
    ·rintro k x T0 σ H3 hk ⟨v4,v5,rfl,s3,ok3⟩ hT
     have hkx:k<xs.length:=(List.getElem?_eq_some_iff.mp hk).1
     obtain⟨t,ht,ct,rfl,hct⟩:=Paired.getP h3 hk
     have htt:bc ts k=t:=by
      unfold bc
      rw[List.getD_eq_getElem?_getD,ht]
      rfl
     obtain⟨g0,g1,g2,g3⟩:=Wb.inw.ends t (List.mem_of_getElem? ht)
     have s4:am H3 (upd H3 T0 (.tup [.int (k:Int),.ref ct])):=am.new hT
     have hT4:upd H3 T0 (.tup [.int (k:Int),.ref ct]) T0=some (.tup [.int (k:Int),.ref ct]):=ag
     generalize upd H3 T0 (.tup [.int (k:Int),.ref ct])=H4 at s4 hT4
     have s04:=s3.trans s4
     refine⟨T0,_,rfl,SqT.of hT4,rfl,_,_,rfl,_,_,rfl,rfl,?_⟩
     refine(exq rfl (exq rfl (exq rfl ⟨(m:Int),k,rfl,exq rfl (?_)⟩)))
     rw[dS]
     cases hb:m.testBit k with
     | true =>
       refine df (exq rfl (exq rfl (ixq (SqT.of (s04 _ _ hws)) (ai (j:=i) hx) ⟨ct,bR,t,true,ys,_,rfl,s04 _ _ hct,s04 _ _ hbR,Paired.imp' (fun _ _ z=>z.same s04) prR,g0,by omega,g2,by omega,_,rfl,?_⟩)))
       cases hB:rk (W.getD i []) t true with
       | false=>exact df (q2 (fun z=>by
        have:=(z i hi).2 k (by omega)
        rw[htt,hb,hB]at this
        cases this) _ s04)
       | true =>
         refine cg ⟨_,_,rfl,s04,fun j hj=>?_⟩
         by_cases e:j=k
         ·rw[e,htt,hb]
          exact hB
         ·exact ok3 j (by omega)
     | false =>
       refine cg (exq rfl (exq rfl (ixq (SqT.of (s04 _ _ hws)) (ai (j:=i) hx) ⟨ct,bR,t,false,ys,_,rfl,s04 _ _ hct,s04 _ _ hbR,Paired.imp' (fun _ _ z=>z.same s04) prR,g0,by omega,g2,by omega,_,rfl,?_⟩)))
       cases hB:rk (W.getD i []) t false with
       | false=>exact df (q2 (fun z=>by
        have:=(z i hi).2 k (by omega)
        rw[htt,hb,hB]at this
        cases this) _ s04)
       | true =>
         refine cg ⟨_,_,rfl,s04,fun j hj=>?_⟩
         by_cases e:j=k
         ·rw[e,htt,hb]
          exact hB
         ·exact ok3 j (by omega)
    ·rintro σ H3 ⟨v4,v5,rfl,s3,ok3⟩
     rw[hxl]at ok3
     refine⟨_,_,_,rfl,s3,fun j hj=>?_⟩
     by_cases e:j=i
     ·rw[e]
      exact⟨h0,ok3⟩
     ·exact ok j (by omega)
   ·rintro σ H2 ⟨v3,v4,v5,rfl,s2,ok⟩
    rw[Int.toNat_natCast]at ok
    exact q1 ok _ s2
  ·exact .inr ⟨hS,q _ (am.refl _)⟩
end
def wM(p:Nat)(W:List (List Pr))(l:Int):Prop:=∀ i,i<p→∀ d,(cH (W.getD i []) i).2=some d→l≤d
def shB(o:Option Int)(l:Int):Bool:=match o with
 | none=>true
 | some d=>decide (l≤d)
def nK(W:List (List Pr))(i:Nat):List V:=(List.range i).map fun j=>oV (cH (W.getD j []) j).2
theorem uD(W:List (List Pr))(i:Nat):nK W (i+1)=nK W i++[oV (cH (W.getD i []) i).2]:=by
 unfold nK
 rw[List.range_succ,List.map_append]
 rfl
def ic:Sp:=fun vs H Q _=>∃(b:Addr) (p:Nat) (W:List (List Pr)) (l:Int),vs=[.ref b,.int l]∧cQ H b W∧Sqr p W∧p≤10∧∀ H' (d:Bool),am H H'→(d=true↔wM p W l)→Q (.bl d) H'
def sh(p:Nat)(ts:List Tie)(g:GoodWeb p ts)(m:Nat):List Int ⊕ (Int×List (List Pr))→Prop
 | .inl zs=>yI p ts g m (.inl zs)
 | .inr (z,W)=>∃ r:Nat,z=(r:Int)∧r<2^ts.length∧(ad p ts g).Ring r∧(aB ((r&&&m:Nat):Int)).length%2=1∧pz p ts m W∧wM p W (rB ts r)
def zU(p:Nat)(H:Hp)(b:Addr):List Int ⊕ (Int×List (List Pr))→Prop
 | .inl zs=>∃ l,H b=some (.tup [.str "side",.ref l])∧H l=some (.lst (zs.map V.int))∧zs.length≤40
 | .inr (z,W)=>∃ c,H b=some (.tup [.str "ring",.int z,.ref c])∧cQ H c W∧Sqr p W
def io:Sp:=fun vs H Q _=>∃(w b:Addr) (p:Nat) (ts:List Tie),∃ g:GoodWeb p ts,∃(W:List (List Pr)) (m:Nat) (z:Int),vs=[.ref w,.int (m:Int),.int z,.ref b]∧WebAt H w p ts∧cQ H b W∧Sqr p W∧m<2^ts.length∧
 ∀ H' (d:Bool),am H H'→(d=true↔sh p ts g m (.inr (z,W)))→Q (.bl d) H'
def iW(C:Addr):Sp:=fun vs H Q E=>∃ w p ts,∃ g:GoodWeb p ts,∃(S:Int) (b:Addr) (x:List Int ⊕ (Int×List (List Pr))),vs=[.ref w,.int S,.ref b]∧WebAt H w p ts∧zU p H b x∧iA ts S (∀ H',am H H'→E (.ref C) none H') fun m =>
 ∀ H' (d:Bool),am H H'→(d=true↔sh p ts g m x)→Q (.bl d) H'
section
variable {P:Program}{w:World}{K:PySem.W.Frag}{mg:Str→Option Value}{base:Heap}{a:Adr}
theorem fD(T:Txt K mg a):FnOk P w K mg base CX0 1 a.f_none_shorter a.d_none_shorter ["worths","length"] ic:=by
 refine T.F_none_shorter.ok ib (fun vs H Q E h=>?_) (fun cdv A outer s H vs Q E hr h=>?_)
 ·obtain⟨b,p,W,l,rfl,_⟩:=h
  rfl
 ·obtain⟨b,p,W,l,rfl,hW,sq,hp,q⟩:=h
  refine⟨_,(@aj _ _ _ _ _ (@e8 _ _ _ _ _ _ _ ["point"] ["worths"] [0] _ _ _ _ 2 _ _ _ ib.nd rfl rfl (aF (ae bu) ["worths","length","rounds"]) rfl (@bh _ _ _ _ _ _ (by rfl) T.n_range (@aa _ _ _ _ _ (@aA _ _ _ _ _ _ _ _ _ (gN K) (by rfl) T.n_len PySem.boot_len (@aa _ _ _ _ _ (pv 0) af (by rfl)) (by decide) (by decide) (by rfl) (by rfl)) af (by rfl)) (by rfl)) (fun _ _ _ _=>(ax (i:=0) (show(["point","worths"]:List Str).Nodup by decide +kernel) rfl (Or.inl rfl))) (fun _ _ _ _=>dk) (fun _ _ _ _=>(aq (ixT K) (aq (ixT K) (aq (ixT K) (pv 1) (pv 0) (fun _ _=>rfl)) (pv 0) (fun _ _=>rfl)) ah (fun _ _=>rfl))) (by rfl) (by intro _;rfl)) (@ao _ _ _ (@az _ _ _ _ (@aA _ _ _ _ _ _ _ _ _ (aaW K rfl) (by rfl) T.n_all PyProof.Rows.boot_all (@aa _ _ _ _ _ (@dr _ _ _ _ _ _ _ ["worth"] ["length"] [1] _ _ _ _ (aF (ae bu) ["worths","length","rounds"]) rfl (@piL _ _ _ _ K (pv 2) (by rfl)) (fun _ _ _ _=>(ax (i:=0) (show(["worth","length"]:List Str).Nodup by decide +kernel) rfl (Or.inl rfl))) (fun _ _ _ _=>dk) (fun _ _ _ _=>(aaG (bQ jm (pv 0) dJ (aD _)) (iG (bQ qp (pv 0) (pv 1) (aD _))))) (by intro _;rfl)) af (by rfl)) (by decide) (by decide) (by rfl) (by rfl))))),?_⟩
  refine kR ?_
  intro zz0
  obtain⟨ws,hws,prW⟩:=id hW
  have wsl:ws.length=p:=by rw[prW.length,sq.1]
  refine(exq rfl (lnq rfl (.inr (SqT.of hws)) (exq rfl ⟨(by omega),(by omega),fun D hD=>bL (lo:=0) (m:=ws.length) (fun i acc H2=>am H H2∧H2 D=some (.lst acc)∧acc=nK W i) ⟨am.new hD,ag,rfl⟩ (fun i acc H2 _ z=>⟨z.2.1,by rw[z.2.2];unfold nK;rw[List.length_map,List.length_range];exact Nat.le_refl _⟩) (fb (by omega)) ?_ ?_⟩)))
  ·rintro i acc H2 hi ⟨s2,hD2,e2⟩
   rw[Int.zero_add]
   have hi:i<p:=by omega
   obtain⟨x,hx,bR,ys,rfl,hbR,prR⟩:=eg prW (i:=i) (by rw[sq.1];exact hi) []
   have rl:=sq.row hi
   obtain⟨bP,eP,hbP⟩:=jc.at prR (i:=i) (by omega)
   refine⟨rfl,exq rfl (exq rfl (ixq (SqT.of (s2 _ _ hws)) (ai (j:=i) hx) (exq rfl (ixq (SqT.of (s2 _ _ hbR)) (ai (j:=i) eP) (ixq (SqT.of (s2 _ _ hbP)) (ai (j:=1) rfl) ⟨hD2,s2.put hD,ag,?_⟩)))))⟩
   rw[uD,e2]
  ·rintro acc H2 ⟨s2,hD2,rfl⟩
   refine(exq rfl ⟨D,rfl,⟨_,SqL.of hD2⟩,fun D2 hD2n=>dz (xs:=nK W ws.length) (fun i acc H3=>am H2 H3∧H3 D2=some (.lst acc)∧acc=((List.range i).map fun j=>shB (cH (W.getD j []) j).2 l).map V.bl) ⟨am.new hD2n,ag,rfl⟩ (fun i acc H3 _ z=>⟨SqL.of (z.1 _ _ hD2),z.2.1,by rw[z.2.2];rw[List.length_map,List.length_map,List.length_range];exact Nat.le_refl _⟩) (fb (by unfold nK;rw[List.length_map,List.length_range];omega)) ?_ ?_⟩)
   ·rintro i x acc H3 hx ⟨s3,hD3,rfl⟩
    unfold nK at hx
    rw[List.getElem?_map]at hx
    obtain⟨j,hj,rfl⟩:=Option.map_eq_some_iff.mp hx
    have ej:j=i:=by
     obtain⟨h1,h2⟩:=List.getElem?_eq_some_iff.mp hj
     rw[List.getElem_range]at h2
     exact h2.symm
    subst ej
    have nxt:∀ bl,shB (cH (W.getD j []) j).2 l=bl→H3 D2=some (.lst (((List.range j).map fun j=>shB (cH (W.getD j []) j).2 l).map V.bl))∧am H2 (upd H3 D2 (.lst ((((List.range j).map fun j=>shB (cH (W.getD j []) j).2 l).map V.bl)++[.bl bl])))∧upd H3 D2 (.lst ((((List.range j).map fun j=>shB (cH (W.getD j []) j).2 l).map V.bl)++[.bl bl])) D2=some (.lst ((((List.range j).map fun j=>shB (cH (W.getD j []) j).2 l).map V.bl)++[.bl bl]))∧(((List.range j).map fun j=>shB (cH (W.getD j []) j).2 l).map V.bl)++[.bl bl]=((List.range (j+1)).map fun j=>shB (cH (W.getD j []) j).2 l).map V.bl:=by
     intro bl hb
     refine⟨hD3,s3.put hD2n,ag,?_⟩
     rw[List.range_succ,List.map_append,List.map_append]
     show _=_++[V.bl (shB (cH (W.getD j []) j).2 l)]
     rw[hb]
    generalize hv:(cH (W.getD j []) j).2=o at nxt
    cases o with
    | none=>exact⟨rfl,exq rfl ⟨rfl,exq rfl (sw rfl (nxt true rfl))⟩⟩
    | some d=>exact⟨rfl,exq rfl ⟨rfl,exq rfl (kS (fun z=>nomatch z) (exq rfl (exq rfl (ijq (nxt _ rfl)))))⟩⟩
   ·rintro acc H3 ⟨s3,hD3,rfl⟩
    refine⟨D2,_,rfl,SqL.of hD3,q H3 _ (s2.trans s3) ?_⟩
    rw[List.all_eq_true]
    have hl:(nK W ws.length).length=p:=by unfold nK;rw[List.length_map,List.length_range,wsl]
    rw[hl]
    constructor
    ·intro h i hi d hd
     have:=h _ (List.mem_map.mpr ⟨i,List.mem_range.mpr hi,rfl⟩)
     rw[hd]at this
     exact of_decide_eq_true this
    ·intro h x hx
     obtain⟨j,hj,rfl⟩:=List.mem_map.mp hx
     have hj:=List.mem_range.mp hj
     show shB _ l=true
     cases hd:(cH (W.getD j []) j).2 with
     | none=>rfl
     | some d=>exact decide_eq_true (h j hj d hd)
theorem fT(T:Txt K mg a):FnOk P w K mg base CX0 9 a.f_ring_stands a.d_ring_stands ["web","marks","ring","worths"] io:=by
 have eh:FnOk P w K mg base CX0 8 a.f_is_ring_number a.d_is_ring_number ["web","number"] fN:=eh T
 have cD:FnOk P w K mg base CX0 4 a.f_bears_oddly a.d_bears_oddly ["tie_set","marks"] mV:=cD T
 have fF:FnOk P w K mg base (CX1 P w) 4 a.f_worths_stand a.d_worths_stand ["web","marks","worths"] (ie a.c_BadSet):=fF T
 have fD:FnOk P w K mg base CX0 1 a.f_none_shorter a.d_none_shorter ["worths","length"] ic:=fD T
 have il:FnOk P w K mg base (CX1 P w) 5 a.f_length_of a.d_length_of ["web","tie_set"] (jB a.c_BadSet):=il T
 refine T.F_ring_stands.ok lP (fun vs H Q E h=>?_) (fun cdv A outer s H vs Q E hr h=>?_)
 ·obtain⟨w,b,p,ts,g,W,m,z,rfl,_⟩:=h
  rfl
 ·obtain⟨wb,b,p,ts,g,W,m,z,rfl,hw,hW,sq,hm,q⟩:=h
  refine⟨_,(@aj _ _ _ _ _ (@ce _ _ _ _ _ _ _ _ (PW.pt (@kC _ _ _ _ _ _ _ (@kb _ _ _ _ (@eT _ _ _ (@au _ _ _ _ _ _ _ _ _ _ _ _ _ _ _ _ eh (hr.mono (by decide)) (by rfl) T.m_is_ring_number T.k_is_ring_number T.b_is_ring_number .nil aK (@aa _ _ _ _ _ (pv 0) (@aa _ _ _ _ _ (pv 2) af (by rfl)) (by rfl)) (by decide) (by rfl) (by rfl)) (by intro _;rfl))) (@iy _ _ _ _ (@kb _ _ _ _ (@eT _ _ _ (@au _ _ _ _ _ _ _ _ _ _ _ _ _ _ _ _ cD (hr.mono (by decide)) (by rfl) T.m_bears_oddly T.k_bears_oddly T.b_bears_oddly .nil aK (@aa _ _ _ _ _ (pv 2) (@aa _ _ _ _ _ (pv 1) af (by rfl)) (by rfl)) (by decide) (by rfl) (by rfl)) (by intro _;rfl)))))) (@ao _ _ _ (@az _ _ _ _ eM)) aU) (@ao _ _ _ (@az _ _ _ _ (@jk _ _ _ _ _ _ _ (@au _ _ _ _ _ _ _ _ _ _ _ _ _ _ _ _ fF (hr.mono (by decide)) (by rfl) T.m_worths_stand T.k_worths_stand T.b_worths_stand .nil pe (@aa _ _ _ _ _ (pv 0) (@aa _ _ _ _ _ (pv 1) (@aa _ _ _ _ _ (pv 3) af (by rfl)) (by rfl)) (by rfl)) (by decide) (by rfl) (by rfl)) (@iG _ _ _ _ _ (@au _ _ _ _ _ _ _ _ _ _ _ _ _ _ _ _ fD (hr.mono (by decide)) (by rfl) T.m_none_shorter T.k_none_shorter T.b_none_shorter .nil aK (@aa _ _ _ _ _ (pv 3) (@aa _ _ _ _ _ (@au _ _ _ _ _ _ _ _ _ _ _ _ _ _ _ _ il (hr.mono (by decide)) (by rfl) T.m_length_of T.k_length_of T.b_length_of .nil pe (@aa _ _ _ _ _ (pv 0) (@aa _ _ _ _ _ (pv 2) af (by rfl)) (by rfl)) (by decide) (by rfl) (by rfl)) af (by rfl)) (by rfl)) (by decide) (by rfl) (by rfl))))))),?_⟩
  refine mY ?_
  intro zz0 zz1
  have wl:=g.len
  have wp:=g.p2
  refine(exq rfl (exq rfl ⟨wb,p,ts,g,z,rfl,hw,fun H1 d s1 hd=>(exq rfl (?_))⟩))
  cases d with
  | false=>exact df (q H1 false s1 ⟨fun z=>(Bool.false_ne_true z).elim,fun⟨r,e,hr,rg,_⟩=>hd.mpr ⟨r,e,hr,rg⟩⟩)
  | true =>
    obtain⟨r,rfl,hr',rg⟩:=hd.mp rfl
    have hbits:Builtin.Int.intBits ((r&&&m:Nat):Int)≤1000:=by
     have h1:r&&&m<2^ts.length:=Nat.and_lt_two_pow _ hm
     have h2:=eE h1
     omega
    have one:∀ r2:Nat,(r:Int)=(r2:Int)→r2=r:=fun r2 e=>by omega
    refine cg (exq rfl (exq rfl ⟨_,_,r,m,rfl,rfl,rfl,hbits,fun H2 s2=>(exq rfl (?_))⟩))
    by_cases ho:(aB ((r&&&m:Nat):Int)).length%2=1
    case neg =>
     rw[decide_eq_false ho]
     refine df (q H2 false (s1.trans s2) ⟨fun z=>(Bool.false_ne_true z).elim,fun⟨r2,e,_,_,h,_⟩=>absurd h ?_⟩)
     rw[one r2 e]
     exact ho
    rw[decide_eq_true ho]
    have s12:=s1.trans s2
    refine cg (exq rfl (exq rfl (exq rfl ⟨wb,b,p,ts,W,_,rfl,hw.same s12,g.web,hW.same s12,sq,.inl ⟨m,rfl,hm,fun st H3 s3=>?_,fun nst H3 s3=>?_⟩⟩)))
    ·have s13:=s12.trans s3
     refine(exq rfl (df (exq rfl (exq rfl (exq rfl ⟨wb,p,ts,_,rfl,hw.same s13,g.web,.inl ⟨r,rfl,hr',fun H4 s4=>?_⟩⟩)))))
     have s14:=s13.trans s4
     refine⟨b,p,W,_,rfl,hW.same s14,sq,wp,fun H5 d5 s5 hd5=>q H5 d5 (s14.trans s5) ?_⟩
     rw[hd5]
     exact⟨fun h=>⟨r,rfl,hr',rg,ho,st,h⟩,fun⟨r2,e,_,_,_,_,h⟩=>by rw[one r2 e]at h;exact h⟩
    ·refine(exq rfl (cg (q H3 false (s12.trans s3) ⟨fun z=>(Bool.false_ne_true z).elim,fun⟨r2,e,_,_,_,st,_⟩=>absurd st nst⟩)))
theorem gO(T:Txt K mg a):FnOk P w K mg base (CX1 P w) 10 a.f_odd_judged a.d_odd_judged ["web","marks","answer"] (iW a.c_BadSet):=by
 have aP:FnOk P w K mg base (CX1 P w) 3 a.f_check_set a.d_check_set ["web","tie_set"] (cU a.c_BadSet):=aP T
 have g8:FnOk P w K mg base CX0 3 a.f_is_side_of a.d_is_side_of ["web","side","tie_set"] iX:=g8 T
 have fT:FnOk P w K mg base CX0 9 a.f_ring_stands a.d_ring_stands ["web","marks","ring","worths"] io:=fT T
 refine T.F_odd_judged.ok1 nk (fun vs H Q E h=>?_) (fun cdv A outer s H vs Q E hr h=>?_)
 ·obtain⟨w,p,ts,g,S,b,x,rfl,_⟩:=h
  rfl
 ·obtain⟨wb,p,ts,g,S,b,x,rfl,hw,hx,q⟩:=h
  refine⟨_,(@aj _ _ _ _ _ (@cG _ _ _ _ (@au _ _ _ _ _ _ _ _ _ _ _ _ _ _ _ _ aP (hr.mono (by decide)) (by rfl) T.m_check_set T.k_check_set T.b_check_set .nil du.passes (@aa _ _ _ _ _ (pv 0) (@aa _ _ _ _ _ (pv 1) af (by rfl)) (by rfl)) (by decide) (by rfl) (by rfl)) (by rfl)) (@aj _ _ _ _ _ (@ce _ _ _ _ _ _ _ _ (@aE _ _ _ _ _ _ _ _ dU (@aq _ _ _ _ _ _ _ (ixT K) (pv 2) ah (fun _ _=>rfl)) g7 (aD _)) (@ao _ _ _ (@az _ _ _ _ (@au _ _ _ _ _ _ _ _ _ _ _ _ _ _ _ _ g8 (hr.mono (by decide)) (by rfl) T.m_is_side_of T.k_is_side_of T.b_is_side_of .nil aK (@aa _ _ _ _ _ (pv 0) (@aa _ _ _ _ _ (@aq _ _ _ _ _ _ _ (ixT K) (pv 2) ah (fun _ _=>rfl)) (@aa _ _ _ _ _ (pv 1) af (by rfl)) (by rfl)) (by rfl)) (by decide) (by rfl) (by rfl)))) aU) (@ao _ _ _ (@az _ _ _ _ (@au _ _ _ _ _ _ _ _ _ _ _ _ _ _ _ _ fT (hr.mono (by decide)) (by rfl) T.m_ring_stands T.k_ring_stands T.b_ring_stands .nil aK (@aa _ _ _ _ _ (pv 0) (@aa _ _ _ _ _ (pv 1) (@aa _ _ _ _ _ (@aq _ _ _ _ _ _ _ (ixT K) (pv 2) ah (fun _ _=>rfl)) (@aa _ _ _ _ _ (@aq _ _ _ _ _ _ _ (ixT K) (pv 2) ah (fun _ _=>rfl)) af (by rfl)) (by rfl)) (by rfl)) (by rfl)) (by decide) (by rfl) (by rfl)))))),?_⟩
  refine nM ?_
  intro zz0 zz1 zz2
  refine(exq rfl (exq rfl ⟨wb,p,ts,S,rfl,hw,g.web,?_⟩))
  rcases q with⟨m,rfl,hm,q⟩|⟨hS,q⟩
  case inr=>exact .inr ⟨hS,q _ (am.refl _)⟩
  refine .inl ⟨m,rfl,hm,?_⟩
  cases x with
  | inl zs =>
    obtain⟨l,hb,hl,_⟩:=hx
    refine(exq rfl (ixq (SqT.of hb) (ai (j:=0) rfl) ⟨rfl,exq rfl (?_)⟩))
    rw[decide_eq_true rfl]
    exact df (exq rfl (exq rfl (ixq (SqT.of hb) (ai (j:=1) rfl) (exq rfl ⟨wb,p,ts,g,l,zs,m,rfl,hw,hl,q⟩))))
  | inr zW =>
    obtain⟨z,W⟩:=zW
    obtain⟨c,hb,hW,sq⟩:=hx
    refine(exq rfl (ixq (SqT.of hb) (ai (j:=0) rfl) ⟨rfl,exq rfl (?_)⟩))
    rw[decide_eq_false (by intro z;cases z)]
    exact cg (exq rfl (exq rfl (exq rfl (ixq (SqT.of hb) (ai (j:=1) rfl) (exq rfl (ixq (SqT.of hb) (ai (j:=2) rfl) ⟨wb,c,p,ts,g,W,m,z,rfl,hw,hW,sq,hm,q⟩))))))
end
def qT:Sp:=fun vs H Q _=>∃ w p ts,∃ g:GoodWeb p ts,∃ m:Nat,vs=[.ref w,.int (m:Int)]∧WebAt H w p ts∧m<2^ts.length∧
 ∀ D es S H',es.length=p→StV m H D es S H'→StK (ad p ts g) ts.length S→Q (.ref D) H'
theorem zc{b:Bool}{σ:St}{f:VK}{H:Hp}(h:f (.int (b.toNat:Int)) H):if b=true then tC (.int 1) σ H f else tC (.int 0) σ H f:=by
 cases b<;>exact h
section
variable {P:Program}{w:World}{K:PySem.W.Frag}{mg:Str→Option Value}{base:Heap}{a:Adr}
theorem ed(T:Txt K mg a):FnOk P w K mg base CX0 2 a.f_steps_by_point a.d_steps_by_point ["web","marks"] qT:=by
 have cX:FnOk P w K mg base CX0 1 a.f_has_tie a.d_has_tie ["tie_set","tie"] gE:=cX T
 refine T.F_steps_by_point.ok bV (fun vs H Q E h=>?_) (fun cdv A outer s H vs Q E hr h=>?_)
 ·obtain⟨w,p,ts,g,m,rfl,_⟩:=h
  rfl
 ·obtain⟨wb,p,ts,g,m,rfl,hw,hm,q⟩:=h
  refine⟨_,(@aj _ _ _ _ _ (@e8 _ _ _ _ _ _ _ ["point"] [] [] _ _ _ _ 2 _ _ _ bV.nd rfl rfl (aF (ae bn) ["web","marks","steps","tie","ends","turn"]) rfl (@bh _ _ _ _ _ _ (by rfl) T.n_range (@aa _ _ _ _ _ (@aq _ _ _ _ _ _ _ (ixT K) (pv 0) ah (fun _ _=>rfl)) af (by rfl)) (by rfl)) (fun _ _ _ _=>(ax (i:=0) (show(["point"]:List Str).Nodup by decide +kernel) rfl (Or.inl rfl))) (fun _ _ _ _=>dk) (fun _ _ _ _=>(bY af)) (by rfl) (by intro _;rfl)) (@aj _ _ _ _ _ (@dR _ _ _ _ _ _ _ _ PassesOwn.never rfl (@mQ _ _ _ _ K _ _ _ _ (by rfl) T.n_enumerate (@aa _ _ _ _ _ (@aq _ _ _ _ _ _ _ (ixT K) (pv 0) ah (fun _ _=>rfl)) af (by rfl)) (by rfl) (by rfl)) (@pgT _ _ K _ _ 2 _ rfl (@aQ _ _ _ _ _ (ax (i:=3) bV.nd rfl (Or.inl rfl)) (@aQ _ _ _ _ _ (ax (i:=4) bV.nd rfl (Or.inl rfl)) eD (by rfl)) (by rfl)) (by rfl) (by rfl) (by rfl)) (@aj _ _ _ _ _ (@aC _ _ 5 _ _ _ _ bV.nd rfl (Or.inl rfl) (@iE _ _ _ _ _ _ _ _ (@eT _ _ _ (@au _ _ _ _ _ _ _ _ _ _ _ _ _ _ _ _ cX (hr.mono (by decide)) (by rfl) T.m_has_tie T.k_has_tie T.b_has_tie .nil aK (@aa _ _ _ _ _ (pv 1) (@aa _ _ _ _ _ (pv 3) af (by rfl)) (by rfl)) (by decide) (by rfl) (by rfl)) (by intro _;rfl)) ah ah) (by rfl) (by first | exact .inl rfl | exact .inr rfl | assumption)) (@aj _ _ _ _ _ (@cG _ _ _ _ (@bmK _ _ _ _ _ _ K (@kI _ _ _ _ _ _ _ _ _ _ _ _ PySem.F.plainAttrs_list PySem.F.slot_list_append PySem.F.type_list_append cV (@aq _ _ _ _ _ _ _ (ixL K) (pv 2) (@aq _ _ _ _ _ _ _ (ixT K) (pv 4) ah (fun _ _=>rfl)) (fun _ _=>rfl)) (@aa _ _ _ _ _ (@cq _ _ _ _ _ (@aa _ _ _ _ _ (pv 3) (@aa _ _ _ _ _ (@aq _ _ _ _ _ _ _ (ixT K) (pv 4) ah (fun _ _=>rfl)) (@aa _ _ _ _ _ (pv 5) af (by rfl)) (by rfl)) (by rfl))) af (by rfl)) (by rfl) (by rfl) (by rfl) (by rfl) (by rfl)) (by rfl)) (by rfl)) (@ao _ _ _ (@cG _ _ _ _ (@bmK _ _ _ _ _ _ K (@kI _ _ _ _ _ _ _ _ _ _ _ _ PySem.F.plainAttrs_list PySem.F.slot_list_append PySem.F.type_list_append cV (@aq _ _ _ _ _ _ _ (ixL K) (pv 2) (@aq _ _ _ _ _ _ _ (ixT K) (pv 4) ah (fun _ _=>rfl)) (fun _ _=>rfl)) (@aa _ _ _ _ _ (@cq _ _ _ _ _ (@aa _ _ _ _ _ (pv 3) (@aa _ _ _ _ _ (@aq _ _ _ _ _ _ _ (ixT K) (pv 4) ah (fun _ _=>rfl)) (@aa _ _ _ _ _ (pv 5) af (by rfl)) (by rfl)) (by rfl))) af (by rfl)) (by rfl) (by rfl) (by rfl) (by rfl) (by rfl)) (by rfl)) (by rfl))))) (by intro _;rfl)) (@ao _ _ _ (@az _ _ _ _ (pv 2))))),?_⟩
  refine jy ?_
  intro zz0 zz1 zz2 zz3 zz4
  obtain⟨bt,xs,h1,h2,h3⟩:=id hw.ex
  have hxl:=h3.length
  have wp:=g.p2
  have wl:=g.len
  refine(exq rfl (ixq (SqT.of h1) (ai (j:=0) rfl) (exq rfl ⟨(by omega),(by omega),fun D hD=>bL (lo:=0) (m:=p) (StC m H D) (.start hD) (fun i acc H2 _ z=>z.len) (dl (Nat.ble_eq.mpr (by omega))) ?_ ?_⟩)))
  ·rintro i acc H2 hi f2
   exact⟨rfl,dl rfl,fun l hl=>f2.next hl⟩
  rintro acc H2 ⟨es,rfl,hel,f2⟩
  refine(exq rfl (ixq (SqT.of (f2.same _ _ h1)) (ai (j:=1) rfl) ⟨bt,rfl,⟨_,SqT.of (f2.same _ _ h2)⟩,?_⟩))
  refine nY (K:=K) (a:=bt) (xs:=xs) (fun k σ H3=>∃ v3 v4 v5,σ=[some (.ref wb),some (.int (m:Int)),some (.ref D),v3,v4,v5]∧∃ S,StV m H D es S H3∧StK (ad p ts g) k S) ⟨none,none,none,rfl,_,f2,StK.start⟩ (fun k σ H3 _ ⟨_,_,_,_,_,z,_⟩=>SqT.of (z.same _ _ h2)) ?_ ?_
  ·rintro k x T0 σ H3 hk ⟨v3,v4,v5,rfl,S,f3,k3⟩ hT
   have hkx:k<xs.length:=(List.getElem?_eq_some_iff.mp hk).1
   have hkl:k<ts.length:=by omega
   obtain⟨ct,ex,hct⟩:=lC (g:=g) h3 hkl
   rw[hk]at ex
   cases ex
   have s4:am H3 (upd H3 T0 (.tup [.int (k:Int),.ref ct])):=am.new hT
   have hT4:upd H3 T0 (.tup [.int (k:Int),.ref ct]) T0=some (.tup [.int (k:Int),.ref ct]):=ag
   have f4:=f3.go s4
   generalize upd H3 T0 (.tup [.int (k:Int),.ref ct])=H4 at f4 hT4
   refine⟨T0,_,rfl,SqT.of hT4,rfl,_,_,rfl,_,_,rfl,rfl,?_⟩
   refine(exq rfl (exq rfl ⟨(m:Int),k,rfl,exq rfl (?_)⟩))
   rw[dS]
   have ha:(ad p ts g).a k<p:=(ad p ts g).al k hkl
   have hb:(ad p ts g).b k<p:=(ad p ts g).bl k hkl
   have hct4:=f4.same _ _ hct
   refine zc ?_
   obtain⟨b1,cs1,e1,e1',hb1,q1⟩:=f4.get (i:=(ad p ts g).a k) (by omega)
   refine(exq rfl (exq rfl (ixq (SqT.of hct4) (ai (j:=0) rfl) (ixl (SqL.of f4.lst) (ai e1) (?_)))))
   have l1:cs1.length≤2*k:=by rw[q1.length];exact k3.len _
   refine⟨.inl ⟨rfl,_,SqL.of hb1⟩,exq rfl (exq rfl (ixq (SqT.of hct4) (ai (j:=1) rfl) (exq rfl ⟨dl rfl,fun t1 ht1=>?_⟩)))⟩
   have s5:am H4 (upd H4 t1 (.tup [.int (k:Int),.int ((ad p ts g).b k:Int),.int ((m.testBit k).toNat:Int)])):=am.new ht1
   have u5:fM m (upd H4 t1 (.tup [.int (k:Int),.int ((ad p ts g).b k:Int),.int ((m.testBit k).toNat:Int)])) t1 (k,(ad p ts g).b k):=ag
   have f5:=f4.go s5
   have hb5:=s5 _ _ hb1
   have hct5:=s5 _ _ hct4
   have q5:Paired (fM m (upd H4 t1 (.tup [.int (k:Int),.int ((ad p ts g).b k:Int),.int ((m.testBit k).toNat:Int)]))) cs1 (S ((ad p ts g).a k)):=Paired.mapP q1 fun _ _ z=>s5 _ _ z
   refine⟨b1,_,_,rfl,rfl,hb5,jg (by rw[List.length_map];omega),?_⟩
   have f6:=f5.put e1' hb5 q5 u5
   have hct6:=f6.same _ _ hct
   generalize upd (upd H4 t1 (.tup [.int (k:Int),.int ((ad p ts g).b k:Int),.int ((m.testBit k).toNat:Int)])) b1 (.lst (cs1.map V.ref++[.ref t1]))=H6 at f6 hct6
   obtain⟨b2,cs2,e2,e2',hb2,q2⟩:=f6.get (i:=(ad p ts g).b k) (by omega)
   refine(exq rfl (exq rfl (ixq (SqT.of hct6) (ai (j:=1) rfl) (ixl (SqL.of f6.lst) (ai e2) (?_)))))
   have l2:cs2.length≤2*k+1:=by
    rw[q2.length]
    unfold lZ
    have:=k3.len ((ad p ts g).b k)
    split
    ·rw[List.length_append,List.length_singleton];omega
    ·omega
   refine⟨.inl ⟨rfl,_,SqL.of hb2⟩,exq rfl (exq rfl (ixq (SqT.of hct6) (ai (j:=0) rfl) (exq rfl ⟨dl rfl,fun t2 ht2=>?_⟩)))⟩
   have s7:am H6 (upd H6 t2 (.tup [.int (k:Int),.int ((ad p ts g).a k:Int),.int ((m.testBit k).toNat:Int)])):=am.new ht2
   have u7:fM m (upd H6 t2 (.tup [.int (k:Int),.int ((ad p ts g).a k:Int),.int ((m.testBit k).toNat:Int)])) t2 (k,(ad p ts g).a k):=ag
   have f7:=f6.go s7
   have hb7:=s7 _ _ hb2
   refine⟨b2,_,_,rfl,rfl,hb7,jg (by rw[List.length_map];omega),?_⟩
   exact⟨_,_,_,rfl,_,f7.put e2' hb7 (Paired.mapP q2 fun _ _ z=>s7 _ _ z) u7,k3.next⟩
  ·rintro σ H3 ⟨v3,v4,v5,rfl,S,f3,k3⟩
   refine(exq rfl (q D es S H3 hel f3 ?_))
   rw[← hxl]
   exact k3
end
def fZ(p:Nat)(N:RM.Net)(L:Nat→Int)(m u:Nat)(D:Addr)(F:RM.OW)(H0 H:Hp):Prop:=∃ es:List Addr,es.length=p∧H D=some (.lst (es.map V.ref))∧
 (∀(i:Nat) b,es[i]?=some b→∃ v0 v1,H b=some (.lst [v0,v1])∧wV H (F i false) v0∧wV H (F i true) v1)∧(∀ x s,RM.m9 N L m u x s ((F x s).map (·.1)))∧(∀ x s d,F x s=some d→RM.Wz N L m u x s d.1 d.2)∧(∀ b∈es,H0 b=none)∧RM.Fx N L m u F
theorem yu(a b:Bool):Builtin.bitXor ((a.toNat:Nat):Int) ((b.toNat:Nat):Int)=(((a^^b).toNat:Nat):Int):=by
 cases a<;>cases b<;>decide
def i0(t:Addr)(lp:Pos):Sp:=fun vs H Q _=>∃ w p ts,∃ g:GoodWeb p ts,∃(m u:Nat),vs=[.ref w,.int (m:Int),.int (u:Int)]∧WebAt H w p ts∧m<2^ts.length∧u<p∧H t=some (.tbl (eK (uJ "least_ways") lp))∧
 ∀ D F H',H D=none→am H H'→fZ p (ad p ts g) (bg ts) m u D F H H'→Q (.ref D) H'
section
variable {P:Program}{w:World}{K:PySem.W.Frag}{mg:Str→Option Value}{base:Heap}{a:Adr}
theorem h8(T:Txt K mg a):FnOk P w K mg base CX0 5 a.f_least_ways a.d_least_ways ["web","marks","start"] (i0 a.p_least_ways aX):=by
 have ed:FnOk P w K mg base CX0 2 a.f_steps_by_point a.d_steps_by_point ["web","marks"] qT:=ed T
 refine T.F_least_ways.ok aW (fun vs H Q E h=>?_) (fun A outer s H vs Q E hr h=>?_)
 ·obtain⟨w,p,ts,g,m,u,rfl,_⟩:=h
  rfl
 ·obtain⟨wb,p,ts,g,m,u,rfl,hw,hm,hu,htb,q⟩:=h
  refine⟨_,(@aj _ _ _ _ _ (@aC _ _ 3 _ _ _ _ aW.nd rfl (Or.inl rfl) (@au _ _ _ _ _ _ _ _ _ _ _ _ _ _ _ _ ed (hr.mono (by decide)) (by rfl) T.m_steps_by_point T.k_steps_by_point T.b_steps_by_point .nil aK (@aa _ _ _ _ _ (pv 0) (@aa _ _ _ _ _ (pv 1) af (by rfl)) (by rfl)) (by decide) (by rfl) (by rfl)) (by rfl) (by first | exact .inl rfl | exact .inr rfl | assumption)) (@aj _ _ _ _ _ (@e8 _ _ _ _ _ _ _ ["point"] [] [] _ _ _ _ 4 _ _ _ aW.nd rfl rfl (aF (ae bW) ["web","marks","start","steps","found","waiting","nearest","way","tie","point","turn","part","further"]) rfl (@bh _ _ _ _ _ _ (by rfl) T.n_range (@aa _ _ _ _ _ (@aq _ _ _ _ _ _ _ (ixT K) (pv 0) ah (fun _ _=>rfl)) af (by rfl)) (by rfl)) (fun _ _ _ _=>(ax (i:=0) (show(["point"]:List Str).Nodup by decide +kernel) rfl (Or.inl rfl))) (fun _ _ _ _=>dk) (fun _ _ _ _=>(bY (aa dJ (aa dJ af)))) (by rfl) (by intro _;rfl)) (@aj _ _ _ _ _ (@aC _ _ 5 _ _ _ _ aW.nd rfl (Or.inr rfl) (vt (by exact rh hr) (@cq _ _ _ _ _ (@aa _ _ _ _ _ (pv 2) (@aa _ _ _ _ _ ah af (by rfl)) (by rfl))) (@cq _ _ _ _ _ (@aa _ _ _ _ _ ah (@aa _ _ _ _ _ ah af (by rfl)) (by rfl)))) (by rfl) (by first | exact .inl rfl | exact .inr rfl | assumption)) (@aj _ _ _ _ _ (@lX _ _ _ _ _ _ PassesOwn.never (@aE _ _ _ _ _ _ _ _ tE (@aA _ _ _ _ _ _ _ _ _ aa3 (by rfl) T.n_len PySem.boot_len (@aa _ _ _ _ _ (pv 5) af (by rfl)) (by decide) (by decide) (by rfl) (by rfl)) ah (aD _)) (@aj _ _ _ _ _ (@aC _ _ 6 _ _ _ _ aW.nd rfl (Or.inl rfl) (yv (x:="place") (frees:=["waiting"]) (js:=[5]) hr (aF (ae bW) ["web","marks","start","steps","found","waiting","nearest","way","tie","point","turn","part","further"]) rfl (by rfl) T.n_min rfl T.F_least_ways.hd (@aa _ _ _ _ _ (pv 5) af (by rfl)) (fun _ _ _ _ hr=>(yd (by exact rh hr) (pv 1) (pv 0) (fun _ _=>rfl)))) (by rfl) (by first | exact .inl rfl | exact .inr rfl | assumption)) (@aj _ _ _ _ _ (@aC _ _ 7 _ _ _ _ aW.nd rfl (Or.inl rfl) (vp (by exact rh hr) (pv 5) (pv 6) ⟨rfl,rfl,rfl,rfl⟩) (by rfl) (by first | exact .inl rfl | exact .inr rfl | assumption)) (@aj _ _ _ _ _ (@qa _ _ _ _ _ _ (pv 7) (@wQ _ _ _ _ _ _ _ (@aq _ _ _ _ _ _ _ (ixL K) (pv 4) (@aq _ _ _ _ _ _ _ (ixT K) (pv 6) ah (fun _ _=>rfl)) (fun _ _=>rfl)) (@aq _ _ _ _ _ _ _ (ixT K) (pv 6) ah (fun _ _=>rfl)) jL (by intro _;rfl)) (by rfl) (by rfl) (by rfl)) (@ao _ _ _ (@dR _ _ _ _ _ _ _ _ PassesOwn.never rfl (@piL _ _ _ _ K (@aq _ _ _ _ _ _ _ (ixL K) (pv 3) (@aq _ _ _ _ _ _ _ (ixT K) (pv 6) ah (fun _ _=>rfl)) (fun _ _=>rfl)) (by rfl)) (@pgT _ _ K _ _ 3 _ rfl (@aQ _ _ _ _ _ (ax (i:=8) aW.nd rfl (Or.inl rfl)) (@aQ _ _ _ _ _ (ax (i:=9) aW.nd rfl (Or.inl rfl)) (@aQ _ _ _ _ _ (ax (i:=10) aW.nd rfl (Or.inl rfl)) eD (by rfl)) (by rfl)) (by rfl)) (by rfl) (by rfl) (by rfl)) (@aj _ _ _ _ _ (@aC _ _ 11 _ _ _ _ aW.nd rfl (Or.inl rfl) (@ay _ _ _ _ _ _ _ _ gQ (@aq _ _ _ _ _ _ _ (ixT K) (pv 6) ah (fun _ _=>rfl)) (pv 10)) (by rfl) (by first | exact .inl rfl | exact .inr rfl | assumption)) (@aj _ _ _ _ _ (@aC _ _ 12 _ _ _ _ aW.nd rfl (Or.inl rfl) (@cq _ _ _ _ _ (@aa _ _ _ _ _ (@ay _ _ _ _ _ _ _ _ cP (@aq _ _ _ _ _ _ _ (ixT K) (pv 7) ah (fun _ _=>rfl)) (@aq _ _ _ _ _ _ _ (ixT K) (@aq _ _ _ _ _ _ _ (ixT K) (@aq _ _ _ _ _ _ _ (ixT K) (pv 0) ah (fun _ _=>rfl)) (pv 8) (fun _ _=>rfl)) ah (fun _ _=>rfl))) (@aa _ _ _ _ _ (@ay _ _ _ _ _ _ _ _ gQ (@aq _ _ _ _ _ _ _ (ixT K) (pv 7) ah (fun _ _=>rfl)) (@ay _ _ _ _ _ _ _ _ fA ah (pv 8))) af (by rfl)) (by rfl))) (by rfl) (by first | exact .inl rfl | exact .inr rfl | assumption)) (@ao _ _ _ (@ce _ _ _ _ _ _ _ _ (PW.pt (@xy _ _ _ _ _ _ _ (@aE _ _ _ _ _ _ _ _ jm (@aq _ _ _ _ _ _ _ (ixL K) (@aq _ _ _ _ _ _ _ (ixL K) (pv 4) (pv 9) (fun _ _=>rfl)) (pv 11) (fun _ _=>rfl)) dJ (aD _)) (@tW _ _ _ _ (@aE _ _ _ _ _ _ _ _ (zq hr.units0) (pv 12) (@wI _ _ _ _ _ _ _ _ _ (by exact rh hr) (pv 5) (@cq _ _ _ _ _ (@aa _ _ _ _ _ (pv 9) (@aa _ _ _ _ _ (pv 11) af (by rfl)) (by rfl))) (pv 12) ⟨rfl,rfl,rfl,rfl⟩) (aD _))))) (@ao _ _ _ (@xO _ _ _ _ _ _ _ _ _ (by exact rh hr) (pv 5) (@cq _ _ _ _ _ (@aa _ _ _ _ _ (pv 9) (@aa _ _ _ _ _ (pv 11) af (by rfl)) (by rfl))) (pv 12) rfl)) aU)))) (by intro _;rfl))))))) (@ao _ _ _ (@az _ _ _ _ (pv 4))))))),?_⟩
  refine nN ?_
  intro zz0 zz1 zz2 zz3 zz4 zz5 zz6 zz7 zz8 zz9 zz10 zz11
  obtain⟨bt,xs,h1,h2,h3⟩:=id hw.ex
  have hxl:=h3.length
  have wp:=g.p2
  have wl:=g.len
  refine(exq rfl (exq rfl ⟨wb,p,ts,g,m,rfl,hw,hm,fun Ds ess S H1 hel1 f1 k1=>?_⟩))
  have s1:=f1.same
  refine(exq rfl (ixq (SqT.of (s1 _ _ h1)) (ai (j:=0) rfl) (exq rfl ⟨(by omega),(by omega),fun D hD=>bL (lo:=0) (m:=p) (qY H1 D) (.start hD) (fun i acc H2 _ z=>z.len) (dl (Nat.ble_eq.mpr (by omega))) ?_ ?_⟩)))
  ·rintro i acc H2 hi f2
   exact⟨rfl,dl rfl,fun l hl=>f2.next hl⟩
  rintro acc H2 ⟨es,rfl,hel,f2⟩
  refine fun wd hwd=>(exq rfl ⟨dl rfl,fun t1 ht1=>⟨dl rfl,fun t2 ht2=>?_⟩⟩)
  have s2a:am (upd H2 wd (.dT [])) (upd (upd H2 wd (.dT [])) t1 (.tup [.int (u:Int),.int 0])):=am.new ht1
  have s2b:am (upd (upd H2 wd (.dT [])) t1 (.tup [.int (u:Int),.int 0])) (upd (upd (upd H2 wd (.dT [])) t1 (.tup [.int (u:Int),.int 0])) t2 (.tup [.int 0,.int 0])):=am.new ht2
  have f3:=((f2.go (am.new hwd (o:=.dT []))).go s2a).go s2b
  have w3:=s2b _ _ (s2a _ _ (ag (H:=H2) (a:=wd) (o:=.dT [])))
  have u3:=s2b _ _ (ag (H:=upd H2 wd (.dT [])) (a:=t1) (o:=.tup [.int (u:Int),.int 0]))
  have v3:(upd (upd (upd H2 wd (.dT [])) t1 (.tup [.int (u:Int),.int 0])) t2 (.tup [.int 0,.int 0])) t2=some (.tup [.int 0,.int 0]):=ag
  generalize upd (upd (upd H2 wd (.dT [])) t1 (.tup [.int (u:Int),.int 0])) t2 (.tup [.int 0,.int 0])=H3 at f3 w3 u3 v3
  refine⟨t1,ky u false,rfl,u3,w3,?_⟩
  have lw3:=LwV.start f3 hu w3 (f2.same.free hwd) v3
  have htb1:=s1 _ _ htb
  have hL:∀ k,k<(ad p ts g).n→0≤bg ts k:=gx g
  have hL1:∀ k,k<(ad p ts g).n→0<bg ts k:=fun k hk=>by
   have:=(g.ties _ (db hk)).l0
   unfold bg
   omega
  refine⟨fun n σ H4=>∃ v6 v7 v8 v9 v10 v11 v12,σ=[some (.ref wb),some (.int (m:Int)),some (.int (u:Int)),some (.ref Ds),some (.ref D),some (.ref wd),v6,v7,v8,v9,v10,v11,v12]∧∃ kvs F W,LwV p H1 D wd es kvs F W H4∧RM.Dx (ad p ts g) (bg ts) m u F W none (fun _ _=>False)∧n=RM.left F p,⟨_,none,none,none,none,none,none,none,rfl,_,_,_,lw3,RM.Dx.start,rfl⟩,?_⟩
  rintro n σ H4 ⟨v6,v7,v8,v9,v10,v11,v12,rfl,kvs,F,W,lw,dj,rfl⟩
  refine(exq rfl ⟨wd,kvs,rfl,.inl lw.dt,_,_,rfl,rfl,exq rfl (sa (fun hlen=>?_) (fun hlen=>?_))⟩)
  case refine_2 =>
   have hl : ¬(0:Int)<(kvs.length:Int):=fun z=>hlen (decide_eq_true z)
   have e:kvs=[]:=List.eq_nil_of_length_eq_zero (by omega)
   subst e
   have hW:∀ x s,W x s=none:=fun x s=>by
    rcases lw.val x s with⟨z,_⟩|⟨_,_,_,z,_⟩
    ·exact z
    ·rw[mM]at z;cases z
   exact(exq rfl (q D F H4 (s1.free lw.Dn) (s1.trans lw.same) ⟨es,hel,lw.lst,lw.at_,dj.dj.best hW,dj.dj.fw,fun b hb=>s1.free (lw.fr b hb),dj.fin hL1 hu hW⟩))
  have hlen:(0:Int)<(kvs.length:Int):=of_decide_eq_true hlen
  refine⟨fun σ' H'=>∃ v6 v7 v8 v9 v10 v11 v12,σ' = [some (.ref wb),some (.int (m:Int)),some (.int (u:Int)),some (.ref Ds),some (.ref D),some (.ref wd),v6,v7,v8,v9,v10,v11,v12]∧∃ kvs' F' W',LwV p H1 D wd es kvs' F' W' H'∧RM.Dx (ad p ts g) (bg ts) m u F' W' none (fun _ _=>False)∧RM.left F' p<RM.left F p,fun σ' H' ⟨a6,a7,a8,a9,a10,a11,a12,e,kvs',F',W',b1,b2,b3⟩=>⟨_,b3,a6,a7,a8,a9,a10,a11,a12,e,kvs',F',W',b1,b2,rfl⟩,?_⟩
  refine(exq rfl ⟨wd,kvs,wu W kvs,rfl,lw.dt,(by omega),lw.same _ _ htb1,fun ob H5 oth hfz i kv b hkv hb=>?_,fun i kv b H5 hkv hmin s5 hb=>?_⟩)
  ·obtain⟨x,t,d,c,hx,ek,hWx,hvx,_,hc,ews⟩:=lw.entry hkv
   have hcw:c≠wd:=aO hc lw.dt (by intro z;cases z)
   refine(exq rfl (exq rfl ⟨wd,.ref c,rfl,.inr ⟨kvs,ky x t,b,.inr ⟨ob,hfz⟩,rfl,by rw[← ek];exact hb,hvx.symm⟩,am.refl _,c,rfl,?_⟩))
   rw[ews]
   exact SqT.of (oth c _ hc hcw (by intro y z;cases z) (by intro y z;cases z))
  obtain⟨x,t,d,c,hx,ek,hWx,hvx,_,hc,ews⟩:=lw.entry hkv
  rw[ek]at hb
  have hmn:∀ y t' d',W y t' = some d'→d.1≤d'.1:=fun y t' d' hW'=>by
   obtain⟨j,kv',hj,_,ej⟩:=lw.find hW'
   have:=hmin j (List.getElem?_eq_some_iff.mp hj).1
   rw[ej,ews]at this
   exact pZ this
  have lw5:=lw.go s5
  have hc5:=s5 _ _ hc
  have hF:F x t=none:=dj.dj.dj x t d hWx
  refine(exq rfl ⟨wd,rfl,.inr ⟨kvs,.inl lw5.dt⟩,exq rfl ⟨kvs,ky x t,b,.ref c,lw5.dt,rfl,hb,hvx,?_⟩⟩)
  obtain⟨rb,r0,r1,er,er',hrb,hr0,hr1⟩:=lw5.row (i:=x) (by omega)
  have bw:b≠wd:=aO hb lw5.dt (by intro z;cases z)
  have rw_:rb≠wd:=aO hrb lw5.dt (by intro z;cases z)
  have hb6:upd H5 wd (.dT (cr kvs (ky x t))) b=some (.tup [.int (x:Int),.int (t.toNat:Int)]):=by rw[ak bw];exact hb
  have hD6:upd H5 wd (.dT (cr kvs (ky x t))) D=some (.lst (es.map V.ref)):=by rw[ak (Ne.symm lw5.wD)];exact lw5.lst
  have hr6:upd H5 wd (.dT (cr kvs (ky x t))) rb=some (.lst [r0,r1]):=by rw[ak rw_];exact hrb
  refine(exq rfl (exq rfl (exq rfl (ixq (SqT.of hb6) (ai (j:=0) rfl) (ixl (SqL.of hD6) (ai er) (exq rfl (ixq (SqT.of hb6) (ai (j:=1) rfl) ⟨rb,_,_,t.toNat,rfl,rfl,hr6,kW (n:=2) (j:=t.toNat) (by cases t<;>decide),?_⟩)))))))
  have lw7:=lw5.take hWx hc5 er' hrb
  have dj7:=dj.pop hWx hmn
  have hd0:0≤d.1:=by
   obtain⟨pre,w0⟩:=dj.dj.ww x t d hWx
   exact(RM.gr hL hu w0).2.2.2.2.2
  have hlt:RM.left (RM.fK F x t d) p<RM.left F p:=RM.qj hF hx
  have tp7:dL H5 (upd (upd H5 wd (.dT (cr kvs (ky x t)))) rb (.lst (([r0,r1]:List V).set t.toNat (.ref c)))):=fun z ys e=>by
   rw[ak (aO e hrb (by intro z;cases z)),ak (aO e lw5.dt (by intro z;cases z))]
   exact e
  have hb7:=tp7 _ _ hb
  have hc7:=tp7 _ _ hc5
  generalize upd (upd H5 wd (.dT (cr kvs (ky x t)))) rb (.lst (([r0,r1]:List V).set t.toNat (.ref c)))=H7 at lw7 hb7 hc7
  generalize RM.p7 W x t=W7 at lw7 dj7
  have hFx:RM.fK F x t d x t=some d:=RM.be _ _ _ _
  generalize RM.fK F x t d=F7 at lw7 dj7 hlt hFx
  obtain⟨sb,cs,esb,esb',hsb,qsb⟩:=f1.get (i:=x) (by omega)
  have hlS:=k1.len x
  refine(exq rfl (exq rfl (ixq (SqT.of hb7) (ai (j:=0) rfl) (ixl (SqL.of (lw7.same _ _ f1.lst)) (ai esb) ⟨sb,rfl,⟨_,SqL.of (lw7.same _ _ hsb)⟩,?_⟩))))
  refine dy (K:=K) (a:=sb) (xs:=cs.map V.ref) (fun j σ H8=>∃ v8 v9 v10 v11 v12,σ=[some (.ref wb),some (.int (m:Int)),some (.int (u:Int)),some (.ref Ds),some (.ref D),some (.ref wd),some (.ref b),some (.ref c),v8,v9,v10,v11,v12]∧dL H7 H8∧∃ kvs8 W8,LwV p H1 D wd es kvs8 F7 W8 H8∧RM.Dx (ad p ts g) (bg ts) m u F7 W8 (some (x,t)) (fun k y=>∃ j',j'<j∧(S x)[j']?=some (k,y)))
   ⟨_,_,_,_,_,rfl,(am.refl _).tups,_,_,lw7,?_⟩ (fun j σ H8 _ ⟨_,_,_,_,_,_,_,_,_,z,_⟩=>SqL.of (z.same _ _ hsb)) ?_ ?_
  ·exact dj7.less fun k y ⟨j',h0,_⟩=>absurd h0 (Nat.not_lt_zero _)
  ·rintro j y D3' σ H8 hj ⟨v8,v9,v10,v11,v12,rfl,tp8,kvs8,W8,lw8,dj8⟩
   obtain⟨cc,hcc,rfl⟩:∃ cc,cs[j]?=some cc∧y = .ref cc:=by
    rw[List.getElem?_map]at hj
    obtain⟨cc,h1,h2⟩:=Option.map_eq_some_iff.mp hj
    exact⟨cc,h1,h2.symm⟩
   have hjl:j<(S x).length:=by rw[← qsb.length];exact(List.getElem?_eq_some_iff.mp hcc).1
   have eS:(S x)[j]?=some (S x)[j]:=List.getElem?_eq_getElem hjl
   have tr1:=L2.eg qsb hcc eS
   generalize hkw:(S x)[j]=kw at eS tr1
   obtain⟨k,y⟩:=kw
   have hmem:=(k1.mem x (k,y)).mp (List.mem_of_getElem? eS)
   obtain⟨hk,hjn⟩:=hmem
   have hk:k<ts.length:=hk
   have hjn:RM.Jn (ad p ts g) k x y:=hjn
   have hy:y<p:=hjn.lt hk
   have tr8:=lw8.same _ _ tr1
   have tr8:H8 cc=some (.tup [.int (k:Int),.int (y:Int),.int ((m.testBit k).toNat:Int)]):=tr8
   refine⟨cc,_,rfl,SqT.of tr8,rfl,_,_,rfl,_,_,rfl,_,_,rfl,rfl,?_⟩
   have hb8:=tp8 _ _ hb7
   have hc8:=tp8 _ _ hc7
   refine(exq rfl (ixq (SqT.of hb8) (ai (j:=1) rfl) (exq rfl (ijq (?_)))))
   dsimp only
   rw[yu]
   obtain⟨ct,ex,hct⟩:=lC (g:=g) h3 hk
   have hw8:=lw8.same _ _ (s1 _ _ h1)
   have ht8:=lw8.same _ _ (s1 _ _ h2)
   have hct8:=lw8.same _ _ (s1 _ _ hct)
   refine(exq rfl (ixq (SqT.of hc8) (ai (j:=0) rfl) (exq rfl (ixq (SqT.of hw8) (ai (j:=1) rfl) (exq rfl (ixq (SqT.of ht8) (ai (j:=k) ex) (ixq (SqT.of hct8) (ai (j:=2) rfl) (?_))))))))
   refine(ijq (exq rfl (ixq (SqT.of hc8) (ai (j:=1) rfl) (exq rfl (ijq ⟨⟨by omega,by omega,by decide⟩,ijq ⟨dl rfl,fun f hf=>?_⟩⟩)))))
   have ef:Builtin.bitXor ((d.2:Nat):Int) (1*2^((k:Nat):Int).toNat)=((d.2^^^2^k:Nat):Int):=by
    rw[Int.toNat_natCast,Int.one_mul,show((2:Int)^k)=((2^k:Nat):Int) by simp]
    exact xor_int _ _
   dsimp only
   rw[ef]
   have s9:am H8 (upd H8 f (.tup [.int (d.1+(bc ts k).2.2),.int ((d.2^^^2^k:Nat):Int)])):=am.new hf
   have hf9:upd H8 f (.tup [.int (d.1+(bc ts k).2.2),.int ((d.2^^^2^k:Nat):Int)]) f=some (.tup [.int (d.1+bg ts k),.int ((d.2^^^2^k:Nat):Int)]):=ag
   have lw9:=lw8.go s9
   have tp9:dL H7 (upd H8 f (.tup [.int (d.1+(bc ts k).2.2),.int ((d.2^^^2^k:Nat):Int)])):=fun z ys e=>s9 _ _ (tp8 _ _ e)
   generalize upd H8 f (.tup [.int (d.1+(bc ts k).2.2),.int ((d.2^^^2^k:Nat):Int)])=H9 at lw9 hf9 tp9
   obtain⟨rb2,q0,q1,er2,er2',hrb2,hq0,hq1⟩:=lw9.row (i:=y) (by omega)
   obtain⟨vv,hvv,hwv⟩:∃ vv,([q0,q1]:List V)[(t^^m.testBit k).toNat]?=some vv∧wV H9 (F7 y (t^^m.testBit k)) vv:=by
    cases(t^^m.testBit k) with
    | false=>exact⟨q0,rfl,hq0⟩
    | true=>exact⟨q1,rfl,hq1⟩
   have Lk:=hL k hk
   refine(exq rfl (exq rfl (ixl (SqL.of lw9.lst) (ai er2) (exq rfl (ixl (SqL.of hrb2) (ai hvv) (?_))))))
   refine⟨rfl,exq rfl (?_)⟩
   have dn:∀{done1:Nat→Nat→Prop} {Wx:RM.OW},RM.Dx (ad p ts g) (bg ts) m u F7 Wx (some (x,t)) (fun k' y'=>(∃ j',j'<j∧(S x)[j']?=some (k',y'))∨(k' = k∧y' = y))→
    RM.Dx (ad p ts g) (bg ts) m u F7 Wx (some (x,t)) (fun k' y'=>∃ j',j'<j+1∧(S x)[j']?=some (k',y')):=fun {done1 Wx} h =>
    h.less fun k' y' ⟨j',h0,h5⟩=>by
     by_cases ej:j' = j
     ·subst ej
      rw[eS]at h5
      cases h5
      exact .inr ⟨rfl,rfl⟩
     ·exact .inl ⟨j',by omega,h5⟩
   cases hFy:F7 y (t^^m.testBit k) with
   | some d2 =>
     rw[hFy]at hwv
     obtain⟨c2,rfl,hc2⟩:=hwv
     refine kS (fun z=>nomatch z) ?_
     exact⟨_,_,_,_,_,rfl,tp9,kvs8,W8,lw9,dn (done1:=fun _ _=>False) (dj8.skip hFx (hL1 k hk) (.inl hFy))⟩
   | none =>
     rw[hFy]at hwv
     have hwv:vv = .non:=hwv
     subst hwv
     refine sw rfl ?_
     refine(exq rfl (exq rfl ⟨wd,rfl,.inr ⟨kvs8,.inl lw9.dt⟩,exq rfl (exq rfl ⟨dl rfl,fun t3 ht3=>?_⟩)⟩))
     have s10:am H9 (upd H9 t3 (.tup [.int (y:Int),.int ((t^^m.testBit k).toNat:Int)])):=am.new ht3
     have ht10:upd H9 t3 (.tup [.int (y:Int),.int ((t^^m.testBit k).toNat:Int)]) t3=some (.tup ((ky y (t^^m.testBit k)).map kV)):=ag
     have lw10:=lw9.go s10
     have hf10:=s10 _ _ hf9
     have tp10:dL H7 (upd H9 t3 (.tup [.int (y:Int),.int ((t^^m.testBit k).toNat:Int)])):=fun z ys e=>s10 _ _ (tp9 _ _ e)
     generalize upd H9 t3 (.tup [.int (y:Int),.int ((t^^m.testBit k).toNat:Int)])=H10 at lw10 hf10 ht10 tp10
     refine(exq rfl ⟨cR kvs8 (ky y (t^^m.testBit k)),.inr ⟨kvs8,ky y (t^^m.testBit k),t3,.inl lw10.dt,rfl,ht10,rfl⟩,?_⟩)
     have hlen8:=lw10.len
     have put:(∀ d',W8 y (t^^m.testBit k)=some d'→RM.lx (RM.stp (bg ts) d k) d')→zz1 D3' [some (.ref wb),some (.int (m:Int)),some (.int (u:Int)),some (.ref Ds),some (.ref D),some (.ref wd),some (.ref b),some (.ref c),some (.int (k:Int)),some (.int (y:Int)),some (.int ((m.testBit k).toNat:Int)),some (.int ((t^^m.testBit k).toNat:Int)),some (.ref f)] H10:=fun hle=>by
      refine(exq rfl (exq rfl (exq rfl (exq rfl ⟨dl rfl,fun t4 ht4=>?_⟩))))
      have s11:am H10 (upd H10 t4 (.tup [.int (y:Int),.int ((t^^m.testBit k).toNat:Int)])):=am.new ht4
      have ht11:upd H10 t4 (.tup [.int (y:Int),.int ((t^^m.testBit k).toNat:Int)]) t4=some (.tup ((ky y (t^^m.testBit k)).map kV)):=ag
      have lw11:=lw10.go s11
      have hf11:=s11 _ _ hf10
      refine⟨wd,_,rfl,vW.t lw11.dt ht11 (gf (by omega)),?_⟩
      have lw12:=lw11.wait (x:=y) (s:=(t^^m.testBit k)) (d:=(d.1+bg ts k,d.2^^^2^k)) hy hf11
      refine⟨_,_,_,_,_,rfl,fun z ys e=>?_,_,_,lw12,dn (done1:=fun _ _=>False) (dj8.put hFx hd0 hk (hL1 k hk) hjn hFy hle)⟩
      have e11:=s11 _ _ (tp10 _ _ e)
      rw[ak (aO e11 lw11.dt (by intro z;cases z))]
      exact e11
     rcases lw10.val y (t^^m.testBit k) with⟨hWn,hvn⟩|⟨d2,c2,hWs,hvs,hc2⟩
     ·rw[hvn]
      refine⟨f,f,_,_,_,_,rfl,rfl,SqT.of hf10,SqT.of hf10,_,rfl,sa (fun _=>put fun d' e=>by rw[hWn]at e;cases e) fun z=>absurd ((HT.pD _ _ _ _).mpr (.inr ⟨rfl,Int.le_refl _⟩)) z⟩
     ·rw[hvs]
      refine⟨f,c2,_,_,_,_,rfl,rfl,SqT.of hf10,SqT.of hc2,_,rfl,sa (fun hl=>?_) (fun hl=>?_)⟩
      ·have hl:=(HT.pD _ _ _ _).mp hl
       refine put fun d' e=>?_
       rw[hWs]at e;cases e
       unfold RM.lx RM.stp
       simp only
       omega
      ·have hl:=fun z=>hl ((HT.pD _ _ _ _).mpr z)
       refine⟨_,_,_,_,_,rfl,tp10,kvs8,W8,lw10,dn (done1:=fun _ _=>False) (dj8.skip hFx (hL1 k hk) (.inr ⟨hWs,?_⟩))⟩
       have h6 : ¬ d.1+bg ts k<d2.1:=fun z=>hl (.inl z)
       have h7 : ¬(d.1+bg ts k=d2.1∧((d.2^^^2^k:Nat):Int)≤(d2.2:Int)):=fun z=>hl (.inr z)
       unfold RM.lx RM.stp
       simp only
       omega
  ·rintro σ H8 ⟨v8,v9,v10,v11,v12,rfl,tp8,kvs8,W8,lw8,dj8⟩
   refine⟨_,_,_,_,_,_,_,rfl,kvs8,F7,W8,lw8,dj8.all fun k y hk hjn=>?_,hlt⟩
   have hm':=(k1.mem x (k,y)).mpr ⟨hk,hjn⟩
   obtain⟨j',hj'⟩:=List.getElem?_of_mem hm'
   have hlt':=(List.getElem?_eq_some_iff.mp hj').1
   exact⟨j',by rw[List.length_map,qsb.length];exact hlt',hj'⟩
end
def oM:Sp:=fun vs H Q _=>∃ v o,vs=[v]∧wV H o v∧Q (oV (o.map (·.1))) H
abbrev pR(F:RM.OW):Nat→Bool→Option Int:=fun x s=>(F x s).map (·.1)
def kD:Sp:=fun vs H Q _=>∃(D:Addr) (es:List Addr) (F:RM.OW),vs=[.ref D]∧H D=some (.lst (es.map V.ref))∧es.length≤900∧(∀(i:Nat) b,es[i]?=some b→∃ v0 v1,H b=some (.lst [v0,v1])∧wV H (F i false) v0∧wV H (F i true) v1)∧
 ∀ b ys H',am H H'→H' b=some (.tup ys)→Paired (dG H') ys (ig (pR F) es.length)→Q (.ref b) H'
section
variable {P:Program}{w:World}{K:PySem.W.Frag}{mg:Str→Option Value}{base:Heap}{a:Adr}
theorem dq(T:Txt K mg a):FnOk P w K mg base CX0 1 a.f_length_of_way a.d_length_of_way ["way"] oM:=by
 refine T.F_length_of_way.ok kj (fun vs H Q E h=>?_) (fun cdv A outer s H vs Q E hr h=>?_)
 ·obtain⟨v,o,rfl,_⟩:=h
  rfl
 ·obtain⟨v,o,rfl,hv,q⟩:=h
  refine⟨_,(@ao _ _ _ (@az _ _ _ _ (@iE _ _ _ _ _ _ _ _ (@aE _ _ _ _ _ _ _ _ jm (pv 0) dJ (aD _)) dJ (@aq _ _ _ _ _ _ _ (ixT K) (pv 0) ah (fun _ _=>rfl))))),?_⟩
  cases o with
  | none =>
    have hv:v = .non:=hv
    subst hv
    exact(exq rfl ⟨rfl,exq rfl (sw rfl q)⟩)
  | some d =>
    obtain⟨c,rfl,hc⟩:=hv
    exact(exq rfl ⟨rfl,exq rfl (kS (fun z=>nomatch z) (exq rfl (ixq (SqT.of hc) (ai (j:=0) rfl) (q))))⟩)
theorem dW(T:Txt K mg a):FnOk P w K mg base CX0 2 a.f_worths_of_ways a.d_worths_of_ways ["ways"] kD:=by
 have dq:FnOk P w K mg base CX0 1 a.f_length_of_way a.d_length_of_way ["way"] oM:=dq T
 refine T.F_worths_of_ways.ok jx (fun vs H Q E h=>?_) (fun cdv A outer s H vs Q E hr h=>?_)
 ·obtain⟨D,es,F,rfl,_⟩:=h
  rfl
 ·obtain⟨D,es,F,rfl,hD,hl,hrow,q⟩:=h
  refine⟨_,(@ao _ _ _ (@az _ _ _ _ (@da _ _ _ _ _ _ _ _ _ (xp K) (by rfl) T.n_tuple PyProof.Rows.boot_tuple (@aa _ _ _ _ _ (@dr _ _ _ _ _ _ _ ["even","odd"] [] [] _ _ _ _ (aF (ae bj) ["ways"]) rfl (@piL _ _ _ _ K (pv 0) (by rfl)) (fun _ _ _ _=>(aa9 K rfl (aQ (ax (i:=0) (show(["even","odd"]:List Str).Nodup by decide +kernel) rfl (Or.inl rfl)) (aQ (ax (i:=1) (show(["even","odd"]:List Str).Nodup by decide +kernel) rfl (Or.inl rfl)) eD)))) (fun _ _ _ _=>dk) (fun _ _ _ _=>(cq (aa (au dq (hr.mono (by decide)) (by rfl) T.m_length_of_way T.k_length_of_way T.b_length_of_way .nil aK (aa (pv 0) af)) (aa (au dq (hr.mono (by decide)) (by rfl) T.m_length_of_way T.k_length_of_way T.b_length_of_way .nil aK (aa (pv 1) af)) af)))) (by intro _;rfl)) af (by rfl)) (by decide) (by decide) (by rfl) (by rfl)))),?_⟩
  refine(exq rfl ⟨D,rfl,⟨_,SqL.of hD⟩,fun L hL=>dz (K:=K) (a:=D) (xs:=es.map V.ref) (fun i acc H2=>am H H2∧H2 L=some (.lst acc)∧Paired (dG H2) acc (ig (pR F) i)) ⟨am.new hL,ag,.nil⟩ (fun i acc H2 _ z=>⟨SqL.of (z.1 _ _ hD),z.2.1,by rw[z.2.2.length,tD];exact Nat.le_refl _⟩) (dl (Nat.ble_eq.mpr (by rw[List.length_map];omega))) ?_ ?_⟩)
  ·rintro i x acc H2 hx ⟨s2,hL2,pr⟩
   obtain⟨b,hb,rfl⟩:∃ b,es[i]?=some b∧x = .ref b:=by
    rw[List.getElem?_map]at hx
    obtain⟨b,h1,h2⟩:=Option.map_eq_some_iff.mp hx
    exact⟨b,h1,h2.symm⟩
   obtain⟨v0,v1,hv,w0,w1⟩:=hrow i b hb
   refine⟨b,v0,v1,rfl,SqL.of (s2 _ _ hv),_,_,rfl,_,_,rfl,rfl,rfl,exq rfl ⟨v0,_,rfl,w0.tups s2.tups,_,rfl,v1,_,rfl,w1.tups s2.tups,dl rfl,fun t ht=>?_⟩⟩
   have s3:am H2 (upd H2 t (.tup [oV (pR F i false),oV (pR F i true)])):=am.new ht
   have tL:t≠L:=fun z=>by rw[z,hL2]at ht;cases ht
   have hL0:H L=none:=hL
   refine⟨s3 _ _ hL2,(s2.trans s3).put hL0,ag,?_⟩
   rw[xq]
   have keep:∀ z pr,dG H2 z pr→dG (upd (upd H2 t (.tup [oV (pR F i false),oV (pR F i true)])) L (.lst (acc++[.ref t]))) z pr:=fun z pr ⟨b,e,hb⟩=>⟨b,e,by rw[ak (aO hb hL2 (by intro z;cases z))];exact s3 _ _ hb⟩
   exact Paired.snoc (Paired.imp' (fun _ _ z=>keep _ _ z) pr) ⟨t,rfl,by rw[ak tL,ag]⟩
  ·rintro acc H2 ⟨s2,hL2,pr⟩
   rw[List.length_map]at pr
   refine⟨L,_,rfl,.inl ⟨SqL.of hL2,fun l hl=>?_⟩⟩
   exact q l acc _ (s2.trans (am.new hl)) ag (Paired.imp' (fun _ _ ⟨b,e,hb⟩=>⟨b,e,am.new hl _ _ hb⟩) pr)
end
theorem fZ.same{p:Nat}{N:RM.Net}{L:Nat→Int}{m u:Nat}{D:Addr}{F:RM.OW}{H0 H H' : Hp}(h:fZ p N L m u D F H0 H)(s:am H H'):fZ p N L m u D F H0 H':=by
 obtain⟨es,e1,e2,e3,e4,e5,e6⟩:=h
 exact⟨es,e1,s _ _ e2,fun i b hb=>let⟨v0,v1,q1,q2,q3⟩:=e3 i b hb;⟨v0,v1,s _ _ q1,q2.tups s.tups,q3.tups s.tups⟩,e4,e5,e6⟩
theorem fZ.put{p:Nat}{N:RM.Net}{L:Nat→Int}{m u:Nat}{D X:Addr}{F:RM.OW}{H0 H:Hp}{xs ys:List V}(h:fZ p N L m u D F H0 H)(hD:H0 D=none)(hX:H X=some (.lst xs))(hX0:∃ o,H0 X=some o):fZ p N L m u D F H0 (upd H X (.lst ys)):=by
 obtain⟨es,e1,e2,e3,e4,e5,e6⟩:=h
 obtain⟨o,ho⟩:=hX0
 have ne:∀ b,H0 b=none→b≠X:=fun b hb z=>by rw[z,ho]at hb;cases hb
 have tp:dL H (upd H X (.lst ys)):=dL.put hX
 refine⟨es,e1,by rw[ak (ne D hD)];exact e2,fun i b hb=>?_,e4,e5,e6⟩
 obtain⟨v0,v1,q1,q2,q3⟩:=e3 i b hb
 exact⟨v0,v1,by rw[ak (ne b (e6.1 b (List.mem_of_getElem? hb)))];exact q1,q2.tups tp,q3.tups tp⟩
def tK(p:Nat)(N:RM.Net)(L:Nat→Int)(m i:Nat)(ds:List Addr)(Fs:Nat→RM.OW)(H:Hp):Prop:=ds.length=i∧∀(j:Nat) d,ds[j]?=some d→∃ H0,fZ p N L m j d (Fs j) H0 H
def kN(t:Addr)(lp:Pos):Sp:=fun vs H Q _=>∃ w p ts,∃ g:GoodWeb p ts,∃ m:Nat,vs=[.ref w,.int (m:Int)]∧WebAt H w p ts∧m<2^ts.length∧H t=some (.tbl (eK (uJ "least_ways") lp))∧
 ∀ D ds Fs H',H D=none→am H H'→H' D=some (.lst (ds.map V.ref))→tK p (ad p ts g) (bg ts) m p ds Fs H'→Q (.ref D) H'
section
variable {P:Program}{w:World}{K:PySem.W.Frag}{mg:Str→Option Value}{base:Heap}{a:Adr}
theorem d9(T:Txt K mg a):FnOk P w K mg base CX0 6 a.f_all_least_ways a.d_all_least_ways ["web","marks"] (kN a.p_least_ways aX):=by
 have h8:FnOk P w K mg base CX0 5 a.f_least_ways a.d_least_ways ["web","marks","start"] (i0 a.p_least_ways aX):=h8 T
 refine T.F_all_least_ways.ok jH (fun vs H Q E h=>?_) (fun cdv A outer s H vs Q E hr h=>?_)
 ·obtain⟨w,p,ts,g,m,rfl,_⟩:=h
  rfl
 ·obtain⟨wb,p,ts,g,m,rfl,hw,hm,htb,q⟩:=h
  refine⟨_,(@ao _ _ _ (@az _ _ _ _ (@dr _ _ _ _ _ _ _ ["start"] ["web","marks"] [0,1] _ _ _ _ (aF (ae bp) ["web","marks"]) rfl (@bh _ _ _ _ _ _ (by rfl) T.n_range (@aa _ _ _ _ _ (@aq _ _ _ _ _ _ _ (ixT K) (pv 0) ah (fun _ _=>rfl)) af (by rfl)) (by rfl)) (fun _ _ _ _=>(ax (i:=0) (show(["start","web","marks"]:List Str).Nodup by decide +kernel) rfl (Or.inl rfl))) (fun _ _ _ _=>dk) (fun _ _ _ _=>(au h8 (hr.mono (by decide)) (by rfl) T.m_least_ways T.k_least_ways T.b_least_ways .nil aK (aa (pv 1) (aa (pv 2) (aa (pv 0) af))))) (by intro _;rfl)))),?_⟩
  obtain⟨bt,xs,h1,h2,h3⟩:=id hw.ex
  have wp:=g.p2
  refine(exq rfl (ixq (SqT.of h1) (ai (j:=0) rfl) (exq rfl ⟨(by omega),(by omega),fun D hD=>bL (lo:=0) (m:=(p:Int).toNat) (fun i acc H2=>am H H2∧H2 D=some (.lst acc)∧∃ ds Fs,acc=ds.map V.ref∧ds.length=i∧∀(j:Nat) d,ds[j]?=some d→∃ H0,fZ p (ad p ts g) (bg ts) m j d (Fs j) H0 H2∧H0 d=none∧∃ o,H0 D=some o) ⟨am.new hD,ag,[],fun _ _ _=>none,rfl,rfl,fun j d e=>by cases e⟩ (fun i acc H2 _ ⟨_,z,ds,_,e,l,_⟩=>⟨z,by rw[e,List.length_map];omega⟩) (dl (Nat.ble_eq.mpr (by omega))) ?_ ?_⟩)))
  ·rintro i acc H2 hi ⟨s2,hD2,ds,Fs,rfl,hl,all⟩
   rw[Int.toNat_natCast]at hi
   rw[Int.zero_add]
   refine⟨rfl,exq rfl (exq rfl (exq rfl ⟨wb,p,ts,g,m,i,rfl,hw.same s2,hm,hi,s2 _ _ htb,fun d F H3 hd s3 wa=>?_⟩))⟩
   have hD3:=s3 _ _ hD2
   refine⟨hD3,(s2.trans s3).put hD,ag,ds++[d],fun j=>if j=i then F else Fs j,by simp,by simp[hl],fun j d' e=>?_⟩
   by_cases ej:j<ds.length
   ·rw[List.getElem?_append_left ej]at e
    obtain⟨H0,w0,n0,o0⟩:=all j d' e
    dsimp only
    rw[if_neg (show ¬ j=i by omega)]
    exact⟨H0,(w0.same s3).put n0 hD3 o0,n0,o0⟩
   ·rw[List.getElem?_append_right (by omega)]at e
    have hj:j=i:=by
     have:=(List.getElem?_eq_some_iff.mp e).1
     simp at this
     omega
    subst hj
    rw[hl,Nat.sub_self]at e
    have e:d=d':=by simpa using e
    subst e
    dsimp only
    rw[if_pos rfl]
    exact⟨H2,wa.put hd hD3 ⟨_,hD2⟩,hd,_,hD2⟩
  ·rintro acc H2 ⟨s2,hD2,ds,Fs,rfl,hl,all⟩
   rw[Int.toNat_natCast]at hl
   exact q D ds Fs H2 hD s2 hD2 ⟨hl,fun j d e=>let⟨H0,w0,_⟩:=all j d e;⟨H0,w0⟩⟩
end
def jA:Sp:=fun vs H Q _=>∃(D:Addr) (ds:List Addr) (Fs:Nat→RM.OW),∃ p N L m,vs=[.ref D]∧H D=some (.lst (ds.map V.ref))∧p≤900∧tK p N L m p ds Fs H∧
 ∀ b H',am H H'→cQ H' b ((List.range p).map fun i=>ig (pR (Fs i)) p)→Q (.ref b) H'
section
variable {P:Program}{w:World}{K:PySem.W.Frag}{mg:Str→Option Value}{base:Heap}{a:Adr}
theorem eO(T:Txt K mg a):FnOk P w K mg base CX0 3 a.f_worths_of_all a.d_worths_of_all ["ways"] jA:=by
 have dW:FnOk P w K mg base CX0 2 a.f_worths_of_ways a.d_worths_of_ways ["ways"] kD:=dW T
 refine T.F_worths_of_all.ok ki (fun vs H Q E h=>?_) (fun cdv A outer s H vs Q E hr h=>?_)
 ·obtain⟨D,ds,Fs,p,N,L,m,rfl,_⟩:=h
  rfl
 ·obtain⟨D,ds,Fs,p,N,L,m,rfl,hD,hp,⟨hl,all⟩,q⟩:=h
  refine⟨_,(@ao _ _ _ (@az _ _ _ _ (@da _ _ _ _ _ _ _ _ _ (xp K) (by rfl) T.n_tuple PyProof.Rows.boot_tuple (@aa _ _ _ _ _ (@dr _ _ _ _ _ _ _ ["from_point"] [] [] _ _ _ _ (aF (ae bB) ["ways"]) rfl (@piL _ _ _ _ K (pv 0) (by rfl)) (fun _ _ _ _=>(ax (i:=0) (show(["from_point"]:List Str).Nodup by decide +kernel) rfl (Or.inl rfl))) (fun _ _ _ _=>dk) (fun _ _ _ _=>(au dW (hr.mono (by decide)) (by rfl) T.m_worths_of_ways T.k_worths_of_ways T.b_worths_of_ways .nil aK (aa (pv 0) af))) (by intro _;rfl)) af (by rfl)) (by decide) (by decide) (by rfl) (by rfl)))),?_⟩
  refine(exq rfl ⟨D,rfl,⟨_,SqL.of hD⟩,fun X hX=>dz (K:=K) (a:=D) (xs:=ds.map V.ref) (fun i acc H2=>am H H2∧H2 X=some (.lst acc)∧Paired (jc H2) acc ((List.range i).map fun i=>ig (pR (Fs i)) p)) ⟨am.new hX,ag,.nil⟩ (fun i acc H2 _ z=>⟨SqL.of (z.1 _ _ hD),z.2.1,by rw[z.2.2.length,List.length_map,List.length_range];exact Nat.le_refl _⟩) (dl (Nat.ble_eq.mpr (by rw[List.length_map];omega))) ?_ ?_⟩)
  ·rintro i x acc H2 hx ⟨s2,hX2,pr⟩
   obtain⟨d,hd,rfl⟩:∃ d,ds[i]?=some d∧x = .ref d:=by
    rw[List.getElem?_map]at hx
    obtain⟨b,h1,h2⟩:=Option.map_eq_some_iff.mp hx
    exact⟨b,h1,h2.symm⟩
   obtain⟨H0,wa⟩:=all i d hd
   obtain⟨es,e1,e2,e3,_⟩:=wa.same s2
   refine⟨rfl,exq rfl ⟨d,es,Fs i,rfl,e2,(by omega),e3,fun b ys H3 s3 hb pr3=>?_⟩⟩
   have hX3:=s3 _ _ hX2
   refine⟨hX3,(s2.trans s3).put hX,ag,?_⟩
   rw[List.range_succ,List.map_append,e1]at *
   exact Paired.snoc (Paired.imp' (fun _ _ z=>z.tups (s3.tups.trans (dL.put hX3))) pr) (jc.tups (dL.put hX3) ⟨b,ys,rfl,hb,pr3⟩)
  ·rintro acc H2 ⟨s2,hX2,pr⟩
   rw[List.length_map,hl]at pr
   refine⟨X,_,rfl,.inl ⟨SqL.of hX2,fun l hl=>?_⟩⟩
   exact q l _ (s2.trans (am.new hl)) ⟨acc,ag,Paired.imp' (fun _ _ z=>z.same (am.new hl)) pr⟩
end
def p4(p:Nat)(ts:List Tie)(g:GoodWeb p ts)(m:Nat)(H H' : Hp)(t:Addr):Prop :=
 ((∀ x z,x<p→¬ RM.Wy (ad p ts g) (bg ts) m x x true z)∧m=(ad p ts g).cut (fun x=>decide (x∈iH p ts g m))∧∃ l,H l=none∧H' t=some (.tup [.str "side",.ref l])∧H' l=some (.lst (aJ (iH p ts g m))))∨
 ∃(z:Int) (e:Nat) (b:Addr) (W:List (List Pr)),RM.Lo (ad p ts g) (bg ts) m z e∧RM.LeastOdd (ad p ts g) (bg ts) m z e∧H' t=some (.tup [.str "ring",.int (e:Int),.ref b])∧cQ H' b W∧W.length=p∧(∀ R∈W,R.length=p)∧n4 p ts g m W
def hG(C t:Addr)(lp:Pos):Sp:=fun vs H Q E=>∃ w p ts,∃ g:GoodWeb p ts,∃ S,vs=[.ref w,.int S]∧WebAt H w p ts∧H t=some (.tbl (eK (uJ "least_ways") lp))∧iA ts S (E (.ref C) none H) fun m=>∀ r H',H r=none→am H H'→p4 p ts g m H H' r→Q (.ref r) H'
def na(H:Hp)(v:V)(d:Int×Nat):Prop:=∃ c,v = .ref c∧H c=some (.tup [.int d.1,.int (d.2:Int)])
theorem na.tups{H H' : Hp}{v:V}{d:Int×Nat}(h:na H v d)(s:dL H H'):na H' v d:=let⟨c,e,q⟩:=h;⟨c,e,s _ _ q⟩
def jd(d:Int×Nat):PyData:=.tuple [.int d.1,.int (d.2:Int)]
theorem re{K:PySem.W.Frag}{H:Hp}:∀{ys:List V} {R:List (Int×Nat)},Paired (na H) ys R→DatVs K H ys (R.map jd)
 | _,_,.nil=>.nil
 | _,_,.cons h r=>by
   obtain⟨b,rfl,hb⟩:=h
   exact .cons (.tup (SqT.of hb) (.cons (.int _) (.cons (.int _) .nil))) (re r)
theorem vT:∀ l:List (Int×Nat),PyData.eqv (.list (l.map jd)) (.list [])=decide (l=[])
 | []=>rfl
 | _::_=>rfl
theorem qq:∀ R:List (Int×Nat),PyData.canLayAll0 (R.map jd)=true
 | []=>rfl
 | q::r=>by
   have ih:=qq r
   have e:(jd q).canLay0=true:=by simp[jd,PyData.canLay0,PyData.canLayAll0]
   simp only[List.map_cons,PyData.canLayAll0,ih,Bool.and_true,e]
theorem nR:∀ R:List (Int×Nat),PyData.depthAll (R.map jd)≤1
 | []=>Nat.zero_le _
 | q::r=>by
   have ih:=nR r
   show max (PyData.depth (jd q)) (PyData.depthAll (r.map jd))≤1
   have e:PyData.depth (jd q)=1:=by simp[jd,PyData.depth,PyData.depthAll]
   omega
theorem nZ{H:Hp}:∀{ys:List V} {R:List (Int×Nat)},Paired (na H) ys R→∃ cs:List Addr,ys=cs.map V.ref∧Paired (fun(c:Addr) (d:Int×Nat)=>H c=some (.tup [.int d.1,.int (d.2:Int)])) cs R
 | _,_,.nil=>⟨[],rfl,.nil⟩
 | _,_,.cons h r=>by
   obtain⟨b,rfl,hb⟩:=h
   obtain⟨cs,rfl,pr⟩:=nZ r
   exact⟨b::cs,rfl,.cons hb pr⟩
theorem qM(R:List (Int×Nat)):SeqAt.shaped (.list (R.map jd))=true:=by
 unfold SeqAt.shaped
 have e:(PyData.list (R.map jd)).canLay0=PyData.canLayAll0 (R.map jd):=by simp[PyData.canLay0]
 rw[e,qq,Bool.true_and]
 refine decide_eq_true ?_
 have h:=nR R
 have e2:PyData.depth (PyData.list (R.map jd))=PyData.depthAll (R.map jd)+1:=by simp[PyData.depth]
 rw[e2]
 omega
theorem pZ{a b:Int×Nat}(h:HT.bN [a.1,(a.2:Int)] [b.1,(b.2:Int)]=false):RM.lx b a:=by
 rw[HT.dX]at h
 unfold RM.lx
 by_cases e:a.1=b.1
 ·rw[if_pos e,HT.dX]at h
  refine .inr ⟨e.symm,?_⟩
  by_cases e2:(a.2:Int)=(b.2:Int)
  ·omega
  ·rw[if_neg e2]at h
   have:=of_decide_eq_false h
   omega
 ·rw[if_neg e]at h
  have:=of_decide_eq_false h
  exact .inl (by omega)
section
variable {P:Program}{w:World}{K:PySem.W.Frag}{mg:Str→Option Value}{base:Heap}{a:Adr}
theorem cK(T:Txt K mg a):FnOk P w K mg base (CX1 P w) 7 a.f_least_odd a.d_least_odd ["web","marks"] (hG a.c_BadSet a.p_least_ways aX):=by
 have aP:FnOk P w K mg base (CX1 P w) 3 a.f_check_set a.d_check_set ["web","tie_set"] (cU a.c_BadSet):=aP T
 have d9:FnOk P w K mg base CX0 6 a.f_all_least_ways a.d_all_least_ways ["web","marks"] (kN a.p_least_ways aX):=d9 T
 have eO:FnOk P w K mg base CX0 3 a.f_worths_of_all a.d_worths_of_all ["ways"] jA:=eO T
 have kd:FnOk P w K mg base (CX1 P w) 6 a.f_side_of a.d_side_of ["web","tie_set"] (mS a.c_BadSet):=kd T
 refine T.F_least_odd.ok1 gM (fun vs H Q E h=>?_) (fun cdv A outer s H vs Q E hr h=>?_)
 ·obtain⟨w,p,ts,g,S,rfl,_⟩:=h
  rfl
 ·obtain⟨wb,p,ts,g,S,rfl,hw,htb,q⟩:=h
  refine⟨_,(@aj _ _ _ _ _ (@cG _ _ _ _ (@au _ _ _ _ _ _ _ _ _ _ _ _ _ _ _ _ aP (hr.mono (by decide)) (by rfl) T.m_check_set T.k_check_set T.b_check_set .nil du.passes (@aa _ _ _ _ _ (pv 0) (@aa _ _ _ _ _ (pv 1) af (by rfl)) (by rfl)) (by decide) (by rfl) (by rfl)) (by rfl)) (@aj _ _ _ _ _ (@aC _ _ 2 _ _ _ _ gM.nd rfl (Or.inr rfl) (@au _ _ _ _ _ _ _ _ _ _ _ _ _ _ _ _ d9 (hr.mono (by decide)) (by rfl) T.m_all_least_ways T.k_all_least_ways T.b_all_least_ways .nil aK (@aa _ _ _ _ _ (pv 0) (@aa _ _ _ _ _ (pv 1) af (by rfl)) (by rfl)) (by decide) (by rfl) (by rfl)) (by rfl) (by first | exact .inl rfl | exact .inr rfl | assumption)) (@aj _ _ _ _ _ (@e8 _ _ _ _ _ _ _ ["point"] ["ways"] [2] _ _ _ _ 3 _ _ _ gM.nd rfl rfl (aF (ae cN) ["web","marks","ways","rounds"]) rfl (@bh _ _ _ _ _ _ (by rfl) T.n_range (@aa _ _ _ _ _ (@aq _ _ _ _ _ _ _ (ixT K) (pv 0) ah (fun _ _=>rfl)) af (by rfl)) (by rfl)) (fun _ _ _ _=>(ax (i:=0) (show(["point","ways"]:List Str).Nodup by decide +kernel) rfl (Or.inl rfl))) (fun _ _ _ _=>(eC (aE tG (aq (ixL K) (aq (ixL K) (aq (ixL K) (pv 1) (pv 0) (fun _ _=>rfl)) (pv 0) (fun _ _=>rfl)) ah (fun _ _=>rfl)) dJ (aD _)))) (fun _ _ _ _=>(aq (ixL K) (aq (ixL K) (aq (ixL K) (pv 1) (pv 0) (fun _ _=>rfl)) (pv 0) (fun _ _=>rfl)) ah (fun _ _=>rfl))) (by rfl) (by intro _;rfl)) (@aj _ _ _ _ _ (@ce _ _ _ _ _ _ _ _ (@aE _ _ _ _ _ _ _ _ (sN K hr.units) (pv 3) (@bY _ _ _ _ af) (aD _)) (@ao _ _ _ (@az _ _ _ _ (@au _ _ _ _ _ _ _ _ _ _ _ _ _ _ _ _ kd (hr.mono (by decide)) (by rfl) T.m_side_of T.k_side_of T.b_side_of .nil du.passes (@aa _ _ _ _ _ (pv 0) (@aa _ _ _ _ _ (pv 1) af (by rfl)) (by rfl)) (by decide) (by rfl) (by rfl)))) aU) (@ao _ _ _ (@az _ _ _ _ (@cq _ _ _ _ _ (@aa _ _ _ _ _ g7 (@aa _ _ _ _ _ (@aq _ _ _ _ _ _ _ (ixT K) (@aA _ _ _ _ _ _ _ _ _ (aa2 hr.hd hr.in1.units0) (by rfl) T.n_min PyProof.Rows.boot_min (@aa _ _ _ _ _ (pv 3) af (by rfl)) (by decide) (by decide) (by rfl) (by rfl)) ah (fun _ _=>rfl)) (@aa _ _ _ _ _ (@au _ _ _ _ _ _ _ _ _ _ _ _ _ _ _ _ eO (hr.mono (by decide)) (by rfl) T.m_worths_of_all T.k_worths_of_all T.b_worths_of_all .nil aK (@aa _ _ _ _ _ (pv 2) af (by rfl)) (by decide) (by rfl) (by rfl)) af (by rfl)) (by rfl)) (by rfl))))))))),?_⟩
  refine pq ?_
  intro zz0 zz1 zz2 zz3 zz4
  obtain⟨bt,xs,h1,h2,h3⟩:=id hw.ex
  have wp:=g.p2
  have W:=g.web
  rcases q with⟨m,rfl,hm,q⟩|⟨hS,q⟩
  case inr=>exact(exq rfl (exq rfl ⟨wb,p,ts,_,rfl,hw,W,.inr ⟨hS,q⟩⟩))
  refine(exq rfl (exq rfl ⟨wb,p,ts,_,rfl,hw,W,.inl ⟨m,rfl,hm,?_⟩⟩))
  refine(exq rfl (exq rfl ⟨wb,p,ts,g,m,rfl,hw,hm,htb,fun D ds Fs H1 hD s1 hD1 al=>?_⟩))
  obtain⟨hl,all⟩:=id al
  have hrow:∀ i,i<p→∃ d H0,ds[i]?=some d∧fZ p (ad p ts g) (bg ts) m i d (Fs i) H0 H1:=fun i hi=>by
   have e:ds[i]?=some ds[i]:=List.getElem?_eq_getElem (by omega)
   obtain⟨H0,h0⟩:=all i _ e
   exact⟨_,H0,e,h0⟩
  refine(exq rfl (ixq (SqT.of (s1 _ _ h1)) (ai (j:=0) rfl) (exq rfl ⟨(by omega),(by omega),fun X hX=>bL (lo:=0) (m:=(p:Int).toNat) (fun i acc H2=>am H1 H2∧H2 X=some (.lst acc)∧Paired (na H2) acc ((List.range i).filterMap fun j=>Fs j j true)) ⟨am.new hX,ag,.nil⟩ (fun i acc H2 _ z=>⟨z.2.1,by rw[z.2.2.length];exact Nat.le_trans (List.length_filterMap_le ..) (by simp)⟩) (dl (Nat.ble_eq.mpr (by omega))) ?_ ?_⟩)))
  ·rintro i acc H2 hi ⟨s2,hX2,pr⟩
   rw[Int.toNat_natCast]at hi
   rw[Int.zero_add]
   obtain⟨d,H0,hd,es,e1,e2,e3,_⟩:=hrow i hi
   have hei:es[i]?=some es[i]:=List.getElem?_eq_getElem (by omega)
   obtain⟨v0,v1,hv,w0,w1⟩:=e3 i _ hei
   have fm:(List.range (i+1)).filterMap (fun j=>Fs j j true)=(List.range i).filterMap (fun j=>Fs j j true)++(Fs i i true).toList:=by
    rw[List.range_succ,List.filterMap_append]
    cases hF:Fs i i true<;>simp[hF]
   rw[fm]
   have hDi:(ds.map V.ref)[i]?=some (.ref d):=by rw[List.getElem?_map,hd];rfl
   have hdi:(es.map V.ref)[i]?=some (.ref es[i]):=by rw[List.getElem?_map,hei];rfl
   refine⟨rfl,exq rfl (exq rfl (ixl (SqL.of (s2 _ _ hD1)) (ai (j:=i) hDi) (exq rfl (ixl (SqL.of (s2 _ _ e2)) (ai (j:=i) hdi) (ixl (SqL.of (s2 _ _ hv)) (ai (j:=1) rfl) ⟨rfl,exq rfl (?_)⟩)))))⟩
   cases hF:Fs i i true with
   | none =>
     rw[hF]at w1
     have w1:v1 = .non:=w1
     subst w1
     refine vq rfl ⟨s2,hX2,?_⟩
     rw[show(none:Option (Int×Nat)).toList=[] from rfl,List.append_nil]
     exact pr
   | some dd =>
     rw[hF]at w1
     obtain⟨c,rfl,hc⟩:=w1
     refine xj (fun z=>nomatch z) (exq rfl (exq rfl (ixl (SqL.of (s2 _ _ hD1)) (ai (j:=i) hDi) (exq rfl (ixl (SqL.of (s2 _ _ e2)) (ai (j:=i) hdi) (ixl (SqL.of (s2 _ _ hv)) (ai (j:=1) rfl) ⟨hX2,s2.put hX,ag,?_⟩))))))
     have tp:dL H2 (upd H2 X (.lst (acc++[.ref c]))):=dL.put hX2
     exact Paired.snoc (Paired.imp' (fun _ _ z=>z.tups tp) pr) ⟨c,rfl,tp _ _ (s2 _ _ hc)⟩
  ·rintro acc H2 ⟨s2,hX2,pr⟩
   rw[Int.toNat_natCast]at pr
   generalize hR:(List.range p).filterMap (fun j=>Fs j j true)=R at pr
   have s12:=s1.trans s2
   have hL1:∀ k,k<(ad p ts g).n→0<bg ts k:=fun k hk=>by
    have:=(g.ties _ (db hk)).l0
    unfold bg
    omega
   have inR:∀ j d,j<p→Fs j j true=some d→d∈R:=fun j d hj hd=>by
    rw[← hR]
    exact List.mem_filterMap.mpr ⟨j,List.mem_range.mpr hj,hd⟩
   have ofR:∀ d,d∈R→∃ j,j<p∧Fs j j true=some d:=fun d hd=>by
    rw[← hR]at hd
    obtain⟨j,hj,e⟩:=List.mem_filterMap.mp hd
    exact⟨j,List.mem_range.mp hj,e⟩
   have best:∀ i,i<p→∀ x s,RM.m9 (ad p ts g) (bg ts) m i x s ((Fs i x s).map (·.1)):=fun i hi=>by
    obtain⟨d,H0,hd,es,e1,e2,e3,e4,_⟩:=hrow i hi
    exact e4
   refine(exq rfl ⟨dl rfl,fun l0 hl0=>⟨_,_,.lst (SqL.of (am.new hl0 _ _ hX2)) (re (Paired.imp' (fun _ _ z=>z.tups (am.new hl0).tups) pr)),.lst (SqL.of ag) .nil,qM _,rfl,exq rfl (?_)⟩⟩)
   rw[vT]
   have s3:=s12.trans (am.new (o:=.lst []) hl0)
   have s23:=s2.trans (am.new (o:=.lst []) hl0)
   have hX3:=am.new (o:=.lst []) hl0 _ _ hX2
   have pr3:=Paired.imp' (fun _ _ z=>na.tups z (am.new (o:=.lst []) hl0).tups) pr
   clear hX2 pr
   generalize upd H2 l0 (.lst [])=H3 at s3 s23 hX3 pr3
   by_cases hne:R=[]
   ·rw[decide_eq_true hne]
    have no:∀ x z,x<p→¬ RM.Wy (ad p ts g) (bg ts) m x x true z:=fun x z hx hw=>by
     have b:=best x hx x true
     cases hF:Fs x x true with
     | none=>rw[hF]at b;exact b z hw
     | some d=>have:=inR x d hx hF;rw[hne]at this;cases this
    refine df (exq rfl (exq rfl ⟨wb,p,ts,g,_,rfl,hw.same s3,.inl ⟨m,rfl,hm,fun t H4 ht s4 told=>?_⟩⟩))
    refine q t H4 (s3.free ht) (s3.trans s4) (.inl ⟨no,?_⟩)
    rcases told with⟨h0,l,hl,ht4,hl4⟩|⟨c,hc,hp,_⟩
    ·exact⟨h0,l,s3.free hl,ht4,hl4⟩
    ·obtain⟨c1,c2⟩:=RM.hV.mp hc
     rw[RM.qO (fun k hk=>Int.le_of_lt (hL1 k hk)) no (RM.vf c1 c2) (RM.pV c1)]at hp
     cases hp
   ·rw[decide_eq_false hne]
    obtain⟨cs,rfl,prc⟩:=nZ pr3
    have csl:=prc.length
    have hpos:0<cs.length:=by
     have:=List.length_pos_iff.mpr hne
     omega
    have hcs:∀(i:Nat) c,cs[i]?=some c→∃ d,R[i]?=some d∧H3 c=some (.tup [.int d.1,.int (d.2:Int)]):=fun i c hc=>Paired.getP prc hc
    refine cg (exq rfl ⟨X,cs,fun i=>[(R.getD i (0,0)).1,((R.getD i (0,0)).2:Int)],rfl,SqL.of hX3,hpos,fun i c hc=>?_,fun i c hc hmin=>?_⟩)
    ·obtain⟨d,hd,h⟩:=hcs i c hc
     have e:R.getD i (0,0)=d:=by rw[List.getD_eq_getElem?_getD,hd];rfl
     dsimp only
     rw[e]
     exact SqT.of h
    obtain⟨d,hd,hcd⟩:=hcs i c hc
    obtain⟨u,hu,hFu⟩:=ofR d (List.mem_of_getElem? hd)
    have hlx:∀ j d',j<p→Fs j j true=some d'→RM.lx d d':=fun j d' hj hF=>by
     obtain⟨i',hi'⟩:=List.getElem?_of_mem (inR j d' hj hF)
     have hlt:i'<cs.length:=by
      have:=(List.getElem?_eq_some_iff.mp hi').1
      omega
     have hm2:=hmin i' hlt
     have e:R.getD i (0,0)=d:=by rw[List.getD_eq_getElem?_getD,hd];rfl
     have e' : R.getD i' (0,0)=d':=by rw[List.getD_eq_getElem?_getD,hi'];rfl
     dsimp only at hm2
     rw[e,e']at hm2
     exact pZ hm2
    have hmn:∀ x z',x<p→RM.Wy (ad p ts g) (bg ts) m x x true z'→d.1≤z':=fun x z' hx hw=>by
     have b:=best x hx x true
     cases hF:Fs x x true with
     | none=>rw[hF]at b;exact absurd hw (b z')
     | some d' =>
       rw[hF]at b
       have h1:d'.1≤z':=b.2 z' hw
       have h2:=hlx x d' hx hF
       unfold RM.lx at h2
       omega
    obtain⟨_,_,_,es,_,_,_,_,wz,_,_⟩:=hrow u hu
    have wzu:=wz u true d hFu
    obtain⟨r1,r2,r3,r4⟩:=RM.rR hL1 (show u<(ad p ts g).p from hu) wzu hmn
    refine(ixq (SqT.of hcd) (ai (j:=1) rfl) (exq rfl ⟨D,ds,Fs,p,ad p ts g,bg ts,m,rfl,s23 _ _ hD1,(by omega),⟨hl,fun j d e=>let⟨H0,w0⟩:=all j d e;⟨H0,w0.same s23⟩⟩,fun b H4 s4 hW=>⟨dl rfl,fun t ht=>?_⟩⟩))
    have s5:am H4 (upd H4 t (.tup [.str "ring",.int (d.2:Int),.ref b])):=am.new ht
    refine q t _ ((s3.trans s4).free ht) ((s3.trans s4).trans s5) (.inr ⟨d.1,d.2,b,_,⟨Fs,fun i hi=>?_,⟨u,hu,hFu⟩,hlx⟩,⟨r1,r2,r3,r4,⟨u,hu,?_⟩,hmn⟩,ag,hW.same s5,by rw[List.length_map,List.length_range],fun R hR=>?_,fun i hi x s hx=>?_⟩)
    ·obtain⟨_,_,_,_,_,_,_,_,_,_,fx⟩:=hrow i hi
     exact fx
    ·obtain⟨pre,w0⟩:=wzu
     exact⟨pre,_,w0⟩
    ·obtain⟨i,_,rfl⟩:=List.mem_map.mp hR
     exact tD _ _
    ·rw[List.getD_eq_getElem?_getD,List.getElem?_map,List.getElem?_range hi]
     show RM.m9 _ _ m i x s (sel (cH (ig (pR (Fs i)) p) x) s)
     rw[ze hx]
     exact best i hi x s
end
def t6(K:PySem.W.Frag):Sp:=fun vs H Q _=>∃(a:Addr) (ns:List Int) (k:Int),vs=[.ref a,.int k]∧0≤k∧SqL K H a (ns.map V.int)∧∀ z,Q (.int z) H
def sS:Sp:=fun vs H Q _=>∃ c k y,vs=[.int c,.int k,.int y]∧∀ z,Q (.int z) H
def vC:Sp:=fun vs H Q _=>∃(c:Int) (p m:Nat),vs=[.int c,.int (p:Int),.int (m:Int)]∧2≤p∧p≤10∧m<4∧∀ t b H',am H H'→GoodTie (p:Int) t→H' b=some (.tup (yf t))→Q (.ref b) H'
def vo(K:PySem.W.Frag):Sp:=fun vs H Q _=>∃(a:Addr) (ns:List Int) (mp mt:Nat),vs=[.ref a,.int (mp:Int),.int (mt:Int)]∧SqL K H a (ns.map V.int)∧ns.length≤63∧1≤mp∧mp≤10∧1≤mt∧mt≤24∧
 ∀ r w p ts z H',am H H'→GoodWeb p ts→p≤mp→ts.length≤mt→WebAt H' w p ts→H' r=some (.tup [.ref w,.int z])→Q (.ref r) H'
theorem aaa(l:Int){m:Nat}(hm:m<4):∃ v,atI [V.int (1+l%9),.int 1,.int (1+l%10^(30:Int).toNat),.int (1+l%2)] (m:Int)=some (.int v)∧1≤v∧v≤1000000000000000000000000000000:=by
 have h9:=fG l 9 (by decide)
 have h30:=fG l (10^(30:Int).toNat) (by decide)
 have h2:=fG l 2 (by decide)
 have e:(10:Int)^(30:Int).toNat=1000000000000000000000000000000:=by decide
 match m,hm with
 | 0,_=>exact⟨_,ai (j:=0) rfl,by omega,by omega⟩
 | 1,_=>exact⟨_,ai (j:=1) rfl,by decide,by decide⟩
 | 2,_=>exact⟨_,ai (j:=2) rfl,by omega,by omega⟩
 | 3,_=>exact⟨_,ai (j:=3) rfl,by omega,by omega⟩
section
variable {P:Program}{w:World}{K:PySem.W.Frag}{mg:Str→Option Value}{base:Heap}{a:Adr}
theorem eI(T:Txt K mg a):FnOk P w K mg base CX0 1 a.f_law_cell_at a.d_law_cell_at ["script","k"] (t6 K):=by
 refine T.F_law_cell_at.ok md (fun vs H Q E h=>?_) (fun cdv A outer s H vs Q E hr h=>?_)
 ·obtain⟨b,ns,k,rfl,_⟩:=h
  rfl
 ·obtain⟨b,ns,k,rfl,hk0,hS,q⟩:=h
  refine⟨_,(@aj _ _ _ _ _ (@ce _ _ _ _ _ _ _ _ (@aE _ _ _ _ _ _ _ _ yJ (pv 1) (@aA _ _ _ _ _ _ _ _ _ (gN K) (by rfl) T.n_len PySem.boot_len (@aa _ _ _ _ _ (pv 0) af (by rfl)) (by decide) (by decide) (by rfl) (by rfl)) (aD _)) (@ao _ _ _ (@az _ _ _ _ (@aq _ _ _ _ _ _ _ (ixL K) (pv 0) (pv 1) (fun _ _=>rfl)))) aU) (@ao _ _ _ (@az _ _ _ _ ah))),?_⟩
  refine mC ?_
  intro zz0 zz1
  refine(exq rfl (exq rfl ⟨b,_,rfl,.inl hS,_,_,rfl,rfl,exq rfl (sa (fun hlt=>?_) (fun _=>q 0))⟩))
  have hlt:=of_decide_eq_true hlt
  rw[List.length_map]at hlt
  obtain⟨k,rfl⟩:=Int.eq_ofNat_of_zero_le hk0
  exact(exq rfl (exq rfl ⟨b,_,_,_,rfl,rfl,hS,ai (j:=k) (lm (by omega)),q _⟩))
theorem gF(T:Txt K mg a):FnOk P w K mg base CX0 1 a.f_law_left a.d_law_left ["cell","k","way"] sS:=by
 refine T.F_law_left.ok kA (fun vs H Q E h=>?_) (fun cdv A outer s H vs Q E hr h=>?_)
 ·obtain⟨c,k,y,rfl,_⟩:=h
  rfl
 ·obtain⟨c,k,y,rfl,q⟩:=h
  refine⟨_,(@aj _ _ _ _ _ (@ce _ _ _ _ _ _ _ _ (@aE _ _ _ _ _ _ _ _ dU (pv 2) ah (aD _)) (@ao _ _ _ (@az _ _ _ _ (pv 0))) aU) (@aj _ _ _ _ _ (@aC _ _ 3 _ _ _ _ kA.nd rfl (Or.inl rfl) (@ay _ _ _ _ _ _ _ _ ci (@ay _ _ _ _ _ _ _ _ jX (@ay _ _ _ _ _ _ _ _ cP (@ay _ _ _ _ _ _ _ _ cP (@ay _ _ _ _ _ _ _ _ ci (pv 0) ah) (@ay _ _ _ _ _ _ _ _ jX ah (pv 1))) ah) ah) ah) (by rfl) (by first | exact .inl rfl | exact .inr rfl | assumption)) (@ao _ _ _ (@az _ _ _ _ (@ay _ _ _ _ _ _ _ _ ci (@ay _ _ _ _ _ _ _ _ jX (@ay _ _ _ _ _ _ _ _ jX (pv 3) (pv 3)) (@ay _ _ _ _ _ _ _ _ cP (pv 3) ah)) (@ay _ _ _ _ _ _ _ _ cP (@ay _ _ _ _ _ _ _ _ sr ah ah) ah)))))),?_⟩
  refine qB ?_
  intro zz0 zz1 zz2
  refine(exq rfl ⟨rfl,exq rfl (sa (fun _=>(exq rfl (q _))) (fun _=>?_))⟩)
  refine(exq rfl (ijq ⟨(nJ rfl),exq rfl (ijq ⟨.inl ⟨by decide,by decide⟩,ijq (ijq (ijq ⟨.inr ⟨by decide,by decide⟩,ijq ⟨(nJ rfl),?_⟩⟩))⟩)⟩))
  have h1:=fG ((c%998244353+7919*k+1)*69621) 2147483647 (by decide)
  dsimp only
  generalize (c%998244353+7919*k+1)*69621%2147483647=n at h1
  exact(exq rfl (exq rfl (ijq ⟨.inl ⟨by omega,by omega⟩,exq rfl (ijq (ijq ⟨.inr ⟨by omega,by omega⟩,ijq ⟨⟨by decide,by decide,by decide⟩,ijq (ijq ⟨(show(0:Int)<10^(18:Int).toNat+9 by decide),q _⟩)⟩⟩))⟩)))
theorem ke(T:Txt K mg a):FnOk P w K mg base CX0 1 a.f_law_tie a.d_law_tie ["left","points","mode"] vC:=by
 refine T.F_law_tie.ok fJ (fun vs H Q E h=>?_) (fun cdv A outer s H vs Q E hr h=>?_)
 ·obtain⟨c,p,m,rfl,_⟩:=h
  rfl
 ·obtain⟨c,p,m,rfl,hp1,hp2,hm,q⟩:=h
  refine⟨_,(@aj _ _ _ _ _ (@aC _ _ 3 _ _ _ _ fJ.nd rfl (Or.inl rfl) (@ay _ _ _ _ _ _ _ _ ci (pv 0) (pv 1)) (by rfl) (by first | exact .inl rfl | exact .inr rfl | assumption)) (@aj _ _ _ _ _ (@aC _ _ 0 _ _ _ _ fJ.nd rfl (Or.inl rfl) (@ay _ _ _ _ _ _ _ _ gR (pv 0) (pv 1)) (by rfl) (by first | exact .inl rfl | exact .inr rfl | assumption)) (@aj _ _ _ _ _ (@aC _ _ 4 _ _ _ _ fJ.nd rfl (Or.inl rfl) (@ay _ _ _ _ _ _ _ _ ci (@ay _ _ _ _ _ _ _ _ cP (@ay _ _ _ _ _ _ _ _ cP (pv 3) ah) (@ay _ _ _ _ _ _ _ _ ci (pv 0) (@ay _ _ _ _ _ _ _ _ jj (pv 1) ah))) (pv 1)) (by rfl) (by first | exact .inl rfl | exact .inr rfl | assumption)) (@aj _ _ _ _ _ (@aC _ _ 0 _ _ _ _ fJ.nd rfl (Or.inl rfl) (@ay _ _ _ _ _ _ _ _ gR (pv 0) (@ay _ _ _ _ _ _ _ _ jj (pv 1) ah)) (by rfl) (by first | exact .inl rfl | exact .inr rfl | assumption)) (@ao _ _ _ (@az _ _ _ _ (@cq _ _ _ _ _ (@aa _ _ _ _ _ (pv 3) (@aa _ _ _ _ _ (pv 4) (@aa _ _ _ _ _ (@aq _ _ _ _ _ _ _ (ixL K) (@bY _ _ _ _ (@aa _ _ _ _ _ (@ay _ _ _ _ _ _ _ _ cP ah (@ay _ _ _ _ _ _ _ _ ci (pv 0) ah)) (@aa _ _ _ _ _ ah (@aa _ _ _ _ _ (@ay _ _ _ _ _ _ _ _ cP ah (@ay _ _ _ _ _ _ _ _ ci (pv 0) (@ay _ _ _ _ _ _ _ _ sr ah ah))) (@aa _ _ _ _ _ (@ay _ _ _ _ _ _ _ _ cP ah (@ay _ _ _ _ _ _ _ _ ci (pv 0) ah)) af (by rfl)) (by rfl)) (by rfl)) (by rfl))) (pv 2) (fun _ _=>rfl)) af (by rfl)) (by rfl)) (by rfl))))))))),?_⟩
  refine se ?_
  intro zz0 zz1 zz2 zz3
  have p0:(0:Int)<(p:Int):=by omega
  have p9:(0:Int)<(p:Int)-1:=by omega
  have hd:∀ i,zd i (p:Int):=fun i=>⟨by omega,by omega⟩
  have hd1:∀ i,zd i ((p:Int)-1):=fun i=>⟨by omega,by omega⟩
  refine(exq rfl (exq rfl (ijq ⟨p0,?_⟩)))
  refine(exq rfl (exq rfl (ijq ⟨hd _,?_⟩)))
  refine(exq rfl (ijq (exq rfl (exq rfl (ijq (ijq ⟨p9,_,_,rfl,rfl,exq rfl (ijq ⟨p0,?_⟩)⟩))))))
  refine(exq rfl (exq rfl (ijq (ijq ⟨hd1 _,?_⟩))))
  obtain⟨v,hv,v1,v2⟩:=aaa (c/p/(p-1)) hm
  refine(exq rfl (exq rfl (exq rfl (ijq ⟨(nJ rfl),ijq (exq rfl (ijq ⟨⟨by decide,by decide,by decide⟩,ijq ⟨(nJ rfl),ijq (exq rfl (ijq ⟨(nJ rfl),ijq ⟨dl rfl,fun l hl=>(exq rfl (ixl (SqL.of ag) (hv) ⟨dl rfl,fun b hb=>?_⟩))⟩⟩))⟩⟩))⟩))))
  obtain⟨o1,o2,o3⟩:=vM (p:=p) (o:=c%p) (r:=c/p%(p-1)) (fG _ _ p0).1 (fG _ _ p0).2 (fG _ _ p9).1 (fG _ _ p9).2
  exact q (c%p,(c%p+1+c/p%(p-1))%p,v) b _ ((am.new hl).trans (am.new hb)) ⟨(fG _ _ p0).1,(fG _ _ p0).2,o1,o2,o3,v1,v2⟩ ag
theorem ko(T:Txt K mg a):FnOk P w K mg base CX0 2 a.f_law_web a.d_law_web ["script","most_points","most_ties"] (vo K):=by
 have eI:FnOk P w K mg base CX0 1 a.f_law_cell_at a.d_law_cell_at ["script","k"] (t6 K):=eI T
 have gF:FnOk P w K mg base CX0 1 a.f_law_left a.d_law_left ["cell","k","way"] sS:=gF T
 have ke:FnOk P w K mg base CX0 1 a.f_law_tie a.d_law_tie ["left","points","mode"] vC:=ke T
 refine T.F_law_web.ok bZ (fun vs H Q E h=>?_) (fun cdv A outer s H vs Q E hr h=>?_)
 ·obtain⟨b,ns,mp,mt,rfl,_⟩:=h
  rfl
 ·obtain⟨b,ns,mp,mt,rfl,hS,hn,mp1,mp10,mt1,mt24,q⟩:=h
  refine⟨_,(@aj _ _ _ _ _ (@aC _ _ 3 _ _ _ _ bZ.nd rfl (Or.inl rfl) (@ay _ _ _ _ _ _ _ _ ci (@au _ _ _ _ _ _ _ _ _ _ _ _ _ _ _ _ eI (hr.mono (by decide)) (by rfl) T.m_law_cell_at T.k_law_cell_at T.b_law_cell_at .nil aK (@aa _ _ _ _ _ (pv 0) (@aa _ _ _ _ _ ah af (by rfl)) (by rfl)) (by decide) (by rfl) (by rfl)) ah) (by rfl) (by first | exact .inl rfl | exact .inr rfl | assumption)) (@aj _ _ _ _ _ (@aC _ _ 4 _ _ _ _ bZ.nd rfl (Or.inl rfl) (@au _ _ _ _ _ _ _ _ _ _ _ _ _ _ _ _ gF (hr.mono (by decide)) (by rfl) T.m_law_left T.k_law_left T.b_law_left .nil aK (@aa _ _ _ _ _ (@ay _ _ _ _ _ _ _ _ gR (@au _ _ _ _ _ _ _ _ _ _ _ _ _ _ _ _ eI (hr.mono (by decide)) (by rfl) T.m_law_cell_at T.k_law_cell_at T.b_law_cell_at .nil aK (@aa _ _ _ _ _ (pv 0) (@aa _ _ _ _ _ ah af (by rfl)) (by rfl)) (by decide) (by rfl) (by rfl)) ah) (@aa _ _ _ _ _ ah (@aa _ _ _ _ _ (pv 3) af (by rfl)) (by rfl)) (by rfl)) (by decide) (by rfl) (by rfl)) (by rfl) (by first | exact .inl rfl | exact .inr rfl | assumption)) (@aj _ _ _ _ _ (@aC _ _ 5 _ _ _ _ bZ.nd rfl (Or.inl rfl) (@ay _ _ _ _ _ _ _ _ cP ah (@ay _ _ _ _ _ _ _ _ ci (pv 4) (pv 1))) (by rfl) (by first | exact .inl rfl | exact .inr rfl | assumption)) (@aj _ _ _ _ _ (@aC _ _ 6 _ _ _ _ bZ.nd rfl (Or.inl rfl) (@ay _ _ _ _ _ _ _ _ ci (@ay _ _ _ _ _ _ _ _ gR (pv 4) (pv 1)) ah) (by rfl) (by first | exact .inl rfl | exact .inr rfl | assumption)) (@aj _ _ _ _ _ (@aC _ _ 7 _ _ _ _ bZ.nd rfl (Or.inl rfl) (@da _ _ _ _ _ _ _ _ _ (aaD K) (by rfl) T.n_list PyProof.Rows.boot_list (@aa _ _ _ _ _ (@rF _ _ _ _ _ _ _ _ _ _ (slL K) (pv 0) (@pF _ _ _ ah) (@pF _ _ _ (@ay _ _ _ _ _ _ _ _ cP ah (pv 2)))) af (by rfl)) (by decide) (by decide) (by rfl) (by rfl)) (by rfl) (by first | exact .inl rfl | exact .inr rfl | assumption)) (@aj _ _ _ _ _ (@dR _ _ _ _ _ _ _ _ PassesOwn.never rfl (@nS _ _ _ _ _ _ _ (by rfl) T.n_range (@aa _ _ _ _ _ (@ay _ _ _ _ _ _ _ _ cP ah (pv 2)) (@aa _ _ _ _ _ (@aA _ _ _ _ _ _ _ _ _ (gN K) (by rfl) T.n_len PySem.boot_len (@aa _ _ _ _ _ (pv 0) af (by rfl)) (by decide) (by decide) (by rfl) (by rfl)) af (by rfl)) (by rfl)) (by rfl) (by rfl)) (ax (i:=8) bZ.nd rfl (Or.inl rfl)) (@ao _ _ _ (@qa _ _ _ _ _ _ (@ay _ _ _ _ _ _ _ _ cP (@ay _ _ _ _ _ _ _ _ jX (@aq _ _ _ _ _ _ _ (ixL K) (pv 7) (@ay _ _ _ _ _ _ _ _ ci (pv 8) (pv 2)) (fun _ _=>rfl)) ah) (@aq _ _ _ _ _ _ _ (ixL K) (pv 0) (pv 8) (fun _ _=>rfl))) (@wQ _ _ _ _ _ _ _ (pv 7) (@ay _ _ _ _ _ _ _ _ ci (pv 8) (pv 2)) jL (by intro _;rfl)) (by rfl) (by rfl) (by rfl))) (by intro _;rfl)) (@aj _ _ _ _ _ (@ce _ _ _ _ _ _ _ _ (@aE _ _ _ _ _ _ _ _ dU (pv 5) ah (aD _)) (@ao _ _ _ (@aC _ _ 7 _ _ _ _ bZ.nd rfl (Or.inl rfl) (@bY _ _ _ _ af) (by rfl) (by first | exact .inl rfl | exact .inr rfl | assumption))) aU) (@aj _ _ _ _ _ (@aC _ _ 9 _ _ _ _ bZ.nd rfl (Or.inl rfl) (@bY _ _ _ _ af) (by rfl) (by first | exact .inl rfl | exact .inr rfl | assumption)) (@aj _ _ _ _ _ (@dR _ _ _ _ _ _ _ _ PassesOwn.never rfl (@bh _ _ _ _ _ _ (by rfl) T.n_range (@aa _ _ _ _ _ (@aA _ _ _ _ _ _ _ _ _ (gN K) (by rfl) T.n_len PySem.boot_len (@aa _ _ _ _ _ (pv 7) af (by rfl)) (by decide) (by decide) (by rfl) (by rfl)) af (by rfl)) (by rfl)) (ax (i:=8) bZ.nd rfl (Or.inl rfl)) (@ao _ _ _ (@cG _ _ _ _ (@bmK _ _ _ _ _ _ K (@kI _ _ _ _ _ _ _ _ _ _ _ _ PySem.F.plainAttrs_list PySem.F.slot_list_append PySem.F.type_list_append cV (pv 9) (@aa _ _ _ _ _ (@au _ _ _ _ _ _ _ _ _ _ _ _ _ _ _ _ ke (hr.mono (by decide)) (by rfl) T.m_law_tie T.k_law_tie T.b_law_tie .nil aK (@aa _ _ _ _ _ (@au _ _ _ _ _ _ _ _ _ _ _ _ _ _ _ _ gF (hr.mono (by decide)) (by rfl) T.m_law_left T.k_law_left T.b_law_left .nil aK (@aa _ _ _ _ _ (@aq _ _ _ _ _ _ _ (ixL K) (pv 7) (pv 8) (fun _ _=>rfl)) (@aa _ _ _ _ _ (@ay _ _ _ _ _ _ _ _ cP (pv 8) ah) (@aa _ _ _ _ _ (pv 3) af (by rfl)) (by rfl)) (by rfl)) (by decide) (by rfl) (by rfl)) (@aa _ _ _ _ _ (pv 5) (@aa _ _ _ _ _ (pv 6) af (by rfl)) (by rfl)) (by rfl)) (by decide) (by rfl) (by rfl)) af (by rfl)) (by rfl) (by rfl) (by rfl) (by rfl) (by rfl)) (by rfl)) (by rfl))) (by intro _;rfl)) (@ao _ _ _ (@az _ _ _ _ (@cq _ _ _ _ _ (@aa _ _ _ _ _ (@cq _ _ _ _ _ (@aa _ _ _ _ _ (pv 5) (@aa _ _ _ _ _ (@da _ _ _ _ _ _ _ _ _ (xp K) (by rfl) T.n_tuple PyProof.Rows.boot_tuple (@aa _ _ _ _ _ (pv 9) af (by rfl)) (by decide) (by decide) (by rfl) (by rfl)) af (by rfl)) (by rfl))) (@aa _ _ _ _ _ (@ay _ _ _ _ _ _ _ _ gR (pv 4) (@ay _ _ _ _ _ _ _ _ jX ah (pv 1))) af (by rfl)) (by rfl)))))))))))))),?_⟩
  refine sv ?_
  intro zz0 zz1 zz2 zz3 zz4 zz5 zz6 zz7 zz8 zz9 zz10 zz11
  refine(exq rfl ⟨b,ns,0,rfl,(by decide),hS,fun z=>(ijq ⟨(nJ rfl),?_⟩)⟩)
  refine(exq rfl ⟨b,ns,0,rfl,(by decide),hS,fun z1=>(ijq ⟨⟨by decide,by decide⟩,exq rfl ⟨_,_,_,rfl,fun lf=>?_⟩⟩)⟩)
  refine(exq rfl (exq rfl (ijq ⟨(by omega),ijq (?_)⟩)))
  obtain⟨p,hp,p1,p2⟩:∃ p:Nat,1+lf%(mp:Int)=(p:Int)∧1≤p∧p≤mp:=by
   obtain⟨h1,h2⟩:=fG lf (mp:Int) (by omega)
   exact⟨(1+lf%(mp:Int)).toNat,by omega,by omega,by omega⟩
  dsimp only
  rw[hp]
  refine(exq rfl (exq rfl (ijq ⟨⟨by omega,by omega⟩,ijq ⟨(nJ rfl),?_⟩⟩)))
  obtain⟨m,hm,m4⟩:∃ m:Nat,lf/(mp:Int)%4=(m:Int)∧m<4:=by
   obtain⟨h1,h2⟩:=fG (lf/(mp:Int)) 4 (by decide)
   exact⟨(lf/(mp:Int)%4).toNat,by omega,by omega⟩
  dsimp only
  rw[hm]
  refine(exq rfl (exq rfl (exq rfl (ijq (exq rfl ⟨b,_,rfl,hS,fun c hc=>(lnq rfl (.inl (SqL.of ag)) (fun c2 hc2=>?_))⟩)))))
  have hcut:=xi ns (some 1) (some (1+(mt:Int)))
  have hsx1:HT.sIx ns.length 0 (some (1:Int))=min 1 ns.length:=HT.sQ ns.length 0 1
  have hsx2:HT.sIx ns.length ns.length (some (1+(mt:Int)))=min (1+mt) ns.length:=by
   rw[show(1+(mt:Int))=((1+mt:Nat):Int) from by omega]
   exact HT.sQ ns.length ns.length (1+mt)
  have hml:((ns.drop (HT.sIx ns.length 0 (some 1))).take (HT.sIx ns.length ns.length (some (1+(mt:Int)))-HT.sIx ns.length 0 (some 1))).length=min (1+mt) ns.length-min 1 ns.length:=by
   rw[List.length_take,List.length_drop,hsx1,hsx2]
   omega
  generalize (ns.drop (HT.sIx ns.length 0 (some 1))).take (HT.sIx ns.length ns.length (some (1+(mt:Int)))-HT.sIx ns.length 0 (some 1))=ms at hcut hml
  rw[hcut]at hc2 ⊢
  have s1:am H (upd (upd H c (.lst (ms.map V.int))) c2 (.lst (ms.map V.int))):=(am.new hc).trans (am.new hc2)
  have hH1:upd (upd H c (.lst (ms.map V.int))) c2 (.lst (ms.map V.int)) c2=some (.lst (ms.map V.int)):=ag
  have hc20:H c2=none:=(am.new hc).free hc2
  generalize upd (upd H c (.lst (ms.map V.int))) c2 (.lst (ms.map V.int))=H1 at s1 hH1
  refine(exq rfl (ijq (exq rfl ⟨b,_,rfl,.inl (s1.seq hS),_,_,rfl,⟨by omega,by omega,by rw[List.length_map];omega,by rw[List.length_map];omega⟩,?_⟩)))
  have hnl:(ns.map V.int).length=ns.length:=List.length_map ..
  refine fE (lo:=1+(mt:Int)) (n:=_) (fun i σ H2=>∃ v8,σ=[some (.ref b),some (.int (mp:Int)),some (.int (mt:Int)),some (.int (z%2)),some (.int lf),some (.int (p:Int)),some (.int (m:Int)),some (.ref c2),v8,none]∧am H H2∧∃ ms',H2 c2=some (.lst (ms'.map V.int))∧ms'.length=ms.length) ⟨none,rfl,s1,ms,hH1,rfl⟩ ?_ ?_
  ·rintro i D' σ H2 hi ⟨v8,rfl,s2,ms',h2,hl2⟩
   rw[hnl]at hi
   obtain⟨j,hj,hjm⟩:∃ j:Nat,(1+(mt:Int)+(i:Int))%(mt:Int)=(j:Int)∧j<mt:=by
    obtain⟨h1,h2⟩:=fG (1+(mt:Int)+(i:Int)) (mt:Int) (by omega)
    exact⟨((1+(mt:Int)+(i:Int))%(mt:Int)).toNat,by omega,by omega⟩
   have hjl:j<ms'.length:=by omega
   refine(exq rfl (exq rfl (exq rfl (ijq ⟨(by omega),ixl (SqL.of h2) ((by rw[hj];exact ai (lm hjl))) (ijq ⟨.inr ⟨by decide,by decide⟩,exq rfl (exq rfl ⟨b,_,_,_,rfl,rfl,s2.seq hS,(by rw[show(1+(mt:Int)+(i:Int))=((1+mt+i:Nat):Int) from by omega];exact ai (lm (by omega))),ijq (?_)⟩)⟩)⟩))))
   refine(exq rfl (exq rfl (exq rfl (ijq ⟨(by omega),c2,_,_,j,rfl,rfl,h2,(by rw[hj,List.length_map];exact kW hjl),?_⟩))))
   refine(exq rfl ⟨s2.put hc20,ms'.set j (ms'.getD j 0*31+ns.getD (1+mt+i) 0),?_,by rw[List.length_set,hl2]⟩)
   rw[ag,List.map_set]
  ·rintro σ H2 ⟨v8,rfl,s2,ms',h2,hl2⟩
   have fin:∀(n:Nat) (H1:Hp) (D:Addr) (H2:Hp),am H H1→lT (p:Int) H1 D n H2→n≤mt→∃ acc,H2 D=some (.lst acc)∧∀ l',H2 l' = none→([V.int (p:Int),.ref l']:List V).length≤sizeLine∧∀ w',upd H2 l' (.tup acc) w' = none→∀ zz r,upd (upd H2 l' (.tup acc)) w' (.tup [.int (p:Int),.ref l']) r=none→Q (.ref r) (upd (upd (upd H2 l' (.tup acc)) w' (.tup [.int (p:Int),.ref l'])) r (.tup [.ref w',.int zz])):=by
    intro n H1 D H2 s1 ht hnm
    obtain⟨acc,ts,hd,hl,gt,z⟩:=ht.fin
    refine⟨acc,hd,fun l' hl'=>⟨dl rfl,fun w' hw zz r hr=>?_⟩⟩
    obtain⟨z1,z2⟩:=z l' hl' w' hw
    exact q r w' p ts zz _ ((s1.trans z1).trans (am.new hr)) ⟨p1,by omega,by omega,gt⟩ p2 (by omega) (z2.same (am.new hr)) ag
   refine(exq rfl ⟨rfl,exq rfl (?_)⟩)
   by_cases hp1:p=1
   case' pos =>
    refine sw (by rw[hp1];rfl) ⟨dl rfl,fun cc hcc=>?_⟩
    have s3:am H (upd H2 cc (.lst [])):=s2.trans (am.new hcc)
    have h3:upd H2 cc (.lst []) cc=some (.lst (([]:List Int).map V.int)):=ag
    have hx:([]:List Int).length≤mt∧(([]:List Int).length≠0→2≤p):=⟨Nat.zero_le _,fun z=>absurd rfl z⟩
    generalize upd H2 cc (.lst [])=H3 at s3 h3
    generalize ([]:List Int)=mx at h3 hx
   case' neg =>
    refine kS (fun z=>hp1 (by have:=V.int.inj z;omega)) ?_
    have s3:=s2
    have h3:=h2
    have hx:ms'.length≤mt∧(ms'.length≠0→2≤p):=⟨by omega,fun _=>by omega⟩
    generalize H2=H3 at s3 h3
    generalize ms' = mx at h3 hx
    generalize c2=cc at h3
   all_goals (
    refine⟨dl rfl,fun D hD=>?_⟩
    have t0:lT (p:Int) H3 D 0 (upd H3 D (.lst [])):=lT.start hD
    have h4:=t0.1 _ _ h3
    generalize upd H3 D (.lst [])=H4 at t0 h4
    refine(exq rfl (lnq rfl (.inl (SqL.of h4)) (exq rfl ⟨(by rw[List.length_map];omega),(by rw[List.length_map];omega),?_⟩)))
    refine fE (lo:=0) (n:=(((mx.map V.int).length:Nat):Int).toNat) (fun i σ H5=>∃ v8,σ=[some (.ref b),some (.int (mp:Int)),some (.int (mt:Int)),some (.int (z%2)),some (.int lf),some (.int (p:Int)),some (.int (m:Int)),some (.ref cc),v8,some (.ref D)]∧lT (p:Int) H3 D i H5) (exq rfl (t0)) ?_ ?_
    ·rintro i D' σ H5 hi ⟨v8,rfl,t5⟩
     rw[Int.toNat_natCast,List.length_map]at hi
     rw[Int.zero_add]
     have hp2' : 2≤p:=hx.2 (by omega)
     have hD5:∃ acc,H5 D=some (.lst acc):=let⟨_,acc,_,z,_⟩:=t5;⟨acc,z⟩
     obtain⟨acc0,hD5⟩:=hD5
     refine(exq rfl ⟨.inl ⟨rfl,_,SqL.of hD5⟩,exq rfl (exq rfl (ixl (SqL.of (t5.1 _ _ h3)) (ai (j:=i) (lm hi)) (exq rfl (ijq (exq rfl ⟨_,_,_,rfl,fun zl=>?_⟩)))))⟩)
     refine(exq rfl (exq rfl ⟨zl,p,m,rfl,hp2',by omega,m4,fun t bb H6 s6 gt hb=>?_⟩))
     obtain⟨acc,hD6,hac,t7⟩:=t5.push hD s6 gt hb
     exact⟨D,acc,_,rfl,rfl,hD6,jg (by omega),exq rfl (t7)⟩
    ·rintro σ H5 ⟨v8,rfl,t5⟩
     rw[Int.toNat_natCast,List.length_map]at t5
     obtain⟨acc,hD5,zf⟩:=fin _ H3 D H5 s3 t5 hx.1
     refine(exq rfl (exq rfl ⟨D,acc,rfl,.inl ⟨SqL.of hD5,fun l' hl'=>⟨(zf l' hl').1,fun w' hw'=>?_⟩⟩⟩))
     exact(exq rfl (exq rfl (ijq ⟨.inl ⟨by decide,by decide⟩,ijq ⟨⟨by show(0:Int)<4*(mp:Int);omega,by show 4*(mp:Int)<_;omega⟩,dl rfl,fun r hr=>(zf l' hl').2 w' hw' _ r hr⟩⟩))))
end
theorem uE{p:Nat}{ts:List Tie}{g:GoodWeb p ts}{m x:Nat}(hm:m<2^ts.length):(aB (m:Int)).filter (fun t=>decide ((ad p ts g).a t=x∨(ad p ts g).b t=x))=(ad p ts g).tiesAt m x:=by
 rw[dP hm,List.filter_filter]
 unfold RM.Net.tiesAt
 refine List.filter_congr fun k _=>?_
 rw[Bool.and_comm,Bool.decide_or]
theorem zx(x u v:Nat):inV (.int (x:Int)) [.int (u:Int),.int (v:Int)]=decide (u=x∨v=x):=by
 have e:([.int (u:Int),.int (v:Int)]:List V)=aJ [u,v]:=rfl
 rw[e,jI]
 refine decide_eq_decide.mpr ?_
 simp[eq_comm]
theorem xS(u v z:V):nj [u,v,z] none (some 2)=[u,v]:=rfl
def kJ:Sp:=fun vs H Q _=>∃ w p ts,∃ g:GoodWeb p ts,∃ S,∃ m:Nat,vs=[.ref w,.int S]∧S=(m:Int)∧WebAt H w p ts∧m<2^ts.length∧
 ((ad p ts g).Ring m→∀ D H' t0 acc v,H D=none→am H H'→m.testBit t0=true→(aB (m:Int))[0]?=some t0→RM.Wk (ad p ts g) m t0 acc v 0→ix H' D acc→Q (.ref D) H')∧(¬(ad p ts g).Ring m→∀ H',am H H'→Q .non H')
theorem zK(l:List V)(v:V):atI (l++[v]) (-1)=some v:=by
 unfold atI ixN
 have hl:(l++[v]).length=l.length+1:=by rw[List.length_append];rfl
 rw[if_neg (by decide),hl,if_pos (by omega)]
 have e:((-1:Int)+((l.length+1:Nat):Int)).toNat=l.length:=by omega
 show(l++[v])[((-1:Int)+((l.length+1:Nat):Int)).toNat]?=_
 rw[e,List.getElem?_append_right (Nat.le_refl _)]
 simp
theorem kx{α β:Type}{F:α→β→Prop}{y:β}:∀{l:List α} {r:List β},Paired F l (r++[y])→∃ l' x,l=l'++[x]∧F x y
 | _,[],.cons h .nil=>⟨[],_,rfl,h⟩
 | _,_::r,.cons _ h=>by
   obtain⟨l',x,e,hx⟩:=kx (r:=r) h
   exact⟨_::l',x,by rw[e];rfl,hx⟩
theorem uj{p:Nat}{ts:List Tie}{g:GoodWeb p ts}{l:List Nat}{i k:Nat}(hk:l[i]?=some k)(hkl:k<ts.length):
 (fun j=>if j=(ad p ts g).b k then(if j=(ad p ts g).a k then(l.take i).filter (fun t=>decide ((ad p ts g).a t=j∨(ad p ts g).b t=j))++[k] else(l.take i).filter (fun t=>decide ((ad p ts g).a t=j∨(ad p ts g).b t=j)))++[k]
  else(if j=(ad p ts g).a k then(l.take i).filter (fun t=>decide ((ad p ts g).a t=j∨(ad p ts g).b t=j))++[k] else(l.take i).filter (fun t=>decide ((ad p ts g).a t=j∨(ad p ts g).b t=j)))) =
 fun j=>(l.take (i+1)).filter (fun t=>decide ((ad p ts g).a t=j∨(ad p ts g).b t=j)):=by
 funext j
 have ne:=(ad p ts g).ne k hkl
 rw[List.take_add_one,hk,List.filter_append]
 by_cases e1:j=(ad p ts g).b k
 ·have e2 : ¬ j=(ad p ts g).a k:=fun z=>ne (z.symm.trans e1)
  rw[if_pos e1,if_neg e2]
  congr 1
  show[k]=[k].filter _
  rw[List.filter_cons,if_pos (decide_eq_true (.inr e1.symm))]
  rfl
 ·rw[if_neg e1]
  by_cases e2:j=(ad p ts g).a k
  ·rw[if_pos e2]
   congr 1
   show[k]=[k].filter _
   rw[List.filter_cons,if_pos (decide_eq_true (.inl e2.symm))]
   rfl
  ·rw[if_neg e2]
   have:(some k).toList.filter (fun t=>decide ((ad p ts g).a t=j∨(ad p ts g).b t=j))=[]:=by
    show[k].filter _=_
    rw[List.filter_cons,if_neg (by rw[decide_eq_true_eq];exact fun z=>z.elim (fun z=>e2 z.symm) (fun z=>e1 z.symm))]
    rfl
   rw[this,List.append_nil]
section
variable {P:Program}{w:World}{K:PySem.W.Frag}{mg:Str→Option Value}{base:Heap}{a:Adr}
theorem jh(T:Txt K mg a):FnOk P w K mg base CX0 1 a.f_law_walk a.d_law_walk ["web","some"] kJ:=by
 refine T.F_law_walk.ok bH (fun vs H Q E h=>?_) (fun cdv A outer s H vs Q E hr h=>?_)
 ·obtain⟨w,p,ts,g,S,m,rfl,_⟩:=h
  rfl
 ·obtain⟨wb,p,ts,g,S,m,rfl,rfl,hw,hm,q1,q2⟩:=h
  refine⟨_,(@aj _ _ _ _ _ (@e8 _ _ _ _ _ _ _ ["point"] [] [] _ _ _ _ 2 _ _ _ bH.nd rfl rfl (aF (ae cj) ["web","some","ends","ties","k","start","at","walk","tie"]) rfl (@bh _ _ _ _ _ _ (by rfl) T.n_range (@aa _ _ _ _ _ (@aq _ _ _ _ _ _ _ (ixT K) (pv 0) ah (fun _ _=>rfl)) af (by rfl)) (by rfl)) (fun _ _ _ _=>(ax (i:=0) (show(["point"]:List Str).Nodup by decide +kernel) rfl (Or.inl rfl))) (fun _ _ _ _=>dk) (fun _ _ _ _=>(bY af)) (by rfl) (by intro _;rfl)) (@aj _ _ _ _ _ (@e8 _ _ _ _ _ _ _ ["k"] ["some"] [1] _ _ _ _ 3 _ _ _ bH.nd rfl rfl (aF (ae cj) ["web","some","ends","ties","k","start","at","walk","tie"]) rfl (@bh _ _ _ _ _ _ (by rfl) T.n_range (@aa _ _ _ _ _ (@aA _ _ _ _ _ _ _ _ _ (gN K) (by rfl) T.n_len PySem.boot_len (@aa _ _ _ _ _ (@aq _ _ _ _ _ _ _ (ixT K) (pv 0) ah (fun _ _=>rfl)) af (by rfl)) (by decide) (by decide) (by rfl) (by rfl)) af (by rfl)) (by rfl)) (fun _ _ _ _=>(ax (i:=0) (show(["k","some"]:List Str).Nodup by decide +kernel) rfl (Or.inl rfl))) (fun _ _ _ _=>(eC (aE dU (ay pO (ay xm (pv 1) (pv 0)) ah) ah (aD _)))) (fun _ _ _ _=>(pv 0)) (by rfl) (by intro _;rfl)) (@aj _ _ _ _ _ (@dR _ _ _ _ _ _ _ _ PassesOwn.never rfl (@piL _ _ _ _ K (pv 3) (by rfl)) (ax (i:=4) bH.nd rfl (Or.inl rfl)) (@aj _ _ _ _ _ (@cG _ _ _ _ (@bmK _ _ _ _ _ _ K (@kI _ _ _ _ _ _ _ _ _ _ _ _ PySem.F.plainAttrs_list PySem.F.slot_list_append PySem.F.type_list_append cV (@aq _ _ _ _ _ _ _ (ixL K) (pv 2) (@aq _ _ _ _ _ _ _ (ixT K) (@aq _ _ _ _ _ _ _ (ixT K) (@aq _ _ _ _ _ _ _ (ixT K) (pv 0) ah (fun _ _=>rfl)) (pv 4) (fun _ _=>rfl)) ah (fun _ _=>rfl)) (fun _ _=>rfl)) (@aa _ _ _ _ _ (pv 4) af (by rfl)) (by rfl) (by rfl) (by rfl) (by rfl) (by rfl)) (by rfl)) (by rfl)) (@ao _ _ _ (@cG _ _ _ _ (@bmK _ _ _ _ _ _ K (@kI _ _ _ _ _ _ _ _ _ _ _ _ PySem.F.plainAttrs_list PySem.F.slot_list_append PySem.F.type_list_append cV (@aq _ _ _ _ _ _ _ (ixL K) (pv 2) (@aq _ _ _ _ _ _ _ (ixT K) (@aq _ _ _ _ _ _ _ (ixT K) (@aq _ _ _ _ _ _ _ (ixT K) (pv 0) ah (fun _ _=>rfl)) (pv 4) (fun _ _=>rfl)) ah (fun _ _=>rfl)) (fun _ _=>rfl)) (@aa _ _ _ _ _ (pv 4) af (by rfl)) (by rfl) (by rfl) (by rfl) (by rfl) (by rfl)) (by rfl)) (by rfl)))) (by intro _;rfl)) (@aj _ _ _ _ _ (@ce _ _ _ _ _ _ _ _ (PW.pt (@kC _ _ _ _ _ _ _ (@aE _ _ _ _ _ _ _ _ (sN K hr.units) (pv 3) (@bY _ _ _ _ af) (aD _)) (@iy _ _ _ _ (@aE _ _ _ _ _ _ _ _ tE (@aA _ _ _ _ _ _ _ _ _ (gN K) (by rfl) T.n_len PySem.boot_len (@aa _ _ _ _ _ (@dr _ _ _ _ _ _ _ ["row"] [] [] _ _ _ _ (aF (ae cj) ["web","some","ends","ties","k","start","at","walk","tie"]) rfl (@piL _ _ _ _ K (pv 2) (by rfl)) (fun _ _ _ _=>(ax (i:=0) (show(["row"]:List Str).Nodup by decide +kernel) rfl (Or.inl rfl))) (fun _ _ _ _=>(eC (aE (sI K) (aA (gN K) (by rfl) T.n_len PySem.boot_len (aa (pv 0) af)) (cq (aa ah (aa ah af))) (by with_unfolding_all rfl)))) (fun _ _ _ _=>(pv 0)) (by intro _;rfl)) af (by rfl)) (by decide) (by decide) (by rfl) (by rfl)) ah (aD _))))) (@ao _ _ _ (@az _ _ _ _ dJ)) aU) (@aj _ _ _ _ _ (@qa _ _ _ _ _ _ (@rF _ _ _ _ _ _ _ _ _ _ (aa8) (@aq _ _ _ _ _ _ _ (ixT K) (@aq _ _ _ _ _ _ _ (ixT K) (pv 0) ah (fun _ _=>rfl)) (@aq _ _ _ _ _ _ _ (ixL K) (pv 3) ah (fun _ _=>rfl)) (fun _ _=>rfl)) xV (@pF _ _ _ ah)) (@pgT _ _ K _ _ 2 _ rfl (@aQ _ _ _ _ _ (ax (i:=5) bH.nd rfl (Or.inl rfl)) (@aQ _ _ _ _ _ (ax (i:=6) bH.nd rfl (Or.inl rfl)) eD (by rfl)) (by rfl)) (by rfl) (by rfl) (by rfl)) (by rfl) (by rfl) (by rfl)) (@aj _ _ _ _ _ (@aC _ _ 7 _ _ _ _ bH.nd rfl (Or.inl rfl) (@bY _ _ _ _ (@aa _ _ _ _ _ (@cq _ _ _ _ _ (@aa _ _ _ _ _ (@aq _ _ _ _ _ _ _ (ixL K) (pv 3) ah (fun _ _=>rfl)) (@aa _ _ _ _ _ ah af (by rfl)) (by rfl))) af (by rfl))) (by rfl) (by first | exact .inl rfl | exact .inr rfl | assumption)) (@aj _ _ _ _ _ (@lX _ _ _ _ _ _ PassesOwn.never (@aE _ _ _ _ _ _ _ _ ml (pv 6) (pv 5) (aD _)) (@aj _ _ _ _ _ (@aC _ _ 8 _ _ _ _ bH.nd rfl (Or.inl rfl) (@ay _ _ _ _ _ _ _ _ jj (@aA _ _ _ _ _ _ _ _ _ (aaq K rfl) (by rfl) T.n_sum PyProof.Rows.boot_sum (@aa _ _ _ _ _ (@aq _ _ _ _ _ _ _ (ixL K) (pv 2) (pv 6) (fun _ _=>rfl)) af (by rfl)) (by decide) (by decide) (by rfl) (by rfl)) (@aq _ _ _ _ _ _ _ (ixT K) (@aq _ _ _ _ _ _ _ (ixL K) (pv 7) (@om _ _ _ _ _ _ jU ah) (fun _ _=>rfl)) ah (fun _ _=>rfl))) (by rfl) (by first | exact .inl rfl | exact .inr rfl | assumption)) (@ao _ _ _ (@ce _ _ _ _ _ _ _ _ (@aE _ _ _ _ _ _ _ _ dU (@aq _ _ _ _ _ _ _ (ixT K) (@aq _ _ _ _ _ _ _ (ixT K) (@aq _ _ _ _ _ _ _ (ixT K) (pv 0) ah (fun _ _=>rfl)) (pv 8) (fun _ _=>rfl)) ah (fun _ _=>rfl)) (pv 6) (aD _)) (@aj _ _ _ _ _ (@cG _ _ _ _ (@bmK _ _ _ _ _ _ K (@kI _ _ _ _ _ _ _ _ _ _ _ _ PySem.F.plainAttrs_list PySem.F.slot_list_append PySem.F.type_list_append cV (pv 7) (@aa _ _ _ _ _ (@cq _ _ _ _ _ (@aa _ _ _ _ _ (pv 8) (@aa _ _ _ _ _ ah af (by rfl)) (by rfl))) af (by rfl)) (by rfl) (by rfl) (by rfl) (by rfl) (by rfl)) (by rfl)) (by rfl)) (@ao _ _ _ (@aC _ _ 6 _ _ _ _ bH.nd rfl (Or.inl rfl) (@aq _ _ _ _ _ _ _ (ixT K) (@aq _ _ _ _ _ _ _ (ixT K) (@aq _ _ _ _ _ _ _ (ixT K) (pv 0) ah (fun _ _=>rfl)) (pv 8) (fun _ _=>rfl)) ah (fun _ _=>rfl)) (by rfl) (by first | exact .inl rfl | exact .inr rfl | assumption)))) (@aj _ _ _ _ _ (@cG _ _ _ _ (@bmK _ _ _ _ _ _ K (@kI _ _ _ _ _ _ _ _ _ _ _ _ PySem.F.plainAttrs_list PySem.F.slot_list_append PySem.F.type_list_append cV (pv 7) (@aa _ _ _ _ _ (@cq _ _ _ _ _ (@aa _ _ _ _ _ (pv 8) (@aa _ _ _ _ _ (@om _ _ _ _ _ _ jU ah) af (by rfl)) (by rfl))) af (by rfl)) (by rfl) (by rfl) (by rfl) (by rfl) (by rfl)) (by rfl)) (by rfl)) (@ao _ _ _ (@aC _ _ 6 _ _ _ _ bH.nd rfl (Or.inl rfl) (@aq _ _ _ _ _ _ _ (ixT K) (@aq _ _ _ _ _ _ _ (ixT K) (@aq _ _ _ _ _ _ _ (ixT K) (pv 0) ah (fun _ _=>rfl)) (pv 8) (fun _ _=>rfl)) ah (fun _ _=>rfl)) (by rfl) (by first | exact .inl rfl | exact .inr rfl | assumption)))))))) (@aj _ _ _ _ _ (@ce _ _ _ _ _ _ _ _ (@aE _ _ _ _ _ _ _ _ ml (@aA _ _ _ _ _ _ _ _ _ (gN K) (by rfl) T.n_len PySem.boot_len (@aa _ _ _ _ _ (pv 7) af (by rfl)) (by decide) (by decide) (by rfl) (by rfl)) (@aA _ _ _ _ _ _ _ _ _ (gN K) (by rfl) T.n_len PySem.boot_len (@aa _ _ _ _ _ (pv 3) af (by rfl)) (by decide) (by decide) (by rfl) (by rfl)) (aD _)) (@ao _ _ _ (@az _ _ _ _ dJ)) aU) (@ao _ _ _ (@az _ _ _ _ (pv 7))))))))))),?_⟩
  refine qX ?_
  intro zz0 zz1 zz2 zz3 zz4 zz5 zz6 zz7 zz8 zz9 zz10 zz11 zz12 zz13 zz14 zz15 zz16 zz17
  obtain⟨bt,xs,h1,h2,h3⟩:=id hw.ex
  have hxl:=h3.length
  have wl:=g.len
  have wp:=g.p2
  refine(exq rfl (ixq (SqT.of h1) (ai (j:=0) rfl) (exq rfl ⟨(by omega),(by omega),fun E hE=>bL (lo:=0) (m:=p) (kt H E) (.start hE) (fun i acc H2 _ f=>f.len) (fb (by omega)) ?_ ?_⟩)))
  ·intro i acc H2 hi f
   exact⟨rfl,dl rfl,fun b hb=>f.next hb⟩
  intro acc H1 f
  obtain⟨es,rfl,hel,R1⟩:=f
  refine(exq rfl (ixq (SqT.of (R1.same _ _ h1)) (ai (j:=1) rfl) (lnq rfl (.inr (SqT.of (R1.same _ _ h2))) (exq rfl ⟨(by omega),(by omega),fun L hL=>bL (lo:=0) (m:=xs.length) (iu (bit (m:Int)) H1 L) (.start hL) (fun i acc H2 _ p=>p.len) (fb (by omega)) ?_ ?_⟩))))
  ·intro i acc H2 hi pk
   rw[Int.zero_add]
   refine⟨rfl,exq rfl (exq rfl (ijq ⟨(by omega),ijq ⟨rfl,exq rfl (?_)⟩⟩))⟩
   rw[Int.toNat_natCast,wF]
   cases hb:bit (m:Int) i with
   | true=>exact(exq rfl (pk.yes hL (am.refl _) hb))
   | false=>exact pk.no (am.refl _) hb
  intro acc H2 pk
  have hL2:H2 L=some (.lst (aJ (aB (m:Int)))):=by
   rw[pk.2.1,pk.2.2,dP hm,hxl]
   show some (HO.lst (aJ ((List.range ts.length).filter (bit (m:Int)))))=_
   rw[show bit (m:Int)=fun k=>m.testBit k from funext fun k=>dS m k]
  have R2:=R1.go pk.1
  have hLH:H L=none:=R1.same.free hL
  have hLes:L∉es:=fun z=>by
   obtain⟨j,hj⟩:=List.getElem?_of_mem z
   have:=R1.at_ j L hj
   rw[hL]at this
   cases this
  refine(exq rfl ⟨L,rfl,⟨_,SqL.of hL2⟩,dy (K:=K) (a:=L) (xs:=aJ (aB (m:Int))) (fun i σ H3=>∃ v4,σ=[some (.ref wb),some (.int (m:Int)),some (.ref E),some (.ref L),v4,none,none,none,none]∧Rows H E es (fun x=>((aB (m:Int)).take i).filter (fun t=>decide ((ad p ts g).a t=x∨(ad p ts g).b t=x))) H3∧H3 L=some (.lst (aJ (aB (m:Int)))))
   ⟨none,rfl,R2,hL2⟩ (fun i σ H3 _ ⟨_,_,_,z⟩=>SqL.of z) ?_ ?_⟩)
  ·rintro i y D' σ H3 hi ⟨v4,rfl,R3,hL3⟩
   obtain⟨k,hk,rfl⟩:=iR hi
   have hkl:k<ts.length:=jK hm (List.mem_of_getElem? hk)
   obtain⟨c,hxc,hct⟩:=lC (g:=g) h3 hkl
   have ha:=(ad p ts g).al k hkl
   have hb:=(ad p ts g).bl k hkl
   have ha:(ad p ts g).a k<p:=ha
   have hb:(ad p ts g).b k<p:=hb
   obtain⟨ba,ga,ea,va⟩:=R3.get (i:=(ad p ts g).a k) (by omega)
   have s3:=R3.same
   have hti:((aB (m:Int)).take i).length≤24:=by
    have h1:(aB (m:Int)).length≤ts.length:=by rw[dP hm];exact Nat.le_trans (List.length_filter_le _ _) (by rw[List.length_range];exact Nat.le_refl _)
    have h2:=List.length_take_le i (aB (m:Int))
    have h3:=List.length_take_le' i (aB (m:Int))
    omega
   refine(exq rfl (exq rfl (ixq (SqT.of (s3 _ _ h1)) (ai (j:=1) rfl) (exq rfl (ixq (SqT.of (s3 _ _ h2)) (ai (j:=k) hxc) (ixq (SqT.of (s3 _ _ hct)) (ai (j:=0) rfl) (ixl (SqL.of R3.lst) (ai (j:=(ad p ts g).a k) ga) ⟨.inl ⟨rfl,_,SqL.of va⟩,exq rfl ⟨ba,_,_,rfl,rfl,va,jg (by rw[bA];have:=List.length_filter_le (fun t=>decide ((ad p ts g).a t=(ad p ts g).a k∨(ad p ts g).b t=(ad p ts g).a k)) ((aB (m:Int)).take i);omega),?_⟩⟩)))))))
   have R4:=R3.push (k:=k) ea
   have hL4:upd H3 ba (.lst (aJ (((aB (m:Int)).take i).filter (fun t=>decide ((ad p ts g).a t=(ad p ts g).a k∨(ad p ts g).b t=(ad p ts g).a k)))++[.int (k:Int)])) L=some (.lst (aJ (aB (m:Int)))):=by
    rw[ak (fun z:L=ba=>hLes (z▸List.mem_of_getElem? ea))]
    exact hL3
   generalize upd H3 ba (.lst (aJ (((aB (m:Int)).take i).filter (fun t=>decide ((ad p ts g).a t=(ad p ts g).a k∨(ad p ts g).b t=(ad p ts g).a k)))++[.int (k:Int)]))=H4 at R4 hL4
   obtain⟨bb,gb,eb,vb⟩:=R4.get (i:=(ad p ts g).b k) (by omega)
   have s4:=R4.same
   have ne : ¬(ad p ts g).b k=(ad p ts g).a k:=fun z=>(ad p ts g).ne k hkl z.symm
   refine(exq rfl (exq rfl (ixq (SqT.of (s4 _ _ h1)) (ai (j:=1) rfl) (exq rfl (ixq (SqT.of (s4 _ _ h2)) (ai (j:=k) hxc) (ixq (SqT.of (s4 _ _ hct)) (ai (j:=1) rfl) (ixl (SqL.of R4.lst) (ai (j:=(ad p ts g).b k) gb) ⟨.inl ⟨rfl,_,SqL.of vb⟩,exq rfl ⟨bb,_,_,rfl,rfl,vb,jg (by rw[bA,if_neg ne];have:=List.length_filter_le (fun t=>decide ((ad p ts g).a t=(ad p ts g).b k∨(ad p ts g).b t=(ad p ts g).b k)) ((aB (m:Int)).take i);omega),?_⟩⟩)))))))
   have R5:=R4.push (k:=k) eb
   rw[uj hk hkl]at R5
   exact(exq rfl ⟨R5,by rw[ak (fun z:L=bb=>hLes (z▸List.mem_of_getElem? eb))];exact hL4⟩)
  rintro σ H3 ⟨v4,rfl,R3,hL3⟩
  rw[bA,List.take_length,show(fun x=>(aB (m:Int)).filter (fun t=>decide ((ad p ts g).a t=x∨(ad p ts g).b t=x)))=fun x=>(ad p ts g).tiesAt m x from funext fun x=>uE hm]at R3
  refine(exq rfl ⟨dl rfl,fun l hl=>⟨_,_,.lst (SqL.of (am.new hl _ _ hL3)) (gp _),.lst (SqL.of ag) .nil,fP _,rfl,exq rfl (?_)⟩⟩)
  rw[sY]
  have R4:=R3.go (am.new (o:=.lst []) hl)
  have hL4:upd H3 l (.lst []) L=_:=am.new hl _ _ hL3
  generalize upd H3 l (.lst [])=H4 at R4 hL4
  by_cases hz:aB (m:Int)=[]
  ·rw[decide_eq_true hz]
   refine df (df (q2 (fun r=>?_) H4 R4.same))
   obtain⟨c,hc0,_⟩:=oJ r.1
   rw[hz]at hc0
   cases hc0
  rw[decide_eq_false hz]
  refine cg ?_
  refine(exq rfl ⟨E,rfl,⟨_,SqL.of R4.lst⟩,fun C hC=>dz (xs:=es.map V.ref) (fun i acc H5=>am H4 H5∧H5 C=some (.lst acc)∧acc.length=RM.cnt (fun x=>!decide (0=(ad p ts g).dg m x∨2=(ad p ts g).dg m x)) i) ⟨am.new hC,ag,rfl⟩
   (fun i acc H5 hi f=>⟨SqL.of (f.1 _ _ R4.lst),f.2.1,by have:=RM.lg (fun x=>!decide (0=(ad p ts g).dg m x∨2=(ad p ts g).dg m x)) i;have:=f.2.2;omega⟩) (fb (by rw[List.length_map];omega)) ?_ ?_⟩)
  ·rintro i y acc H5 hy ⟨f1,f2,f3⟩
   rw[List.getElem?_map]at hy
   obtain⟨b,hb,rfl⟩:=Option.map_eq_some_iff.mp hy
   have hb5:=f1 _ _ (R4.at_ i b hb)
   refine⟨rfl,exq rfl (lnq rfl (.inl (SqL.of hb5)) ⟨dl rfl,fun u hu=>(lnq rfl (.inr (SqT.of ag)) ⟨rfl,rfl,exq rfl (?_)⟩)⟩)⟩
   have e:inV (.int (((aJ ((ad p ts g).tiesAt m i)).length:Nat):Int)) [.int 0,.int 2]=decide (0=(ad p ts g).dg m i∨2=(ad p ts g).dg m i):=by
    rw[bA,RM.mH]
    exact zx _ 0 2
   have hc1:RM.cnt (fun x=>!decide (0=(ad p ts g).dg m x∨2=(ad p ts g).dg m x)) (i+1)=RM.cnt (fun x=>!decide (0=(ad p ts g).dg m x∨2=(ad p ts g).dg m x)) i+if(!decide (0=(ad p ts g).dg m i∨2=(ad p ts g).dg m i))=true then 1 else 0:=rfl
   dsimp only
   rw[if_pos rfl,e]
   have hCu:C≠u:=bi f2 hu
   cases hb:decide (0=(ad p ts g).dg m i∨2=(ad p ts g).dg m i) with
   | false =>
     rw[hb]at hc1
     refine df (exq rfl ⟨by rw[ak hCu];exact f2,(f1.trans (am.new hu)).put hC,ag,?_⟩)
     rw[List.length_append,hc1,f3]
     rfl
   | true =>
     rw[hb]at hc1
     exact cg ⟨f1.trans (am.new hu),by rw[ak hCu];exact f2,by rw[hc1,f3];rfl⟩
  rintro acc H5 ⟨f1,f2,f3⟩
  refine(lnq rfl (.inl (SqL.of f2)) (ijq (exq rfl (?_))))
  rw[List.length_map,hel]at f3
  have R5:=R4.go f1
  have hL5:=f1 _ _ hL4
  by_cases hD:(ad p ts g).D2 m
  case neg =>
   have hpos:(0:Int)<((acc.length:Nat):Int):=by
    have:0<acc.length:=by
     rw[f3]
     apply Classical.byContradiction
     intro hz
     refine hD fun x hx=>?_
     cases hc:decide (0=(ad p ts g).dg m x∨2=(ad p ts g).dg m x) with
     | true=>exact(of_decide_eq_true hc).elim (fun z=>.inl z.symm) (fun z=>.inr z.symm)
     | false=>exact absurd (RM.iL (f:=fun x=>!decide (0=(ad p ts g).dg m x∨2=(ad p ts g).dg m x)) (k:=x) (by rw[hc];rfl) hx) hz
    omega
   rw[decide_eq_true hpos]
   exact df (q2 (fun r=>hD (RM.x8 hm r)) H5 R5.same)
  have hz0 : ¬(0:Int)<((acc.length:Nat):Int):=fun z=>by
   have z:0<acc.length:=by omega
   rw[f3]at z
   obtain⟨x,hx,hxf⟩:=RM.ir z
   rw[Bool.not_eq_true',decide_eq_false_iff_not]at hxf
   exact hxf ((hD x hx).elim (fun z=>.inl z.symm) (fun z=>.inr z.symm))
  rw[decide_eq_false hz0]
  refine cg ?_
  have hm0:m≠0:=fun z=>hz (by rw[z];rfl)
  obtain⟨c,hc0,hcb⟩:=oJ hm0
  have hcl:=RM.bS hm hcb
  obtain⟨b,hxb,hct⟩:=lC (g:=g) h3 hcl
  have s5:=R5.same
  refine(exq rfl (ixq (SqT.of (s5 _ _ h1)) (ai (j:=1) rfl) (exq rfl (ixl (SqL.of hL5) (ai (j:=0) (qb hc0)) (ixq (SqT.of (s5 _ _ h2)) (ai (j:=c) hxb) ⟨2,rfl,b,_,rfl,s5 _ _ hct,fun u H6 s6 hu=>?_⟩)))))
  rw[xS]at hu
  refine⟨u,_,rfl,SqT.of hu,rfl,_,_,rfl,_,_,rfl,rfl,?_⟩
  have R6:=R5.go s6
  have hL6:=s6 _ _ hL5
  refine(exq rfl (ixl (SqL.of hL6) (ai (j:=0) (qb hc0)) ⟨dl rfl,fun b0 hb0=>⟨dl rfl,fun Dw hDw=>?_⟩⟩))
  have s7:am H6 (upd (upd H6 b0 (.tup [.int ((c:Nat):Int),.int 1])) Dw (.lst [.ref b0])):=(am.new hb0).trans (am.new hDw)
  have hDn:H6 Dw=none:=(am.new hb0).free hDw
  have hDH:H Dw=none:=R6.same.free hDn
  have w7:ix (upd (upd H6 b0 (.tup [.int ((c:Nat):Int),.int 1])) Dw (.lst [.ref b0])) Dw [(c,1)] :=
   ⟨[.ref b0],ag,.cons ⟨b0,rfl,am.new hDw _ _ ag⟩ .nil⟩
  generalize upd (upd H6 b0 (.tup [.int ((c:Nat):Int),.int 1])) Dw (.lst [.ref b0])=H7 at s7 w7
  refine⟨fun k σ H8=>∃ acc v left v8,σ=[some (.ref wb),some (.int (m:Int)),some (.ref E),some (.ref L),v4,some (.int (((ad p ts g).a c:Nat):Int)),some (.int ((v:Nat):Int)),some (.ref Dw),v8]∧am H6 H8∧ix H8 Dw acc∧RM.Wk (ad p ts g) m c acc v left∧k=RM.cnt (fun j=>left.testBit j) ts.length,⟨_,[(c,1)],(ad p ts g).b c,m^^^2^c,none,rfl,s7,w7,.start,rfl⟩,?_⟩
  rintro k σ H8 ⟨acc,v,left,v8,rfl,s8,w8,wk,rfl⟩
  refine(exq rfl (exq rfl ⟨rfl,exq rfl (?_)⟩))
  rw[eW]
  have R8:=R6.go s8
  have hL8:=s8 _ _ hL6
  obtain⟨ws,hws,hwp⟩:=id w8
  have hlen:acc.length+RM.cnt (fun j=>left.testBit j) ts.length=RM.cnt (fun j=>m.testBit j) ts.length:=RM.ma hm hcb wk
  by_cases e:v=(ad p ts g).a c
  ·subst e
   rw[decide_eq_true rfl]
   refine cg (exq rfl (lnq rfl (.inl (SqL.of hws)) (exq rfl (lnq rfl (.inl (SqL.of hL8)) ⟨rfl,exq rfl (?_)⟩))))
   rw[bA,eW,hwp.length,jz hm]
   have hfull:acc.length=RM.cnt (fun k=>m.testBit k) ts.length↔left=0:=RM.tT hm hcb wk
   by_cases hl0:left=0
   ·subst hl0
    rw[decide_eq_true (hfull.mpr rfl)]
    exact cg (exq rfl (q1 ((RM.tV hm hD hcb wk).mpr rfl) Dw H8 c acc _ hDH R8.same hcb hc0 wk w8))
   ·rw[decide_eq_false (fun z=>hl0 (hfull.mp z))]
    exact df (q2 (fun r=>hl0 ((RM.tV hm hD hcb wk).mp r)) H8 R8.same)
  rw[decide_eq_false e]
  obtain⟨acc',l,yy,t,eacc,htn,hpair,hl0,htt⟩:=RM.aad hm hD hcb wk e
  have htn:t<ts.length:=htn
  have htm:=RM.aH.mp (List.mem_of_getElem? htt)
  have hvp:v<p:=(RM.pM hm hcb wk).1
  have hdec:RM.cnt (fun j=>left.testBit j) ts.length=RM.cnt (fun j=>(left^^^2^t).testBit j) ts.length+1:=RM.lJ htn htm.2.1
  have hc24:RM.cnt (fun j=>m.testBit j) ts.length≤ts.length:=by
   have:=RM.lg (fun j=>m.testBit j) ts.length
   omega
  refine df ⟨fun σ H9=>∃ acc v left' v8,σ=[some (.ref wb),some (.int (m:Int)),some (.ref E),some (.ref L),v4,some (.int (((ad p ts g).a c:Nat):Int)),some (.int ((v:Nat):Int)),some (.ref Dw),v8]∧am H6 H9∧ix H9 Dw acc∧RM.Wk (ad p ts g) m c acc v left'∧RM.cnt (fun j=>left'.testBit j) ts.length<RM.cnt (fun j=>left.testBit j) ts.length,fun σ H9 ⟨acc,v,left',v8,z1,z2,z3,z4,z5⟩=>⟨_,z5,acc,v,left',v8,z1,z2,z3,z4,rfl⟩,?_⟩
  obtain⟨bv,gv,ev,vv⟩:=R8.get (i:=v) (by omega)
  rw[mX]at vv
  have hwp0:=hwp
  rw[eacc]at hwp
  obtain⟨ws',x,ews,b7,rfl,hb7⟩:=kx hwp
  have hs:(((ad p ts g).tiesAt m v).map fun x=>((x:Nat):Int)).sum-((l:Nat):Int)=((t:Nat):Int):=by
   rcases hpair with z|z <;> · rw[z];simp only[List.map_cons,List.map_nil,List.sum_cons,List.sum_nil];omega
  refine(exq rfl (exq rfl (ixl (SqL.of R8.lst) (ai (j:=v) gv) ⟨bv,_,rfl,SqL.of vv,_,rfl,exq rfl (ixl (SqL.of hws) (by rw[ews];exact zK _ _) (ixq (SqT.of hb7) (ai (j:=0) rfl) (ijq (?_))))⟩)))
  dsimp only
  rw[hs]
  have s08:=R8.same
  obtain⟨bb,hxbb,hctt⟩:=lC (g:=g) h3 htn
  refine(exq rfl (ixq (SqT.of (s08 _ _ h1)) (ai (j:=1) rfl) (exq rfl (ixq (SqT.of (s08 _ _ h2)) (ai (j:=t) hxbb) (ixq (SqT.of (s08 _ _ hctt)) (ai (j:=0) rfl) (exq rfl ⟨rfl,exq rfl (?_)⟩))))))
  rw[eW]
  have hwsl:ws.length<sizeLine:=by
   rw[hwp0.length]
   exact jg (by omega)
  by_cases ea:(ad p ts g).a t=v
  ·rw[decide_eq_true ea]
   refine df (exq rfl ⟨.inl ⟨rfl,_,SqL.of hws⟩,exq rfl ⟨dl rfl,fun b1 hb1=>⟨Dw,ws,_,rfl,rfl,am.new hb1 _ _ hws,hwsl,?_⟩⟩⟩)
   have s9:am H8 (upd H8 b1 (.tup [.int ((t:Nat):Int),.int 1])):=am.new hb1
   have wk9:=RM.Wk.next wk hl0 htt
   have hfar:(ad p ts g).far t v=(ad p ts g).b t:=by unfold RM.Net.far;rw[if_pos ea]
   rw[if_pos ea,hfar]at wk9
   have w9:=ix.push (q:=(t,1)) (s9 _ _ hws) (Paired.imp' (fun _ _ z=>PrA.same s9 z) hwp0) ag
   have s10:am H (upd (upd H8 b1 (.tup [.int ((t:Nat):Int),.int 1])) Dw (.lst (ws++[.ref b1]))):=(s08.trans s9).put hDH
   have s69:am H6 (upd (upd H8 b1 (.tup [.int ((t:Nat):Int),.int 1])) Dw (.lst (ws++[.ref b1]))):=(s8.trans s9).put hDn
   exact(exq rfl (ixq (SqT.of (s10 _ _ h1)) (ai (j:=1) rfl) (exq rfl (ixq (SqT.of (s10 _ _ h2)) (ai (j:=t) hxbb) (ixq (SqT.of (s10 _ _ hctt)) (ai (j:=1) rfl) ⟨_,_,_,_,rfl,s69,w9,wk9,by omega⟩)))))
  ·rw[decide_eq_false ea]
   refine cg (exq rfl ⟨.inl ⟨rfl,_,SqL.of hws⟩,exq rfl (exq rfl ⟨dl rfl,fun b1 hb1=>⟨Dw,ws,_,rfl,rfl,am.new hb1 _ _ hws,hwsl,?_⟩⟩)⟩)
   have s9:am H8 (upd H8 b1 (.tup [.int ((t:Nat):Int),.int (-1)])):=am.new hb1
   have wk9:=RM.Wk.next wk hl0 htt
   have hfar:(ad p ts g).far t v=(ad p ts g).a t:=by unfold RM.Net.far;rw[if_neg ea]
   rw[if_neg ea,hfar]at wk9
   have w9:=ix.push (q:=(t,-1)) (s9 _ _ hws) (Paired.imp' (fun _ _ z=>PrA.same s9 z) hwp0) ag
   have s10:am H (upd (upd H8 b1 (.tup [.int ((t:Nat):Int),.int (-1)])) Dw (.lst (ws++[.ref b1]))):=(s08.trans s9).put hDH
   have s69:am H6 (upd (upd H8 b1 (.tup [.int ((t:Nat):Int),.int (-1)])) Dw (.lst (ws++[.ref b1]))):=(s8.trans s9).put hDn
   exact(exq rfl (ixq (SqT.of (s10 _ _ h1)) (ai (j:=1) rfl) (exq rfl (ixq (SqT.of (s10 _ _ h2)) (ai (j:=t) hxbb) (ixq (SqT.of (s10 _ _ hctt)) (ai (j:=0) rfl) ⟨_,_,_,_,rfl,s69,w9,wk9,by omega⟩)))))
end
def sR:Sp:=fun vs H Q _=>∃(S:Int) (m:Nat),vs=[.int S]∧S=(m:Int)∧∀ v:Bool,(∀ d,m<2^d→v=RM.bx (fun j=>m.testBit j) d)→Q (.bl v) H
theorem oq(n:Nat):∀ e,RM.bx (fun j=>n.testBit j) (e+1)=(decide (n%2=1)^^RM.bx (fun j=>(n/2).testBit j) e)
 | 0=>by
   show(false^^n.testBit 0)=(decide (n%2=1)^^false)
   rw[Nat.testBit_zero,Bool.false_xor,Bool.xor_false]
 | e+1=>by
   have ih:=oq n e
   show(RM.bx (fun j=>n.testBit j) (e+1)^^n.testBit (e+1))=(decide (n%2=1)^^(RM.bx (fun j=>(n/2).testBit j) e^^(n/2).testBit e))
   rw[ih,Nat.testBit_succ,Bool.xor_assoc]
section
variable {P:Program}{w:World}{K:PySem.W.Frag}{mg:Str→Option Value}{base:Heap}{a:Adr}
theorem kc(T:Txt K mg a):FnOk P w K mg base CX0 1 a.f_law_odd a.d_law_odd ["number"] sR:=by
 refine T.F_law_odd.ok gJ (fun vs H Q E h=>?_) (fun cdv A outer s H vs Q E hr h=>?_)
 ·obtain⟨S,m,rfl,_⟩:=h
  rfl
 ·obtain⟨S,m,rfl,rfl,q⟩:=h
  refine⟨_,(@aj _ _ _ _ _ (@aC _ _ 1 _ _ _ _ gJ.nd rfl (Or.inl rfl) eM (by rfl) (by first | exact .inl rfl | exact .inr rfl | assumption)) (@aj _ _ _ _ _ (@lX _ _ _ _ _ _ PassesOwn.never (@aE _ _ _ _ _ _ _ _ tE (pv 0) ah (aD _)) (@aj _ _ _ _ _ (@aC _ _ 1 _ _ _ _ gJ.nd rfl (Or.inl rfl) (@bQ _ _ _ _ _ _ _ _ ml (pv 1) (@bQ _ _ _ _ _ _ _ _ dU (@ay _ _ _ _ _ _ _ _ ci (pv 0) ah) ah (aD _)) (aD _)) (by rfl) (by first | exact .inl rfl | exact .inr rfl | assumption)) (@ao _ _ _ (@aC _ _ 0 _ _ _ _ gJ.nd rfl (Or.inl rfl) (@ay _ _ _ _ _ _ _ _ gR (pv 0) ah) (by rfl) (by first | exact .inl rfl | exact .inr rfl | assumption))))) (@ao _ _ _ (@az _ _ _ _ (pv 1))))),?_⟩
  refine sG ?_
  intro zz0 zz1 zz2 zz3
  refine⟨fun k σ H2=>∃(n:Nat) (c:Bool),σ=[some (.int ((n:Nat):Int)),some (.bl c)]∧H2=H∧(∀ d,m<2^d→∃ e,n<2^e∧RM.bx (fun j=>m.testBit j) d=(c^^RM.bx (fun j=>n.testBit j) e))∧n=k,⟨m,m,false,rfl,rfl,fun d hd=>⟨d,hd,by rw[Bool.false_xor]⟩,rfl⟩,?_⟩
  rintro k σ H2 ⟨n,c,rfl,rfl,hc,rfl⟩
  refine(exq rfl (ijq (exq rfl (sa (fun hpos=>?_) (fun hpos=>?_)))))
  ·have hpos:(0:Int)<((n:Nat):Int):=of_decide_eq_true hpos
   refine⟨fun σ H3=>∃(n' : Nat) (c:Bool),σ=[some (.int ((n' : Nat):Int)),some (.bl c)]∧H3=H2∧(∀ d,m<2^d→∃ e,n'<2^e∧RM.bx (fun j=>m.testBit j) d=(c^^RM.bx (fun j=>n'.testBit j) e))∧n'<n,fun σ H3 ⟨n',c,z1,z2,z3,z4⟩=>⟨n',z4,n',c,z1,z2,z3,rfl⟩,?_⟩
   refine(exq rfl (exq rfl (ijq ⟨(nJ rfl),rfl,rfl,exq rfl (ijq ⟨⟨by decide,by decide⟩,n/2,c^^decide (n%2=1),?_,rfl,fun d hd=>?_,by omega⟩)⟩)))
   ·show[some (V.int (((n:Nat):Int)/2)),some (V.bl (!decide (V.bl c=V.bl (decide (V.int (((n:Nat):Int)%2)=V.int 1)))))]=_
    rw[tX,wK]
    have:(!decide (c=decide (n%2=1)))=(c^^decide (n%2=1)):=by
     cases c<;>cases decide (n%2=1)<;>rfl
    rw[this]
    rfl
   ·obtain⟨e,he,hce⟩:=hc d hd
    cases e with
    | zero=>exact absurd he (by omega)
    | succ e =>
      rw[oq]at hce
      exact⟨e,by rw[Nat.pow_succ]at he;omega,by rw[hce,Bool.xor_assoc]⟩
  ·have hz:n=0:=by
    have : ¬(0:Int)<((n:Nat):Int):=fun z=>hpos (decide_eq_true z)
    omega
   subst hz
   refine(exq rfl (q c fun d hd=>?_))
   obtain⟨e,he,hce⟩:=hc d hd
   rw[hce,RM.gC fun k _=>Nat.zero_testBit k,Bool.xor_false]
end
structure KindsOf(K:PySem.W.Frag)(a:Adr)(C:Addr)(j:Nat):Prop where
 lt:j<12
 e:ExcCls K C
 q0:PySem.W.kitOne K (.ref C) (.ref a.c_BadWeb)=some (decide (0=j))
 q1:PySem.W.kitOne K (.ref C) (.ref a.c_BadSet)=some (decide (1=j))
 q2:PySem.W.kitOne K (.ref C) (.ref a.c_BadPoint)=some (decide (2=j))
 q3:PySem.W.kitOne K (.ref C) (.ref a.c_NotRing)=some (decide (3=j))
 q4:PySem.W.kitOne K (.ref C) (.ref a.c_NoChord)=some (decide (4=j))
 q5:PySem.W.kitOne K (.ref C) (.ref a.c_NoBase)=some (decide (5=j))
 q6:PySem.W.kitOne K (.ref C) (.ref a.c_NoSuch)=some (decide (6=j))
 q7:PySem.W.kitOne K (.ref C) (.ref a.c_TooMany)=some (decide (7=j))
 q8:PySem.W.kitOne K (.ref C) (.ref a.c_BadRow)=some (decide (8=j))
 q9:PySem.W.kitOne K (.ref C) (.ref a.c_NoDeed)=some (decide (9=j))
 q10:PySem.W.kitOne K (.ref C) (.ref a.c_NotEven)=some (decide (10=j))
 q11:PySem.W.kitOne K (.ref C) (.ref a.c_NoText)=some (decide (11=j))
 qV:PySem.W.kitOne K (.ref C) (.type "ValueError")=some true
def pQ(K:PySem.W.Frag)(a:Adr)(ea:Addr):Sp:=fun vs H Q _=>vs=[.ref ea]∧∃ C j,H ea=some (mD ea (.ref C))∧KindsOf K a C j∧∀ D H',H D=none→am H H'→H' D=some (.lst [.int (j:Int),.int 1])→Q (.ref D) H'
theorem rV{j:Nat}(h:j<12):(List.range 12).filter (fun k=>decide (k=j))=[j]:=by
 match j,h with
 | 0,_ | 1,_ | 2,_ | 3,_ | 4,_ | 5,_ | 6,_ | 7,_ | 8,_ | 9,_ | 10,_ | 11,_=>decide
 | n+12,h=>omega
theorem uN{j i:Nat}(h:i<12):([.bl (decide (0=j)),.bl (decide (1=j)),.bl (decide (2=j)),.bl (decide (3=j)),.bl (decide (4=j)),.bl (decide (5=j)),.bl (decide (6=j)),.bl (decide (7=j)),.bl (decide (8=j)),.bl (decide (9=j)),.bl (decide (10=j)),.bl (decide (11=j))]:List V)[i]?=some (.bl (decide (i=j))):=by
 match i,h with
 | 0,_ | 1,_ | 2,_ | 3,_ | 4,_ | 5,_ | 6,_ | 7,_ | 8,_ | 9,_ | 10,_ | 11,_=>rfl
 | n+12,h=>omega
section
variable {P:Program}{w:World}{K:PySem.W.Frag}{mg:Str→Option Value}{base:Heap}{a:Adr}
theorem iF(T:Txt K mg a)(ea:Addr):FnH ea P w K mg base 1 a.f_law_kinds a.d_law_kinds ["e"] (pQ K a ea):=by
 refine T.F_law_kinds.okH dQ (fun vs H Q E h=>?_) (fun cdv A outer s H vs Q E hr h=>?_)
 ·obtain⟨rfl,_⟩:=h
  rfl
 ·obtain⟨rfl,C,j,hx,kk,q⟩:=h
  refine⟨_,(@aj _ _ _ _ _ (@aC _ _ 1 _ _ _ _ dQ.nd rfl (Or.inl rfl) (@bY _ _ _ _ (@aa _ _ _ _ _ (@aA _ _ _ _ _ _ _ _ _ (jQ K) (by rfl) T.n_isinstance PyProof.Rows.boot_isinstance (@aa _ _ _ _ _ (pv 0) (@aa _ _ _ _ _ (@eQ _ _ _ _ (by rfl) T.g_BadWeb (by decide)) af (by rfl)) (by rfl)) (by decide) (by decide) (by rfl) (by rfl)) (@aa _ _ _ _ _ (@aA _ _ _ _ _ _ _ _ _ (jQ K) (by rfl) T.n_isinstance PyProof.Rows.boot_isinstance (@aa _ _ _ _ _ (pv 0) (@aa _ _ _ _ _ (@eQ _ _ _ _ (by rfl) T.g_BadSet (by decide)) af (by rfl)) (by rfl)) (by decide) (by decide) (by rfl) (by rfl)) (@aa _ _ _ _ _ (@aA _ _ _ _ _ _ _ _ _ (jQ K) (by rfl) T.n_isinstance PyProof.Rows.boot_isinstance (@aa _ _ _ _ _ (pv 0) (@aa _ _ _ _ _ (@eQ _ _ _ _ (by rfl) T.g_BadPoint (by decide)) af (by rfl)) (by rfl)) (by decide) (by decide) (by rfl) (by rfl)) (@aa _ _ _ _ _ (@aA _ _ _ _ _ _ _ _ _ (jQ K) (by rfl) T.n_isinstance PyProof.Rows.boot_isinstance (@aa _ _ _ _ _ (pv 0) (@aa _ _ _ _ _ (@eQ _ _ _ _ (by rfl) T.g_NotRing (by decide)) af (by rfl)) (by rfl)) (by decide) (by decide) (by rfl) (by rfl)) af (by rfl)) (by rfl)) (by rfl)) (by rfl))) (by rfl) (by first | exact .inl rfl | exact .inr rfl | assumption)) (@aj _ _ _ _ _ (@aC _ _ 2 _ _ _ _ dQ.nd rfl (Or.inl rfl) (@bY _ _ _ _ (@aa _ _ _ _ _ (@aA _ _ _ _ _ _ _ _ _ (jQ K) (by rfl) T.n_isinstance PyProof.Rows.boot_isinstance (@aa _ _ _ _ _ (pv 0) (@aa _ _ _ _ _ (@eQ _ _ _ _ (by rfl) T.g_NoChord (by decide)) af (by rfl)) (by rfl)) (by decide) (by decide) (by rfl) (by rfl)) (@aa _ _ _ _ _ (@aA _ _ _ _ _ _ _ _ _ (jQ K) (by rfl) T.n_isinstance PyProof.Rows.boot_isinstance (@aa _ _ _ _ _ (pv 0) (@aa _ _ _ _ _ (@eQ _ _ _ _ (by rfl) T.g_NoBase (by decide)) af (by rfl)) (by rfl)) (by decide) (by decide) (by rfl) (by rfl)) (@aa _ _ _ _ _ (@aA _ _ _ _ _ _ _ _ _ (jQ K) (by rfl) T.n_isinstance PyProof.Rows.boot_isinstance (@aa _ _ _ _ _ (pv 0) (@aa _ _ _ _ _ (@eQ _ _ _ _ (by rfl) T.g_NoSuch (by decide)) af (by rfl)) (by rfl)) (by decide) (by decide) (by rfl) (by rfl)) (@aa _ _ _ _ _ (@aA _ _ _ _ _ _ _ _ _ (jQ K) (by rfl) T.n_isinstance PyProof.Rows.boot_isinstance (@aa _ _ _ _ _ (pv 0) (@aa _ _ _ _ _ (@eQ _ _ _ _ (by rfl) T.g_TooMany (by decide)) af (by rfl)) (by rfl)) (by decide) (by decide) (by rfl) (by rfl)) af (by rfl)) (by rfl)) (by rfl)) (by rfl))) (by rfl) (by first | exact .inl rfl | exact .inr rfl | assumption)) (@aj _ _ _ _ _ (@aC _ _ 3 _ _ _ _ dQ.nd rfl (Or.inl rfl) (@bY _ _ _ _ (@aa _ _ _ _ _ (@aA _ _ _ _ _ _ _ _ _ (jQ K) (by rfl) T.n_isinstance PyProof.Rows.boot_isinstance (@aa _ _ _ _ _ (pv 0) (@aa _ _ _ _ _ (@eQ _ _ _ _ (by rfl) T.g_BadRow (by decide)) af (by rfl)) (by rfl)) (by decide) (by decide) (by rfl) (by rfl)) (@aa _ _ _ _ _ (@aA _ _ _ _ _ _ _ _ _ (jQ K) (by rfl) T.n_isinstance PyProof.Rows.boot_isinstance (@aa _ _ _ _ _ (pv 0) (@aa _ _ _ _ _ (@eQ _ _ _ _ (by rfl) T.g_NoDeed (by decide)) af (by rfl)) (by rfl)) (by decide) (by decide) (by rfl) (by rfl)) (@aa _ _ _ _ _ (@aA _ _ _ _ _ _ _ _ _ (jQ K) (by rfl) T.n_isinstance PyProof.Rows.boot_isinstance (@aa _ _ _ _ _ (pv 0) (@aa _ _ _ _ _ (@eQ _ _ _ _ (by rfl) T.g_NotEven (by decide)) af (by rfl)) (by rfl)) (by decide) (by decide) (by rfl) (by rfl)) (@aa _ _ _ _ _ (@aA _ _ _ _ _ _ _ _ _ (jQ K) (by rfl) T.n_isinstance PyProof.Rows.boot_isinstance (@aa _ _ _ _ _ (pv 0) (@aa _ _ _ _ _ (@eQ _ _ _ _ (by rfl) T.g_NoText (by decide)) af (by rfl)) (by rfl)) (by decide) (by decide) (by rfl) (by rfl)) af (by rfl)) (by rfl)) (by rfl)) (by rfl))) (by rfl) (by first | exact .inl rfl | exact .inr rfl | assumption)) (@aj _ _ _ _ _ (@aC _ _ 4 _ _ _ _ dQ.nd rfl (Or.inr rfl) (@ay _ _ _ _ _ _ _ _ (zy K) (@ay _ _ _ _ _ _ _ _ (zy K) (pv 1) (pv 2)) (pv 3)) (by rfl) (by first | exact .inl rfl | exact .inr rfl | assumption)) (@ao _ _ _ (@az _ _ _ _ (@ay _ _ _ _ _ _ _ _ (zy K) (@vP _ _ _ _ _ _ _ ["k"] ["heard"] [4] _ _ _ _ (aF (ae cO) ["e","first","more","last","heard"]) (@uk _ _ _ (.ref C) _ _ _ _ hr.hd rfl (by rfl) T.n_range (@aa _ _ _ _ _ ah af (by rfl)) (by rfl)) (fun _ _ _ _=>(ax (i:=0) (show(["k","heard"]:List Str).Nodup by decide +kernel) rfl (Or.inl rfl))) (fun _ _ _ _=>(eC (eT (aq (ixL K) (pv 1) (pv 0) (fun _ _=>rfl))))) (fun _ _ _ _=>(pv 0)) (by intro _;rfl)) (@bY _ _ _ _ (@aa _ _ _ _ _ (@da _ _ _ _ _ _ _ _ _ uB (by rfl) T.n_int PyProof.Rows.boot_int (@aa _ _ _ _ _ (@aA _ _ _ _ _ _ _ _ _ (jQ K) (by rfl) T.n_isinstance PyProof.Rows.boot_isinstance (@aa _ _ _ _ _ (pv 0) (@aa _ _ _ _ _ (aai (T:="ValueError") (by rfl) T.n_ValueError (by decide +kernel)) af (by rfl)) (by rfl)) (by decide) (by decide) (by rfl) (by rfl)) af (by rfl)) (by decide) (by decide) (by rfl) (by rfl)) af (by rfl)))))))))),?_⟩
  refine pN ?_
  intro zz0 zz1 zz2 zz3
  refine(exq rfl ⟨ea,_,C,_,_,rfl,rfl,hx,kk.e,kk.q0,_,rfl,ea,_,C,_,_,rfl,rfl,hx,kk.e,kk.q1,_,rfl,ea,_,C,_,_,rfl,rfl,hx,kk.e,kk.q2,_,rfl,ea,_,C,_,_,rfl,rfl,hx,kk.e,kk.q3,dl rfl,fun l1 h1=>?_⟩)
  have s1:am H (upd H l1 (.lst [.bl (decide (0=j)),.bl (decide (1=j)),.bl (decide (2=j)),.bl (decide (3=j))])):=am.new h1
  have g1:upd H l1 (.lst [.bl (decide (0=j)),.bl (decide (1=j)),.bl (decide (2=j)),.bl (decide (3=j))]) l1=some (.lst [.bl (decide (0=j)),.bl (decide (1=j)),.bl (decide (2=j)),.bl (decide (3=j))]):=ag
  generalize upd H l1 (.lst [.bl (decide (0=j)),.bl (decide (1=j)),.bl (decide (2=j)),.bl (decide (3=j))])=H1 at s1 g1
  refine(exq rfl ⟨ea,_,C,_,_,rfl,rfl,(s1 _ _ hx),kk.e,kk.q4,_,rfl,ea,_,C,_,_,rfl,rfl,(s1 _ _ hx),kk.e,kk.q5,_,rfl,ea,_,C,_,_,rfl,rfl,(s1 _ _ hx),kk.e,kk.q6,_,rfl,ea,_,C,_,_,rfl,rfl,(s1 _ _ hx),kk.e,kk.q7,dl rfl,fun l2 h2=>?_⟩)
  have s2:am H (upd H1 l2 (.lst [.bl (decide (4=j)),.bl (decide (5=j)),.bl (decide (6=j)),.bl (decide (7=j))])):=s1.trans (am.new h2)
  have g12:=am.new (o:=.lst [.bl (decide (4=j)),.bl (decide (5=j)),.bl (decide (6=j)),.bl (decide (7=j))]) h2 _ _ g1
  have g2:upd H1 l2 (.lst [.bl (decide (4=j)),.bl (decide (5=j)),.bl (decide (6=j)),.bl (decide (7=j))]) l2=some (.lst [.bl (decide (4=j)),.bl (decide (5=j)),.bl (decide (6=j)),.bl (decide (7=j))]):=ag
  generalize upd H1 l2 (.lst [.bl (decide (4=j)),.bl (decide (5=j)),.bl (decide (6=j)),.bl (decide (7=j))])=H2 at s2 g2 g12
  refine(exq rfl ⟨ea,_,C,_,_,rfl,rfl,(s2 _ _ hx),kk.e,kk.q8,_,rfl,ea,_,C,_,_,rfl,rfl,(s2 _ _ hx),kk.e,kk.q9,_,rfl,ea,_,C,_,_,rfl,rfl,(s2 _ _ hx),kk.e,kk.q10,_,rfl,ea,_,C,_,_,rfl,rfl,(s2 _ _ hx),kk.e,kk.q11,dl rfl,fun l3 h3=>?_⟩)
  have s3:am H (upd H2 l3 (.lst [.bl (decide (8=j)),.bl (decide (9=j)),.bl (decide (10=j)),.bl (decide (11=j))])):=s2.trans (am.new h3)
  have g13:=am.new (o:=.lst [.bl (decide (8=j)),.bl (decide (9=j)),.bl (decide (10=j)),.bl (decide (11=j))]) h3 _ _ g12
  have g23:=am.new (o:=.lst [.bl (decide (8=j)),.bl (decide (9=j)),.bl (decide (10=j)),.bl (decide (11=j))]) h3 _ _ g2
  have g3:upd H2 l3 (.lst [.bl (decide (8=j)),.bl (decide (9=j)),.bl (decide (10=j)),.bl (decide (11=j))]) l3=some (.lst [.bl (decide (8=j)),.bl (decide (9=j)),.bl (decide (10=j)),.bl (decide (11=j))]):=ag
  generalize upd H2 l3 (.lst [.bl (decide (8=j)),.bl (decide (9=j)),.bl (decide (10=j)),.bl (decide (11=j))])=H3 at s3 g3 g13 g23
  refine(exq rfl (exq rfl ⟨l1,l2,_,_,rfl,rfl,SqL.of g13,SqL.of g23,dl rfl,fun l4 h4=>(exq rfl ⟨l4,l3,_,_,rfl,rfl,SqL.of ag,SqL.of (am.new h4 _ _ g3),dl rfl,fun l5 h5=>?_⟩)⟩))
  have s5:am H (upd (upd H3 l4 (.lst ([.bl (decide (0=j)),.bl (decide (1=j)),.bl (decide (2=j)),.bl (decide (3=j))]++[.bl (decide (4=j)),.bl (decide (5=j)),.bl (decide (6=j)),.bl (decide (7=j))]))) l5 (.lst ([.bl (decide (0=j)),.bl (decide (1=j)),.bl (decide (2=j)),.bl (decide (3=j))]++[.bl (decide (4=j)),.bl (decide (5=j)),.bl (decide (6=j)),.bl (decide (7=j))]++[.bl (decide (8=j)),.bl (decide (9=j)),.bl (decide (10=j)),.bl (decide (11=j))]))):=(s3.trans (am.new h4)).trans (am.new h5)
  have g5:upd (upd H3 l4 (.lst ([.bl (decide (0=j)),.bl (decide (1=j)),.bl (decide (2=j)),.bl (decide (3=j))]++[.bl (decide (4=j)),.bl (decide (5=j)),.bl (decide (6=j)),.bl (decide (7=j))]))) l5 (.lst ([.bl (decide (0=j)),.bl (decide (1=j)),.bl (decide (2=j)),.bl (decide (3=j))]++[.bl (decide (4=j)),.bl (decide (5=j)),.bl (decide (6=j)),.bl (decide (7=j))]++[.bl (decide (8=j)),.bl (decide (9=j)),.bl (decide (10=j)),.bl (decide (11=j))])) l5=some (.lst [.bl (decide (0=j)),.bl (decide (1=j)),.bl (decide (2=j)),.bl (decide (3=j)),.bl (decide (4=j)),.bl (decide (5=j)),.bl (decide (6=j)),.bl (decide (7=j)),.bl (decide (8=j)),.bl (decide (9=j)),.bl (decide (10=j)),.bl (decide (11=j))]):=ag
  generalize upd (upd H3 l4 (.lst ([.bl (decide (0=j)),.bl (decide (1=j)),.bl (decide (2=j)),.bl (decide (3=j))]++[.bl (decide (4=j)),.bl (decide (5=j)),.bl (decide (6=j)),.bl (decide (7=j))]))) l5 (.lst ([.bl (decide (0=j)),.bl (decide (1=j)),.bl (decide (2=j)),.bl (decide (3=j))]++[.bl (decide (4=j)),.bl (decide (5=j)),.bl (decide (6=j)),.bl (decide (7=j))]++[.bl (decide (8=j)),.bl (decide (9=j)),.bl (decide (10=j)),.bl (decide (11=j))]))=H5 at s5 g5
  refine(exq rfl ⟨by decide,by decide,fun D hD=>qA (lo:=0) (m:=12) (iu (fun k=>decide (k=j)) H5 D) (.start hD) (fun i acc H4 _ p=>p.len) (dl rfl) ?_ ?_⟩)
  ·intro i acc H4 hi p
   rw[Int.zero_add]
   refine⟨rfl,exq rfl (exq rfl (ixl (SqL.of (p.1 _ _ g5)) (ai (j:=i) (uN hi)) (exq rfl (?_))))⟩
   cases hb:decide (i=j) with
   | true=>exact(exq rfl (p.yes hD (am.refl _) hb))
   | false=>exact p.no (am.refl _) hb
  ·intro acc H4 p
   refine⟨p.1 _ _ (s5 _ _ hx),?_⟩
   have hD4:H4 D=some (.lst [.int (j:Int)]):=by
    rw[p.2.1,p.2.2,rV kk.lt]
    rfl
   refine(exq rfl ⟨ea,_,C,_,_,rfl,rfl,p.1 _ _ (s5 _ _ hx),kk.e,kk.qV,.inr (exq rfl ⟨dl rfl,fun l6 h6=>⟨D,l6,_,_,rfl,rfl,SqL.of (am.new h6 _ _ hD4),SqL.of ag,dl rfl,fun l7 h7=>?_⟩⟩)⟩)
   have s7:=(s5.trans p.1).trans (am.new (o:=.lst [.int 1]) h6)
   exact q l7 _ (s7.free h7) (s7.trans (am.new h7)) ag
end
section
variable {K:PySem.W.Frag}{mg:Str→Option Value}{a:Adr}
theorem pB(T:Txt K mg a):KindsOf K a a.c_BadSet 1:=⟨by decide,T.e_BadSet,T.q_BadSet_BadWeb,T.q_BadSet_BadSet,T.q_BadSet_BadPoint,T.q_BadSet_NotRing,T.q_BadSet_NoChord,T.q_BadSet_NoBase,T.q_BadSet_NoSuch,T.q_BadSet_TooMany,T.q_BadSet_BadRow,T.q_BadSet_NoDeed,T.q_BadSet_NotEven,T.q_BadSet_NoText,T.qV_BadSet⟩
end
def oD:Option Int→PyData
 | none=>.none
 | some z=>.int z
def prD(q:Pr):PyData:=.tuple [oD q.1,oD q.2]
theorem wt{K:PySem.W.Frag}{H:Hp}(o:Option Int):DatV K H (oV o) (oD o):=by
 cases o with
 | none=>exact .non
 | some z=>exact .int z
theorem tN{K:PySem.W.Frag}{H:Hp}:∀{ys:List V} {R:List Pr},Paired (dG H) ys R→DatVs K H ys (R.map prD)
 | _,_,.nil=>.nil
 | _,_,.cons h r=>by
   obtain⟨b,rfl,hb⟩:=h
   exact .cons (.tup (SqT.of hb) (.cons (wt _) (.cons (wt _) .nil))) (tN r)
theorem aam(o:Option Int):(oD o).canLay0=true:=by cases o<;>rfl
theorem ua:∀ R:List Pr,PyData.canLayAll0 (R.map prD)=true
 | []=>rfl
 | q::r=>by
   have ih:=ua r
   have e:(prD q).canLay0=true:=by simp[prD,PyData.canLay0,PyData.canLayAll0,aam]
   simp only[List.map_cons,PyData.canLayAll0,ih,Bool.and_true,e]
theorem zu(o:Option Int):PyData.depth (oD o)=0:=by cases o<;>rfl
theorem rG:∀ R:List Pr,PyData.depthAll (R.map prD)≤1
 | []=>Nat.zero_le _
 | q::r=>by
   have ih:=rG r
   show max (PyData.depth (prD q)) (PyData.depthAll (r.map prD))≤1
   have e:PyData.depth (prD q)=1:=by simp[prD,PyData.depth,PyData.depthAll,zu]
   omega
theorem xD(R:List Pr):(PyData.tuple (R.map prD)).canLay0=true:=by
 have e:(PyData.tuple (R.map prD)).canLay0=PyData.canLayAll0 (R.map prD):=by simp[PyData.canLay0]
 rw[e,ua]
theorem yi{R R2:List Pr}{p:Nat}(h1:R.length=p)(h2:R2.length=p)(h:∀ x s,x<p→sel (cH R x) s=sel (cH R2 x) s):R=R2:=by
 refine List.ext_getElem (h1.trans h2.symm) fun i a b=>?_
 have e0:=h i false (by omega)
 have e1:=h i true (by omega)
 unfold cH at e0 e1
 rw[List.getD_eq_getElem?_getD,List.getD_eq_getElem?_getD,List.getElem?_eq_getElem a,List.getElem?_eq_getElem b]at e0 e1
 exact Prod.ext e0 e1
theorem sD{p:Nat}{ts:List Tie}{g:GoodWeb p ts}{m:Nat}{W W2:List (List Pr)}(s1:Sqr p W)(s2:Sqr p W2)(b1:n4 p ts g m W)(b2:n4 p ts g m W2):W=W2:=by
 refine List.ext_getElem (s1.1.trans s2.1.symm) fun i a b=>?_
 have hi:i<p:=by have:=s1.1;omega
 have e1:W.getD i []=W[i]:=by rw[List.getD_eq_getElem?_getD,List.getElem?_eq_getElem a];rfl
 have e2:W2.getD i []=W2[i]:=by rw[List.getD_eq_getElem?_getD,List.getElem?_eq_getElem b];rfl
 rw[← e1,← e2]
 exact yi (s1.row hi) (s2.row hi) fun x s hx=>(b1 i hi x s hx).uniq (b2 i hi x s hx)
def mj(R:List Pr):PyData:=.tuple (R.map prD)
def pJ(W:List (List Pr)):PyData:=.tuple (W.map mj)
theorem qR{K:PySem.W.Frag}{H:Hp}:∀{ys:List V} {W:List (List Pr)},Paired (jc H) ys W→DatVs K H ys (W.map mj)
 | _,_,.nil=>.nil
 | _,_,.cons h r=>by
   obtain⟨b,ys,rfl,hb,pr⟩:=h
   exact .cons (.tup (SqT.of hb) (tN pr)) (qR r)
theorem qC:∀ W:List (List Pr),PyData.canLayAll0 (W.map mj)=true
 | []=>rfl
 | R::r=>by
   have ih:=qC r
   have e:(mj R).canLay0=true:=xD R
   simp only[List.map_cons,PyData.canLayAll0,ih,Bool.and_true,e]
theorem oP:∀ W:List (List Pr),PyData.depthAll (W.map mj)≤2
 | []=>Nat.zero_le _
 | R::r=>by
   have ih:=oP r
   show max (PyData.depth (mj R)) (PyData.depthAll (r.map mj))≤2
   have e:PyData.depth (mj R)=PyData.depthAll (R.map prD)+1:=by simp[mj,PyData.depth]
   have:=rG R
   omega
theorem xG{K:PySem.W.Frag}{H:Hp}{b:Addr}{W:List (List Pr)}(h:cQ H b W):DatV K H (.ref b) (pJ W):=let⟨_,h1,h2⟩:=h;.tup (SqT.of h1) (qR h2)
theorem yw(W:List (List Pr)):(pJ W).canLay0=true:=by
 have e:(pJ W).canLay0=PyData.canLayAll0 (W.map mj):=by simp[pJ,PyData.canLay0]
 rw[e,qC]
theorem xA(W:List (List Pr)):PyData.depth (pJ W)≤3:=by
 have e:PyData.depth (pJ W)=PyData.depthAll (W.map mj)+1:=by simp[pJ,PyData.depth]
 have:=oP W
 omega
def oF(e:Nat)(W:List (List Pr)):PyData:=.tuple [.str "ring",.int (e:Int),pJ W]
theorem oZ(e:Nat)(W:List (List Pr)):(oF e W).canLay0=true:=by
 have h:PyData.strOk "ring"=true:=by decide +kernel
 simp[oF,PyData.canLay0,PyData.canLayAll0,yw,h]
theorem qf(e:Nat)(W:List (List Pr)):SeqAt.shaped (oF e W)=true:=by
 unfold SeqAt.shaped
 rw[oZ,Bool.true_and]
 refine decide_eq_true ?_
 have h:=xA W
 have e2:PyData.depth (oF e W)≤PyData.depth (pJ W)+1:=by simp[oF,PyData.depth,PyData.depthAll]
 omega
def pf(l:List Nat):PyData:=.tuple [.str "side",.list (l.map gB)]
theorem o9:∀ l:List Nat,PyData.canLayAll0 (l.map gB)=true
 | []=>rfl
 | x::r=>by
   have ih:=o9 r
   have e:(gB x).canLay0=true:=by simp[gB,PyData.canLay0]
   simp only[List.map_cons,PyData.canLayAll0,ih,Bool.and_true,e]
theorem mw:∀ l:List Nat,PyData.depthAll (l.map gB)=0
 | []=>rfl
 | x::r=>by
   show max (PyData.depth (gB x)) (PyData.depthAll (r.map gB))=0
   rw[mw r]
   rfl
theorem oy(l:List Nat):(pf l).canLay0=true:=by
 have h:PyData.strOk "side"=true:=by decide +kernel
 simp[pf,PyData.canLay0,PyData.canLayAll0,o9,h]
theorem pX(l:List Nat):SeqAt.shaped (pf l)=true:=by
 unfold SeqAt.shaped
 rw[oy,Bool.true_and]
 refine decide_eq_true ?_
 have e2:PyData.depth (pf l)=2:=by simp[pf,PyData.depth,PyData.depthAll,mw]
 omega
theorem qL{K:PySem.W.Frag}{H:Hp}{t b:Addr}{e:Nat}{W:List (List Pr)}(h:H t=some (.tup [.str "ring",.int (e:Int),.ref b]))(hW:cQ H b W):DatV K H (.ref t) (oF e W):=.tup (SqT.of h) (.cons (.str _) (.cons (.int _) (.cons (xG hW) .nil)))
theorem ql{K:PySem.W.Frag}{H:Hp}{t l:Addr}{xs:List Nat}(h:H t=some (.tup [.str "side",.ref l]))(hl:H l=some (.lst (aJ xs))):DatV K H (.ref t) (pf xs):=.tup (SqT.of h) (.cons (.str _) (.cons (.lst (SqL.of hl) (gp _)) .nil))
theorem wc{K:PySem.W.Frag}{p:Nat}{ts:List Tie}{g:GoodWeb p ts}{m:Nat}{H1 H2 H3 H4:Hp}{t t' : Addr}(h:p4 p ts g m H1 H2 t)(s:am H2 H4)(h' : p4 p ts g m H3 H4 t'):∃ d,DatV K H4 (.ref t) d∧DatV K H4 (.ref t') d∧SeqAt.shaped d=true∧d.canLay0=true:=by
 have hL1:∀ k,k<(ad p ts g).n→0<bg ts k:=fun k hk=>by
  have:=(g.ties _ (db hk)).l0
  unfold bg
  omega
 rcases h with⟨n1,_,l,_,a1,a2⟩|⟨z,e,b,W,lo,le,a1,a2,a3,a4,a5⟩
 ·rcases h' with⟨_,_,l',_,b1,b2⟩|⟨z',e',b',W',lo',le',_⟩
  ·exact⟨_,ql (s _ _ a1) (s _ _ a2),ql b1 b2,pX _,oy _⟩
  ·obtain⟨x,hx,hw⟩:=le'.way
   exact absurd hw (n1 x _ hx)
 ·rcases h' with⟨n1,_,l',_,b1,b2⟩|⟨z',e',b',W',lo',le',b1,b2,b3,b4,b5⟩
  ·obtain⟨x,hx,hw⟩:=le.way
   exact absurd hw (n1 x _ hx)
  ·obtain⟨rfl,rfl⟩:=lo.uniq hL1 lo'
   obtain rfl:=sD ⟨a3,a4⟩ ⟨b3,b4⟩ a5 b5
   exact⟨_,qL (s _ _ a1) (a2.same s),qL b1 b2,qf _ _,oZ _ _⟩
def lU(t:Addr)(lp:Pos):Sp:=fun vs H Q _=>∃ w p ts,∃ g:GoodWeb p ts,∃ S:Int,vs=[.ref w,.int S]∧WebAt H w p ts∧H t=some (.tbl (eK (uJ "least_ways") lp))∧(S<0∨2^ts.length≤S)∧∀ D H',H D=none→am H H'→H' D=some (.lst (aJ [1,1]))→Q (.ref D) H'
def xk:Sp:=fun vs H Q _=>∃ w p ts,∃ g:GoodWeb p ts,∃ m:Nat,vs=[.ref w,.int (m:Int)]∧WebAt H w p ts∧∀(v:Bool) H',am H H'→(v=true↔∃ r,r<2^ts.length∧(ad p ts g).Ring r∧(ad p ts g).par r m=true)→Q (.bl v) H'
section
variable {P:Program}{w:World}{K:PySem.W.Frag}{mg:Str→Option Value}{base:Heap}{a:Adr}
theorem fR(T:Txt K mg a):FnOk P w K mg base CX0 8 a.f_law_refusal a.d_law_refusal ["web","marks"] (lU a.p_least_ways aX):=by
 have iF:=fun ea=>iF (P:=P) (w:=w) (base:=base) T ea
 have cK:FnOk P w K mg base (CX1 P w) 7 a.f_least_odd a.d_least_odd ["web","marks"] (hG a.c_BadSet a.p_least_ways aX):=cK T
 refine T.F_law_refusal.ok dN (fun vs H Q E h=>?_) (fun cdv A outer s H vs Q E hr h=>?_)
 ·obtain⟨w,p,ts,g,S,rfl,_⟩:=h
  rfl
 ·obtain⟨wb,p,ts,g,S,rfl,hw,htb,hS,q⟩:=h
  refine⟨_,(@aj _ _ _ _ _ (@aC _ _ 2 _ _ _ _ dN.nd rfl (Or.inl rfl) (@bY _ _ _ _ af) (by rfl) (by first | exact .inl rfl | exact .inr rfl | assumption)) (@aj _ _ _ _ _ (@zS _ _ _ 3 _ _ _ _ _ _ _ _ _ K rfl rfl rfl dN.nd rfl rfl (by rfl) T.g_RingError (fun E pn xe hp=>(ao (cG (au cK (hr.mono (by decide)) (by rfl) T.m_least_odd T.k_least_odd T.b_least_odd .nil hp (aa (pv 0) (aa (pv 1) af)))))) (fun ea pn=>(ao (aC (i:=2) dN.nd rfl (Or.inl rfl) (xB (iF ea) ((hr.mono (by decide)).mark ea) (by rfl) T.m_law_kinds T.k_law_kinds T.b_law_kinds .nil (aa (pv 3) af))))) (by rfl) (by decide)) (@ao _ _ _ (@az _ _ _ _ (pv 2))))),?_⟩
  refine ly ?_
  intro zz0 zz1
  refine⟨dl rfl,fun l0 hl0=>?_⟩
  have s0:am H (upd H l0 (.lst [])):=am.new hl0
  generalize upd H l0 (.lst [])=H0 at s0
  refine⟨fun cls od H'=>∃ C,cls = .ref C∧KindsOf K a C 1∧PySem.W.exmOne K (.ref C) (.ref a.c_RingError)=some true∧am H0 H',?_,?_⟩
  ·exact(exq rfl (exq rfl ⟨wb,p,ts,g,S,rfl,hw.same s0,s0 _ _ htb,.inr ⟨hS,_,rfl,pB T,T.h_BadSet,am.refl _⟩⟩))
  ·rintro cls od H' ⟨C,rfl,kk,hx,s1⟩
   refine⟨hx,fun ea hea=>?_⟩
   have s2:=s1.trans (am.new (o:=mD ea (.ref C)) hea)
   refine(exq rfl ⟨rfl,C,1,ag,kk,fun D H3 hD s3 hD3=>?_⟩)
   exact(exq rfl (q D _ ((s0.trans s2).free hD) ((s0.trans s2).trans s3) hD3))
theorem fW(T:Txt K mg a):FnOk P w K mg base CX0 2 a.f_law_any_odd a.d_law_any_odd ["web","marks"] xk:=by
 have kc:FnOk P w K mg base CX0 1 a.f_law_odd a.d_law_odd ["number"] sR:=kc T
 have jh:FnOk P w K mg base CX0 1 a.f_law_walk a.d_law_walk ["web","some"] kJ:=jh T
 refine T.F_law_any_odd.ok ij (fun vs H Q E h=>?_) (fun cdv A outer s H vs Q E hr h=>?_)
 ·obtain⟨w,p,ts,g,m,rfl,_⟩:=h
  rfl
 ·obtain⟨wb,p,ts,g,m,rfl,hw,q⟩:=h
  refine⟨_,(@aj _ _ _ _ _ (@dR _ _ _ _ _ _ _ _ PassesOwn.never rfl (@nS _ _ _ _ _ _ _ (by rfl) T.n_range (@aa _ _ _ _ _ ah (@aa _ _ _ _ _ (@ay _ _ _ _ _ _ _ _ fA ah (@aA _ _ _ _ _ _ _ _ _ (gN K) (by rfl) T.n_len PySem.boot_len (@aa _ _ _ _ _ (@aq _ _ _ _ _ _ _ (ixT K) (pv 0) ah (fun _ _=>rfl)) af (by rfl)) (by decide) (by decide) (by rfl) (by rfl))) af (by rfl)) (by rfl)) (by rfl) (by rfl)) (ax (i:=2) ij.nd rfl (Or.inl rfl)) (@ao _ _ _ (@ce _ _ _ _ _ _ _ _ (PW.pt (@xy _ _ _ _ _ _ _ (@eT _ _ _ (@au _ _ _ _ _ _ _ _ _ _ _ _ _ _ _ _ kc (hr.mono (by decide)) (by rfl) T.m_law_odd T.k_law_odd T.b_law_odd .nil aK (@aa _ _ _ _ _ (@ay _ _ _ _ _ _ _ _ pO (pv 2) (pv 1)) af (by rfl)) (by decide) (by rfl) (by rfl)) (by intro _;rfl)) (@tW _ _ _ _ (@aE _ _ _ _ _ _ _ _ tG (@au _ _ _ _ _ _ _ _ _ _ _ _ _ _ _ _ jh (hr.mono (by decide)) (by rfl) T.m_law_walk T.k_law_walk T.b_law_walk .nil aK (@aa _ _ _ _ _ (pv 0) (@aa _ _ _ _ _ (pv 2) af (by rfl)) (by rfl)) (by decide) (by rfl) (by rfl)) dJ (aD _))))) (@ao _ _ _ (@az _ _ _ _ eM)) aU)) (by intro _;rfl)) (@ao _ _ _ (@az _ _ _ _ eM))),?_⟩
  refine lD ?_
  intro zz0 zz1 zz2
  obtain⟨bt,xs,h1,h2,h3⟩:=id hw.ex
  have hxl:=h3.length
  have wl:=g.len
  have hpw:(1:Int)*2^((xs.length:Nat):Int).toNat=((2^ts.length:Nat):Int):=by rw[kU,hxl]
  have pos:=Nat.two_pow_pos ts.length
  have big:(2:Nat)^ts.length≤2^24:=Nat.pow_le_pow_right (by decide) wl
  refine(exq rfl (ixq (SqT.of h1) (ai (j:=1) rfl) (lnq rfl (.inr (SqT.of h2)) (ijq ⟨⟨by omega,by omega,by decide⟩,1,((2^ts.length:Nat):Int),congrArg (fun z=>[V.int 1,V.int z]) hpw,⟨by decide,by decide,by omega,by omega⟩,?_⟩))))
  refine fE (lo:=1) (n:=(((2^ts.length:Nat):Int)-1).toNat) (fun i σ H2=>∃ v2,σ=[some (.ref wb),some (.int (m:Int)),v2]∧am H H2∧∀ r,r<i+1→(ad p ts g).Ring r→(ad p ts g).par r m=false) ⟨none,rfl,am.refl _,fun r hr rg=>absurd (show r=0 by omega) rg.1⟩ ?_ ?_
  ·rintro i D' σ H2 hi ⟨v3,rfl,s2,lb⟩
   obtain⟨r,hr1⟩:∃ r,r=i+1:=⟨_,rfl⟩
   have e1:(1:Int)+(i:Int)=(r:Int):=by omega
   rw[e1]
   have hlt:r<2^ts.length:=by omega
   rw[← hr1]at lb
   have skip : ¬((ad p ts g).Ring r∧(ad p ts g).par r m=true)→∀ r',r'<r+1→(ad p ts g).Ring r'→(ad p ts g).par r' m=false:=fun hn r' hr' rg=>by
    by_cases e:r' = r
    ·subst e
     cases hp:(ad p ts g).par r' m with
     | false=>rfl
     | true=>exact absurd ⟨rg,hp⟩ hn
    ·exact lb r' (by omega) rg
   have eb:Builtin.bitAnd ((r:Nat):Int) (m:Int)=((r&&&m:Nat):Int):=and_int r m
   refine(exq rfl (exq rfl (ijq ⟨_,r&&&m,rfl,eb,fun v hv=>(exq rfl (?_))⟩)))
   have hv2:v=(ad p ts g).par r m:=by
    rw[hv ts.length (Nat.lt_of_le_of_lt Nat.and_le_left hlt)]
    exact RM.bX fun k _=>Nat.testBit_and ..
   cases hv3:v with
   | false=>exact cg (exq rfl ⟨s2,by rw[← hr1];exact skip (fun z=>by rw[← hv2,hv3]at z;cases z.2)⟩)
   | true =>
     refine df (exq rfl (exq rfl ⟨wb,p,ts,g,_,r,rfl,rfl,hw.same s2,hlt,fun rg D H3 t0 acc v0 _ s3 _ _ _ _=>?_,fun nr H3 s3=>?_⟩))
     ·exact⟨rfl,exq rfl (xj (fun z=>nomatch z) (q true H3 (s2.trans s3) ⟨fun _=>⟨r,hlt,rg,by rw[← hv2,hv3]⟩,fun _=>rfl⟩))⟩
     ·exact⟨rfl,exq rfl (vq rfl (exq rfl ⟨s2.trans s3,by rw[← hr1];exact skip fun z=>nr z.1⟩))⟩
  ·rintro σ H2 ⟨v3,rfl,s2,lb⟩
   rw[show(((2^ts.length:Nat):Int)-1).toNat+1=2^ts.length by omega]at lb
   exact q false H2 s2 ⟨fun z=>(nomatch z),fun⟨r,h1,h2,h3⟩=>by rw[lb r h1 h2]at h3;cases h3⟩
end
def pP(K:PySem.W.Frag)(tb:kQ):Sp:=fun vs H Q _=>∃(a:Addr) (ns:List Int),vs=[.ref a]∧SqL K H a (ns.map V.int)∧ns.length≤63∧ng tb H∧∀ H',Q (.bl true) H'
theorem tP(n:Nat):(0:Int)<2^n:=by
 have h:((2:Int)^n)=((2^n:Nat):Int):=by simp
 have:=Nat.two_pow_pos n
 omega
theorem tR(z:Int)(n:Nat):∃ k:Nat,z%2^n=(k:Int)∧k<2^n:=by
 obtain⟨h0,h1⟩:=fG z (2^n) (tP n)
 refine⟨(z%2^n).toNat,by omega,?_⟩
 have h:((2:Int)^n)=((2^n:Nat):Int):=by simp
 omega
theorem xQ{p:Nat}{ts:List Tie}{g:GoodWeb p ts}{m:Nat}:Side p (iH p ts g m):=kr _ _
section
variable {P:Program}{w:World}{K:PySem.W.Frag}{mg:Str→Option Value}{base:Heap}{a:Adr}
theorem aap(T:Txt K mg a):FnOk P w K mg base CX0 11 a.f_law a.d_law ["script"] (pP K [(a.p_least_ways,uJ "least_ways",aX)]):=by
 have ko:FnOk P w K mg base CX0 2 a.f_law_web a.d_law_web ["script","most_points","most_ties"] (vo K):=ko T
 have fR:FnOk P w K mg base CX0 8 a.f_law_refusal a.d_law_refusal ["web","marks"] (lU a.p_least_ways aX):=fR T
 have fW:FnOk P w K mg base CX0 2 a.f_law_any_odd a.d_law_any_odd ["web","marks"] xk:=fW T
 have cK:FnOk P w K mg base (CX1 P w) 7 a.f_least_odd a.d_least_odd ["web","marks"] (hG a.c_BadSet a.p_least_ways aX):=cK T
 have gO:FnOk P w K mg base (CX1 P w) 10 a.f_odd_judged a.d_odd_judged ["web","marks","answer"] (iW a.c_BadSet):=gO T
 refine T.F_law.ok iC (fun vs H Q E h=>?_) (fun cdv A outer s H vs Q E hr h=>?_)
 ·obtain⟨b,ns,rfl,_⟩:=h
  rfl
 ·obtain⟨b,ns,rfl,hS,hn,hT,fin⟩:=h
  have htb:=hT _ List.mem_cons_self
  refine⟨_,(@aj _ _ _ _ _ (@qa _ _ _ _ _ _ (@au _ _ _ _ _ _ _ _ _ _ _ _ _ _ _ _ ko (hr.mono (by decide)) (by rfl) T.m_law_web T.k_law_web T.b_law_web .nil aK (@aa _ _ _ _ _ (pv 0) (@aa _ _ _ _ _ ah (@aa _ _ _ _ _ ah af (by rfl)) (by rfl)) (by rfl)) (by decide) (by rfl) (by rfl)) (@pgT _ _ K _ _ 2 _ rfl (@aQ _ _ _ _ _ (ax (i:=1) iC.nd rfl (Or.inl rfl)) (@aQ _ _ _ _ _ (ax (i:=2) iC.nd rfl (Or.inl rfl)) eD (by rfl)) (by rfl)) (by rfl) (by rfl) (by rfl)) (by rfl) (by rfl) (by rfl)) (@aj _ _ _ _ _ (@aC _ _ 3 _ _ _ _ iC.nd rfl (Or.inl rfl) (@aA _ _ _ _ _ _ _ _ _ (gN K) (by rfl) T.n_len PySem.boot_len (@aa _ _ _ _ _ (@aq _ _ _ _ _ _ _ (ixT K) (pv 1) ah (fun _ _=>rfl)) af (by rfl)) (by decide) (by decide) (by rfl) (by rfl)) (by rfl) (by first | exact .inl rfl | exact .inr rfl | assumption)) (@aj _ _ _ _ _ (@aC _ _ 4 _ _ _ _ iC.nd rfl (Or.inl rfl) (@ay _ _ _ _ _ _ _ _ cP ah (@ay _ _ _ _ _ _ _ _ ci (pv 2) (@ay _ _ _ _ _ _ _ _ sr ah ah))) (by rfl) (by first | exact .inl rfl | exact .inr rfl | assumption)) (@aj _ _ _ _ _ (@dR _ _ _ _ _ _ _ _ PassesOwn.never rfl (@piL _ _ _ _ K (@bY _ _ _ _ (@aa _ _ _ _ _ (@om _ _ _ _ _ _ jU ah) (@aa _ _ _ _ _ (@om _ _ _ _ _ _ jU (pv 4)) (@aa _ _ _ _ _ (@ay _ _ _ _ _ _ _ _ fA ah (pv 3)) (@aa _ _ _ _ _ (@ay _ _ _ _ _ _ _ _ xH (pv 4) (pv 3)) (@aa _ _ _ _ _ (@ay _ _ _ _ _ _ _ _ cP (@ay _ _ _ _ _ _ _ _ fA ah (pv 3)) (pv 4)) af (by rfl)) (by rfl)) (by rfl)) (by rfl)) (by rfl))) (by rfl)) (ax (i:=5) iC.nd rfl (Or.inl rfl)) (@ao _ _ _ (@ce _ _ _ _ _ _ _ _ (@aE _ _ _ _ _ _ _ _ (w6 K hr.units) (@au _ _ _ _ _ _ _ _ _ _ _ _ _ _ _ _ fR (hr.mono (by decide)) (by rfl) T.m_law_refusal T.k_law_refusal T.b_law_refusal .nil aK (@aa _ _ _ _ _ (pv 1) (@aa _ _ _ _ _ (pv 5) af (by rfl)) (by rfl)) (by decide) (by rfl) (by rfl)) (@bY _ _ _ _ (@aa _ _ _ _ _ ah (@aa _ _ _ _ _ ah af (by rfl)) (by rfl))) (aD _)) (@ao _ _ _ (@az _ _ _ _ eM)) aU)) (by intro _;rfl)) (@aj _ _ _ _ _ (@dR _ _ _ _ _ _ _ _ PassesOwn.never rfl (@piL _ _ _ _ K (@bY _ _ _ _ (@aa _ _ _ _ _ ah (@aa _ _ _ _ _ (@ay _ _ _ _ _ _ _ _ ci (pv 2) (@ay _ _ _ _ _ _ _ _ fA ah (pv 3))) (@aa _ _ _ _ _ (@ay _ _ _ _ _ _ _ _ jj (@ay _ _ _ _ _ _ _ _ fA ah (pv 3)) ah) (@aa _ _ _ _ _ (@ay _ _ _ _ _ _ _ _ ci (@ay _ _ _ _ _ _ _ _ gR (pv 2) ah) (@ay _ _ _ _ _ _ _ _ fA ah (pv 3))) af (by rfl)) (by rfl)) (by rfl)) (by rfl))) (by rfl)) (ax (i:=6) iC.nd rfl (Or.inl rfl)) (@aj _ _ _ _ _ (@aC _ _ 7 _ _ _ _ iC.nd rfl (Or.inl rfl) (@au _ _ _ _ _ _ _ _ _ _ _ _ _ _ _ _ cK (hr.mono (by decide)) (by rfl) T.m_least_odd T.k_least_odd T.b_least_odd .nil pe (@aa _ _ _ _ _ (pv 1) (@aa _ _ _ _ _ (pv 6) af (by rfl)) (by rfl)) (by decide) (by rfl) (by rfl)) (by rfl) (by first | exact .inl rfl | exact .inr rfl | assumption)) (@aj _ _ _ _ _ (@ce _ _ _ _ _ _ _ _ (PW.pt (@kC _ _ _ _ _ _ _ (@aE _ _ _ _ _ _ _ _ ml (@bQ _ _ _ _ _ _ _ _ dU (@aq _ _ _ _ _ _ _ (ixT K) (pv 7) ah (fun _ _=>rfl)) g7 (aD _)) (@au _ _ _ _ _ _ _ _ _ _ _ _ _ _ _ _ fW (hr.mono (by decide)) (by rfl) T.m_law_any_odd T.k_law_any_odd T.b_law_any_odd .nil aK (@aa _ _ _ _ _ (pv 1) (@aa _ _ _ _ _ (pv 6) af (by rfl)) (by rfl)) (by decide) (by rfl) (by rfl)) (aD _)) (@iy _ _ _ _ (@aE _ _ _ _ _ _ _ _ (sI K) (@aq _ _ _ _ _ _ _ (ixT K) (pv 7) ah (fun _ _=>rfl)) (@cq _ _ _ _ _ (@aa _ _ _ _ _ g7 (@aa _ _ _ _ _ g7 af (by rfl)) (by rfl))) (by with_unfolding_all rfl))))) (@ao _ _ _ (@az _ _ _ _ eM)) aU) (@ao _ _ _ (@ce _ _ _ _ _ _ _ _ (PW.pt (@kC _ _ _ _ _ _ _ (@aE _ _ _ _ _ _ _ _ (w6 K hr.units) (@au _ _ _ _ _ _ _ _ _ _ _ _ _ _ _ _ cK (hr.mono (by decide)) (by rfl) T.m_least_odd T.k_least_odd T.b_least_odd .nil pe (@aa _ _ _ _ _ (pv 1) (@aa _ _ _ _ _ (pv 6) af (by rfl)) (by rfl)) (by decide) (by rfl) (by rfl)) (pv 7) (aD _)) (@iy _ _ _ _ (@aE _ _ _ _ _ _ _ _ yR (@au _ _ _ _ _ _ _ _ _ _ _ _ _ _ _ _ gO (hr.mono (by decide)) (by rfl) T.m_odd_judged T.k_odd_judged T.b_odd_judged .nil pe (@aa _ _ _ _ _ (pv 1) (@aa _ _ _ _ _ (pv 6) (@aa _ _ _ _ _ (pv 7) af (by rfl)) (by rfl)) (by rfl)) (by decide) (by rfl) (by rfl)) eM (aD _))))) (@ao _ _ _ (@az _ _ _ _ eM)) aU)))) (by intro _;rfl)) (@ao _ _ _ (@az _ _ _ _ eM))))))),?_⟩
  refine zt ?_
  intro zz0 zz1 zz2 zz3 zz4 zz5 zz6 zz7 zz8 zz9 zz10 zz11
  refine(exq rfl ⟨b,ns,6,8,rfl,hS,hn,by decide,by decide,by decide,by decide,fun r wb p ts lf H1 s1 g p8 t10 hw hr1=>?_⟩)
  refine⟨r,_,rfl,SqT.of hr1,rfl,_,_,rfl,_,_,rfl,rfl,?_⟩
  obtain⟨bt,xs,h1,h2,h3⟩:=id hw.ex
  have hxl:=h3.length
  have p1:=g.p1
  have pp:=tP ts.length
  have htb1:=s1 _ _ htb
  have epw:(1:Int)*2^((xs.length:Nat):Int).toNat=2^ts.length:=by rw[Int.toNat_natCast,hxl,Int.one_mul]
  refine(exq rfl (ixq (SqT.of h1) (ai (j:=1) rfl) (lnq rfl (.inr (SqT.of h2)) (?_))))
  refine(exq rfl (ijq ⟨⟨by decide,by decide,by decide⟩,ijq ⟨(show(0:Int)<10^(20:Int).toNat by decide),ijq (?_)⟩⟩))
  have hfr:1≤1+lf%(10:Int)^(20:Int).toNat∧1+lf%(10:Int)^(20:Int).toNat≤10^20:=by
   have:=fG lf (10^(20:Int).toNat) (by decide)
   have e:(10:Int)^(20:Int).toNat=100000000000000000000:=by decide
   omega
  dsimp only
  generalize 1+lf%(10:Int)^(20:Int).toNat=fr at hfr
  refine(exq rfl (exq rfl (exq rfl (exq rfl (ijq ⟨⟨by omega,by omega,by decide⟩,exq rfl (exq rfl (ijq ⟨⟨by omega,by omega,?_⟩,exq rfl (ijq ⟨⟨by omega,by omega,by decide⟩,exq rfl (ijq ⟨dl rfl,fun L hL=>⟨L,rfl,⟨_,SqL.of ag⟩,?_⟩⟩)⟩)⟩))⟩)))))
  ·exact Nat.lt_of_le_of_lt (show fr.natAbs≤10^20 by omega) (by decide)
  have epf:fr*2^((xs.length:Nat):Int).toNat=fr*2^ts.length:=by rw[Int.toNat_natCast,hxl]
  dsimp only
  rw[epw,epf]
  have hge:(2:Int)^ts.length≤fr*2^ts.length:=by
   have:=Int.mul_le_mul_of_nonneg_right hfr.1 (Int.le_of_lt pp)
   rw[Int.one_mul]at this
   exact this
  have hz2:∀(j:Nat) y,([.int (-1),.int (-fr),.int (2^ts.length),.int (fr*2^ts.length),.int (2^ts.length+fr)]:List V)[j]?=some y→∃ z,y = .int z∧(z<0∨2^ts.length≤z):=fun j y hj=>by
   match j,hj with
   | 0,hj=>exact⟨_,(Option.some.inj hj).symm,by omega⟩
   | 1,hj=>exact⟨_,(Option.some.inj hj).symm,by omega⟩
   | 2,hj=>exact⟨_,(Option.some.inj hj).symm,.inr (Int.le_refl _)⟩
   | 3,hj=>exact⟨_,(Option.some.inj hj).symm,.inr hge⟩
   | 4,hj=>exact⟨_,(Option.some.inj hj).symm,.inr (by omega)⟩
  refine dy (K:=K) (a:=L) (xs:=[.int (-1),.int (-fr),.int (2^ts.length),.int (fr*2^ts.length),.int (2^ts.length+fr)]) (fun j σ H5=>∃ v5,σ=[some (.ref b),some (.ref wb),some (.int lf),some (.int ((xs.length:Nat):Int)),some (.int fr),v5,none,none]∧am H1 H5∧H5 L=some (.lst [.int (-1),.int (-fr),.int (2^ts.length),.int (fr*2^ts.length),.int (2^ts.length+fr)]))
   ⟨none,rfl,am.new hL,ag⟩ (fun j σ H3 _ ⟨_,_,_,z⟩=>SqL.of z) ?_ ?_
  ·rintro j y D' σ H5 hj ⟨v6,rfl,s5,hL5⟩
   obtain⟨z,rfl,hzb⟩:=hz2 j y hj
   refine(exq rfl (exq rfl ⟨wb,p,ts,g,z,rfl,hw.same s5,s5 _ _ htb1,hzb,fun D6 H6 hD6 s6 hd6=>?_⟩))
   refine⟨dl rfl,fun l2 hl2=>⟨_,_,.lst (SqL.of (am.new hl2 _ _ hd6)) (gp [1,1]),.lst (SqL.of ag) (gp [1,1]),fP _,fP _,_,rfl,?_⟩⟩
   rw[wy]
   refine cg ?_
   have s7:=s6.trans (am.new (o:=.lst [.int 1,.int 1]) hl2)
   exact(exq rfl ⟨s5.trans s7,s7 _ _ hL5⟩)
  rintro σ H2 ⟨v5,rfl,s2,_⟩
  have hw2:=hw.same s2
  have htb2:=s2 _ _ htb1
  clear hw htb1 h1 h2 h3 s1
  have hL1:∀ k,k<(ad p ts g).n→0≤bg ts k:=gx g
  refine(exq rfl (exq rfl (ijq ⟨⟨by omega,by omega,by decide⟩,ijq ⟨(by rw[epw];exact pp),exq rfl (ijq ⟨⟨by omega,by omega,by decide⟩,ijq (exq rfl (ijq ⟨⟨by decide,by decide⟩,exq rfl (ijq ⟨⟨by omega,by omega,by decide⟩,ijq ⟨(by rw[epw];exact pp),dl rfl,fun L2 hL2=>⟨L2,rfl,⟨_,SqL.of ag⟩,?_⟩⟩⟩)⟩))⟩)⟩⟩)))
  dsimp only
  rw[epw]
  have hz:∀(j:Nat) y,([.int 0,.int (lf%2^ts.length),.int (2^ts.length-1),.int (lf/5%2^ts.length)]:List V)[j]?=some y→∃ m:Nat,y = .int (m:Int)∧m<2^ts.length:=fun j y hj=>by
   have hp:((2:Int)^ts.length)=((2^ts.length:Nat):Int):=by simp
   match j,hj with
   | 0,hj=>exact⟨0,(Option.some.inj hj).symm,Nat.two_pow_pos _⟩
   | 1,hj =>
     obtain⟨m,e,h⟩:=tR lf ts.length
     exact⟨m,by rw[← e];exact(Option.some.inj hj).symm,h⟩
   | 2,hj =>
     have:=Nat.two_pow_pos ts.length
     refine⟨2^ts.length-1,?_,by omega⟩
     rw[← Option.some.inj hj]
     congr 1
     omega
   | 3,hj =>
     obtain⟨m,e,h⟩:=tR (lf/5) ts.length
     exact⟨m,by rw[← e];exact(Option.some.inj hj).symm,h⟩
  generalize ([.int 0,.int (lf%2^ts.length),.int (2^ts.length-1),.int (lf/5%2^ts.length)]:List V)=ms at hz hL2 ⊢
  refine dy (K:=K) (a:=L2) (xs:=ms) (fun j σ H5=>∃ v6 v7,σ=[some (.ref b),some (.ref wb),some (.int lf),some (.int ((xs.length:Nat):Int)),some (.int fr),v5,v6,v7]∧am H2 H5∧H5 L2=some (.lst ms))
   ⟨none,none,rfl,am.new hL2,ag⟩ (fun j σ H3 _ ⟨_,_,_,_,z⟩=>SqL.of z) ?_ ?_
  case refine_2.refine_2.refine_2 =>
   rintro σ H5 ⟨v6,v7,rfl,s5,hL5⟩
   exact fin _
  rintro j y D' σ H5 hj ⟨v6,v7,rfl,s5,hL5⟩
  obtain⟨m,rfl,hm⟩:=hz j y hj
  refine(exq rfl (exq rfl ⟨wb,p,ts,g,(m:Int),rfl,hw2.same s5,s5 _ _ htb2,.inl ⟨m,rfl,hm,fun r H6 hr6 s6 told=>?_⟩⟩))
  have s56:=s5.trans s6
  have cont:∀ H7,am H6 H7→zz2 D' [some (.ref b),some (.ref wb),some (.int lf),some (.int ((xs.length:Nat):Int)),some (.int fr),v5,some (.int (m:Int)),some (.ref r)] H7:=fun H7 s7=>by
   have s57:=s56.trans s7
   refine(exq rfl (exq rfl ⟨wb,p,ts,g,(m:Int),rfl,hw2.same s57,s57 _ _ htb2,.inl ⟨m,rfl,hm,fun r2 H8 hr8 s8 told2=>?_⟩⟩))
   have s58:=s57.trans s8
   obtain⟨d,d1,d2,d3,d4⟩:=wc (K:=K) told (s7.trans s8) told2
   refine(exq rfl ⟨_,_,d2,d1,d3,d3,_,rfl,?_⟩)
   rw[SeqAt.eqv_refl _ d4]
   refine cg ?_
   have judged:∃ x,zU p H8 r x∧sh p ts g m x:=by
    rcases told with⟨n1,hc,l,_,a1,a2⟩|⟨z,e,b2,W,lo,le,a1,a2,a3,a4,a5⟩
    ·refine⟨.inl ((iH p ts g m).map fun x=>((x:Nat):Int)),⟨l,s7.trans s8 _ _ a1,?_,?_⟩,exq rfl ⟨xQ,hc.symm⟩⟩
     ·rw[List.map_map]
      exact s7.trans s8 _ _ a2
     ·rw[List.length_map]
      have:(iH p ts g m).length≤(List.range p).length:=List.length_filter_le ..
      rw[List.length_range]at this
      omega
    ·refine⟨.inr ((e:Int),W),⟨b2,s7.trans s8 _ _ a1,a2.same (s7.trans s8),a3,a4⟩,e,rfl,le.lt,le.ring,(yr (g:=g) hm).mpr le.par,a5.stands,uI a5 fun r2 h2 h3 h4=>?_⟩
     rw[r9 le.lt]
     have:RM.cE (bg ts) (fun k=>e.testBit k) ts.length=z:=le.len
     rw[this]
     exact le.least hL1 h3 h2 h4
   obtain⟨x,ans,rig⟩:=judged
   refine(exq rfl (exq rfl (exq rfl ⟨wb,p,ts,g,(m:Int),r,x,rfl,hw2.same s58,ans,.inl ⟨m,rfl,hm,fun H9 v s9 hv=>?_⟩⟩)))
   rw[hv.mpr rig]
   have s69:=((s6.trans s7).trans s8).trans s9
   refine⟨true,true,rfl,rfl,false,rfl,cg ?_⟩
   exact⟨_,_,rfl,s5.trans s69,s69 _ _ hL5⟩
  rcases id told with⟨n1,hc,l,_,a1,a2⟩|⟨z,e,b2,W,lo,le,a1,a2,a3,a4,a5⟩
  ·refine(exq rfl (ixq (SqT.of a1) (ai (j:=0) rfl) ⟨rfl,exq rfl (exq rfl ⟨wb,p,ts,g,m,rfl,hw2.same s56,fun v H7 s7 hv=>?_⟩)⟩))
   have hv:v=false:=by
    cases v with
    | false=>rfl
    | true =>
      obtain⟨r',h1,h2,h3⟩:=hv.mp rfl
      rw[RM.qO hL1 n1 h2 h1]at h3
      cases h3
   subst hv
   rw[decide_eq_false (by intro z;cases z)]
   refine⟨rfl,exq rfl (cg (exq rfl (ixq (SqT.of (s7 _ _ a1)) (ai (j:=0) rfl) ⟨dl rfl,fun tt ht=>(lnq rfl (.inr (SqT.of ag)) ⟨rfl,rfl,exq rfl (?_)⟩)⟩)))⟩
   have e:inV (.str "side") [.str "ring",.str "side"]=true:=by decide +kernel
   rw[if_pos rfl,e]
   exact cg (cont _ (s7.trans (am.new ht)))
  ·refine(exq rfl (ixq (SqT.of a1) (ai (j:=0) rfl) ⟨rfl,exq rfl (exq rfl ⟨wb,p,ts,g,m,rfl,hw2.same s56,fun v H7 s7 hv=>?_⟩)⟩))
   have hv:v=true:=hv.mpr ⟨e,le.lt,le.ring,le.par⟩
   subst hv
   rw[decide_eq_true rfl]
   refine⟨rfl,exq rfl (cg (exq rfl (ixq (SqT.of (s7 _ _ a1)) (ai (j:=0) rfl) ⟨dl rfl,fun tt ht=>(lnq rfl (.inr (SqT.of ag)) ⟨rfl,rfl,exq rfl (?_)⟩)⟩)))⟩
   have e:inV (.str "ring") [.str "ring",.str "side"]=true:=by decide +kernel
   rw[if_pos rfl,e]
   exact cg (cont _ (s7.trans (am.new ht)))
end
theorem zJ{l:PySem.W.OpenLaw}{w:World}{K:PySem.W.Frag}{h:Heap}{mg:Str→Option Value}{fa:Addr}(X:K.In h)(G:h.Ns mainGlobals mg)(hfa:mg "law"=some (.ref fa))
 {f0 f1 f2 f3 f4 f5 f6 f7 f8 f9 f10 f11 f12 f13 f14 f15 f16 f17 f18 f19 f20 f21 f22 f23 f24 f25 f26 f27 f28 f29 f30 f31 f32 f33 f34 f35 f36 f37 f38 f39 f40 f41 f42 f43 f44 f45 f46 f47:Addr} {od0 an0 od1 an1 od2 an2 od3 an3 od4 an4 od5 an5 od6 an6 od7 an7 od8 an8 od9 an9 od10 an10 od11 an11 od12 an12 od13 an13 od14 an14 od15 an15 od16 an16 od17 an17 od18 an18 od19 an19 od20 an20 od21 an21 od22 an22 od23 an23 od24 an24 od25 an25 od26 an26 od27 an27 od28 an28 od29 an29 od30 an30 od31 an31 od32 an32 od33 an33 od34 an34 od35 an35 od36 an36 od37 an37 od38 an38 od39 an39 od40 an40 od41 an41 od42 an42 od43 an43 od44 an44 od45 an45 od46 an46 od47 an47:Option Addr} {sl0 sl1 sl2 sl3 sl4 sl5 sl6 sl7 sl8 sl9 sl10 sl11 sl12 sl13 sl14 sl15 sl16 sl17 sl18 sl19 sl20 sl21 sl22 sl23 sl24 sl25 sl26 sl27 sl28 sl29 sl30 sl31 sl32 sl33 sl34 sl35 sl36 sl37 sl38 sl39 sl40 sl41 sl42 sl43 sl44 sl45 sl46 sl47:Array (Option Value)}
 {oc0 kV0 dc0 pm0 cd0 ct0 oc1 kV1 dc1 pm1 cd1 ct1 oc2 kV2 dc2 pm2 cd2 ct2 oc3 kV3 dc3 pm3 cd3 ct3 oc4 kV4 dc4 pm4 cd4 ct4 oc5 kV5 dc5 pm5 cd5 ct5 oc6 kV6 dc6 pm6 cd6 ct6 oc7 kV7 dc7 pm7 cd7 ct7 oc8 kV8 dc8 pm8 cd8 ct8 oc9 kV9 dc9 pm9 cd9 ct9 oc10 kV10 dc10 pm10 cd10 ct10 oc11 kV11 dc11 pm11 cd11 ct11 oc12 kV12 dc12 pm12 cd12 ct12 oc13 kV13 dc13 pm13 cd13 ct13 oc14 kV14 dc14 pm14 cd14 ct14 oc15 kV15 dc15 pm15 cd15 ct15 oc16 kV16 dc16 pm16 cd16 ct16 oc17 kV17 dc17 pm17 cd17 ct17 oc18 kV18 dc18 pm18 cd18 ct18 oc19 kV19 dc19 pm19 cd19 ct19 oc20 kV20 dc20 pm20 cd20 ct20 oc21 kV21 dc21 pm21 cd21 ct21 oc22 kV22 dc22 pm22 cd22 ct22 oc23 kV23 dc23 pm23 cd23 ct23 oc24 kV24 dc24 pm24 cd24 ct24 oc25 kV25 dc25 pm25 cd25 ct25 oc26 kV26 dc26 pm26 ct26 oc27 kV27 dc27 pm27 cd27 ct27 oc28 kV28 dc28 pm28 cd28 ct28 oc29 kV29 dc29 pm29 cd29 ct29 oc30 kV30 dc30 pm30 cd30 ct30 oc31 kV31 dc31 pm31 cd31 ct31 oc32 kV32 dc32 pm32 cd32 ct32 oc33 kV33 dc33 pm33 cd33 ct33 oc34 kV34 dc34 pm34 cd34 ct34 oc35 kV35 dc35 pm35 cd35 ct35 oc36 kV36 dc36 pm36 cd36 ct36 oc37 kV37 dc37 pm37 cd37 ct37 oc38 kV38 dc38 pm38 cd38 ct38 oc39 kV39 dc39 pm39 cd39 ct39 oc40 kV40 dc40 pm40 cd40 ct40 oc41 kV41 dc41 pm41 cd41 ct41 oc42 kV42 dc42 pm42 cd42 ct42 oc43 kV43 dc43 pm43 cd43 ct43 oc44 kV44 dc44 pm44 cd44 ct44 oc45 kV45 dc45 pm45 cd45 ct45 oc46 kV46 dc46 pm46 cd46 ct46 oc47 kV47 dc47 pm47 cd47 ct47:Value}
 {u_RingError u_BadWeb u_BadSet u_BadPoint u_NotRing u_NoChord u_NoBase u_NoSuch u_TooMany u_BadRow u_NoDeed u_NotEven u_NoText:Addr}
 {kc_least_ways pt_least_ways:Addr} {ts:List Addr}
 (a0:PySem.W.nsIn K mainGlobals "has_tie"=some (some (.ref f0)))
 (l0:K.lookup f0=some ⟨oc0,od0,.func (PySem.W.fnOf "has_tie" "has_tie" (aw fh) (av fh) (ae fh) .none kV0 dc0 pm0 an0 cd0 ct0),sl0⟩)
 (c0:PySem.W.codeIn K cd0 "has_tie"=true) (k0:PySem.W.keepIn K (.ref f0)=true)
 (a1:PySem.W.nsIn K mainGlobals "ties_in"=some (some (.ref f1)))
 (l1:K.lookup f1=some ⟨oc1,od1,.func (PySem.W.fnOf "ties_in" "ties_in" (aw ee) (av ee) (ae ee) .none kV1 dc1 pm1 an1 cd1 ct1),sl1⟩)
 (c1:PySem.W.codeIn K cd1 "ties_in"=true) (k1:PySem.W.keepIn K (.ref f1)=true)
 (a2:PySem.W.nsIn K mainGlobals "set_of"=some (some (.ref f2)))
 (l2:K.lookup f2=some ⟨oc2,od2,.func (PySem.W.fnOf "set_of" "set_of" (aw gw) (av gw) (ae gw) .none kV2 dc2 pm2 an2 cd2 ct2),sl2⟩)
 (c2:PySem.W.codeIn K cd2 "set_of"=true) (k2:PySem.W.keepIn K (.ref f2)=true)
 (a3:PySem.W.nsIn K mainGlobals "all_ties"=some (some (.ref f3)))
 (l3:K.lookup f3=some ⟨oc3,od3,.func (PySem.W.fnOf "all_ties" "all_ties" (aw d8) (av d8) (ae d8) .none kV3 dc3 pm3 an3 cd3 ct3),sl3⟩)
 (c3:PySem.W.codeIn K cd3 "all_ties"=true) (k3:PySem.W.keepIn K (.ref f3)=true)
 (a4:PySem.W.nsIn K mainGlobals "is_set"=some (some (.ref f4)))
 (l4:K.lookup f4=some ⟨oc4,od4,.func (PySem.W.fnOf "is_set" "is_set" (aw gi) (av gi) (ae gi) .none kV4 dc4 pm4 an4 cd4 ct4),sl4⟩)
 (c4:PySem.W.codeIn K cd4 "is_set"=true) (k4:PySem.W.keepIn K (.ref f4)=true)
 (a5:PySem.W.nsIn K mainGlobals "check_set"=some (some (.ref f5)))
 (l5:K.lookup f5=some ⟨oc5,od5,.func (PySem.W.fnOf "check_set" "check_set" (aw dA) (av dA) (ae dA) .none kV5 dc5 pm5 an5 cd5 ct5),sl5⟩)
 (c5:PySem.W.codeIn K cd5 "check_set"=true) (k5:PySem.W.keepIn K (.ref f5)=true)
 (a6:PySem.W.nsIn K mainGlobals "triples_in"=some (some (.ref f6)))
 (l6:K.lookup f6=some ⟨oc6,od6,.func (PySem.W.fnOf "triples_in" "triples_in" (aw ck) (av ck) (ae ck) .none kV6 dc6 pm6 an6 cd6 ct6),sl6⟩)
 (c6:PySem.W.codeIn K cd6 "triples_in"=true) (k6:PySem.W.keepIn K (.ref f6)=true)
 (a7:PySem.W.nsIn K mainGlobals "length_of"=some (some (.ref f7)))
 (l7:K.lookup f7=some ⟨oc7,od7,.func (PySem.W.fnOf "length_of" "length_of" (aw cM) (av cM) (ae cM) .none kV7 dc7 pm7 an7 cd7 ct7),sl7⟩)
 (c7:PySem.W.codeIn K cd7 "length_of"=true) (k7:PySem.W.keepIn K (.ref f7)=true)
 (a8:PySem.W.nsIn K mainGlobals "odd_points"=some (some (.ref f8)))
 (l8:K.lookup f8=some ⟨oc8,od8,.func (PySem.W.fnOf "odd_points" "odd_points" (aw cn) (av cn) (ae cn) .none kV8 dc8 pm8 an8 cd8 ct8),sl8⟩)
 (c8:PySem.W.codeIn K cd8 "odd_points"=true) (k8:PySem.W.keepIn K (.ref f8)=true)
 (a9:PySem.W.nsIn K mainGlobals "drawn_together"=some (some (.ref f9)))
 (l9:K.lookup f9=some ⟨oc9,od9,.func (PySem.W.fnOf "drawn_together" "drawn_together" (aw bq) (av bq) (ae bq) .none kV9 dc9 pm9 an9 cd9 ct9),sl9⟩)
 (c9:PySem.W.codeIn K cd9 "drawn_together"=true) (k9:PySem.W.keepIn K (.ref f9)=true)
 (a10:PySem.W.nsIn K mainGlobals "pieces"=some (some (.ref f10)))
 (l10:K.lookup f10=some ⟨oc10,od10,.func (PySem.W.fnOf "pieces" "pieces" (aw fC) (av fC) (ae fC) .none kV10 dc10 pm10 an10 cd10 ct10),sl10⟩)
 (c10:PySem.W.codeIn K cd10 "pieces"=true) (k10:PySem.W.keepIn K (.ref f10)=true)
 (a11:PySem.W.nsIn K mainGlobals "is_even"=some (some (.ref f11)))
 (l11:K.lookup f11=some ⟨oc11,od11,.func (PySem.W.fnOf "is_even" "is_even" (aw fg) (av fg) (ae fg) .none kV11 dc11 pm11 an11 cd11 ct11),sl11⟩)
 (c11:PySem.W.codeIn K cd11 "is_even"=true) (k11:PySem.W.keepIn K (.ref f11)=true)
 (a12:PySem.W.nsIn K mainGlobals "forest_trails"=some (some (.ref f12)))
 (l12:K.lookup f12=some ⟨oc12,od12,.func (PySem.W.fnOf "forest_trails" "forest_trails" (aw bC) (av bC) (ae bC) .none kV12 dc12 pm12 an12 cd12 ct12),sl12⟩)
 (c12:PySem.W.codeIn K cd12 "forest_trails"=true) (k12:PySem.W.keepIn K (.ref f12)=true)
 (a13:PySem.W.nsIn K mainGlobals "forest"=some (some (.ref f13)))
 (l13:K.lookup f13=some ⟨oc13,od13,.func (PySem.W.fnOf "forest" "forest" (aw gD) (av gD) (ae gD) .none kV13 dc13 pm13 an13 cd13 ct13),sl13⟩)
 (c13:PySem.W.codeIn K cd13 "forest"=true) (k13:PySem.W.keepIn K (.ref f13)=true)
 (a14:PySem.W.nsIn K mainGlobals "chords"=some (some (.ref f14)))
 (l14:K.lookup f14=some ⟨oc14,od14,.func (PySem.W.fnOf "chords" "chords" (aw gk) (av gk) (ae gk) .none kV14 dc14 pm14 an14 cd14 ct14),sl14⟩)
 (c14:PySem.W.codeIn K cd14 "chords"=true) (k14:PySem.W.keepIn K (.ref f14)=true)
 (a15:PySem.W.nsIn K mainGlobals "ring_closed"=some (some (.ref f15)))
 (l15:K.lookup f15=some ⟨oc15,od15,.func (PySem.W.fnOf "ring_closed" "ring_closed" (aw cA) (av cA) (ae cA) .none kV15 dc15 pm15 an15 cd15 ct15),sl15⟩)
 (c15:PySem.W.codeIn K cd15 "ring_closed"=true) (k15:PySem.W.keepIn K (.ref f15)=true)
 (a16:PySem.W.nsIn K mainGlobals "chord_ring"=some (some (.ref f16)))
 (l16:K.lookup f16=some ⟨oc16,od16,.func (PySem.W.fnOf "chord_ring" "chord_ring" (aw dc) (av dc) (ae dc) .none kV16 dc16 pm16 an16 cd16 ct16),sl16⟩)
 (c16:PySem.W.codeIn K cd16 "chord_ring"=true) (k16:PySem.W.keepIn K (.ref f16)=true)
 (a17:PySem.W.nsIn K mainGlobals "is_ring"=some (some (.ref f17)))
 (l17:K.lookup f17=some ⟨oc17,od17,.func (PySem.W.fnOf "is_ring" "is_ring" (aw dZ) (av dZ) (ae dZ) .none kV17 dc17 pm17 an17 cd17 ct17),sl17⟩)
 (c17:PySem.W.codeIn K cd17 "is_ring"=true) (k17:PySem.W.keepIn K (.ref f17)=true)
 (a18:PySem.W.nsIn K mainGlobals "is_ring_number"=some (some (.ref f18)))
 (l18:K.lookup f18=some ⟨oc18,od18,.func (PySem.W.fnOf "is_ring_number" "is_ring_number" (aw bJ) (av bJ) (ae bJ) .none kV18 dc18 pm18 an18 cd18 ct18),sl18⟩)
 (c18:PySem.W.codeIn K cd18 "is_ring_number"=true) (k18:PySem.W.keepIn K (.ref f18)=true)
 (a19:PySem.W.nsIn K mainGlobals "common"=some (some (.ref f19)))
 (l19:K.lookup f19=some ⟨oc19,od19,.func (PySem.W.fnOf "common" "common" (aw gz) (av gz) (ae gz) .none kV19 dc19 pm19 an19 cd19 ct19),sl19⟩)
 (c19:PySem.W.codeIn K cd19 "common"=true) (k19:PySem.W.keepIn K (.ref f19)=true)
 (a20:PySem.W.nsIn K mainGlobals "bears_oddly"=some (some (.ref f20)))
 (l20:K.lookup f20=some ⟨oc20,od20,.func (PySem.W.fnOf "bears_oddly" "bears_oddly" (aw cu) (av cu) (ae cu) .none kV20 dc20 pm20 an20 cd20 ct20),sl20⟩)
 (c20:PySem.W.codeIn K cd20 "bears_oddly"=true) (k20:PySem.W.keepIn K (.ref f20)=true)
 (a21:PySem.W.nsIn K mainGlobals "is_side"=some (some (.ref f21)))
 (l21:K.lookup f21=some ⟨oc21,od21,.func (PySem.W.fnOf "is_side" "is_side" (aw fq) (av fq) (ae fq) .none kV21 dc21 pm21 an21 cd21 ct21),sl21⟩)
 (c21:PySem.W.codeIn K cd21 "is_side"=true) (k21:PySem.W.keepIn K (.ref f21)=true)
 (a22:PySem.W.nsIn K mainGlobals "cut_of"=some (some (.ref f22)))
 (l22:K.lookup f22=some ⟨oc22,od22,.func (PySem.W.fnOf "cut_of" "cut_of" (aw fu) (av fu) (ae fu) .none kV22 dc22 pm22 an22 cd22 ct22),sl22⟩)
 (c22:PySem.W.codeIn K cd22 "cut_of"=true) (k22:PySem.W.keepIn K (.ref f22)=true)
 (a23:PySem.W.nsIn K mainGlobals "side_of"=some (some (.ref f23)))
 (l23:K.lookup f23=some ⟨oc23,od23,.func (PySem.W.fnOf "side_of" "side_of" (aw et) (av et) (ae et) .none kV23 dc23 pm23 an23 cd23 ct23),sl23⟩)
 (c23:PySem.W.codeIn K cd23 "side_of"=true) (k23:PySem.W.keepIn K (.ref f23)=true)
 (a24:PySem.W.nsIn K mainGlobals "is_side_of"=some (some (.ref f24)))
 (l24:K.lookup f24=some ⟨oc24,od24,.func (PySem.W.fnOf "is_side_of" "is_side_of" (aw cW) (av cW) (ae cW) .none kV24 dc24 pm24 an24 cd24 ct24),sl24⟩)
 (c24:PySem.W.codeIn K cd24 "is_side_of"=true) (k24:PySem.W.keepIn K (.ref f24)=true)
 (a25:PySem.W.nsIn K mainGlobals "steps_by_point"=some (some (.ref f25)))
 (l25:K.lookup f25=some ⟨oc25,od25,.func (PySem.W.fnOf "steps_by_point" "steps_by_point" (aw bn) (av bn) (ae bn) .none kV25 dc25 pm25 an25 cd25 ct25),sl25⟩)
 (c25:PySem.W.codeIn K cd25 "steps_by_point"=true) (k25:PySem.W.keepIn K (.ref f25)=true)
 (a26:PySem.W.nsIn K mainGlobals "least_ways"=some (some (.ref f26)))
 (l26:K.lookup f26=some ⟨oc26,od26,.func (PySem.W.fnOf "least_ways" "least_ways" (aw bW) (av bW) (ae bW) .none kV26 dc26 pm26 an26 (.ref kc_least_ways) ct26),sl26⟩) (hd26:PySem.W.codeHdIn K kc_least_ways pt_least_ways=true)
 (c26:PySem.W.codeIn K (.ref kc_least_ways) "least_ways"=true) (k26:PySem.W.keepIn K (.ref f26)=true)
 (a27:PySem.W.nsIn K mainGlobals "length_of_way"=some (some (.ref f27)))
 (l27:K.lookup f27=some ⟨oc27,od27,.func (PySem.W.fnOf "length_of_way" "length_of_way" (aw bT) (av bT) (ae bT) .none kV27 dc27 pm27 an27 cd27 ct27),sl27⟩)
 (c27:PySem.W.codeIn K cd27 "length_of_way"=true) (k27:PySem.W.keepIn K (.ref f27)=true)
 (a28:PySem.W.nsIn K mainGlobals "worths_of_ways"=some (some (.ref f28)))
 (l28:K.lookup f28=some ⟨oc28,od28,.func (PySem.W.fnOf "worths_of_ways" "worths_of_ways" (aw bj) (av bj) (ae bj) .none kV28 dc28 pm28 an28 cd28 ct28),sl28⟩)
 (c28:PySem.W.codeIn K cd28 "worths_of_ways"=true) (k28:PySem.W.keepIn K (.ref f28)=true)
 (a29:PySem.W.nsIn K mainGlobals "all_least_ways"=some (some (.ref f29)))
 (l29:K.lookup f29=some ⟨oc29,od29,.func (PySem.W.fnOf "all_least_ways" "all_least_ways" (aw bp) (av bp) (ae bp) .none kV29 dc29 pm29 an29 cd29 ct29),sl29⟩)
 (c29:PySem.W.codeIn K cd29 "all_least_ways"=true) (k29:PySem.W.keepIn K (.ref f29)=true)
 (a30:PySem.W.nsIn K mainGlobals "worths_of_all"=some (some (.ref f30)))
 (l30:K.lookup f30=some ⟨oc30,od30,.func (PySem.W.fnOf "worths_of_all" "worths_of_all" (aw bB) (av bB) (ae bB) .none kV30 dc30 pm30 an30 cd30 ct30),sl30⟩)
 (c30:PySem.W.codeIn K cd30 "worths_of_all"=true) (k30:PySem.W.keepIn K (.ref f30)=true)
 (a31:PySem.W.nsIn K mainGlobals "least_odd"=some (some (.ref f31)))
 (l31:K.lookup f31=some ⟨oc31,od31,.func (PySem.W.fnOf "least_odd" "least_odd" (aw cN) (av cN) (ae cN) .none kV31 dc31 pm31 an31 cd31 ct31),sl31⟩)
 (c31:PySem.W.codeIn K cd31 "least_odd"=true) (k31:PySem.W.keepIn K (.ref f31)=true)
 (a32:PySem.W.nsIn K mainGlobals "near_enough"=some (some (.ref f32)))
 (l32:K.lookup f32=some ⟨oc32,od32,.func (PySem.W.fnOf "near_enough" "near_enough" (aw cB) (av cB) (ae cB) .none kV32 dc32 pm32 an32 cd32 ct32),sl32⟩)
 (c32:PySem.W.codeIn K cd32 "near_enough"=true) (k32:PySem.W.keepIn K (.ref f32)=true)
 (a33:PySem.W.nsIn K mainGlobals "tie_stands"=some (some (.ref f33)))
 (l33:K.lookup f33=some ⟨oc33,od33,.func (PySem.W.fnOf "tie_stands" "tie_stands" (aw cY) (av cY) (ae cY) .none kV33 dc33 pm33 an33 cd33 ct33),sl33⟩)
 (c33:PySem.W.codeIn K cd33 "tie_stands"=true) (k33:PySem.W.keepIn K (.ref f33)=true)
 (a34:PySem.W.nsIn K mainGlobals "worths_stand"=some (some (.ref f34)))
 (l34:K.lookup f34=some ⟨oc34,od34,.func (PySem.W.fnOf "worths_stand" "worths_stand" (aw cb) (av cb) (ae cb) .none kV34 dc34 pm34 an34 cd34 ct34),sl34⟩)
 (c34:PySem.W.codeIn K cd34 "worths_stand"=true) (k34:PySem.W.keepIn K (.ref f34)=true)
 (a35:PySem.W.nsIn K mainGlobals "none_shorter"=some (some (.ref f35)))
 (l35:K.lookup f35=some ⟨oc35,od35,.func (PySem.W.fnOf "none_shorter" "none_shorter" (aw bu) (av bu) (ae bu) .none kV35 dc35 pm35 an35 cd35 ct35),sl35⟩)
 (c35:PySem.W.codeIn K cd35 "none_shorter"=true) (k35:PySem.W.keepIn K (.ref f35)=true)
 (a36:PySem.W.nsIn K mainGlobals "ring_stands"=some (some (.ref f36)))
 (l36:K.lookup f36=some ⟨oc36,od36,.func (PySem.W.fnOf "ring_stands" "ring_stands" (aw cC) (av cC) (ae cC) .none kV36 dc36 pm36 an36 cd36 ct36),sl36⟩)
 (c36:PySem.W.codeIn K cd36 "ring_stands"=true) (k36:PySem.W.keepIn K (.ref f36)=true)
 (a37:PySem.W.nsIn K mainGlobals "odd_judged"=some (some (.ref f37)))
 (l37:K.lookup f37=some ⟨oc37,od37,.func (PySem.W.fnOf "odd_judged" "odd_judged" (aw cT) (av cT) (ae cT) .none kV37 dc37 pm37 an37 cd37 ct37),sl37⟩)
 (c37:PySem.W.codeIn K cd37 "odd_judged"=true) (k37:PySem.W.keepIn K (.ref f37)=true)
 (a38:PySem.W.nsIn K mainGlobals "_law_cell_at"=some (some (.ref f38)))
 (l38:K.lookup f38=some ⟨oc38,od38,.func (PySem.W.fnOf "_law_cell_at" "_law_cell_at" (aw cz) (av cz) (ae cz) .none kV38 dc38 pm38 an38 cd38 ct38),sl38⟩)
 (c38:PySem.W.codeIn K cd38 "_law_cell_at"=true) (k38:PySem.W.keepIn K (.ref f38)=true)
 (a39:PySem.W.nsIn K mainGlobals "_law_left"=some (some (.ref f39)))
 (l39:K.lookup f39=some ⟨oc39,od39,.func (PySem.W.fnOf "_law_left" "_law_left" (aw d7) (av d7) (ae d7) .none kV39 dc39 pm39 an39 cd39 ct39),sl39⟩)
 (c39:PySem.W.codeIn K cd39 "_law_left"=true) (k39:PySem.W.keepIn K (.ref f39)=true)
 (a40:PySem.W.nsIn K mainGlobals "_law_tie"=some (some (.ref f40)))
 (l40:K.lookup f40=some ⟨oc40,od40,.func (PySem.W.fnOf "_law_tie" "_law_tie" (aw ff) (av ff) (ae ff) .none kV40 dc40 pm40 an40 cd40 ct40),sl40⟩)
 (c40:PySem.W.codeIn K cd40 "_law_tie"=true) (k40:PySem.W.keepIn K (.ref f40)=true)
 (a41:PySem.W.nsIn K mainGlobals "_law_web"=some (some (.ref f41)))
 (l41:K.lookup f41=some ⟨oc41,od41,.func (PySem.W.fnOf "_law_web" "_law_web" (aw fe) (av fe) (ae fe) .none kV41 dc41 pm41 an41 cd41 ct41),sl41⟩)
 (c41:PySem.W.codeIn K cd41 "_law_web"=true) (k41:PySem.W.keepIn K (.ref f41)=true)
 (a42:PySem.W.nsIn K mainGlobals "_law_walk"=some (some (.ref f42)))
 (l42:K.lookup f42=some ⟨oc42,od42,.func (PySem.W.fnOf "_law_walk" "_law_walk" (aw cj) (av cj) (ae cj) .none kV42 dc42 pm42 an42 cd42 ct42),sl42⟩)
 (c42:PySem.W.codeIn K cd42 "_law_walk"=true) (k42:PySem.W.keepIn K (.ref f42)=true)
 (a43:PySem.W.nsIn K mainGlobals "_law_odd"=some (some (.ref f43)))
 (l43:K.lookup f43=some ⟨oc43,od43,.func (PySem.W.fnOf "_law_odd" "_law_odd" (aw fj) (av fj) (ae fj) .none kV43 dc43 pm43 an43 cd43 ct43),sl43⟩)
 (c43:PySem.W.codeIn K cd43 "_law_odd"=true) (k43:PySem.W.keepIn K (.ref f43)=true)
 (a44:PySem.W.nsIn K mainGlobals "_law_kinds"=some (some (.ref f44)))
 (l44:K.lookup f44=some ⟨oc44,od44,.func (PySem.W.fnOf "_law_kinds" "_law_kinds" (aw cO) (av cO) (ae cO) .none kV44 dc44 pm44 an44 cd44 ct44),sl44⟩)
 (c44:PySem.W.codeIn K cd44 "_law_kinds"=true) (k44:PySem.W.keepIn K (.ref f44)=true)
 (a45:PySem.W.nsIn K mainGlobals "_law_refusal"=some (some (.ref f45)))
 (l45:K.lookup f45=some ⟨oc45,od45,.func (PySem.W.fnOf "_law_refusal" "_law_refusal" (aw cy) (av cy) (ae cy) .none kV45 dc45 pm45 an45 cd45 ct45),sl45⟩)
 (c45:PySem.W.codeIn K cd45 "_law_refusal"=true) (k45:PySem.W.keepIn K (.ref f45)=true)
 (a46:PySem.W.nsIn K mainGlobals "_law_any_odd"=some (some (.ref f46)))
 (l46:K.lookup f46=some ⟨oc46,od46,.func (PySem.W.fnOf "_law_any_odd" "_law_any_odd" (aw cv) (av cv) (ae cv) .none kV46 dc46 pm46 an46 cd46 ct46),sl46⟩)
 (c46:PySem.W.codeIn K cd46 "_law_any_odd"=true) (k46:PySem.W.keepIn K (.ref f46)=true)
 (a47:PySem.W.nsIn K mainGlobals "law"=some (some (.ref f47)))
 (l47:K.lookup f47=some ⟨oc47,od47,.func (PySem.W.fnOf "law" "law" (aw jG) (av jG) (ae jG) .none kV47 dc47 pm47 an47 cd47 ct47),sl47⟩)
 (c47:PySem.W.codeIn K cd47 "law"=true) (k47:PySem.W.keepIn K (.ref f47)=true)
 (z_ValueError:PySem.W.nsIn K mainGlobals "ValueError"=some none)
 (z_abs:PySem.W.nsIn K mainGlobals "abs"=some none)
 (z_all:PySem.W.nsIn K mainGlobals "all"=some none)
 (z_enumerate:PySem.W.nsIn K mainGlobals "enumerate"=some none)
 (z_int:PySem.W.nsIn K mainGlobals "int"=some none)
 (z_isinstance:PySem.W.nsIn K mainGlobals "isinstance"=some none)
 (z_len:PySem.W.nsIn K mainGlobals "len"=some none)
 (z_list:PySem.W.nsIn K mainGlobals "list"=some none)
 (z_max:PySem.W.nsIn K mainGlobals "max"=some none)
 (z_min:PySem.W.nsIn K mainGlobals "min"=some none)
 (z_range:PySem.W.nsIn K mainGlobals "range"=some none)
 (z_sum:PySem.W.nsIn K mainGlobals "sum"=some none)
 (z_tuple:PySem.W.nsIn K mainGlobals "tuple"=some none)
 (z_zip:PySem.W.nsIn K mainGlobals "zip"=some none)
 (d_RingError:PySem.W.nsIn K mainGlobals "RingError"=some (some (.ref u_RingError)))
 (d_BadWeb:PySem.W.nsIn K mainGlobals "BadWeb"=some (some (.ref u_BadWeb)))
 (d_BadSet:PySem.W.nsIn K mainGlobals "BadSet"=some (some (.ref u_BadSet)))
 (d_BadPoint:PySem.W.nsIn K mainGlobals "BadPoint"=some (some (.ref u_BadPoint)))
 (d_NotRing:PySem.W.nsIn K mainGlobals "NotRing"=some (some (.ref u_NotRing)))
 (d_NoChord:PySem.W.nsIn K mainGlobals "NoChord"=some (some (.ref u_NoChord)))
 (d_NoBase:PySem.W.nsIn K mainGlobals "NoBase"=some (some (.ref u_NoBase)))
 (d_NoSuch:PySem.W.nsIn K mainGlobals "NoSuch"=some (some (.ref u_NoSuch)))
 (d_TooMany:PySem.W.nsIn K mainGlobals "TooMany"=some (some (.ref u_TooMany)))
 (d_BadRow:PySem.W.nsIn K mainGlobals "BadRow"=some (some (.ref u_BadRow)))
 (d_NoDeed:PySem.W.nsIn K mainGlobals "NoDeed"=some (some (.ref u_NoDeed)))
 (d_NotEven:PySem.W.nsIn K mainGlobals "NotEven"=some (some (.ref u_NotEven)))
 (d_NoText:PySem.W.nsIn K mainGlobals "NoText"=some (some (.ref u_NoText)))
 (xc_BadSet:PySem.W.excIn K u_BadSet [.type "ValueError",.type "Exception",.type "BaseException",.type "object"] "ValueError.__new__"=true)
 (ea_BadSet:PySem.W.findIn K (.ref u_BadSet) "__getattribute__"=some (some (.builtin "BaseException.__getattribute__"))) (eb_BadSet:PySem.W.findIn K (.ref u_BadSet) "__getattr__"=some none)
 (ec_BadSet:PySem.W.findIn K (.ref u_BadSet) "__class__"=some (some (.builtin "object.__class__"))) (ed_BadSet:PySem.W.specialIn K (.builtin "object.__class__") "__get__"=some (some (.builtin "getset_descriptor.__get__")))
 (ee_BadSet:PySem.W.takesIn K (.builtin "object.__class__")=some true) (ef_BadSet:PySem.W.mroIn K u_BadSet (.type "object")=some true) (eg_BadSet:PySem.W.hasDictIn K u_BadSet=true) (eh_BadSet:PySem.W.mroIn K u_BadSet (.type "BaseException")=some true)
 (hx_BadSet:PySem.W.exmOne K (.ref u_BadSet) (.ref u_RingError)=some true)
 (qv_BadSet:PySem.W.kitOne K (.ref u_BadSet) (.type "ValueError")=some true)
 (q_BadSet_BadWeb:PySem.W.kitOne K (.ref u_BadSet) (.ref u_BadWeb)=some false)
 (q_BadSet_BadSet:PySem.W.kitOne K (.ref u_BadSet) (.ref u_BadSet)=some true)
 (q_BadSet_BadPoint:PySem.W.kitOne K (.ref u_BadSet) (.ref u_BadPoint)=some false)
 (q_BadSet_NotRing:PySem.W.kitOne K (.ref u_BadSet) (.ref u_NotRing)=some false)
 (q_BadSet_NoChord:PySem.W.kitOne K (.ref u_BadSet) (.ref u_NoChord)=some false)
 (q_BadSet_NoBase:PySem.W.kitOne K (.ref u_BadSet) (.ref u_NoBase)=some false)
 (q_BadSet_NoSuch:PySem.W.kitOne K (.ref u_BadSet) (.ref u_NoSuch)=some false)
 (q_BadSet_TooMany:PySem.W.kitOne K (.ref u_BadSet) (.ref u_TooMany)=some false)
 (q_BadSet_BadRow:PySem.W.kitOne K (.ref u_BadSet) (.ref u_BadRow)=some false)
 (q_BadSet_NoDeed:PySem.W.kitOne K (.ref u_BadSet) (.ref u_NoDeed)=some false)
 (q_BadSet_NotEven:PySem.W.kitOne K (.ref u_BadSet) (.ref u_NotEven)=some false)
 (q_BadSet_NoText:PySem.W.kitOne K (.ref u_BadSet) (.ref u_NoText)=some false)
 (xc_NoChord:PySem.W.excIn K u_NoChord [.type "ValueError",.type "Exception",.type "BaseException",.type "object"] "ValueError.__new__"=true)
 (ea_NoChord:PySem.W.findIn K (.ref u_NoChord) "__getattribute__"=some (some (.builtin "BaseException.__getattribute__"))) (eb_NoChord:PySem.W.findIn K (.ref u_NoChord) "__getattr__"=some none)
 (ec_NoChord:PySem.W.findIn K (.ref u_NoChord) "__class__"=some (some (.builtin "object.__class__"))) (ed_NoChord:PySem.W.specialIn K (.builtin "object.__class__") "__get__"=some (some (.builtin "getset_descriptor.__get__")))
 (ee_NoChord:PySem.W.takesIn K (.builtin "object.__class__")=some true) (ef_NoChord:PySem.W.mroIn K u_NoChord (.type "object")=some true) (eg_NoChord:PySem.W.hasDictIn K u_NoChord=true) (eh_NoChord:PySem.W.mroIn K u_NoChord (.type "BaseException")=some true)
 (hx_NoChord:PySem.W.exmOne K (.ref u_NoChord) (.ref u_RingError)=some true)
 (qv_NoChord:PySem.W.kitOne K (.ref u_NoChord) (.type "ValueError")=some true)
 (q_NoChord_BadWeb:PySem.W.kitOne K (.ref u_NoChord) (.ref u_BadWeb)=some false)
 (q_NoChord_BadSet:PySem.W.kitOne K (.ref u_NoChord) (.ref u_BadSet)=some false)
 (q_NoChord_BadPoint:PySem.W.kitOne K (.ref u_NoChord) (.ref u_BadPoint)=some false)
 (q_NoChord_NotRing:PySem.W.kitOne K (.ref u_NoChord) (.ref u_NotRing)=some false)
 (q_NoChord_NoChord:PySem.W.kitOne K (.ref u_NoChord) (.ref u_NoChord)=some true)
 (q_NoChord_NoBase:PySem.W.kitOne K (.ref u_NoChord) (.ref u_NoBase)=some false)
 (q_NoChord_NoSuch:PySem.W.kitOne K (.ref u_NoChord) (.ref u_NoSuch)=some false)
 (q_NoChord_TooMany:PySem.W.kitOne K (.ref u_NoChord) (.ref u_TooMany)=some false)
 (q_NoChord_BadRow:PySem.W.kitOne K (.ref u_NoChord) (.ref u_BadRow)=some false)
 (q_NoChord_NoDeed:PySem.W.kitOne K (.ref u_NoChord) (.ref u_NoDeed)=some false)
 (q_NoChord_NotEven:PySem.W.kitOne K (.ref u_NoChord) (.ref u_NotEven)=some false)
 (q_NoChord_NoText:PySem.W.kitOne K (.ref u_NoChord) (.ref u_NoText)=some false)
 (nt:PySem.W.noTabs K=true) (pn:([pt_least_ways]:List Addr).Nodup) (pi:∀ p∈([pt_least_ways]:List Addr),p∈ts) (te:ts=[pt_least_ways])
 : ∃(fd:FuncData) (tb:kQ),((tb.map (·.1)).Nodup∧PySem.W.noTabs K=true∧∀ p∈tb,p.1∈ts∧∃ c,PySem.W.codeHdIn K c p.1=true)∧(∀(s:Shared) (v:Value),BindsTo s fd ⟨[v],[]⟩ [("script",v)])∧∀ base:Heap,K.In base→base.Ns mainGlobals mg→FnOk l.prog w K mg base CX0 11 fa fd ["script"] (pP K tb):=by
 have e:=hfa.symm.trans (PySem.W.mg_of X G a47)
 cases e
 have F0:=aG (st:=fh) l0 c0 k0
 have b0:=F0.binds (ps:=["tie_set","tie"]) fun _ _ _ _ _ _ us hl=>by obtain⟨_,_,rfl⟩:=eU us hl;rfl
 have F1:=aG (st:=ee) l1 c1 k1
 have b1:=F1.binds (ps:=["tie_set"]) fun _ _ _ _ _ _ us hl=>by obtain⟨_,rfl⟩:=lA us hl;rfl
 have F2:=aG (st:=gw) l2 c2 k2
 have b2:=F2.binds (ps:=["web","ties"]) fun _ _ _ _ _ _ us hl=>by obtain⟨_,_,rfl⟩:=eU us hl;rfl
 have F3:=aG (st:=d8) l3 c3 k3
 have b3:=F3.binds (ps:=["web"]) fun _ _ _ _ _ _ us hl=>by obtain⟨_,rfl⟩:=lA us hl;rfl
 have F4:=aG (st:=gi) l4 c4 k4
 have b4:=F4.binds (ps:=["web","number"]) fun _ _ _ _ _ _ us hl=>by obtain⟨_,_,rfl⟩:=eU us hl;rfl
 have F5:=aG (st:=dA) l5 c5 k5
 have b5:=F5.binds (ps:=["web","tie_set"]) fun _ _ _ _ _ _ us hl=>by obtain⟨_,_,rfl⟩:=eU us hl;rfl
 have F6:=aG (st:=ck) l6 c6 k6
 have b6:=F6.binds (ps:=["web","tie_set"]) fun _ _ _ _ _ _ us hl=>by obtain⟨_,_,rfl⟩:=eU us hl;rfl
 have F7:=aG (st:=cM) l7 c7 k7
 have b7:=F7.binds (ps:=["web","tie_set"]) fun _ _ _ _ _ _ us hl=>by obtain⟨_,_,rfl⟩:=eU us hl;rfl
 have F8:=aG (st:=cn) l8 c8 k8
 have b8:=F8.binds (ps:=["web","tie_set"]) fun _ _ _ _ _ _ us hl=>by obtain⟨_,_,rfl⟩:=eU us hl;rfl
 have F9:=aG (st:=bq) l9 c9 k9
 have b9:=F9.binds (ps:=["leasts","one","other"]) fun _ _ _ _ _ _ us hl=>by obtain⟨_,_,_,rfl⟩:=mK us hl;rfl
 have F10:=aG (st:=fC) l10 c10 k10
 have b10:=F10.binds (ps:=["web","tie_set"]) fun _ _ _ _ _ _ us hl=>by obtain⟨_,_,rfl⟩:=eU us hl;rfl
 have F11:=aG (st:=fg) l11 c11 k11
 have b11:=F11.binds (ps:=["web","tie_set"]) fun _ _ _ _ _ _ us hl=>by obtain⟨_,_,rfl⟩:=eU us hl;rfl
 have F12:=aG (st:=bC) l12 c12 k12
 have b12:=F12.binds (ps:=["web"]) fun _ _ _ _ _ _ us hl=>by obtain⟨_,rfl⟩:=lA us hl;rfl
 have F13:=aG (st:=gD) l13 c13 k13
 have b13:=F13.binds (ps:=["web"]) fun _ _ _ _ _ _ us hl=>by obtain⟨_,rfl⟩:=lA us hl;rfl
 have F14:=aG (st:=gk) l14 c14 k14
 have b14:=F14.binds (ps:=["web"]) fun _ _ _ _ _ _ us hl=>by obtain⟨_,rfl⟩:=lA us hl;rfl
 have F15:=aG (st:=cA) l15 c15 k15
 have b15:=F15.binds (ps:=["web","trails","chord"]) fun _ _ _ _ _ _ us hl=>by obtain⟨_,_,_,rfl⟩:=mK us hl;rfl
 have F16:=aG (st:=dc) l16 c16 k16
 have b16:=F16.binds (ps:=["web","tie"]) fun _ _ _ _ _ _ us hl=>by obtain⟨_,_,rfl⟩:=eU us hl;rfl
 have F17:=aG (st:=dZ) l17 c17 k17
 have b17:=F17.binds (ps:=["web","tie_set"]) fun _ _ _ _ _ _ us hl=>by obtain⟨_,_,rfl⟩:=eU us hl;rfl
 have F18:=aG (st:=bJ) l18 c18 k18
 have b18:=F18.binds (ps:=["web","number"]) fun _ _ _ _ _ _ us hl=>by obtain⟨_,_,rfl⟩:=eU us hl;rfl
 have F19:=aG (st:=gz) l19 c19 k19
 have b19:=F19.binds (ps:=["one","other"]) fun _ _ _ _ _ _ us hl=>by obtain⟨_,_,rfl⟩:=eU us hl;rfl
 have F20:=aG (st:=cu) l20 c20 k20
 have b20:=F20.binds (ps:=["tie_set","marks"]) fun _ _ _ _ _ _ us hl=>by obtain⟨_,_,rfl⟩:=eU us hl;rfl
 have F21:=aG (st:=fq) l21 c21 k21
 have b21:=F21.binds (ps:=["web","side"]) fun _ _ _ _ _ _ us hl=>by obtain⟨_,_,rfl⟩:=eU us hl;rfl
 have F22:=aG (st:=fu) l22 c22 k22
 have b22:=F22.binds (ps:=["web","side"]) fun _ _ _ _ _ _ us hl=>by obtain⟨_,_,rfl⟩:=eU us hl;rfl
 have F23:=aG (st:=et) l23 c23 k23
 have b23:=F23.binds (ps:=["web","tie_set"]) fun _ _ _ _ _ _ us hl=>by obtain⟨_,_,rfl⟩:=eU us hl;rfl
 have F24:=aG (st:=cW) l24 c24 k24
 have b24:=F24.binds (ps:=["web","side","tie_set"]) fun _ _ _ _ _ _ us hl=>by obtain⟨_,_,_,rfl⟩:=mK us hl;rfl
 have F25:=aG (st:=bn) l25 c25 k25
 have b25:=F25.binds (ps:=["web","marks"]) fun _ _ _ _ _ _ us hl=>by obtain⟨_,_,rfl⟩:=eU us hl;rfl
 have F26:=xX (st:=bW) l26 c26 k26 hd26
 have b26:=F26.binds (ps:=["web","marks","start"]) fun _ _ _ _ _ _ us hl=>by obtain⟨_,_,_,rfl⟩:=mK us hl;rfl
 have F27:=aG (st:=bT) l27 c27 k27
 have b27:=F27.binds (ps:=["way"]) fun _ _ _ _ _ _ us hl=>by obtain⟨_,rfl⟩:=lA us hl;rfl
 have F28:=aG (st:=bj) l28 c28 k28
 have b28:=F28.binds (ps:=["ways"]) fun _ _ _ _ _ _ us hl=>by obtain⟨_,rfl⟩:=lA us hl;rfl
 have F29:=aG (st:=bp) l29 c29 k29
 have b29:=F29.binds (ps:=["web","marks"]) fun _ _ _ _ _ _ us hl=>by obtain⟨_,_,rfl⟩:=eU us hl;rfl
 have F30:=aG (st:=bB) l30 c30 k30
 have b30:=F30.binds (ps:=["ways"]) fun _ _ _ _ _ _ us hl=>by obtain⟨_,rfl⟩:=lA us hl;rfl
 have F31:=aG (st:=cN) l31 c31 k31
 have b31:=F31.binds (ps:=["web","marks"]) fun _ _ _ _ _ _ us hl=>by obtain⟨_,_,rfl⟩:=eU us hl;rfl
 have F32:=aG (st:=cB) l32 c32 k32
 have b32:=F32.binds (ps:=["one","other","length"]) fun _ _ _ _ _ _ us hl=>by obtain⟨_,_,_,rfl⟩:=mK us hl;rfl
 have F33:=aG (st:=cY) l33 c33 k33
 have b33:=F33.binds (ps:=["tie","turn","worths"]) fun _ _ _ _ _ _ us hl=>by obtain⟨_,_,_,rfl⟩:=mK us hl;rfl
 have F34:=aG (st:=cb) l34 c34 k34
 have b34:=F34.binds (ps:=["web","marks","worths"]) fun _ _ _ _ _ _ us hl=>by obtain⟨_,_,_,rfl⟩:=mK us hl;rfl
 have F35:=aG (st:=bu) l35 c35 k35
 have b35:=F35.binds (ps:=["worths","length"]) fun _ _ _ _ _ _ us hl=>by obtain⟨_,_,rfl⟩:=eU us hl;rfl
 have F36:=aG (st:=cC) l36 c36 k36
 have b36:=F36.binds (ps:=["web","marks","ring","worths"]) fun _ _ _ _ _ _ us hl=>by obtain⟨_,_,_,_,rfl⟩:=aa5 us hl;rfl
 have F37:=aG (st:=cT) l37 c37 k37
 have b37:=F37.binds (ps:=["web","marks","answer"]) fun _ _ _ _ _ _ us hl=>by obtain⟨_,_,_,rfl⟩:=mK us hl;rfl
 have F38:=aG (st:=cz) l38 c38 k38
 have b38:=F38.binds (ps:=["script","k"]) fun _ _ _ _ _ _ us hl=>by obtain⟨_,_,rfl⟩:=eU us hl;rfl
 have F39:=aG (st:=d7) l39 c39 k39
 have b39:=F39.binds (ps:=["cell","k","way"]) fun _ _ _ _ _ _ us hl=>by obtain⟨_,_,_,rfl⟩:=mK us hl;rfl
 have F40:=aG (st:=ff) l40 c40 k40
 have b40:=F40.binds (ps:=["left","points","mode"]) fun _ _ _ _ _ _ us hl=>by obtain⟨_,_,_,rfl⟩:=mK us hl;rfl
 have F41:=aG (st:=fe) l41 c41 k41
 have b41:=F41.binds (ps:=["script","most_points","most_ties"]) fun _ _ _ _ _ _ us hl=>by obtain⟨_,_,_,rfl⟩:=mK us hl;rfl
 have F42:=aG (st:=cj) l42 c42 k42
 have b42:=F42.binds (ps:=["web","some"]) fun _ _ _ _ _ _ us hl=>by obtain⟨_,_,rfl⟩:=eU us hl;rfl
 have F43:=aG (st:=fj) l43 c43 k43
 have b43:=F43.binds (ps:=["number"]) fun _ _ _ _ _ _ us hl=>by obtain⟨_,rfl⟩:=lA us hl;rfl
 have F44:=aG (st:=cO) l44 c44 k44
 have b44:=F44.binds (ps:=["e"]) fun _ _ _ _ _ _ us hl=>by obtain⟨_,rfl⟩:=lA us hl;rfl
 have F45:=aG (st:=cy) l45 c45 k45
 have b45:=F45.binds (ps:=["web","marks"]) fun _ _ _ _ _ _ us hl=>by obtain⟨_,_,rfl⟩:=eU us hl;rfl
 have F46:=aG (st:=cv) l46 c46 k46
 have b46:=F46.binds (ps:=["web","marks"]) fun _ _ _ _ _ _ us hl=>by obtain⟨_,_,rfl⟩:=eU us hl;rfl
 have F47:=aG (st:=jG) l47 c47 k47
 have b47:=F47.binds (ps:=["script"]) fun _ _ _ _ _ _ us hl=>by obtain⟨_,rfl⟩:=lA us hl;rfl
 have T:Txt K mg ⟨f0,_,f1,_,f2,_,f3,_,f4,_,f5,_,f6,_,f7,_,f8,_,f9,_,f10,_,f11,_,f12,_,f13,_,f14,_,f15,_,f16,_,f17,_,f18,_,f19,_,f20,_,f21,_,f22,_,f23,_,f24,_,f25,_,f26,_,f27,_,f28,_,f29,_,f30,_,f31,_,f32,_,f33,_,f34,_,f35,_,f36,_,f37,_,f38,_,f39,_,f40,_,f41,_,f42,_,f43,_,f44,_,f45,_,f46,_,fa,_,u_RingError,u_BadWeb,u_BadSet,u_BadPoint,u_NotRing,u_NoChord,u_NoBase,u_NoSuch,u_TooMany,u_BadRow,u_NoDeed,u_NotEven,u_NoText,kc_least_ways,pt_least_ways⟩:=⟨F0,PySem.W.mg_of X G a0,b0,F1,PySem.W.mg_of X G a1,b1,F2,PySem.W.mg_of X G a2,b2,F3,PySem.W.mg_of X G a3,b3,F4,PySem.W.mg_of X G a4,b4,F5,PySem.W.mg_of X G a5,b5,F6,PySem.W.mg_of X G a6,b6,F7,PySem.W.mg_of X G a7,b7,F8,PySem.W.mg_of X G a8,b8,F9,PySem.W.mg_of X G a9,b9,F10,PySem.W.mg_of X G a10,b10,F11,PySem.W.mg_of X G a11,b11,F12,PySem.W.mg_of X G a12,b12,F13,PySem.W.mg_of X G a13,b13,F14,PySem.W.mg_of X G a14,b14,F15,PySem.W.mg_of X G a15,b15,F16,PySem.W.mg_of X G a16,b16,F17,PySem.W.mg_of X G a17,b17,F18,PySem.W.mg_of X G a18,b18,F19,PySem.W.mg_of X G a19,b19,F20,PySem.W.mg_of X G a20,b20,F21,PySem.W.mg_of X G a21,b21,F22,PySem.W.mg_of X G a22,b22,F23,PySem.W.mg_of X G a23,b23,F24,PySem.W.mg_of X G a24,b24,F25,PySem.W.mg_of X G a25,b25,F26,PySem.W.mg_of X G a26,b26,F27,PySem.W.mg_of X G a27,b27,F28,PySem.W.mg_of X G a28,b28,F29,PySem.W.mg_of X G a29,b29,F30,PySem.W.mg_of X G a30,b30,F31,PySem.W.mg_of X G a31,b31,F32,PySem.W.mg_of X G a32,b32,F33,PySem.W.mg_of X G a33,b33,F34,PySem.W.mg_of X G a34,b34,F35,PySem.W.mg_of X G a35,b35,F36,PySem.W.mg_of X G a36,b36,F37,PySem.W.mg_of X G a37,b37,F38,PySem.W.mg_of X G a38,b38,F39,PySem.W.mg_of X G a39,b39,F40,PySem.W.mg_of X G a40,b40,F41,PySem.W.mg_of X G a41,b41,F42,PySem.W.mg_of X G a42,b42,F43,PySem.W.mg_of X G a43,b43,F44,PySem.W.mg_of X G a44,b44,F45,PySem.W.mg_of X G a45,b45,F46,PySem.W.mg_of X G a46,b46,F47,PySem.W.mg_of X G a47,b47,PySem.W.mg_none_of X G z_ValueError,PySem.W.mg_none_of X G z_abs,PySem.W.mg_none_of X G z_all,PySem.W.mg_none_of X G z_enumerate,PySem.W.mg_none_of X G z_int,PySem.W.mg_none_of X G z_isinstance,PySem.W.mg_none_of X G z_len,PySem.W.mg_none_of X G z_list,PySem.W.mg_none_of X G z_max,PySem.W.mg_none_of X G z_min,PySem.W.mg_none_of X G z_range,PySem.W.mg_none_of X G z_sum,PySem.W.mg_none_of X G z_tuple,PySem.W.mg_none_of X G z_zip,PySem.W.mg_of X G d_RingError,PySem.W.mg_of X G d_BadWeb,PySem.W.mg_of X G d_BadSet,PySem.W.mg_of X G d_BadPoint,PySem.W.mg_of X G d_NotRing,PySem.W.mg_of X G d_NoChord,PySem.W.mg_of X G d_NoBase,PySem.W.mg_of X G d_NoSuch,PySem.W.mg_of X G d_TooMany,PySem.W.mg_of X G d_BadRow,PySem.W.mg_of X G d_NoDeed,PySem.W.mg_of X G d_NotEven,PySem.W.mg_of X G d_NoText,fun h1 X1 G1=>wO X1 G1 d_BadSet xc_BadSet,⟨ea_BadSet,eb_BadSet,ec_BadSet,ed_BadSet,ee_BadSet,ef_BadSet,eh_BadSet,vB eg_BadSet⟩,hx_BadSet,qv_BadSet,q_BadSet_BadWeb,q_BadSet_BadSet,q_BadSet_BadPoint,q_BadSet_NotRing,q_BadSet_NoChord,q_BadSet_NoBase,q_BadSet_NoSuch,q_BadSet_TooMany,q_BadSet_BadRow,q_BadSet_NoDeed,q_BadSet_NotEven,q_BadSet_NoText,fun h1 X1 G1=>wO X1 G1 d_NoChord xc_NoChord,⟨ea_NoChord,eb_NoChord,ec_NoChord,ed_NoChord,ee_NoChord,ef_NoChord,eh_NoChord,vB eg_NoChord⟩,hx_NoChord,qv_NoChord,q_NoChord_BadWeb,q_NoChord_BadSet,q_NoChord_BadPoint,q_NoChord_NotRing,q_NoChord_NoChord,q_NoChord_NoBase,q_NoChord_NoSuch,q_NoChord_TooMany,q_NoChord_BadRow,q_NoChord_NoDeed,q_NoChord_NotEven,q_NoChord_NoText⟩
 exact⟨PySem.W.fnOf "law" "law" (aw jG) (av jG) (ae jG) .none kV47 dc47 pm47 an47 cd47 ct47,[(pt_least_ways,uJ "least_ways",aX)],⟨pn,nt,fun p hp=>⟨pi _ (List.mem_map_of_mem (f:=(·.1)) hp),by simp only[List.mem_cons,List.not_mem_nil,or_false]at hp;rcases hp with rfl;all_goals first | exact⟨_,hd26⟩⟩⟩,fun s v=>.of_eq rfl,fun base _ _=>aap T⟩
theorem aba{l:PySem.W.OpenLaw}{q:Program}{loose:List Str}{XP:(Str→Option Value)→Heap→Prop}{YP:World→Heap→Prop}{d:DefRec}{K:Params→PySem.W.Frag}{ts:List Addr}(hn:l.most=some 63)(hdf:d.params.defaults=[])
 (hY:∀(w:World) (h:Heap),YP w h→(K w.params).In h∧∀ P∈ts,h.get? P=some (PySem.W.tabObj #[]))
 (F:∀(w:World) (mg:Str→Option Value) (fa:Addr) (h:Heap),(K w.params).In h→h.Ns mainGlobals mg→mg d.name=some (.ref fa)→
  ∃(fd:FuncData) (tb:kQ),((tb.map (·.1)).Nodup∧PySem.W.noTabs (K w.params)=true∧∀ p∈tb,p.1∈ts∧∃ c,PySem.W.codeHdIn (K w.params) c p.1=true)∧(∀(s:Shared) (u:Value),BindsTo s fd ⟨[u],[]⟩ [("script",u)])∧∀ base:Heap,(K w.params).In base→base.Ns mainGlobals mg→FnOk l.prog w (K w.params) mg base CX0 11 fa fd ["script"] (pP (K w.params) tb)) :
 PySem.W.WalkO q loose XP YP l.row.toRowW d [] (fun f vs=>PySem.call f vs) :=
 L2.xa (n:=63) (k:=11) (x:="script") (CX:=fun _=>CX0) (sp:=fun w=>pP (K w.params)) hn (by decide) hdf ⟨rfl,by decide,by decide⟩ hY F (fun _ _ a ns tb hl hT hS=>⟨a,ns,rfl,hS,hl,hT,fun _=>rfl⟩) fun _ _ _ _ _ z=>z
end K23
def PySem.W.Fast.tw6575326310352072244:Unit:=()
def PySem.W.Fast.tw2634415387951515752:Unit:=()
def PySem.W.Fast.tw11789122616716828218:Unit:=()
def PySem.W.Fast.tw4592094250258235921:Unit:=()
def PySem.W.Fast.tw12489916544444092021:Unit:=()
def PySem.W.Fast.tw11022991019112450303:Unit:=()
def PySem.W.Fast.tw9443885912870402761:Unit:=()
def PySem.W.Fast.tw4061409174782766465:Unit:=()
def PySem.W.Fast.tw1590157123127825684:Unit:=()
def PySem.W.Fast.tw15255054375971190714:Unit:=()
def PySem.W.Fast.tw18389566915244417272:Unit:=()
def PySem.W.Fast.tw8569196836507993944:Unit:=()
def PySem.W.Fast.tw16833597571408260125:Unit:=()
def PySem.W.Fast.tw11050598750151565282:Unit:=()
def PySem.W.Fast.tw9415082076305992691:Unit:=()
open PySem PySem.W PyProof.Rows
set_option maxRecDepth 100000 in
set_option maxHeartbeats 0 in
theorem PySem.Challenge.cw_ringbase_k23_least_odd_refused_holds : PySem.Challenge.rw_ringbase_k23_least_odd_refused.Holds := by
 w_on;o_law;k_head;(case hw=>w_witness2)
 k_fill
 refine K23.aba (l:=PySem.Challenge.rw_ringbase_k23_least_odd_refused) rfl rfl (fun w h Y=>⟨PySem.W.km_in_of Y,PySem.W.km_tabs_of Y⟩) ?F
 case F =>
  intro w mg fa h KX G hmg
  refine' K23.zJ KX G hmg ?a0 ?l0 ?c0 ?k0 ?a1 ?l1 ?c1 ?k1 ?a2 ?l2 ?c2 ?k2 ?a3 ?l3 ?c3 ?k3 ?a4 ?l4 ?c4 ?k4 ?a5 ?l5 ?c5 ?k5 ?a6 ?l6 ?c6 ?k6 ?a7 ?l7 ?c7 ?k7 ?a8 ?l8 ?c8 ?k8 ?a9 ?l9 ?c9 ?k9 ?a10 ?l10 ?c10 ?k10 ?a11 ?l11 ?c11 ?k11 ?a12 ?l12 ?c12 ?k12 ?a13 ?l13 ?c13 ?k13 ?a14 ?l14 ?c14 ?k14 ?a15 ?l15 ?c15 ?k15 ?a16 ?l16 ?c16 ?k16 ?a17 ?l17 ?c17 ?k17 ?a18 ?l18 ?c18 ?k18 ?a19 ?l19 ?c19 ?k19 ?a20 ?l20 ?c20 ?k20 ?a21 ?l21 ?c21 ?k21 ?a22 ?l22 ?c22 ?k22 ?a23 ?l23 ?c23 ?k23 ?a24 ?l24 ?c24 ?k24 ?a25 ?l25 ?c25 ?k25 ?a26 ?l26 ?hd26 ?c26 ?k26 ?a27 ?l27 ?c27 ?k27 ?a28 ?l28 ?c28 ?k28 ?a29 ?l29 ?c29 ?k29 ?a30 ?l30 ?c30 ?k30 ?a31 ?l31 ?c31 ?k31 ?a32 ?l32 ?c32 ?k32 ?a33 ?l33 ?c33 ?k33 ?a34 ?l34 ?c34 ?k34 ?a35 ?l35 ?c35 ?k35 ?a36 ?l36 ?c36 ?k36 ?a37 ?l37 ?c37 ?k37 ?a38 ?l38 ?c38 ?k38 ?a39 ?l39 ?c39 ?k39 ?a40 ?l40 ?c40 ?k40 ?a41 ?l41 ?c41 ?k41 ?a42 ?l42 ?c42 ?k42 ?a43 ?l43 ?c43 ?k43 ?a44 ?l44 ?c44 ?k44 ?a45 ?l45 ?c45 ?k45 ?a46 ?l46 ?c46 ?k46 ?a47 ?l47 ?c47 ?k47 ?z_ValueError ?z_abs ?z_all ?z_enumerate ?z_int ?z_isinstance ?z_len ?z_list ?z_max ?z_min ?z_range ?z_sum ?z_tuple ?z_zip ?d_RingError ?d_BadWeb ?d_BadSet ?d_BadPoint ?d_NotRing ?d_NoChord ?d_NoBase ?d_NoSuch ?d_TooMany ?d_BadRow ?d_NoDeed ?d_NotEven ?d_NoText ?xc_BadSet ?ea_BadSet ?eb_BadSet ?ec_BadSet ?ed_BadSet ?ee_BadSet ?ef_BadSet ?eg_BadSet ?eh_BadSet ?hx_BadSet ?qv_BadSet ?q_BadSet_BadWeb ?q_BadSet_BadSet ?q_BadSet_BadPoint ?q_BadSet_NotRing ?q_BadSet_NoChord ?q_BadSet_NoBase ?q_BadSet_NoSuch ?q_BadSet_TooMany ?q_BadSet_BadRow ?q_BadSet_NoDeed ?q_BadSet_NotEven ?q_BadSet_NoText ?xc_NoChord ?ea_NoChord ?eb_NoChord ?ec_NoChord ?ed_NoChord ?ee_NoChord ?ef_NoChord ?eg_NoChord ?eh_NoChord ?hx_NoChord ?qv_NoChord ?q_NoChord_BadWeb ?q_NoChord_BadSet ?q_NoChord_BadPoint ?q_NoChord_NotRing ?q_NoChord_NoChord ?q_NoChord_NoBase ?q_NoChord_NoSuch ?q_NoChord_TooMany ?q_NoChord_BadRow ?q_NoChord_NoDeed ?q_NoChord_NotEven ?q_NoChord_NoText ?nt ?pn ?pi ?te
  (case te=>exact rfl)
  (case d_RingError=>k_is)
  (case d_BadWeb=>k_is)
  (case d_BadSet=>k_is)
  (case d_BadPoint=>k_is)
  (case d_NotRing=>k_is)
  (case d_NoChord=>k_is)
  (case d_NoBase=>k_is)
  (case d_NoSuch=>k_is)
  (case d_TooMany=>k_is)
  (case d_BadRow=>k_is)
  (case d_NoDeed=>k_is)
  (case d_NotEven=>k_is)
  (case d_NoText=>k_is)
  (case a0=>k_is)
  (case l0=>k_is)
  (case c0=>k_is)
  (case k0=>k_is)
  (case a1=>k_is)
  (case l1=>k_is)
  (case c1=>k_is)
  (case k1=>k_is)
  (case a2=>k_is)
  (case l2=>k_is)
  (case c2=>k_is)
  (case k2=>k_is)
  (case a3=>k_is)
  (case l3=>k_is)
  (case c3=>k_is)
  (case k3=>k_is)
  (case a4=>k_is)
  (case l4=>k_is)
  (case c4=>k_is)
  (case k4=>k_is)
  (case a5=>k_is)
  (case l5=>k_is)
  (case c5=>k_is)
  (case k5=>k_is)
  (case a6=>k_is)
  (case l6=>k_is)
  (case c6=>k_is)
  (case k6=>k_is)
  (case a7=>k_is)
  (case l7=>k_is)
  (case c7=>k_is)
  (case k7=>k_is)
  (case a8=>k_is)
  (case l8=>k_is)
  (case c8=>k_is)
  (case k8=>k_is)
  (case a9=>k_is)
  (case l9=>k_is)
  (case c9=>k_is)
  (case k9=>k_is)
  (case a10=>k_is)
  (case l10=>k_is)
  (case c10=>k_is)
  (case k10=>k_is)
  (case a11=>k_is)
  (case l11=>k_is)
  (case c11=>k_is)
  (case k11=>k_is)
  (case a12=>k_is)
  (case l12=>k_is)
  (case c12=>k_is)
  (case k12=>k_is)
  (case a13=>k_is)
  (case l13=>k_is)
  (case c13=>k_is)
  (case k13=>k_is)
  (case a14=>k_is)
  (case l14=>k_is)
  (case c14=>k_is)
  (case k14=>k_is)
  (case a15=>k_is)
  (case l15=>k_is)
  (case c15=>k_is)
  (case k15=>k_is)
  (case a16=>k_is)
  (case l16=>k_is)
  (case c16=>k_is)
  (case k16=>k_is)
  (case a17=>k_is)
  (case l17=>k_is)
  (case c17=>k_is)
  (case k17=>k_is)
  (case a18=>k_is)
  (case l18=>k_is)
  (case c18=>k_is)
  (case k18=>k_is)
  (case a19=>k_is)
  (case l19=>k_is)
  (case c19=>k_is)
  (case k19=>k_is)
  (case a20=>k_is)
  (case l20=>k_is)
  (case c20=>k_is)
  (case k20=>k_is)
  (case a21=>k_is)
  (case l21=>k_is)
  (case c21=>k_is)
  (case k21=>k_is)
  (case a22=>k_is)
  (case l22=>k_is)
  (case c22=>k_is)
  (case k22=>k_is)
  (case a23=>k_is)
  (case l23=>k_is)
  (case c23=>k_is)
  (case k23=>k_is)
  (case a24=>k_is)
  (case l24=>k_is)
  (case c24=>k_is)
  (case k24=>k_is)
  (case a25=>k_is)
  (case l25=>k_is)
  (case c25=>k_is)
  (case k25=>k_is)
  (case a26=>k_is)
  (case l26=>k_is)
  (case hd26=>kernel_rfl)
  (case c26=>k_is)
  (case k26=>k_is)
  (case a27=>k_is)
  (case l27=>k_is)
  (case c27=>k_is)
  (case k27=>k_is)
  (case a28=>k_is)
  (case l28=>k_is)
  (case c28=>k_is)
  (case k28=>k_is)
  (case a29=>k_is)
  (case l29=>k_is)
  (case c29=>k_is)
  (case k29=>k_is)
  (case a30=>k_is)
  (case l30=>k_is)
  (case c30=>k_is)
  (case k30=>k_is)
  (case a31=>k_is)
  (case l31=>k_is)
  (case c31=>k_is)
  (case k31=>k_is)
  (case a32=>k_is)
  (case l32=>k_is)
  (case c32=>k_is)
  (case k32=>k_is)
  (case a33=>k_is)
  (case l33=>k_is)
  (case c33=>k_is)
  (case k33=>k_is)
  (case a34=>k_is)
  (case l34=>k_is)
  (case c34=>k_is)
  (case k34=>k_is)
  (case a35=>k_is)
  (case l35=>k_is)
  (case c35=>k_is)
  (case k35=>k_is)
  (case a36=>k_is)
  (case l36=>k_is)
  (case c36=>k_is)
  (case k36=>k_is)
  (case a37=>k_is)
  (case l37=>k_is)
  (case c37=>k_is)
  (case k37=>k_is)
  (case a38=>k_is)
  (case l38=>k_is)
  (case c38=>k_is)
  (case k38=>k_is)
  (case a39=>k_is)
  (case l39=>k_is)
  (case c39=>k_is)
  (case k39=>k_is)
  (case a40=>k_is)
  (case l40=>k_is)
  (case c40=>k_is)
  (case k40=>k_is)
  (case a41=>k_is)
  (case l41=>k_is)
  (case c41=>k_is)
  (case k41=>k_is)
  (case a42=>k_is)
  (case l42=>k_is)
  (case c42=>k_is)
  (case k42=>k_is)
  (case a43=>k_is)
  (case l43=>k_is)
  (case c43=>k_is)
  (case k43=>k_is)
  (case a44=>k_is)
  (case l44=>k_is)
  (case c44=>k_is)
  (case k44=>k_is)
  (case a45=>k_is)
  (case l45=>k_is)
  (case c45=>k_is)
  (case k45=>k_is)
  (case a46=>k_is)
  (case l46=>k_is)
  (case c46=>k_is)
  (case k46=>k_is)
  (case a47=>k_is)
  (case l47=>k_is)
  (case c47=>k_is)
  (case k47=>k_is)
  (case z_ValueError=>k_is)
  (case z_abs=>k_is)
  (case z_all=>k_is)
  (case z_enumerate=>k_is)
  (case z_int=>k_is)
  (case z_isinstance=>k_is)
  (case z_len=>k_is)
  (case z_list=>k_is)
  (case z_max=>k_is)
  (case z_min=>k_is)
  (case z_range=>k_is)
  (case z_sum=>k_is)
  (case z_tuple=>k_is)
  (case z_zip=>k_is)
  (case xc_BadSet=>k_exc)
  (case ea_BadSet=>k_is)
  (case eb_BadSet=>k_is)
  (case ec_BadSet=>k_is)
  (case ed_BadSet=>k_is)
  (case ee_BadSet=>k_is)
  (case ef_BadSet=>k_is)
  (case eg_BadSet=>k_is)
  (case eh_BadSet=>k_is)
  (case hx_BadSet=>kts_exm)
  (case qv_BadSet=>kit_is)
  (case q_BadSet_BadWeb=>kit_is)
  (case q_BadSet_BadSet=>kit_is)
  (case q_BadSet_BadPoint=>kit_is)
  (case q_BadSet_NotRing=>kit_is)
  (case q_BadSet_NoChord=>kit_is)
  (case q_BadSet_NoBase=>kit_is)
  (case q_BadSet_NoSuch=>kit_is)
  (case q_BadSet_TooMany=>kit_is)
  (case q_BadSet_BadRow=>kit_is)
  (case q_BadSet_NoDeed=>kit_is)
  (case q_BadSet_NotEven=>kit_is)
  (case q_BadSet_NoText=>kit_is)
  (case xc_NoChord=>k_exc)
  (case ea_NoChord=>k_is)
  (case eb_NoChord=>k_is)
  (case ec_NoChord=>k_is)
  (case ed_NoChord=>k_is)
  (case ee_NoChord=>k_is)
  (case ef_NoChord=>k_is)
  (case eg_NoChord=>k_is)
  (case eh_NoChord=>k_is)
  (case hx_NoChord=>kts_exm)
  (case qv_NoChord=>kit_is)
  (case q_NoChord_BadWeb=>kit_is)
  (case q_NoChord_BadSet=>kit_is)
  (case q_NoChord_BadPoint=>kit_is)
  (case q_NoChord_NotRing=>kit_is)
  (case q_NoChord_NoChord=>kit_is)
  (case q_NoChord_NoBase=>kit_is)
  (case q_NoChord_NoSuch=>kit_is)
  (case q_NoChord_TooMany=>kit_is)
  (case q_NoChord_BadRow=>kit_is)
  (case q_NoChord_NoDeed=>kit_is)
  (case q_NoChord_NotEven=>kit_is)
  (case q_NoChord_NoText=>kit_is)
  (case nt=>kernel_rfl)
  (case pn=>decide)
  (case pi=>decide)
