import PyProof.Rows.All
import Wide.All
import OpenK.AllK
import Wide.FinOn
import Lean
import PyProof.EqAt
import PyProof.EqKinds
import PyProof.TupleCall
import PySem.Challenge.RW_ringbase_k56_whole_lengths_by_one_tie
set_option Elab.async false
set_option linter.all false
set_option maxRecDepth 100000
abbrev fG:=@decide_eq_true
abbrev iK:=@decide_eq_false
abbrev sC:=@of_decide_eq_true
abbrev iD:=@List.mem_append_right
abbrev m9:=@List.mem_cons_of_mem
abbrev j7:=@List.mem_of_getElem?
abbrev ju:=@List.getElem?_eq_some_iff
abbrev uT:=@Option.map_eq_some_iff
abbrev aS:=List (PySem.Addr×PySem.Obj)
abbrev cP:=PySem.Value->PySem.Shared->Prop
abbrev lE:=PySem.Str->Option PySem.Value
abbrev bH:=PySem.W.Frag
abbrev ZZ:=@List.length_map
abbrev Z0:=@if_neg
abbrev Z1:=@if_pos
abbrev Z2:=@PySem.Heap.get?_push_of_some
abbrev Z3:=@Nat.le_refl
abbrev Z4:=@List.getElem?_eq_getElem
abbrev Z5:=@PySem.wpAny_pure
abbrev Z6:=@List.getD_eq_getElem?_getD
abbrev Z7:=@List.length_append
abbrev Z8:=@Nat.testBit_xor
abbrev Z9:=@List.getElem?_map
abbrev aaa:=@List.mem_cons
abbrev aab:=@PySem.Heap.lt_size
abbrev aac:=@Bool.false_ne_true
abbrev aad:=@List.mem_cons_self
abbrev aae:=@List.size_toArray
abbrev aaf:=@Nat.lt_of_lt_of_le
abbrev aag:=@PySem.Heap.get?_push_size
abbrev aah:=@Int.toNat_natCast
abbrev aai:=@List.mem_map
abbrev aaj:=@List.map_cons
abbrev aak:=@Nat.ne_of_lt
abbrev aal:=@Nat.testBit_two_pow
abbrev aam:=@List.mem_singleton
abbrev aan:=@List.mem_range
abbrev aao:=@List.mem_filter
abbrev aap:=@Classical.byContradiction
abbrev aaq:=@Ne.symm
abbrev aar:=@PySem.wpAny_mono
abbrev aas:=@congrArg
abbrev aat:=@Nat.le_trans
abbrev aau:=@List.mem_append
abbrev aav:=@List.getElem?_append_left
abbrev aaw:=@List.map_append
abbrev aax:=@List.length_range
abbrev aay:=@List.filter_cons
abbrev aaz:=@PySem.F.plainAttrs_list
abbrev aaA:=@List.length_cons
abbrev aaB:=@Nat.zero_le
abbrev aaC:=@List.getElem?_append_right
abbrev aaD:=@PySem.F.plain_min_loop
abbrev aaE:=@Nat.eq_of_testBit_eq
abbrev aaF:=@List.getElem?_of_mem
abbrev aaG:=@PySem.wpAny_holding
abbrev aaH:=@Nat.testBit_lt_two_pow
abbrev aaI:=@List.nodup_cons
abbrev aaJ:=@PySem.Heap.SameBut.update
abbrev aaK:=@List.take_add_one
abbrev aaL:=@List.length_singleton
abbrev aaM:=@Nat.xor_lt_two_pow
abbrev aaN:=@PySem.F.slot_list_append
abbrev aaO:=@PySem.F.type_list_append
abbrev aaP:=@List.length_filter_le
abbrev aaQ:=@PySem.mem_of_lookup
abbrev aaR:=@Nat.xor_assoc
abbrev aaS:=@Nat.zero_xor
abbrev aaT:=@Bool.and_eq_true
abbrev aaU:=@List.lookup_cons
abbrev aaV:=@List.take_length
abbrev aaW:=@Nat.xor_zero
abbrev aaX:=@Bool.false_eq_true
abbrev aaY:=@decide_eq_decide
abbrev aaZ:=@Nat.le_of_lt
abbrev aa0:=@List.Pairwise.imp_of_mem
abbrev aa1:=@Bool.eq_iff_iff
abbrev aa2:=@Nat.two_pow_pos
abbrev aa3:=@Nat.zero_testBit
abbrev aa4:=@Nat.pow_lt_pow_right
abbrev aa5:=@Nat.lt_irrefl
abbrev aa6:=@PySem.Heap.get?_update_other
abbrev aa7:=@List.pairwise_map
abbrev aa8:=@List.mem_map_of_mem
abbrev aa9:=@Nat.not_lt_zero
abbrev aba:=@List.eq_nil_of_length_eq_zero
abbrev abb:=@Nat.lt_succ_self
abbrev abc:=@List.length_take
abbrev abd:=@Int.le_refl
abbrev abe:=@Nat.pow_le_pow_right
abbrev abf:=@Bool.xor_false
abbrev abg:=@PySem.wpAny_tryCatch
abbrev abh:=@Nat.lt_succ_of_lt
abbrev abi:=@Nat.ne_of_gt
abbrev abj:=@Nat.xor_self
abbrev abk:=@List.map_map
abbrev abl:=@PySem.F.entry_min_loop
abbrev abm:=@Array.getElem?_eq_some_iff
abbrev abn:=@Nat.ble_eq
abbrev abo:=@PySem.Heap.get?_update_self
abbrev abp:=@Nat.lt_of_le_of_lt
abbrev abq:=@List.append_nil
abbrev abr:=@Nat.pow_succ
abbrev abt:=@Array.length_toList
abbrev abu:=@List.nodup_range
abbrev abv:=@Nat.le_succ
abbrev abw:=@PySem.W.mg_none_of
abbrev abx:=@PyProof.Rows.callWith_type1
abbrev aby:=@Int.zero_add
abbrev abz:=@List.length_replicate
abbrev abA:=@List.length_nil
abbrev abB:=@Array.getElem?_toList
abbrev abC:=@Option.map_some
abbrev abD:=@List.range_succ
abbrev abE:=@Nat.mod_two_eq_zero_or_one
abbrev abF:=@Bool.true_and
abbrev abG:=@PySem.F.slot_dict_keyiterator_next
abbrev abH:=@Bool.false_xor
abbrev abI:=@Nat.le_add_right
abbrev abJ:=@List.not_mem_nil
abbrev abK:=@Nat.testBit_succ
abbrev abL:=@List.replicate_succ
abbrev abM:=@List.length_reverse
abbrev abN:=@List.eraseIdx_cons_succ
abbrev abO:=@PyProof.Rows.boot_tuple
abbrev abP:=@List.mem_filterMap
abbrev abQ:=@PySem.Obj.data_mapFields
abbrev abR:=@List.find?_cons
abbrev abS:=@Nat.exists_testBit_of_ne_zero
abbrev abT:=@List.reverse_cons
abbrev abU:=@Nat.le_of_eq
abbrev abV:=@PySem.Obj.isFreed_of_fields
abbrev abW:=@PySem.F.slot_dict_pop
abbrev abX:=@Bool.and_false
abbrev abY:=@Int.le_of_lt
abbrev abZ:=@PyProof.Rows.boot_max
abbrev ab0:=@Bool.and_eq_true_iff
abbrev ab1:=@List.sum_cons
abbrev ab2:=@Nat.min_eq_left
abbrev ab3:=@List.pairwise_iff_getElem
abbrev ab4:=@PySem.F.args_tuple_add_2
abbrev ab5:=@List.filter_append
abbrev ab6:=@Nat.sub_self
abbrev ab7:=@Nat.testBit_two_pow_self
abbrev ab8:=@List.pairwise_cons
abbrev ab9:=@PySem.Heap.size_push
abbrev acd:=@List.nodup_nil
abbrev ace:=@List.getElem?_replicate
abbrev acf:=@PySem.F.entry_tuple_add
abbrev acg:=@Nat.exists_eq_add_of_le
abbrev ach:=@PySem.F.plainAttrs_dict
abbrev aci:=@Int.eq_ofNat_of_zero_le
abbrev acj:=@List.flatten_cons
abbrev ack:=@List.foldl_append
abbrev acm:=@PySem.F.slot_tuple_add
abbrev acn:=@PyProof.Rows.bitAnd_pp
abbrev aco:=@List.any_cons
abbrev acp:=@List.getElem_inj
abbrev acq:=@List.length_drop
abbrev acr:=@List.all_eq_true
abbrev acs:=@List.getElem_mem
abbrev acu:=@List.ext_getElem
abbrev acv:=@List.getElem_map
abbrev acw:=@List.lookup_cons_self
abbrev acy:=@PySem.F.slot_dict_get
abbrev acz:=@Classical.choose_spec
abbrev acA:=@PySem.F.slot_list_pop
abbrev acB:=@PySem.F.type_list_pop
abbrev acC:=@List.eraseIdxIfInBounds_toArray
abbrev acD:=@Array.getElem?_setIfInBounds_ne
abbrev acE:=@List.mem_append_left
abbrev acF:=@beq_iff_eq
abbrev acG:=@Nat.le_total
abbrev acH:=@List.Pairwise.filter
abbrev acI:=@List.mem_of_mem_drop
abbrev acJ:=@List.map_eq_cons_iff
abbrev acK:=@List.take_append_of_le_length
abbrev acL:=@List.filterMap_cons
abbrev acM:=@PySem.W.plainGet_of
abbrev acN:=@List.getElem?_range
abbrev acO:=@Bool.false_and
abbrev acP:=@PySem.W.callWith_K
abbrev acQ:=@Nat.and_lt_two_pow
abbrev acR:=@decide_eq_true_iff
abbrev acS:=@List.getElem?_take
abbrev acT:=@Bool.and_true
abbrev acU:=@List.nodup_append
abbrev acV:=@Bool.eq_false_iff
abbrev acW:=@Nat.min_eq_right
abbrev acX:=@Nat.max_eq_right
abbrev acY:=@List.any_eq_true
abbrev acZ:=@Nat.succ_ne_self
abbrev ac0:=@Nat.xor_comm
abbrev ac1:=@Nat.testBit_zero
namespace L2
open PySem PySem.Spec PyProof.Rows
abbrev aQ:=@wpAny_bind
abbrev Key:=Sum Int Str
def qQ:Key->Value->Bool
 | .inl k,v=>Value.isInt k v
 | .inr x,v=>Value.isStrOf x v
def Ro(w:World):Key->Int
 | .inl k=>hashInt k
 | .inr x=>hashStr w x
def cC:∀{k:Key} {v:Value},qQ k v=true->(∃i t,k=Sum.inl i/\v=Value.int i t)\/(∃x t,k=Sum.inr x/\v=Value.str x t)
 | .inl i,v,h=>by
   obtain⟨t,e⟩:=Value.isInt_shape (k:=i) (v:=v) h;exact .inl ⟨i,t,rfl,e⟩
 | .inr x,v,h=>by
   obtain⟨t,e⟩:=Value.isStrOf_shape (x:=x) (v:=v) h;exact .inr ⟨x,t,rfl,e⟩
def C2(i:Int)(t:Tok):qQ (.inl i) (.int i t)=true:=by simp[qQ,Value.isInt]
def C3(x:Str)(t:Tok):qQ (.inr x) (.str x t)=true:=by simp[qQ,Value.isStrOf]
def Lv(a b:Int):decide ((Sum.inl a:Key)=Sum.inl b)=(a==b):=by
 by_cases e:a=b
 ·subst e;simp
 ·have h : ¬(Sum.inl a:Key)=Sum.inl b:=λq=>e (Sum.inl.inj q)
  rw[iK h];exact(beq_eq_false_iff_ne.mpr e).symm
def Lw(a b:Str):decide ((Sum.inr a:Key)=Sum.inr b)=decide (a=b):=by
 by_cases e:a=b
 ·subst e;simp
 ·have h : ¬(Sum.inr a:Key)=Sum.inr b:=λq=>e (Sum.inr.inj q)
  rw[iK h,iK e]
def Lx(a:Int)(b:Str):decide ((Sum.inl a:Key)=Sum.inr b)=false:=iK (λq=>nomatch q)
def Ly(a:Str)(b:Int):decide ((Sum.inr a:Key)=Sum.inl b)=false:=iK (λq=>nomatch q)
def b7(prog:Program)(w:World):PySem.KeyKind prog w Key where
 is:=qQ
 hash:=Ro w
 inj:=λv a b ha hb=>by
  rcases cC ha with⟨i,t,rfl,rfl⟩|⟨x,t,rfl,rfl⟩
  ·rcases cC hb with⟨j,u,rfl,e⟩|⟨y,u,rfl,e⟩
   ·injection e with e1 _;rw[e1]
   ·exact nomatch e
  ·rcases cC hb with⟨j,u,rfl,e⟩|⟨y,u,rfl,e⟩
   ·exact nomatch e
   ·injection e with e1 _;rw[e1]
 byValue:=λk v h=>by
  rcases cC h with⟨i,t,rfl,rfl⟩|⟨x,t,rfl,rfl⟩<;>rfl
 pyHash:=λI h=>by
  rcases cC I with⟨i,t,rfl,rfl⟩|⟨x,t,rfl,rfl⟩
  ·exact wpAny_pyHash_int h
  ·exact wpAny_pyHash_str h
 eqBool:=λO I h=>by
  rcases cC O with⟨i,t,rfl,rfl⟩|⟨x,t,rfl,rfl⟩
  ·rcases cC I with⟨j,u,rfl,rfl⟩|⟨y,u,rfl,rfl⟩
   ·rw[Lv]at h;exact wpAny_eqBool_int h
   ·rw[Lx]at h;exact SeqAt.EqAt.int_str i t y u _ _ _ _ h
  ·rcases cC I with⟨j,u,rfl,rfl⟩|⟨y,u,rfl,rfl⟩
   ·rw[Ly]at h;exact SeqAt.EqAt.str_int x t j u _ _ _ _ h
   ·rw[Lw]at h;exact wpAny_eqBool_str h
 «strs»:=λk x t v h=>by
  rcases cC h with⟨i,u,rfl,e⟩|⟨y,u,rfl,e⟩
  ·exact nomatch e
  ·injection e with e1 _
   subst e1;cases v<;>rfl
def yv(prog:Program)(w:World)(i:Int)(t:Tok):(b7 prog w).is (.inl i) (.int i t)=true:=C2 i t
def yw(prog:Program)(w:World)(x:Str)(t:Tok):(b7 prog w).is (.inr x) (.str x t)=true:=C3 x t
inductive V where
 | dH | bl (b:Bool) | int (i:Int) | str (x:Str) | EY (b:Array UInt8) | Qs (b:UInt64) | ref (a:Addr) | ty (n:String)
 deriving DecidableEq
def RelV:V->Value->Prop
 | .dH,u=>u=Value.none
 | .bl b,u=>u=Value.bool b
 | .int i,u=>∃t,u=Value.int i t
 | .str x,u=>∃t,u=Value.str x t
 | .EY b,u=>∃t,u=Value.bytes b t
 | .Qs b,u=>∃t,u=Value.float b t
 | .ref a,u=>u=Value.ref a
 | .ty n,u=>u=Value.type n
abbrev Vals:List V->List Value->Prop:=Paired RelV
def Vals.length{xs:List V}{us:List Value}(r:Vals xs us):xs.length=us.length:=Paired.length r
def Vals.get:∀{xs:List V} {us:List Value} {i:Nat} {x:V},Vals xs us->xs[i]?=some x->∃u,us[i]?=some u/\RelV x u
 | _,_,_,_,.nil,e=>by simp at e
 | _,_,0,_,.cons r _,e=>by simp at e;subst e;exact⟨_,rfl,r⟩
 | _,_,i+1,x,.cons _ t,e=>by
   obtain⟨u,h1,h2⟩:=Vals.get (i:=i) (x:=x) t (by simpa using e)
   exact⟨u,by simpa using h1,h2⟩
def Vals.set{x:V}{u:Value}(r:RelV x u):∀{xs:List V} {us:List Value} (i:Nat),Vals xs us->Vals (xs.set i x) (us.set i u)
 | _,_,_,.nil=>.nil
 | _,_,0,.cons _ t=>.cons r t
 | _,_,i+1,.cons q t=>.cons q (Vals.set r i t)
def Vals.append:∀{xs ys:List V} {us ws:List Value},Vals xs us->Vals ys ws->Vals (xs++ys) (us++ws)
 | _,_,_,_,.nil,s=>s
 | _,_,_,_,.cons r t,s=>.cons r (Vals.append t s)
def Vals.take:∀{xs:List V} {us:List Value} (n:Nat),Vals xs us->Vals (xs.take n) (us.take n)
 | _,_,0,_=>.nil
 | _,_,_+1,.nil=>.nil
 | _,_,n+1,.cons r t=>.cons r (Vals.take n t)
def Vals.drop:∀{xs:List V} {us:List Value} (n:Nat),Vals xs us->Vals (xs.drop n) (us.drop n)
 | _,_,0,r=>r
 | _,_,_+1,.nil=>.nil
 | _,_,n+1,.cons _ t=>Vals.drop n t
def j8:Option V->Option Value->Prop
 | some v,some u=>RelV v u
 | none,none=>True
 | _,_=>False
def KV{κ:Type}:List (κ×V)->List (κ×Value)->Prop:=Paired λ(p:κ×V) (q:κ×Value)=>p.1=q.1/\RelV p.2 q.2
def kV:Key->V
 | .inl i=>.int i
 | .inr x=>.str x
inductive HO where
 | lst (xs:List V)
 | tup (xs:List V)
 | dK (kvs:List (Key×V)) | dT (kvs:List (List Key×V))
 | set (S:Int->Bool) (n:Nat)
 | ins (C dx:Addr) (fs:List (Str×V))
 | own (x:Addr)
 | xd (fs:List (Str×V))
 | met (f x:Addr)
 | C4 (lo hi:Int)
 | lF (o:Obj) (u:HO)
 | iL (ps:Array Value)
 | ext (φ:Heap->Prop)
abbrev Hp:=Addr->Option HO
def upd(H:Hp)(a:Addr)(o:HO):Hp:=λb=>if b=a then some o else H b
def af{H:Hp}{a:Addr}{o:HO}:upd H a o a=some o:=by unfold upd;rw[Z1 rfl]
def ae{H:Hp}{a b:Addr}{o:HO}(h:b≠a):upd H a o b=H b:=by unfold upd;rw[Z0 h]
def aE{H:Hp}{a b:Addr}{o u:HO}(h:H a=some o)(h' : H b=some u)(d:o≠u):a≠b:=by
 intro e;subst e;rw[h]at h';exact d (Option.some.inj h')
def aF{H:Hp}{a b:Addr}{o:HO}(h:H a=some o)(h' : H b=none):a≠b:=by
 intro e;subst e;rw[h]at h';cases h'
def IM(qs:Array Value):Str:=match (qs[0]?:Option Value) with | some (Value.str q _)=>q | _=>""
section
variable (P:Program)(w:World)
def bC(H:Hp)(h:Heap)(a:Addr):HO->Prop
 | .lst xs=>xs.length<=sizeLine/\∃(I:List Value) (n:Nat),Vals xs I/\h.get? a=some { cls:=.type "list",data:=.seq I.toArray n}
 | .tup xs=>xs.length<=sizeLine/\∃I:List Value,Vals xs I/\IsTup h a I.toArray
 | .dK kvs=>kvs.length<=sizeLine/\(a==sysModules)=false/\∃vs,KV kvs vs/\h.DictOf (b7 P w) a vs
 | .dT kvs=>kvs.length<=sizeLine/\(a==sysModules)=false/\∃xs:List (List Key×Addr×Value),
  Paired (λ(p:List Key×V) (q:List Key×Addr×Value)=>p.1=q.1/\H q.2.1=some (.tup (p.1.map kV))/\RelV p.2 q.2.2) kvs xs/\
  ∃o es ep,h.get? a=some o/\o.ExactDict/\o.data = .dict es ep/\es.toList=xs.map (entryOfKey (tupleKind (b7 P w)))/\(xs.map (·.1)).Nodup
 | .set S n=>h.SetOf (intKind P w) a S n
 | .ins C dx fs=>H dx=some (.own a)/\fs.length<=1000/\dx≠a/\h.get? a=some (PySem.W.instObj C dx)/\
  ∃mA,h.Ns1 dx mA/\(∀f,j8 (fs.lookup f) (mA f))/\PySem.Within mA (fs.map (·.1))
 | .own _=>∃o,h.get? a=some o
 | .xd fs=>∃mA,h.Ns1 a mA/\∀f,j8 (fs.lookup f) (mA f)
 | .C4 lo hi=>∃t u v,h.get? a=some { cls:=.type "range",data:=.fields #[.int lo t,.int hi u,.int 1 v]}
 | .lF o u=>h.get? a=some o/\bC H h a u
 | .iL qs=>∃ps:Array Value,h.get? a=some { cls:=.none,data:=.fields ps}/\((qs.size=3/\(ps = #[]\/∃c,ps = #[qs.getD 1 .none,qs.getD 2 .none,.ref c]/\H c=some (.own a)/\h.CodeRec (.ref c) (IM qs)))\/∃q l k,qs = #[q,l,k]++ps/\ps.size=3)
 | .met f x=>h.get? a=some (PySem.W.methodObj (.ref f) (.ref x))
 | .ext φ=>φ h/\(∃o,h.get? a=some o)/\∀h1 h2:Heap,φ h1->(∀o,h1.get? a=some o->h2.get? a=some o)->φ h2
def lG(H:Hp)(h:Heap):Prop:=∀a o,H a=some o->bC P w H h a o
end
section
variable {P:Program}{w:World}{H H' : Hp}{h h' : Heap}{a:Addr}{o:HO}
def bC.lt(x:bC P w H h a o):a<h.objs.size:=by
 cases o with
 | lst xs=>obtain⟨_,_,_,_,e⟩:=x;exact aab e
 | tup xs=>obtain⟨_,_,_,p⟩:=x;exact p.lt
 | dK kvs=>obtain⟨_,_,_,_,o,_,_,e,_⟩:=x;exact aab e
 | dT kvs=>obtain⟨_,_,_,_,o,_,_,e,_⟩:=x;exact aab e
 | set S n=>obtain⟨o,_,_,_,e,_⟩:=x;exact aab e
 | ins C dx fs=>obtain⟨_,_,_,e,_⟩:=x;exact aab e
 | own y=>obtain⟨_,e⟩:=x;exact aab e
 | xd fs=>obtain⟨_,⟨_,_,_,e,_⟩,_⟩:=x;exact aab e
 | C4 lo hi=>obtain⟨_,_,_,e⟩:=x;exact aab e
 | lF ob u=>obtain⟨e,_⟩:=x;exact aab e
 | iL ps=>obtain⟨_,e,_⟩:=x;exact aab e
 | met f y=>exact aab (show h.get? a=some _ from x)
 | ext φ=>obtain⟨_,⟨_,e⟩,_⟩:=x;exact aab e
def Paired.w4{α β:Type}{F G:α->β->Prop}:∀{I:List α} {O:List β},Paired F I O->(∀a b,F a b->G a b)->Paired G I O
 | _,_,.nil,_=>.nil
 | _,_,.cons r t,f=>.cons (f _ _ r) (Paired.w4 t f)
def Paired.imp'{α β:Type}{F G:α->β->Prop}(f:∀a b,F a b->G a b){l₁:List α}{l₂:List β}(r:Paired F l₁ l₂):Paired G l₁ l₂:=Paired.w4 r f
def bC.stay(x:bC P w H h a o)(k:∀b u,(b=a\/H b=some (.own a))->h.get? b=some u->h'.get? b=some u)
 (ho:∀b,H b=some (.own a)->H' b=some (.own a)) (ht:∀b xs,H b=some (.tup xs)->H' b=some (.tup xs)):bC P w H' h' a o:=by
 induction o with
 | lst xs=>obtain⟨z,I,n,r,e⟩:=x;exact⟨z,I,n,r,k _ _ (.inl rfl) e⟩
 | tup xs=>obtain⟨z,I,r,ob,e,c⟩:=x;exact⟨z,I,r,ob,k _ _ (.inl rfl) e,c⟩
 | dK kvs=>obtain⟨z,y,vs,r,ob,es,ep,e,c⟩:=x;exact⟨z,y,vs,r,ob,es,ep,k _ _ (.inl rfl) e,c⟩
 | dT kvs =>
   obtain⟨z,y,xs,r,ob,es,ep,e,c⟩:=x;exact⟨z,y,xs,Paired.w4 r λp q z=>⟨z.1,ht _ _ z.2.1,z.2.2⟩,ob,es,ep,k _ _ (.inl rfl) e,c⟩
 | set S n=>obtain⟨ob,es,ep,t,e,c⟩:=x;exact⟨ob,es,ep,t,k _ _ (.inl rfl) e,c⟩
 | ins C dx fs =>
   obtain⟨d,z,ne,e,mA,⟨od,es,ep,O,c⟩,r⟩:=x;exact⟨ho _ d,z,ne,k _ _ (.inl rfl) e,mA,⟨od,es,ep,k _ _ (.inr d) O,c⟩,r⟩
 | own y=>obtain⟨ob,e⟩:=x;exact⟨ob,k _ _ (.inl rfl) e⟩
 | xd fs=>obtain⟨mA,⟨od,es,ep,e,c⟩,r⟩:=x;exact⟨mA,⟨od,es,ep,k _ _ (.inl rfl) e,c⟩,r⟩
 | C4 lo hi=>obtain⟨t,u,v,e⟩:=x;exact⟨t,u,v,k _ _ (.inl rfl) e⟩
 | lF ob u ih=>obtain⟨e,q⟩:=x;exact⟨k _ _ (.inl rfl) e,ih q⟩
 | iL qs =>
   obtain⟨ps,e,f⟩:=x;refine⟨ps,k _ _ (.inl rfl) e,?_⟩;rcases f with⟨hz,f|⟨c,e1,O,c',oc,vs,tq,hc,ho',hd,hv⟩⟩|f
   ·exact .inl ⟨hz,.inl f⟩
   ·cases hc;exact .inl ⟨hz,.inr ⟨c,e1,ho _ O,c,oc,vs,tq,rfl,k _ _ (.inr O) ho',hd,hv⟩⟩
   ·exact .inr f
 | met f y =>
   have e:h.get? a=some (PySem.W.methodObj (.ref f) (.ref y)):=x;show h'.get? a=some (PySem.W.methodObj (.ref f) (.ref y));exact k a _ (.inl rfl) e
 | ext φ=>obtain⟨p,⟨o,e⟩,st⟩:=x;exact⟨st _ _ p λo q=>k _ _ (.inl rfl) q,⟨o,k _ _ (.inl rfl) e⟩,st⟩
def lG.lt(x:lG P w H h)(e:H a=some o):a<h.objs.size:=(x a o e).lt
def lG.fresh(x:lG P w H h)(e:h.objs.size<=a):H a=none:=by
 cases q:H a with
 | none=>rfl
 | some u=>exact absurd (aaf (x.lt q) e) (aa5 _)
def lG.kept(x:lG P w H h)(k:∀b u,h.get? b=some u->h'.get? b=some u):lG P w H h':=λa o e =>
 (x a o e).stay (λb u _ q=>k b u q) (λ_ q=>q) λ_ _ q=>q
def lG.laid(x:lG P w H h)(k:∀b u,h.get? b=some u->h'.get? b=some u)(hp:h.objs.size<=a)(new:bC P w (upd H a o) h' a o):lG P w (upd H a o) h':=λb u e=>by
 have hn:=x.fresh hp
 by_cases hb:b=a
 ·subst hb;rw[af]at e;cases e;exact new
 ·rw[ae hb]at e;exact(x b u e).stay (λc v _ q=>k c v q) (λc q=>by rw[ae (aF q hn)];exact q) λc xs q=>by rw[ae (aF q hn)];exact q
end
def Rd(H:Hp)(a:Addr)(u:HO):Prop:=H a=some u\/∃o,H a=some (.lF o u)
def Rd.ok{P:Program}{w:World}{H:Hp}{h:Heap}{a:Addr}{u:HO}(r:Rd H a u)(x:lG P w H h):bC P w H h a u:=by
 rcases r with r|⟨o,r⟩
 ·exact x a u r
 ·obtain⟨_,q⟩:=x a _ r;exact q
def N1:Option HO->Prop
 | some (.lst _)=>True
 | some (.dK _)=>True
 | some (.dT _)=>True
 | some (.set _ _)=>True
 | some (.ins _ _ _)=>True
 | some (.ext _)=>True
 | _=>False
section
variable {P:Program}{w:World}{H:Hp}{h h' : Heap}{x e:Addr}{o' : HO}
def lG.write(ok:lG P w H h)(mu:N1 (H x))(he:e=x\/H e=some (.own x))(k:∀b u,b≠e->h.get? b=some u->h'.get? b=some u)(Nn:∃u,h'.get? e=some u)
 (new:bC P w (upd H x o') h' x o'):lG P w (upd H x o') h':=λb u q=>by
 have O:∀c y,H c=some (.own y)->c≠x:=λc y r z=>by subst z;rw[r]at mu;exact mu
 have U:∀c xs,H c=some (.tup xs)->c≠x:=λc xs r z=>by subst z;rw[r]at mu;exact mu
 by_cases hb:b=x
 ·subst hb;rw[af]at q;cases q;exact new
 ·rw[ae hb]at q
  by_cases I:b=e
  ·have q' : H b=some (.own x):=by
    rcases he with z|z
    ·exact absurd (I.trans z) hb
    ·rw[I];exact z
   rw[q]at q';cases q';obtain⟨v,Y⟩:=Nn;exact⟨v,by rw[I];exact Y⟩
  ·refine(ok b u q).stay (λc v hc r=>k c v ?_ r) (λc r=>by rw[ae (O c b r)];exact r) λc xs r=>by rw[ae (U c xs r)];exact r
   rcases hc with rfl|hc
   ·exact I
   ·rintro rfl;rcases he with z|z
    ·exact O c b hc z
    ·rw[hc]at z;cases z;exact hb rfl
end
structure Un(fs ex:List Addr)(H H' : Hp)(h h' : Heap):Prop where
 keep:∀b o,h.get? b=some o->H b=none->b∉fs->b∉ex->h'.get? b=some o
 slot:∀b o,h.get? b=some o->H b=none->b∈fs->b∉ex->∃sl,h'.get? b=some { o with slots:=sl}
 free:∀b o,h.get? b=some o->H b=none->b∉ex->H' b=none
 there:∀b o,h.get? b=some o->b∉ex->∃o',h'.get? b=some o'
 tups:∀b xs,H b=some (.tup xs)->H' b=some (.tup xs)
 kG:∀b o u,H b=some (.lF o u)->H' b=some (.lF o u)
 lH:∀b ps,H b=some (.iL ps)->∃more,H' b=some (.iL (ps++more))
section
variable {fs fs' ex ex' : List Addr}{H H1 H2:Hp}{h h1 h2 h' : Heap}{a x e:Addr}{o:HO}
def Un.any(u:Un fs ex H H1 h h1){b:Addr}{ob:Obj}(q:h.get? b=some ob)(n:H b=none)(hx:b∉ex):∃sl,h1.get? b=some { ob with slots:=sl}:=by
 by_cases hb:b∈fs
 ·exact u.slot b ob q n hb hx
 ·exact⟨ob.slots,u.keep b ob q n hb hx⟩
def Un.kept(k:∀b u,h.get? b=some u->h'.get? b=some u):Un fs ex H H h h' :=
 ⟨λb ob q _ _ _=>k b ob q,λb ob q _ _ _=>⟨ob.slots,k b ob q⟩,λ_ _ _ n _=>n,λb ob q _=>⟨ob,k b ob q⟩,λ_ _ q=>q,λ_ _ _ q=>q,λ_ ps q=>⟨#[],by rw[q];simp⟩⟩
def Un.refl:Un fs ex H H h h:=Un.kept λ_ _ q=>q
def Un.laid(k:∀b u,h.get? b=some u->h'.get? b=some u)(hp:h.objs.size<=a)(hn:H a=none):Un fs ex H (upd H a o) h h' where
 keep:=λb u q _ _ _=>k b u q
 slot:=λb u q _ _ _=>⟨u.slots,k b u q⟩
 free:=λb u q n _=>by rw[ae (aak (aaf (aab q) hp))];exact n
 there:=λb u q _=>⟨u,k b u q⟩
 tups:=λb xs q=>by rw[ae (aF q hn)];exact q
 kG:=λb u xs q=>by rw[ae (aF q hn)];exact q
 lH:=λb ps q=>⟨#[],by rw[ae (aF q hn),q];simp⟩
def Un.write(mu:N1 (H x))(he:e=x\/H e=some (.own x))(k:∀b u,b≠e->h.get? b=some u->h'.get? b=some u)(Nn:∃u,h'.get? e=some u):Un fs ex H (upd H x o) h h':=by
 have hx:∀b,H b=none->b≠x:=λb n z=>by subst z;rw[n]at mu;exact mu
 have hb:∀b,H b=none->b≠e:=λb n z=>by
  subst z;rcases he with r|r
  ·exact hx b n r
  ·rw[n]at r;cases r
 have hm:∀b u,H b=some u->¬ N1 (some u)->b≠x:=λb u q nm z=>by subst z;rw[q]at mu;exact nm mu
 refine⟨λb u q n _ _=>k b u (hb b n) q,λb u q n _ _=>⟨u.slots,k b u (hb b n) q⟩,λb u q n _=>by rw[ae (hx b n)];exact n,λb u q _=>?_,
  λb xs q=>by rw[ae (hm b _ q λz=>z)];exact q,λb u xs q=>by rw[ae (hm b _ q λz=>z)];exact q,λb ps q=>⟨#[],by rw[ae (hm b _ q λz=>z),q];simp⟩⟩
 by_cases I:b=e
 ·subst I;exact Nn
 ·exact⟨u,k b u I q⟩
end
def Np(h:Heap)(H:Hp):List Addr:=(List.range h.objs.size).filter λa=>(H a).isSome
def yx(h:Heap)(H:Hp):Heap:=PySem.W.hideAll h (Np h H)
def C5(h:Heap)(H:Hp):(yx h H).objs.size=h.objs.size:=PySem.W.hideAll_size _ _
def sD{h:Heap}{H:Hp}{b:Addr}{o:Obj}(e:h.get? b=some o)(n:H b=none):(yx h H).get? b=some o :=
 PySem.W.hideAll_get _ e λhm=>by
  have q:(H b).isSome=true:=(aao.mp hm).2;rw[n]at q;simp at q
def IP{h:Heap}{H:Hp}{b:Addr}{o:Obj}(e:(yx h H).get? b=some o):h.get? b=some o/\H b=none:=by
 have e' : h.get? b=some o:=PySem.W.of_hideAll (Np h H) e;refine⟨e',?_⟩;cases q:H b with
 | none=>rfl
 | some x =>
   have hm:b∈Np h H:=aao.mpr ⟨aan.mpr (aab e'),by simp[q]⟩
   have z:(yx h H).get? b=none:=PySem.W.hideAll_none (Np h H) hm;rw[z]at e;cases e
structure Mod(K:bH)(mg:lE)(base:Heap):Prop where
 Nq:K.In base
 glob:base.Ns mainGlobals mg
 blt:∃mb,base.Ns builtinsNs mb/\∀x:Str,x≠"__name__"->mb x=bootBuiltins x
 nolimit:base.NoLimit
 bmain:∃bm ob,mg "__builtins__"=some (.ref bm)/\bm≠builtinsNs/\base.get? bm=some ob/\ob.cls = .type "module"/\ob.dict=some builtinsNs/\ob.data = .plain
structure Cx where
 prog:Program
 w:World
 K:bH
 mg:Str->Option Value
 base:Heap
 A:Around
 N:List Str
 s₀:Shared
 H₀:Hp
 env:Env
 outer:List Env
 stack:List Env
 ex:List Addr
 fn:Str->Bool
 calm:Bool
 pn:aS
 xe:Value->Shared->Prop
def frs(l:List Env):List Addr:=l.filterMap (·.frame)
abbrev Cx.fs(X:Cx):List Addr:=frs X.outer
def Qt(sc:Scope)(x:Str):Prop:=sc.names.lookup x=some .local\/sc.names.lookup x=some .cell\/sc.names.lookup x=some .free
def Loc(sc:Scope)(x:Str):Prop:=sc.names.lookup x=some .local\/sc.names.lookup x=some .cell
def Look(env:Env)(h:Heap)(m:lE)(x:Str)(u:Value):Prop :=
 (env.kindOf x=some .local/\m x=some u)\/((env.kindOf x=some .cell\/env.kindOf x=some .free)/\∃c,env.cells.lookup x=some c/\h.IsCell c (some u))
structure Cx.Ok(X:Cx):Prop where
 mod:Mod X.K X.mg X.base
 kind:X.env.scope.kind = .function
 glob:X.env.globals=mainGlobals
 blt:X.env.builtins=builtinsNs
 above:X.s₀.heap.objs.size<=X.env.locals
 inj:∀x y c,X.env.cells.lookup x=some c->X.env.cells.lookup y=some c->x=y
 has:∀x,(X.env.kindOf x=some .cell\/X.env.kindOf x=some .free)->∃c,X.env.cells.lookup x=some c
 Nr:∀x c,X.fn x=true->X.env.cells.lookup x=some c->X.s₀.heap.objs.size<=c
 hd:X.calm=true->X.A.handled=none
 frames:X.A.frames=some X.stack
 ID:X.stack=X.outer\/(X.stack=X.env::X.outer/\X.env.frame=some X.env.locals)
 Rq:∀b∈X.ex,b≠X.env.locals/\∀x c,X.env.cells.lookup x=some c->c≠b
 bs:∀b o,X.base.get? b=some o->X.s₀.heap.get? b=some o/\X.H₀ b=none
 IE:X.base.objs.size<=X.s₀.heap.objs.size
 C6:∀b o,X.base.get? b=some o->b∉X.ex
 Fb:∀b∈X.ex,b∉X.fs
 funs:X.s₀.heap.FunFrames X.base X.outer
 IQ:∀b∈X.fs,X.H₀ b=none
structure Inv(X:Cx)(pq:aS)(σ:List (Option V))(H:Hp)(s:Shared):Prop where
 ok:X.Ok
 os:s.os=X.s₀.os
 bare:AllBare s.gens
 base:Un X.fs X.ex X.H₀ H X.s₀.heap s.heap
 loc:∃m,s.heap.Ns X.env.locals m/\∀(i:Nat) (x:Str) (v:V),X.N[i]?=some x->σ[i]?=some (some v)->Qt X.env.scope x->∃u,RelV v u/\Look X.env s.heap m x u
 cell:∀x c,X.env.cells.lookup x=some c->∃v,s.heap.IsCell c v
 free:H X.env.locals=none
 eF:∀x c,X.env.cells.lookup x=some c->H c=none
 pin:∀p∈X.pn++pq,s.heap.get? p.1=some p.2/\H p.1=none/\p.1≠X.env.locals/\p.1∉X.fs/\∀v,p.2.data≠.cell v
 hok:lG X.prog X.w H s.heap
 len:σ.length=X.N.length
section
variable {X:Cx}{pq:aS}{σ:List (Option V)}{H H' : Hp}{s:Shared}{h' : Heap}
def Cx.Ok.Rr(ok:X.Ok){b:Addr}{o:Obj}(e:X.base.get? b=some o):b∉X.fs:=λhb=>by
 have:=(ok.funs.mem hb).1;rw[e]at this;cases this
def Inv.bs(I:Inv X pq σ H s):∀b o,X.base.get? b=some o->s.heap.get? b=some o/\H b=none:=λb o e =>
 ⟨I.base.keep b o (I.ok.bs b o e).1 (I.ok.bs b o e).2 (I.ok.Rr e) (I.ok.C6 b o e),I.base.free b o (I.ok.bs b o e).1 (I.ok.bs b o e).2 (I.ok.C6 b o e)⟩
def Inv.bk(I:Inv X pq σ H s):∀b o,X.base.get? b=some o->s.heap.get? b=some o:=λb o e=>(I.bs b o e).1
def Inv.mod(I:Inv X pq σ H s):Mod X.K X.mg X.base:=I.ok.mod
def Inv.AD(I:Inv X pq σ H s):X.K.In s.heap:=I.ok.mod.Nq.keeps I.bk
def Inv.nolimit(I:Inv X pq σ H s):s.heap.NoLimit:=I.ok.mod.nolimit.keeps I.bk
def Inv.lt(I:Inv X pq σ H s):X.env.locals<s.heap.objs.size:=let⟨_,hn,_⟩:=I.loc;hn.lt
def Inv.sz(I:Inv X pq σ H s):X.s₀.heap.objs.size<=s.heap.objs.size:=aat I.ok.above (aaZ I.lt)
def Inv.N3(I:Inv X pq σ H s){a:Addr}(h:s.heap.objs.size<=a):a∉X.fs:=λhb=>by
 obtain⟨_,o,O,_⟩:=I.ok.funs.mem hb;exact absurd (aaf (aab O) (aat I.sz h)) (aa5 _)
def Inv.LA(I:Inv X pq σ H s):∀x c,X.env.cells.lookup x=some c->c≠X.env.locals:=λx c e z=>by
 obtain⟨v,o,O,hd⟩:=I.cell x c e;obtain⟨m,⟨o',es,ep,ho',hd',_⟩,_⟩:=I.loc;rw[z,ho']at O;cases O;rw[hd']at hd;cases hd
def Inv.funs(I:Inv X pq σ H s):s.heap.FunFrames X.base X.outer:=by
 have all:∀(l:List Env),(∀b∈frs l,b∈X.fs)->X.s₀.heap.FunFrames X.base l->s.heap.FunFrames X.base l:=by
  intro l
  induction l with
  | nil=>intro _ _;trivial
  | cons env r U =>
    intro hs Y;obtain⟨hk,⟨L,o,hf,hn,Z,hd⟩,hr⟩:=Y;have O:L∈X.fs:=hs L (by unfold frs;rw[acL,hf];exact aad)
    obtain⟨sl,e⟩:=I.base.slot L o Z (I.ok.IQ L O) O λz=>I.ok.Fb L z O
    exact⟨hk,⟨L,_,hf,hn,e,hd⟩,U (λb hb=>hs b (by unfold frs;rw[acL,hf];exact m9 _ hb)) hr⟩
 exact all X.outer (λ_ hb=>hb) I.ok.funs
def Inv.stack(I:Inv X pq σ H s):s.heap.FunFrames X.base X.stack:=by
 rcases I.ok.ID with e|⟨e,hf⟩
 ·rw[e];exact I.funs
 ·rw[e];obtain⟨m,hn,_⟩:=I.loc;refine .cons (by rw[I.ok.kind];decide) hf hn ?_ I.funs
  exact Heap.get?_none_of_le (aat I.ok.IE I.ok.above)
def Inv.sE(I:Inv X pq σ H s):∀b∈frs X.stack,b∈X.env.locals::X.fs:=λb hb=>by
 rcases I.ok.ID with e|⟨e,hf⟩
 ·rw[e]at hb;exact m9 _ hb
 ·rw[e]at hb;unfold frs at hb;rw[acL,hf]at hb;exact hb
def Inv.w5(I:Inv X pq σ H s):∀b∈frs X.stack,H b=none:=λb hb=>by
 rcases aaa.mp (I.sE b hb) with e|hb
 ·rw[e];exact I.free
 ·obtain⟨_,o,O,_⟩:=I.ok.funs.mem hb;exact I.base.free b o O (I.ok.IQ b hb) λz=>I.ok.Fb b z hb
def Inv.step{g' : Array GenState}{t' : Nat}{d' : Drawn}{ch:List Addr}(I:Inv X pq σ H s)
 (hch:∀b∈ch,(b∈X.ex\/X.s₀.heap.objs.size<=b)/\b≠X.env.locals/\(∀x c,X.env.cells.lookup x=some c->c≠b)/\∀p∈X.pn++pq,p.1≠b)
 (keep:∀b o,b≠X.env.locals->b∉X.fs->b∉ch->s.heap.get? b=some o->H b=none->h'.get? b=some o)
 (slot:∀b o,b≠X.env.locals->b∈X.fs->b∉ch->s.heap.get? b=some o->H b=none->∃sl,h'.get? b=some { o with slots:=sl}) (free:∀b o,b∉ch->s.heap.get? b=some o->H b=none->H' b=none)
 (there:∀b o,b∉ch->s.heap.get? b=some o->∃o',h'.get? b=some o')
 (tups:∀b xs,H b=some (.tup xs)->H' b=some (.tup xs)) (kG:∀b o u,H b=some (.lF o u)->H' b=some (.lF o u)) (lH:∀b ps,H b=some (.iL ps)->∃more,H' b=some (.iL (ps++more)))
 (ns:∀m,s.heap.Ns X.env.locals m->h'.Ns X.env.locals m) (hok:lG X.prog X.w H' h') (hg:AllBare g') :
 Inv X pq σ H' { s with heap:=h',gens:=g',drawn:=d',toks:=t'}:=by
 have TU:∀b o,X.s₀.heap.get? b=some o->b≠X.env.locals:=λb o e=>aak (aaf (aab e) I.ok.above)
 have Qu:∀b o,X.s₀.heap.get? b=some o->b∉X.ex->b∉ch:=λb o e hx hb=>by
  rcases(hch b hb).1 with z|z
  ·exact hx z
  ·exact absurd (aaf (aab e) z) (aa5 _)
 have cellK:∀x c,X.env.cells.lookup x=some c->∀v,s.heap.IsCell c v->h'.IsCell c v:=λx c e v ⟨o,U,hd⟩=>by
  have Y:c∉ch:=λz=>(hch c z).2.2.1 x c e rfl
  by_cases hc:c∈X.fs
  ·obtain⟨sl,q⟩:=slot c o (I.LA x c e) hc Y U (I.eF x c e);exact⟨_,q,hd⟩
  ·exact⟨o,keep c o (I.LA x c e) hc Y U (I.eF x c e),hd⟩
 refine⟨I.ok,I.os,hg,⟨λb o e n hb hx=>?_,λb o e n hb hx=>?_,λb o e n hx=>?_,λb o e hx=>?_,λb xs e=>tups b xs (I.base.tups b xs e),λb o xs e=>kG b o xs (I.base.kG b o xs e),λb ps e=>?_⟩,?_,λx c e=>?_,?_,λx c e=>?_,λp hp=>?_,hok,I.len⟩
 ·exact keep b o (TU b o e) hb (Qu b o e hx) (I.base.keep b o e n hb hx) (I.base.free b o e n hx)
 ·obtain⟨sl,O⟩:=I.base.slot b o e n hb hx;obtain⟨Qv,Z⟩:=slot b _ (TU b o e) hb (Qu b o e hx) O (I.base.free b o e n hx);exact⟨Qv,Z⟩
 ·obtain⟨o',O⟩:=I.base.there b o e hx;exact free b o' (Qu b o e hx) O (I.base.free b o e n hx)
 ·obtain⟨o',O⟩:=I.base.there b o e hx;exact there b o' (Qu b o e hx) O
 ·obtain⟨m1,O⟩:=I.base.lH b ps e;obtain⟨m2,Z⟩:=lH b _ O;exact⟨m1++m2,by rw[Z,Array.append_assoc]⟩
 ·obtain⟨m,hn,hl⟩:=I.loc;refine⟨m,ns m hn,λi x v O Z e3=>?_⟩
  obtain⟨u,r,l⟩:=hl i x v O Z e3;refine⟨u,r,?_⟩;rcases l with l|⟨k,c,e,z⟩
  ·exact .inl l
  ·exact .inr ⟨k,c,e,cellK x c e _ z⟩
 ·obtain⟨v,z⟩:=I.cell x c e;exact⟨v,cellK x c e v z⟩
 ·obtain⟨m,⟨o,_,_,U,_⟩,_⟩:=I.loc;exact free _ o (λz=>(hch _ z).2.1 rfl) U I.free
 ·obtain⟨v,o,U,hd⟩:=I.cell x c e;exact free c o (λz=>(hch c z).2.2.1 x c e rfl) U (I.eF x c e)
 ·obtain⟨e,n,ne,nf,d⟩:=I.pin p hp;have Y:p.1∉ch:=λz=>(hch p.1 z).2.2.2 p hp rfl
  exact⟨keep p.1 p.2 ne nf Y e n,free p.1 p.2 Y e n,ne,nf,d⟩
def Inv.un{t' : Nat}(I:Inv X pq σ H s)(u:Un X.fs [] H H' s.heap h')(hok:lG X.prog X.w H' h'):Inv X pq σ H' { s with heap:=h',toks:=t'}:=by
 obtain⟨m,⟨o,es,ep,Y,r⟩,_⟩:=id I.loc;obtain⟨sl,hL⟩:=u.any Y I.free (by simp)
 exact I.step (g':=s.gens) (d':=s.drawn) (ch:=[]) (λ_ z=>nomatch z) (λb o _ hb _ e n=>u.keep b o e n hb (by simp)) (λb o _ hb _ e n=>u.slot b o e n hb (by simp)) (λb o _ e n=>u.free b o e n (by simp)) (λb o _ e=>u.there b o e (by simp)) u.tups u.kG u.lH (λm' hm=>by
  obtain⟨o',U,Z,O,r'⟩:=hm;rw[Y]at O;cases O;exact⟨_,U,Z,hL,r'⟩) hok I.bare
def Inv.call{g' : Array GenState}{t' : Nat}{d' : Drawn}{ch:List Addr}(I:Inv X pq σ H s)(u:Un (frs X.stack) ch H H' s.heap h')(hok:lG X.prog X.w H' h')(hg:AllBare g')
 (hch:∀b∈ch,(b∈X.ex\/X.s₀.heap.objs.size<=b)/\b≠X.env.locals/\(∀x c,X.env.cells.lookup x=some c->c≠b)/\∀p∈X.pn++pq,p.1≠b) :
 Inv X pq σ H' { s with heap:=h',gens:=g',drawn:=d',toks:=t'}:=by
 obtain⟨m,⟨o,es,ep,Z,r⟩,_⟩:=id I.loc;obtain⟨sl,U⟩:=u.any Z I.free λz=>(hch _ z).2.1 rfl
 exact I.step (ch:=ch) hch (λb o U hb hc e n=>u.keep b o e n (λz=>(aaa.mp (I.sE b z)).elim U hb) hc) (λb o _ _ hc e n=>u.any e n hc) (λb o hc e n=>u.free b o e n hc) (λb o hc e=>u.there b o e hc) u.tups u.kG u.lH (λm' hm=>by
  obtain⟨o',Y,C7,O,r'⟩:=hm;rw[Z]at O;cases O;exact⟨_,Y,C7,U,r'⟩) hok hg
def Inv.turned{t' : Nat}{it:Addr}(I:Inv X pq σ H s)(k:∀b o,b≠it->s.heap.get? b=some o->h'.get? b=some o)(hn:H it=none)(hL:it≠X.env.locals)
 (h1:it∈X.ex\/X.s₀.heap.objs.size<=it) (h2:∀x c,X.env.cells.lookup x=some c->c≠it) (h3:∀p∈X.pn++pq,p.1≠it):Inv X pq σ H { s with heap:=h',toks:=t'}:=by
 have O:∀b u,H b=some u->b≠it:=λb u e z=>by rw[z,hn]at e;cases e
 refine I.step (g':=s.gens) (d':=s.drawn) (ch:=[it]) (λb hb=>?_) (λb o _ _ hc e _=>k b o (λz=>hc (by simp[z])) e) (λb o _ _ hc e _=>⟨o.slots,k b o (λz=>hc (by simp[z])) e⟩) (λ_ _ _ _ n=>n)
  (λb o hc e=>⟨o,k b o (λz=>hc (by simp[z])) e⟩) (λ_ _ e=>e) (λ_ _ _ e=>e) (λb ps e=>⟨#[],by rw[e];simp⟩) (λm hm=>?_) (λb u e=>?_) I.bare
 ·have e:b=it:=by simpa using hb
  subst e;exact⟨h1,hL,h2,h3⟩
 ·obtain⟨o,es,ep,U,r⟩:=hm;exact⟨o,es,ep,k _ o (aaq hL) U,r⟩
 ·refine(I.hok b u e).stay (λc v hc q=>k c v ?_ q) (λ_ q=>q) λ_ _ q=>q
  rcases hc with z|z
  ·rw[z];exact O b u e
  ·exact O c _ z
def Inv.tok(I:Inv X pq σ H s)(t:Nat):Inv X pq σ H { s with toks:=t}:=I.un (h':=s.heap) (t':=t) Un.refl I.hok
def Inv.kept{t' : Nat}(I:Inv X pq σ H s)(k:∀b u,s.heap.get? b=some u->h'.get? b=some u):Inv X pq σ H { s with heap:=h',toks:=t'}:=I.un (Un.kept k) (I.hok.kept k)
def Inv.laid{a:Addr}{o:HO}{t' : Nat}(I:Inv X pq σ H s)(k:∀b u,s.heap.get? b=some u->h'.get? b=some u)(hp:s.heap.objs.size<=a)(new:bC X.prog X.w (upd H a o) h' a o):
 Inv X pq σ (upd H a o) { s with heap:=h',toks:=t'}:=I.un (Un.laid k hp (I.hok.fresh hp)) (I.hok.laid k hp new)
def Inv.write{x e:Addr}{o:HO}{t' : Nat}(I:Inv X pq σ H s)(mu:N1 (H x))(he:e=x\/H e=some (.own x))(k:∀b u,b≠e->s.heap.get? b=some u->h'.get? b=some u)(Nn:∃u,h'.get? e=some u)
 (new:bC X.prog X.w (upd H x o) h' x o):Inv X pq σ (upd H x o) { s with heap:=h',toks:=t'}:=I.un (Un.write mu he k Nn) (I.hok.write mu he k Nn new)
def Inv.weak{σ' : List (Option V)}(I:Inv X pq σ H s)(hl:σ'.length=σ.length)(w:∀(i:Nat) v,σ'[i]?=some (some v)->σ[i]?=some (some v)):Inv X pq σ' H s :=
 ⟨I.ok,I.os,I.bare,I.base,let⟨m,hn,hl'⟩:=I.loc;⟨m,hn,λi x v O U Y=>hl' i x v O (w i v U) Y⟩,I.cell,I.free,I.eF,I.pin,I.hok,hl.trans I.len⟩
def Inv.fH{LC:aS}(I:Inv X pq σ H s)(h:∀p∈LC,s.heap.get? p.1=some p.2/\H p.1=none/\p.1≠X.env.locals/\p.1∉X.fs/\∀v,p.2.data≠.cell v):Inv X LC σ H s :=
 ⟨I.ok,I.os,I.bare,I.base,I.loc,I.cell,I.free,I.eF,λp O=>(aau.mp O).elim (λz=>I.pin p (acE _ z)) (h p),I.hok,I.len⟩
def yy{N:List Str}(hN:N.Nodup){i j:Nat}{x:Str}(a:N[i]?=some x)(b:N[j]?=some x):i=j:=by
 obtain⟨h1,I⟩:=ju.mp a;obtain⟨h2,e2⟩:=ju.mp b;exact(acp hN).mp (I.trans e2.symm)
def C8{M:Model}{A:Around}{E:cP}{i:Nat}{x:Str}{v:V}{u:Value}{Q:Unit->Shared->Prop}(I:Inv X pq σ H s)(hN:X.N.Nodup)(hi:X.N[i]?=some x)(hx:Loc X.env.scope x)(r:RelV v u)
 (h:∀s',Inv X pq (σ.set i (some v)) H s'->(∃a,Heap.SameBut a s.heap s'.heap/\(a=X.env.locals\/X.env.cells.lookup x=some a))->Q () s') (hf:X.fn x=true\/X.env.scope.names.lookup x=some .local:=by first | exact .inl rfl | exact .inr rfl | assumption):wpAny M A (storeName X.env x u) Q E s:=by
 obtain⟨m,hn,hl⟩:=id I.loc;have ab:(X.env.scope.kind == .class || (X.env.scope.kind == .module&&X.env.locals != X.env.globals))=false:=by rw[I.ok.kind];rfl
 have TX:i<σ.length:=by rw[I.len];exact(ju.mp hi).1
 have LA:=I.LA;have tracked:∀{a:Addr} {h' : Heap},(∃o,s.heap.get? a=some o/\H a=none)->Heap.SameBut a s.heap h'->lG X.prog X.w H h':=λ{a h'} ha hs b ob e=>by
  obtain⟨_,_,U⟩:=ha;refine(I.hok b ob e).stay (λc w' hc q=>(hs.2 c ?_).trans q) (λ_ q=>q) λ_ _ q=>q
  rintro rfl;rcases hc with rfl|hc
  ·rw[U]at e;cases e
  ·rw[U]at hc;cases hc
 rcases hx with hk|hk
 ·refine wpAny_storeName_local hk hn (λh' ax hs=>?_) ab
  obtain⟨oL,_,_,C9,_⟩:=id hn;refine h _ ⟨I.ok,I.os,I.bare,⟨λb o e n hb hx=>?_,λb o e n hb hx=>?_,I.base.free,λb o e hx=>?_,I.base.tups,I.base.kG,I.base.lH⟩,⟨_,ax,λj y v' O Y e3=>?_⟩,λy c e=>?_,I.free,I.eF,λp hp=>?_,tracked ⟨oL,C9,I.free⟩ hs,by simpa using I.len⟩ ⟨_,hs,.inl rfl⟩
  ·exact(hs.2 b (aak (aaf (aab e) I.ok.above))).trans (I.base.keep b o e n hb hx)
  ·obtain⟨sl,O⟩:=I.base.slot b o e n hb hx;exact⟨sl,(hs.2 b (aak (aaf (aab e) I.ok.above))).trans O⟩
  ·obtain⟨o',O⟩:=I.base.there b o e hx;exact⟨o',(hs.2 b (aak (aaf (aab e) I.ok.above))).trans O⟩
  ·by_cases hj:j=i
   ·subst hj;rw[hi]at O;cases O;rw[List.getElem?_set_self TX]at Y;cases Y;exact⟨u,r,.inl ⟨hk,by simp⟩⟩
   ·rw[List.getElem?_set_ne (aaq hj)]at Y;obtain⟨u',r',q⟩:=hl j y v' O Y e3;refine⟨u',r',?_⟩;rcases q with⟨k,e⟩|⟨k,c,e,z⟩
    ·refine .inl ⟨k,?_⟩;have:y≠x:=λe=>hj (yy hN O (e▸hi))
     simp[this,e]
    ·exact .inr ⟨k,c,e,z.sameBut hs (LA y c e)⟩
  ·obtain⟨w',z⟩:=I.cell y c e;exact⟨w',z.sameBut hs (LA y c e)⟩
  ·obtain⟨e,n,ne,nf,d⟩:=I.pin p hp;exact⟨(hs.2 p.1 ne).trans e,n,ne,nf,d⟩
 ·have Z:X.fn x=true:=by
   rcases hf with z|z
   ·exact z
   ·rw[z]at hk;cases hk
  obtain⟨c,hc⟩:=I.ok.has x (.inl hk);obtain⟨w',z⟩:=I.cell x c hc;refine wpAny_storeName_cell I.ok.kind hk hc z (λh' ag hs=>?_)
  obtain⟨oc,ar,Rt⟩:=id z;refine h { s with heap:=h'} ⟨I.ok,I.os,I.bare,⟨λb o e n hb hx=>?_,λb o e n hb hx=>?_,I.base.free,λb o e hx=>?_,I.base.tups,I.base.kG,I.base.lH⟩,⟨m,hn.sameBut hs (aaq (LA x c hc)),λj y v' O Y e3=>?_⟩,λy c' e=>?_,I.free,I.eF,λp hp=>?_,tracked ⟨oc,ar,I.eF x c hc⟩ hs,by simpa using I.len⟩ ⟨c,hs,.inr hc⟩
  ·exact(hs.2 b (aak (aaf (aab e) (I.ok.Nr x c Z hc)))).trans (I.base.keep b o e n hb hx)
  ·obtain⟨sl,O⟩:=I.base.slot b o e n hb hx;exact⟨sl,(hs.2 b (aak (aaf (aab e) (I.ok.Nr x c Z hc)))).trans O⟩
  ·obtain⟨o',O⟩:=I.base.there b o e hx;exact⟨o',(hs.2 b (aak (aaf (aab e) (I.ok.Nr x c Z hc)))).trans O⟩
  ·by_cases hj:j=i
   ·subst hj;rw[hi]at O;cases O;rw[List.getElem?_set_self TX]at Y;cases Y;exact⟨u,r,.inr ⟨.inl hk,c,hc,ag⟩⟩
   ·rw[List.getElem?_set_ne (aaq hj)]at Y;obtain⟨u',r',q⟩:=hl j y v' O Y e3;refine⟨u',r',?_⟩;rcases q with q|⟨k,c',e,z'⟩
    ·exact .inl q
    ·refine .inr ⟨k,c',e,z'.sameBut hs ?_⟩;rintro rfl;exact hj (yy hN O (I.ok.inj _ _ _ e hc▸hi))
  ·by_cases aw:c' = c
   ·subst aw;exact⟨_,ag⟩
   ·obtain⟨w2,z2⟩:=I.cell y c' e;exact⟨w2,z2.sameBut hs aw⟩
  ·obtain⟨e,n,ne,nf,d⟩:=I.pin p hp;refine⟨(hs.2 p.1 ?_).trans e,n,ne,nf,d⟩;intro q;rw[q,ar]at e;have q' : oc=p.2:=Option.some.inj e;exact d w' (by rw[<-q'];exact Rt)
def nU{M:Model}{A:Around}{E:cP}{i:Nat}{x:Str}{v:V}{u:Value}{Q:Unit->Shared->Prop}(I:Inv X pq σ H s)(hN:X.N.Nodup)(hi:X.N[i]?=some x)(hx:Loc X.env.scope x)(r:RelV v u)
 (h:∀s',Inv X pq (σ.set i (some v)) H s'->Q () s') (hf:X.fn x=true\/X.env.scope.names.lookup x=some .local:=by first | exact .inl rfl | exact .inr rfl | assumption):wpAny M A (storeName X.env x u) Q E s :=
 C8 I hN hi hx r (λs' O _=>h s' O) hf
def Inv.Fc{s' : Shared}{ch:List Addr}(I:Inv X pq σ H s)(ho:s'.os=s.os)(u:Un (frs X.stack) ch H H' s.heap s'.heap)(hok:lG X.prog X.w H' s'.heap)(hg:AllBare s'.gens)
 (hch:∀b∈ch,(b∈X.ex\/X.s₀.heap.objs.size<=b)/\b≠X.env.locals/\(∀x c,X.env.cells.lookup x=some c->c≠b)/\∀p∈X.pn++pq,p.1≠b):Inv X pq σ H' s':=by
 obtain⟨h',g',d',t',o'⟩:=s';have e:o' = s.os:=ho;subst e;exact I.call (g':=g') (t':=t') (d':=d') u hok hg hch
end
abbrev XK:=Value->Option Addr->Hp->Prop
abbrev St:=List (Option V)
abbrev VK:=V->Hp->Prop
abbrev TE:=St->Hp->VK->Prop
abbrev TT:=St->Hp->(Bool->Hp->Prop)->Prop
abbrev TA:=St->Hp->(List V->Hp->Prop)->Prop
structure Ends where
 nx:St->Hp->Prop
 rt:VK
 bk:St->Hp->Prop:=λ_ _=>False
 ct:St->Hp->Prop:=λ_ _=>False
abbrev TS:=Ends->St->Hp->Prop
def EP(X:Cx)(pq:aS)(σ:St)(Q:VK)(u:Value)(s' : Shared):Prop:=∃v H',Inv X pq σ H' s'/\RelV v u/\Q v H'
def TP(X:Cx)(pq:aS)(σ:St)(Q:Bool->Hp->Prop)(b:Bool)(s' : Shared):Prop:=∃H',Inv X pq σ H' s'/\Q b H'
def AP(X:Cx)(pq:aS)(σ:St)(Q:List V->Hp->Prop)(us:List Value)(s' : Shared):Prop:=∃vs H',Inv X pq σ H' s'/\Vals vs us/\Q vs H'
def SP(X:Cx)(pq:aS)(D:Ends)(f:Flow)(s' : Shared):Prop :=
 match f with
 | .next=>∃σ' H',Inv X pq σ' H' s'/\D.nx σ' H'
 | .brk=>∃σ' H',Inv X pq σ' H' s'/\D.bk σ' H'
 | .cont=>∃σ' H',Inv X pq σ' H' s'/\D.ct σ' H'
 | .ret u=>∃v σ' H',Inv X pq σ' H' s'/\RelV v u/\D.rt v H'
def PE(X:Cx)(e:Expr)(t:TE):Prop :=
 ∀(pq:aS) (s:Shared) (σ:St) (H:Hp) (Q:VK),Inv X pq σ H s->t σ H Q->wpAny (model X.prog X.w) X.A (eval e X.env) (EP X pq σ Q) X.xe s
def PT(X:Cx)(e:Expr)(t:TT):Prop :=
 ∀(pq:aS) (s:Shared) (σ:St) (H:Hp) (Q:Bool->Hp->Prop),Inv X pq σ H s->t σ H Q->wpAny (model X.prog X.w) X.A (isTrue e X.env (eval e X.env)) (TP X pq σ Q) X.xe s
def PW(X:Cx)(e:Expr)(t:TT):Prop :=
 ∀(whole:Sem Value) (pq:aS) (s:Shared) (σ:St) (H:Hp) (Q:Bool->Hp->Prop),Inv X pq σ H s->t σ H Q->wpAny (model X.prog X.w) X.A (isTrue e X.env whole) (TP X pq σ Q) X.xe s
def PW.pt{X:Cx}{e:Expr}{t:TT}(h:PW X e t):PT X e t:=h _
def PA(X:Cx)(es:List Expr)(t:TA):Prop :=
 ∀(pos:Pos) (pq:aS) (s:Shared) (σ:St) (H:Hp) (Q:List V->Hp->Prop),Inv X pq σ H s->t σ H Q->wpAny (model X.prog X.w) X.A (spliced (backTo pos (starEach es X.env))) (AP X pq σ Q) X.xe s
def PS(X:Cx)(st:Stmt)(t:TS):Prop :=
 ∀(pq:aS) (s:Shared) (σ:St) (H:Hp) (D:Ends),Inv X pq σ H s->t D σ H->wpAny (model X.prog X.w) X.A (exec st X.env) (SP X pq D) X.xe s
def uU(X:Cx)(st:List Stmt)(t:TS):Prop :=
 ∀(pq:aS) (s:Shared) (σ:St) (H:Hp) (D:Ends),Inv X pq σ H s->t D σ H->wpAny (model X.prog X.w) X.A (execs st X.env) (SP X pq D) X.xe s
def cM{α:Type}{t:Sem α}{Q Q' : α->Shared->Prop}{M:Model}{A:Around}{E:cP}{s:Shared}(h:wpAny M A t Q E s)(hQ:∀a s,Q a s->Q' a s):wpAny M A t Q' E s:=aar h hQ λ_ _ x=>x
section
variable {X:Cx}
def N5(i:Nat):TE:=λσ H Q=>∃v,σ[i]?=some (some v)/\Q v H
def tC(v:V):TE:=λ_ H Q=>Q v H
def LD{i:Nat}{x:Str}{pos:Pos}(hN:X.N[i]?=some x)(hv:Qt X.env.scope x)(hd:(x==("__debug__":Str))=false:=by decide)(hcd:(x==("__classdict__":Str))=false:=by decide):PE X (.Name x pos) (N5 i):=by
 intro pq s σ H Q I h;obtain⟨v,e,h⟩:=h;obtain⟨m,hn,hl⟩:=I.loc;obtain⟨u,r,l⟩:=hl i x v hN e hv;have fin:EP X pq σ Q u s:=⟨v,H,I,r,h⟩;rcases l with⟨hk,hm⟩|⟨hk,c,hc,hcell⟩
 ·exact wpAny_Name (wpAny_loadName_local I.ok.kind hk hn hm fin) hd
 ·rcases hk with hk|hk
  ·exact wpAny_Name (wpAny_loadName_cell I.ok.kind hk hc hcell fin) hd
  ·exact wpAny_Name (wpAny_loadName_free I.ok.kind hk hc hcell fin hcd) hd
def ak{i j pos}:PE X (.Constant (.int i) j pos) (tC (.int i)):=λ_ _ _ H _ I h=>wpAny_Constant_int ⟨.int i,H,I.tok _,⟨_,rfl⟩,h⟩
def sF{b j pos}:PE X (.Constant (.bool b) j pos) (tC (.bl b)):=λ_ _ _ H _ I h=>Constant_bool ⟨.bl b,H,I,rfl,h⟩
def lJ{j pos}:PE X (.Constant .none j pos) (tC .dH):=λ_ _ _ H _ I h=>Constant_none ⟨.dH,H,I,rfl,h⟩
def kH{x j pos}:PE X (.Constant (.str x) j pos) (tC (.str x)):=λ_ _ _ H _ I h=>Calls.Constant_str ⟨.str x,H,I.tok _,⟨_,rfl⟩,h⟩
def Gl(X:Cx)(x:Str):Prop:=X.env.kindOf x=some .globalImplicit
def rZ{E:cP}{pq:aS}{s:Shared}{σ:St}{H:Hp}{x:Str}{u:Value}{pos:Pos}{Q:cP}(I:Inv X pq σ H s)(hg:Gl X x)(hm:X.mg x=some u)(h:Q u s)
 (hd:(x==("__debug__":Str))=false:=by decide):wpAny (model X.prog X.w) X.A (eval (.Name x pos) X.env) Q E s :=
 Calls.Name_function_global I.ok.kind hg (Calls.loadGlobal_global (by rw[I.ok.glob];exact I.mod.glob.keeps I.bk) hm h) hd
def nc{E:cP}{pq:aS}{s:Shared}{σ:St}{H:Hp}{x:Str}{u:Value}{pos:Pos}{Q:cP}(I:Inv X pq σ H s)(hg:Gl X x)(hm:X.mg x=none)(hv:bootBuiltins x=some u)(h:Q u s)
 (hn:x≠"__name__":=by decide) (hd:(x==("__debug__":Str))=false:=by decide):wpAny (model X.prog X.w) X.A (eval (.Name x pos) X.env) Q E s:=by
 obtain⟨mb,h1,h2⟩:=I.mod.blt;exact Calls.Name_function_global I.ok.kind hg (Calls.loadGlobal_builtin (by rw[I.ok.glob];exact I.mod.glob.keeps I.bk) hm (by rw[I.ok.blt];exact h1.keeps I.bk) ((h2 x hn).trans hv) h) hd
def IS{x:Str}{v:V}{u:Value}{pos:Pos}(hg:Gl X x)(hm:X.mg x=some u)(r:RelV v u)(hd:(x==("__debug__":Str))=false:=by decide):PE X (.Name x pos) (tC v) :=
 λ_ _ _ H _ I h=>rZ I hg hm ⟨v,H,I,r,h⟩ hd
variable {a b:Expr}{ta tb:TE}{pos:Pos}
def PC(X:Cx)(op:CmpOp)(a b:Expr)(t:TE):Prop :=
 ∀(pq:aS) (s:Shared) (σ:St) (H:Hp) (Q:VK),Inv X pq σ H s->t σ H Q->
  wpAny (model X.prog X.w) X.A (eval a X.env) (λv I=>wpAny (model X.prog X.w) X.A (eval b X.env) (λu O=>wpAny (model X.prog X.w) X.A (compareOp op v u) (EP X pq σ Q) X.xe O) X.xe I) X.xe s
def tB(t:TE):TT:=λσ H Q=>t σ H λx H1=>∃c,x = .bl c/\Q c H1
def LF{op:CmpOp}{t:TE}(h:PC X op a b t)(h1:behindInMarks op b=false:=by first | exact nobehind _ (by decide) (by decide) | rfl):PT X (.Compare a [op] [b] pos) (tB t):=by
 intro pq s σ H Q I hw;refine wpAny_isTrue_Compare1 (cM (h pq s σ H _ I hw) λv s1 h1=>cM h1 λu s2 h2=>cM h2 λc s3 ⟨x,H1,O,U,Y⟩=>?_) h1
 obtain⟨d,rfl,q⟩:=Y;cases U;exact wpAny_truthy_bool ⟨H1,O,q⟩
def lK{e:Expr}{t:TE}(h:PE X e t)(he:∀whole,isTrue e X.env whole=(do let v←whole;standAt e.pos;holding [v] (truthy v)):=by intro _;rfl):PT X e (tB t):=by
 intro pq s σ H Q I hw;refine isTrue_plain (cM (h pq s σ H _ I hw) λv s1 ⟨x,H1,O,U,Y⟩=>?_) (he _)
 obtain⟨d,rfl,q⟩:=Y;cases U;exact wpAny_truthy_bool ⟨H1,O,q⟩
variable {tA Qw:TT}{rest:List Expr}
def Ru(t u:TT):TT:=λσ H Q=>t σ H λc H1=>if c=true then u σ H1 Q else Q false H1
def V1(t u:TT):TT:=λσ H Q=>t σ H λc H1=>if c=true then Q true H1 else u σ H1 Q
def Rv(t:TT):TT:=λσ H Q=>t σ H λc H1=>Q (!c) H1
def B8(ha:PT X a tA):PW X (.BoolOp .And [a] pos) tA:=by
 intro O pq s σ H Q I h;refine isTrue_and (cM (ha pq s σ H Q I h) λc s1 e=>?_)
 cases c with
 | true=>exact isTrue_and_nil e
 | false=>exact e
def sG(ha:PT X a tA):PW X (.BoolOp .Or [a] pos) tA:=by
 intro O pq s σ H Q I h;refine isTrue_or (cM (ha pq s σ H Q I h) λc s1 e=>?_)
 cases c with
 | false=>exact isTrue_or_nil e
 | true=>exact e
def Fd(ha:PT X a tA)(hb:PW X (.BoolOp .And (b::rest) pos) Qw):PW X (.BoolOp .And (a::b::rest) pos) (Ru tA Qw):=by
 intro Y pq s σ H Q I h;refine isTrue_and (cM (ha pq s σ H _ I h) λc s1 ⟨H1,O,U⟩=>?_)
 cases c with
 | true=>exact hb Y pq s1 σ H1 Q O U
 | false=>exact⟨H1,O,U⟩
def yz(ha:PT X a tA)(hb:PW X (.BoolOp .Or (b::rest) pos) Qw):PW X (.BoolOp .Or (a::b::rest) pos) (V1 tA Qw):=by
 intro Y pq s σ H Q I h;refine isTrue_or (cM (ha pq s σ H _ I h) λc s1 ⟨H1,O,U⟩=>?_)
 cases c with
 | true=>exact⟨H1,O,U⟩
 | false=>exact hb Y pq s1 σ H1 Q O U
def w6(ha:PT X a tA):PT X (.UnaryOp .Not a pos) (Rv tA):=by
 intro pq s σ H Q I h;exact isTrue_not (ha pq s σ H (λc H1=>Q (!c) H1) I h)
def N6(ta tb:TE):TE:=λσ H Q=>ta σ H λx H1=>∃c,x = .bl c/\if c=true then tb σ H1 Q else Q (.bl false) H1
def Fe{op}{t:TE}(h:PE X a t):PE X (.BoolOp op [a] pos) t:=λpq s σ H Q I hw=>BoolOp_one (h pq s σ H Q I hw)
def Ff(ha:PE X a ta)(hb:PE X (.BoolOp .And (b::rest) pos) tb):PE X (.BoolOp .And (a::b::rest) pos) (N6 ta tb):=by
 intro pq s σ H Q I h;refine BoolOp_and (cM (ha pq s σ H _ I h) λv s1 ⟨x,H1,U,Y,O⟩=>?_)
 obtain⟨c,rfl,O⟩:=O;cases Y;refine wpAny_truthy_bool ?_;cases c with
 | true=>exact hb pq s1 σ H1 Q U O
 | false=>exact⟨.bl false,H1,U,rfl,O⟩
def V2(t:TT)(ta tb:TE):TE:=λσ H Q=>t σ H λc H1=>if c=true then ta σ H1 Q else tb σ H1 Q
def lM{c:Expr}(hc:PT X c tA)(ha:PE X a ta)(hb:PE X b tb):PE X (.IfExp c a b pos) (V2 tA ta tb):=by
 intro pq s σ H Q I h;refine wpAny_IfExp (cM (hc pq s σ H _ I h) λd s1 ⟨H1,O,U⟩=>?_)
 cases d with
 | true=>exact ha pq s1 σ H1 Q O U
 | false=>exact hb pq s1 σ H1 Q O U
end
def aV(K:bH)(H:Hp)(a:Addr)(xs:List V):Prop :=
 Rd H a (.lst xs)\/
  ∃(o:Obj) (I:Array Value) (n:Nat),K.lookup a=some o/\o.cls = .type "list"/\o.dict=none/\o.data = .seq I n/\I.size<=sizeLine/\Vals xs I.toList
def bf(K:bH)(H:Hp)(a:Addr)(xs:List V):Prop :=
 Rd H a (.tup xs)\/
  ∃(o:Obj) (I:Array Value) (n:Nat),K.lookup a=some o/\o.cls = .type "tuple"/\o.data = .seq I n/\I.size<=sizeLine/\Vals xs I.toList
def Rx:Value->Option V
 | .none=>some .dH
 | .bool b=>some (.bl b)
 | .int i _=>some (.int i)
 | .str x _=>some (.str x)
 | .bytes b _=>some (.EY b)
 | .float b _=>some (.Qs b)
 | .ref a=>some (.ref a)
 | .type n=>some (.ty n)
 | _=>none
def RelV.abs{x:V}{u:Value}(r:RelV x u):Rx u=some x:=by
 cases x with
 | dH=>cases r;rfl
 | bl _=>cases r;rfl
 | int _=>obtain⟨t,rfl⟩:=r;rfl
 | str _=>obtain⟨t,rfl⟩:=r;rfl
 | EY _=>obtain⟨t,rfl⟩:=r;rfl
 | Qs _=>obtain⟨t,rfl⟩:=r;rfl
 | ref _=>cases r;rfl
 | ty _=>cases r;rfl
def RelV.inj{x y:V}{u:Value}(r:RelV x u)(q:RelV y u):x=y:=Option.some.inj (r.abs.symm.trans q.abs)
def Vals.inj:∀{xs ys:List V} {us:List Value},Vals xs us->Vals ys us->xs=ys
 | _,_,_,.nil,.nil=>rfl
 | _,_,_,.cons r t,.cons r' t'=>by rw[r.inj r',Vals.inj t t']
section
variable {X:Cx}{pq:aS}{σ:St}{H:Hp}{s:Shared}{a:Addr}{xs ys:List V}
def aV.of{K:bH}(h:H a=some (.lst xs)):aV K H a xs:=.inl (.inl h)
def bf.of{K:bH}(h:H a=some (.tup xs)):bf K H a xs:=.inl (.inl h)
def Inv.list(I:Inv X pq σ H s)(h:aV X.K H a xs):∃O:List Value,Vals xs O/\PlainL s.heap a O.toArray/\xs.length<=sizeLine:=by
 rcases h with h|⟨o,O,n,hk,hc,hd,hs,hz,r⟩
 ·obtain⟨z,O,n,r,e⟩:=h.ok I.hok;exact⟨O,r,⟨_,n,e,rfl,rfl,rfl⟩,z⟩
 ·refine⟨O.toList,r,⟨o,n,I.AD a o hk,hc,hd,by simpa using hs⟩,?_⟩
  have e:=r.length;simp only[abt]at e
  lia
def Inv.tuple(I:Inv X pq σ H s)(h:bf X.K H a xs):∃O:List Value,Vals xs O/\IsTup s.heap a O.toArray/\xs.length<=sizeLine:=by
 rcases h with h|⟨o,O,n,hk,hc,hs,hz,r⟩
 ·obtain⟨z,O,r,p⟩:=h.ok I.hok;exact⟨O,r,p,z⟩
 ·refine⟨O.toList,r,⟨o,I.AD a o hk,hc,n,by simpa using hs⟩,?_⟩
  have e:=r.length;simp only[abt]at e
  lia
def Inv.sH(I:Inv X pq σ H s)(h:aV X.K H a xs)(h' : aV X.K H a ys):xs=ys:=by
 obtain⟨O,r,⟨o,n,e,_,_,d⟩,_⟩:=I.list h;obtain⟨its',r',⟨o',n',e',_,_,d'⟩,_⟩:=I.list h';rw[e]at e';cases e';rw[d]at d';injection d' with d1 _
 have:O=its':=by simpa using aas Array.toList d1
 subst this;exact r.inj r'
def Inv.vB(I:Inv X pq σ H s)(h:bf X.K H a xs)(h' : bf X.K H a ys):xs=ys:=by
 obtain⟨O,r,⟨o,e,_,n,d⟩,_⟩:=I.tuple h;obtain⟨its',r',⟨o',e',_,n',d'⟩,_⟩:=I.tuple h';rw[e]at e';cases e';rw[d]at d';injection d' with d1 _
 have:O=its':=by simpa using aas Array.toList d1
 subst this;exact r.inj r'
end
abbrev Cx.sI(X:Cx)(E:cP):Cx:={ X with xe:=E}
abbrev Cx.Av(X:Cx):Cx:=X.sI λ_ _=>False
def Cx.Ok.sI{X:Cx}(ok:X.Ok)(E:cP):(X.sI E).Ok :=
 ⟨ok.mod,ok.kind,ok.glob,ok.blt,ok.above,ok.inj,ok.has,ok.Nr,ok.hd,ok.frames,ok.ID,ok.Rq,ok.bs,ok.IE,ok.C6,ok.Fb,ok.funs,ok.IQ⟩
def Cx.Ok.iW{X:Cx}{E:cP}(ok:(X.sI E).Ok):X.Ok :=
 ⟨ok.mod,ok.kind,ok.glob,ok.blt,ok.above,ok.inj,ok.has,ok.Nr,ok.hd,ok.frames,ok.ID,ok.Rq,ok.bs,ok.IE,ok.C6,ok.Fb,ok.funs,ok.IQ⟩
section
variable {X:Cx}{pq:aS}{σ:St}{H:Hp}{s:Shared}{E:cP}
def Inv.sI(I:Inv X pq σ H s)(E:cP):Inv (X.sI E) pq σ H s:=⟨I.ok.sI E,I.os,I.bare,I.base,I.loc,I.cell,I.free,I.eF,I.pin,I.hok,I.len⟩
def Inv.iW(I:Inv (X.sI E) pq σ H s):Inv X pq σ H s:=⟨I.ok.iW,I.os,I.bare,I.base,I.loc,I.cell,I.free,I.eF,I.pin,I.hok,I.len⟩
def SP.iW{D:Ends}{f:Flow}{s' : Shared}(h:SP (X.sI E) pq D f s'):SP X pq D f s':=by
 cases f with
 | next=>obtain⟨σ',H',I,q⟩:=h;exact⟨σ',H',I.iW,q⟩
 | brk=>obtain⟨σ',H',I,q⟩:=h;exact⟨σ',H',I.iW,q⟩
 | cont=>obtain⟨σ',H',I,q⟩:=h;exact⟨σ',H',I.iW,q⟩
 | ret u=>obtain⟨v,σ',H',I,r,q⟩:=h;exact⟨v,σ',H',I.iW,r,q⟩
def uU.Av{st:List Stmt}{t:TS}(h:uU X.Av st t):uU X st t:=λpq s σ H D I hw =>
 aar (h pq s σ H D (I.sI _) hw) (λ_ _ q=>q.iW) λ_ _ z=>False.elim z
end
section
variable {X:Cx}{st:Stmt}{rest:List Stmt}{t u:TS}{e:Expr}{te:TE}{pos:Pos}
def bu:TS:=λD σ H=>D.nx σ H
def Ends.on(D:Ends)(u:TS):Ends:={ D with nx:=u D}
def az(t u:TS):TS:=λD σ H=>t (D.on u) σ H
def bh:uU X [] bu:=λ_ _ σ H _ I h=>wpAny_execs_nil ⟨σ,H,I,h⟩
def ai(h1:PS X st t)(h2:uU X rest u):uU X (st::rest) (az t u):=by
 intro pq s σ H D I h;refine wpAny_execs_cons (cM (h1 pq s σ H { D with nx:=u D} I h) λf s1 q=>?_)
 cases f with
 | next =>
   obtain⟨σ',H',O,q⟩:=q;exact h2 pq s1 σ' H' D O q
 | ret v=>exact q
 | brk=>exact q
 | cont=>exact q
def av(h1:PS X st t):uU X [st] t:=by
 intro pq s σ H D I h;refine wpAny_execs_cons (cM (h1 pq s σ H D I h) λf s1 q=>?_)
 cases f with
 | next=>exact wpAny_execs_nil q
 | ret v=>exact q
 | brk=>exact q
 | cont=>exact q
def Inv.quiet{pq:aS}{σ:St}{H:Hp}{s:Shared}(I:Inv X pq σ H s):interactive X.env=false:=by simp[interactive,I.ok.kind]
def N7(te:TE):TS:=λD σ H=>te σ H λ_ H1=>D.nx σ H1
def bR(he:PE X e te)(hs:swapsWith e none pos.line X.env=pure false:=by rfl):PS X (.Expr e pos) (N7 te):=by
 intro pq s σ H D I h;exact wpAny_Expr_any (cM (he pq s σ H _ I h) λv s1 ⟨x,H1,O,Y,U⟩=>⟨σ,H1,O,U⟩) I.quiet hs
def Ry(te:TE):TS:=λD σ H=>te σ H D.rt
def aG(he:PE X e te):PS X (.Return (some e) pos) (Ry te):=by
 intro pq s σ H D I h;exact wpAny_Return_some (cM (he pq s σ H _ I h) λv s1 ⟨x,H1,O,U,Y⟩=>⟨x,σ,H1,O,U,Y⟩)
def bW(c:TT)(t u:TS):TS:=λD σ H=>c σ H λb H1=>if b=true then t D σ H1 else u D σ H1
def ck{c:Expr}{a b:List Stmt}{tc:TT}(hc:PT X c tc)(ha:uU X a t)(hb:uU X b u):PS X (.If c a b pos) (bW tc t u):=by
 intro pq s σ H D I h;refine wpAny_If (cM (hc pq s σ H _ I h) λd s1 ⟨H1,O,U⟩=>?_)
 cases d with
 | true=>exact ha pq s1 σ H1 D O U
 | false=>exact hb pq s1 σ H1 D O U
def LG:TS:=λ_ _ _=>False
def dm{sts:List Stmt}:uU X sts LG:=λ_ _ _ _ _ _ h=>h.elim
end
abbrev TG:=V->St->Hp->(St->Hp->Prop)->Prop
abbrev IF:=List V->St->Hp->(St->Hp->Prop)->Prop
def PG(X:Cx)(target:Expr)(t:TG):Prop :=
 ∀(pq:aS) (s:Shared) (σ:St) (H:Hp) (v:V) (u:Value) (Q:St->Hp->Prop),Inv X pq σ H s->RelV v u->t v σ H Q->
  wpAny (model X.prog X.w) X.A (assign target X.env u) (λ_ s'=>∃σ' H',Inv X pq σ' H' s'/\Q σ' H') X.xe s
def Nt(X:Cx)(ts:List Expr)(t:IF):Prop :=
 ∀(pq:aS) (s:Shared) (σ:St) (H:Hp) (vs:List V) (us:List Value) (Q:St->Hp->Prop),Inv X pq σ H s->Vals vs us->t vs σ H Q->
  wpAny (model X.prog X.w) X.A (assignInOrder ((assignEach ts X.env).map (·.2)) us) (λ_ s'=>∃σ' H',Inv X pq σ' H' s'/\Q σ' H') X.xe s
abbrev LH:=V->V->V->Hp->(Hp->Prop)->Prop
def N8(X:Cx)(t:LH):Prop :=
 ∀(pq:aS) (s:Shared) (σ:St) (H:Hp) (o i v:V) (I O u:Value) (Q:Hp->Prop),Inv X pq σ H s->RelV o I->RelV i O->RelV v u->t o i v H Q->
  wpAny (model X.prog X.w) X.A (setItem I O u) (λ_ s'=>∃H',Inv X pq σ H' s'/\Q H') X.xe s
abbrev Rz:=V->V->Hp->VK->Prop
def V3(X:Cx)(op:Operator)(t:Rz):Prop :=
 ∀(pq:aS) (s:Shared) (σ:St) (H:Hp) (x y:V) (v u:Value) (Q:VK),Inv X pq σ H s->RelV x v->RelV y u->t x y H Q->
  wpAny (model X.prog X.w) X.A (inplaceOp op v u) (EP X pq σ Q) X.xe s
section
variable {X:Cx}{pos:Pos}
def Fg(i:Nat):TG:=λv σ H Q=>Q (σ.set i (some v)) H
def B9{i:Nat}{x:Str}(hN:X.N.Nodup)(hi:X.N[i]?=some x)(hx:Loc X.env.scope x)(hf:X.fn x=true\/X.env.scope.names.lookup x=some .local:=by first | exact .inl rfl | exact .inr rfl | assumption):PG X (.Name x pos) (Fg i):=by
 intro pq s σ H v u Q I r h;exact wpAny_assign_Name (nU I hN hi hx r (λs' O=>⟨_,H,O,h⟩) hf)
def RA:IF:=λvs σ H Q=>vs=[]/\Q σ H
def N9(t:TG)(u:IF):IF:=λvs σ H Q=>∃v r,vs=v::r/\t v σ H λσ' H'=>u r σ' H' Q
def jw:Nt X [] RA:=by
 intro pq s σ H vs us Q I r h;obtain⟨e,h⟩:=h;subst e;cases r;exact assignInOrder_nil ⟨σ,H,I,h⟩
def bK{e:Expr}{es:List Expr}{t:TG}{u:IF}(h1:PG X e t)(h2:Nt X es u)
 (hs:(assignEach (e::es) X.env).map (·.2)=assign e X.env::(assignEach es X.env).map (·.2):=by rfl):Nt X (e::es) (N9 t u):=by
 intro pq s σ H vs us Q I r h;obtain⟨v,vr,O,h⟩:=h;subst O;cases r with
 | cons r U =>
   rw[hs];refine assignInOrder_cons (cM (h1 pq s σ H _ _ _ I r h) λ_ s1 ⟨σ1,H1,Y,Z⟩=>?_)
   exact h2 pq s1 σ1 H1 _ _ Q Y U Z
def Oa(K:bH)(n:Nat)(t:IF):TG:=λv σ H Q=>∃a xs,v = .ref a/\bf K H a xs/\xs.length=n/\t xs σ H Q
def LI{es:List Expr}{k:Nat}{t:IF}{n:Nat}(hc:X.calm=true)(h:Nt X es t)
 (hn:(assignEach es X.env).length=n:=by rfl) (hst:(assignEach es X.env).findIdx? (·.1)=none:=by rfl):PG X (.Tuple es k pos) (Oa X.K n t):=by
 intro pq s σ H v u Q I r hw;obtain⟨a,xs,O,U,Y,hw⟩:=hw;subst O;cases r;obtain⟨its,rv,ht,hz⟩:=I.tuple U;refine assign_Tuple_tuple (I.ok.hd hc) ht (by simp[hn,<-Y,rv.length]) hst λh' hx=>?_
 have Z:Inv X pq σ H { s with heap:=h'}:=I.kept (t':=s.toks) λb o e=>hx b o (aak (aab e)) e
 exact h pq _ σ H xs _ Q Z (by simpa using rv) hw
def RB(to ti:TE)(t:LH):TG:=λv σ H Q=>to σ H λo H1=>ti σ H1 λi H2=>t o i v H2 λH3=>Q σ H3
def LJ{o i:Expr}{to ti:TE}{t:LH}(ho:PE X o to)(hi:PE X i ti)(hs:N8 X t)
 (ha:∀v,assign (.Subscript o i pos) X.env v=(do
  let O←holding [v] (eval o X.env)
  let U←holding [v,O] (eval i X.env)
  standAt pos
  holding [v,O,U] (setItem O U v)
  release [v,O,U] []):=by intro _;rfl):PG X (.Subscript o i pos) (RB to ti t):=by
 intro pq s σ H v u Q I r h;rw[ha];refine aQ (aaG (cM (ho pq s σ H _ I h) λO s1 ⟨x,H1,Y,Z,q1⟩=>?_))
 refine aQ (aaG (cM (hi pq s1 σ H1 _ Y q1) λU s2 ⟨y,H2,I2,r2,q2⟩=>?_))
 refine aQ (wpAny_standAt (aQ (aaG (cM (hs pq s2 σ H2 x y v O U u _ I2 Z r2 r q2) λ_ s3 ⟨H3,I3,q3⟩=>?_))))
 exact wpAny_release ⟨σ,H3,I3,q3⟩
def Ob(te:TE)(g:TG):TS:=λD σ H=>te σ H λx H1=>g x σ H1 D.nx
def AE{tg e:Expr}{te:TE}{g:TG}(he:PE X e te)(hg:PG X tg g)(hs:swapsWithSole [tg] e pos.line X.env=pure false:=by rfl)(hw:swappedStores [tg] e X.env=pure none:=by rfl)
 (h1:(assignEach [tg] X.env).map (·.2)=[assign tg X.env]:=by rfl):PS X (.Assign [tg] e pos) (Ob te g):=by
 intro pq s σ H D I h;refine wpAny_Assign_stores (cM (he pq s σ H _ I h) λv s1 ⟨x,H1,O,U,Y⟩=>?_) hs hw
 rw[h1];exact cM (hg pq s1 σ H1 x v _ O U Y) λ_ s2 q=>q
def aL{i:Nat}{x:Str}{e:Expr}{te:TE}{pos' : Pos}(hN:X.N.Nodup)(hi:X.N[i]?=some x)(hx:Loc X.env.scope x)(he:PE X e te)(hs:swapsWith e (some (.Name x pos')) pos.line X.env=pure false:=by rfl)(hf:X.fn x=true\/X.env.scope.names.lookup x=some .local:=by first | exact .inl rfl | exact .inr rfl | assumption):
 PS X (.Assign [.Name x pos'] e pos) (Ob te (Fg i)):=by
 intro pq s σ H D I h;refine wpAny_Assign_Name (cM (he pq s σ H _ I h) λv s1 ⟨y,H1,O,U,Y⟩=>?_) hs
 exact nU O hN hi hx U (λs2 Z=>⟨_,H1,Z,Y⟩) hf
def RC(i:Nat)(te:TE)(ti:Rz):TS:=λD σ H=>∃x,σ[i]?=some (some x)/\te σ H λy H1=>ti x y H1 λz H2=>D.nx (σ.set i (some z)) H2
def Fi{i:Nat}{x:Str}{e:Expr}{te:TE}{op:Operator}{ti:Rz}{pos' : Pos}(hN:X.N.Nodup)(hi:X.N[i]?=some x)(hx:Loc X.env.scope x)(he:PE X e te)(ho:V3 X op ti)(hf:X.fn x=true\/X.env.scope.names.lookup x=some .local:=by first | exact .inl rfl | exact .inr rfl | assumption):
 PS X (.AugAssign (.Name x pos') op e pos) (RC i te ti):=by
 intro pq s σ H D I h;obtain⟨v,U,h⟩:=h;obtain⟨m,hn,hl⟩:=I.loc;have Y:Qt X.env.scope x:=by rcases hx with k | k;exact .inl k;exact .inr (.inl k)
 obtain⟨u,r,l⟩:=hl i x v hi U Y;refine wpAny_AugAssign_Name ?_;have go:wpAny (model X.prog X.w) X.A (eval e X.env) (λw Z=>wpAny (model X.prog X.w) X.A (inplaceOp op u w) (λr s₃=>wpAny (model X.prog X.w) X.A (storeName X.env x r) (λ_=>SP X pq D .next) X.xe s₃) X.xe Z) X.xe s:=by
  refine cM (he pq s σ H _ I h) λw s1 ⟨y,H1,I1,r1,q1⟩=>?_
  refine cM (ho pq s1 σ H1 v y u w _ I1 r r1 q1) λz s2 ⟨zv,H2,I2,r2,q2⟩=>?_
  exact nU I2 hN hi hx r2 (λs3 I3=>⟨_,H2,I3,q2⟩) hf
 rcases l with⟨hk,hm⟩|⟨hk,c,hc,O⟩
 ·exact wpAny_loadName_local I.ok.kind hk hn hm go
 ·rcases hk with hk|hk
  ·exact wpAny_loadName_cell I.ok.kind hk hc O go
  ·rcases hx with k|k
   ·have:X.env.scope.names.lookup x=some .free:=hk;rw[k]at this;cases this
   ·have:X.env.scope.names.lookup x=some .free:=hk;rw[k]at this;cases this
def ng(c:TT)(tb:TS):TS:=λD σ H=>∃W:Nat->St->Hp->Prop,(∃m,W m σ H)/\∀m σ H,W m σ H->
 c σ H λb H1=>if b=true then ∃N:St->Hp->Prop,(∀σ' H',N σ' H'->∃m',m'<m/\W m' σ' H')/\tb { D with nx:=N,ct:=N,bk:=D.nx} σ H1 else D.nx σ H1
def sJ{c:Expr}{body:List Stmt}{tc:TT}{tb:TS}(hp:PassesOwn (model X.prog X.w) X.A X.env X.xe)(hc:PT X c tc)(hb:uU X body tb):PS X (.While c body [] pos) (ng tc tb):=by
 intro pq s σ H D I h;obtain⟨W,⟨m0,w0⟩,turn⟩:=h;refine wpAny_While (codeAny_whileLoop (λn s'=>∃σ' H',Inv X pq σ' H' s'/\W n σ' H') ?_ m0 ⟨σ,H,I,w0⟩)
 rintro n s1 ⟨σ1,H1,I1,w1⟩;refine wpAny_passesOwn hp (cM (hc pq s1 σ1 H1 _ I1 (turn n σ1 H1 w1)) λb s2 ⟨H2,I2,O⟩=>?_)
 cases b with
 | true =>
   obtain⟨N,hN,O⟩:=O;rw[Z1 rfl];refine wpAny_passesOwn hp (cM (hb pq s2 σ1 H2 _ I2 O) λf s3 U=>?_)
   cases f with
   | next =>
     obtain⟨σ3,H3,Y,Z⟩:=U;obtain⟨m',hm,w3⟩:=hN σ3 H3 Z;exact⟨m',hm,σ3,H3,Y,w3⟩
   | cont =>
     obtain⟨σ3,H3,Y,Z⟩:=U;obtain⟨m',hm,w3⟩:=hN σ3 H3 Z;exact⟨m',hm,σ3,H3,Y,w3⟩
   | brk=>exact U
   | ret v=>exact U
 | false =>
   rw[Z0 aac];exact wpAny_execs_nil ⟨σ1,H2,I2,O⟩
end
structure It where
 go:Nat->Hp->Prop
 IG:Nat->Hp->V->Hp->Prop
 stop:Nat->Hp->Prop
def nh(X:Cx)(pq:aS)(H:Hp)(b:Addr):Prop :=
 H b=none/\b≠X.env.locals/\b∉X.fs/\(b∈X.ex\/X.s₀.heap.objs.size<=b)/\(∀x c,X.env.cells.lookup x=some c->c≠b)/\∀p∈X.pn++pq,p.1≠b
def Inv.De{X:Cx}{pq:aS}{σ:St}{H H' : Hp}{s:Shared}{b:Addr}(I:Inv X pq σ H s)(hb:s.heap.objs.size<=b)(hn:H' b=none):nh X pq H' b:=by
 refine⟨hn,abi (aaf I.lt hb),I.N3 hb,.inr (aat I.sz hb),λx c e z=>?_,λp O z=>?_⟩
 ·obtain⟨v,q⟩:=I.cell x c e;exact absurd (aaf q.lt (by rw[z];exact hb)) (aa5 _)
 ·exact absurd (aaf (aab (I.pin p O).1) (by rw[z];exact hb)) (aa5 _)
structure Turn(P:Program)(w:World)(K:bH)(tg:Expr)(J:It)(fp:List Addr)(it:Addr)(tn:Nat->Heap->Prop):Prop where
 mem:it∈fp
 obj:∀i h,tn i h->∀b∈fp,∃o,h.get? b=some o/\∀v,o.data≠.cell v
 keep:∀i h h',tn i h->(∀b∈fp,∀o,h.get? b=some o->h'.get? b=some o)->tn i h'
 item:∀(X:Cx),X.prog=P->X.w=w->X.K=K->X.calm=true->∀(i:Nat) (pq:aS) (s:Shared) (σ:St) (H:Hp) (E:cP),Inv X pq σ H s->(∀b∈fp,nh X pq H b)->tn i s.heap->J.go i H->
  wpAny (model P w) X.A (pyNext (.ref it)) (λr s1=>∃u,r=some u/\
   wpAny (model P w) X.A (letOwnedTupleGo tg (.ref it) u) (λ_ s2=>∃x H',Inv X pq σ H' s2/\RelV x u/\J.IG i H x H'/\tn (i+1) s2.heap/\∀b∈fp,H' b=none) E s1) E s
 done:∀(X:Cx),X.prog=P->X.w=w->X.K=K->X.calm=true->∀(i:Nat) (pq:aS) (s:Shared) (σ:St) (H:Hp) (E:cP),Inv X pq σ H s->(∀b∈fp,nh X pq H b)->tn i s.heap->J.stop i H->
  wpAny (model P w) X.A (pyNext (.ref it)) (λr s1=>r=none/\Inv X pq σ H s1) E s
 self:∀(A:Around) (i:Nat) (s:Shared) (Q:cP) (E:cP),tn i s.heap->Q (.ref it) s->wpAny (model P w) A (pyIter (.ref it)) Q E s
abbrev TI:=St->Hp->(It->Hp->Prop)->Prop
def TY(X:Cx)(pq:aS)(σ:St)(tg:Expr)(R:It->Hp->Prop)(itv:Value)(s2:Shared):Prop :=
 ∃(it:Addr) (fp:List Addr) (tn:Nat->Heap->Prop) (J:It) (H' : Hp),itv = .ref it/\Inv X pq σ H' s2/\Turn X.prog X.w X.K tg J fp it tn/\tn 0 s2.heap/\(∀b∈fp,nh X pq H' b)/\R J H'
def PI(X:Cx)(tg iter:Expr)(wi:TI):Prop :=
 ∀(pq:aS) (s:Shared) (σ:St) (H:Hp) (R:It->Hp->Prop),Inv X pq σ H s->wi σ H R->
  wpAny (model X.prog X.w) X.A (eval iter X.env) (λv s1=>wpAny (model X.prog X.w) X.A (pyIter v) (TY X pq σ tg R) X.xe s1) X.xe s
def Fj{M:Model}{A:Around}{E:cP}{s:Shared}{tg:Expr}{it:Addr}{u:Value}{o:Obj}{n:String}{vs:Array Value}{Q:Unit->Shared->Prop}(ho:s.heap.get? it=some o)(hc:o.cls = .type n)(hd:o.data = .fields vs)
 (hn:["enumerate","zip","dict_itemiterator","dict_reverseitemiterator","odict_iterator","itertools.zip_longest","itertools.pairwise"].contains n=false) (hQ:Q () s):wpAny M A (letOwnedTupleGo tg (.ref it) u) Q E s:=by
 unfold letOwnedTupleGo;cases tg<;>first
  | exact Z5 hQ
  | (cases u<;>first
   | exact Z5 hQ
   | (refine aQ (wpAny_load ho ?_)
      rw[hc,hd];show wpAny M A (if(["enumerate","zip","dict_itemiterator","dict_reverseitemiterator","odict_iterator","itertools.zip_longest","itertools.pairwise"].contains n&&vs[0]? == some (rawInt _))=true then _ else _) Q E s
      rw[Z0 (by intro h;rw[hn,acO]at h;cases h)]
      exact Z5 hQ))
def IT(K:bH)(a:Addr):It :=
 ⟨λi H=>∃xs x,aV K H a xs/\xs[i]?=some x,λi H x H'=>H' = H/\∀xs,aV K H a xs->xs[i]?=some x,λi H=>∃xs,aV K H a xs/\xs.length<=i⟩
def Nu(K:bH)(a:Addr):It :=
 ⟨λi H=>∃xs x,bf K H a xs/\xs[i]?=some x,λi H x H'=>H' = H/\∀xs,bf K H a xs->xs[i]?=some x,λi H=>∃xs,bf K H a xs/\xs.length<=i⟩
def II(lo:Int)(n:Nat):It:=⟨λi _=>i<n,λi H x H'=>H' = H/\x = .int (lo+i),λi _=>n<=i⟩
def Df{P:Program}{w:World}{K:bH}{tg:Expr}(a it:Addr):Turn P w K tg (IT K a) [it] it (λi h=>h.IsListIter it a i) where
 mem:=by simp
 obj:=λi h st b hb=>by
  have e:b=it:=by simpa using hb
  subst e;obtain⟨o,e,c,d⟩:=st;exact⟨o,e,λv z=>by rw[d]at z;cases z⟩
 keep:=λi h h' st k=>st.at λo e=>k it (by simp) o e
 item:=by
  intro X Y hw Z hc i pq s σ H E I hf st hg;subst Y hw Z;obtain⟨xs,x,U,hx⟩:=hg;obtain⟨its,rv,p,hz⟩:=I.list U;obtain⟨u,hu,ru⟩:=rv.get hx;obtain⟨f0,f1,f2,f3,f4,f5⟩:=hf it (by simp)
  refine wpAny_pyNext_list_item st p.isList (x:=u) (by simpa using hu) λh' O sb=>?_
  have I1:Inv X pq σ H { s with heap:=h'}:=I.turned (t':=s.toks) (λb o hb e=>(sb.2 b hb).trans e) f0 f1 f3 f4 f5
  obtain⟨o,e,c,d⟩:=id O;exact⟨u,rfl,Fj (s:={ s with heap:=h'}) e c d (by decide) ⟨x,H,I1,ru,⟨rfl,λys hy=>by rw[I.sH hy U];exact hx⟩,O,λb hb=>(hf b hb).1⟩⟩
 done:=by
  intro X Y hw Z hc i pq s σ H E I hf st hg;subst Y hw Z;obtain⟨xs,U,hx⟩:=hg;obtain⟨its,rv,p,hz⟩:=I.list U;obtain⟨f0,f1,f2,f3,f4,f5⟩:=hf it (by simp)
  have hl:=rv.length;exact wpAny_pyNext_list_end (I.ok.hd hc) st p.isList (by simp;lia) λh' eb=>⟨rfl,I.turned (t':=s.toks) (λb o hb e=>eb b o hb e) f0 f1 f3 f4 f5⟩
 self:=λ_ _ _ _ _ st h=>wpAny_pyIter_listiter st h
def AF{P:Program}{w:World}{K:bH}{tg:Expr}(a it:Addr):Turn P w K tg (Nu K a) [it] it (λi h=>h.IsTupleIter it a i) where
 mem:=by simp
 obj:=λi h st b hb=>by
  have e:b=it:=by simpa using hb
  subst e;obtain⟨o,e,c,d⟩:=st;exact⟨o,e,λv z=>by rw[d]at z;cases z⟩
 keep:=λi h h' st k=>st.at λo e=>k it (by simp) o e
 item:=by
  intro X Y hw Z hc i pq s σ H E I hf st hg;subst Y hw Z;obtain⟨xs,x,U,hx⟩:=hg;obtain⟨its,rv,p,hz⟩:=I.tuple U;obtain⟨u,hu,ru⟩:=rv.get hx;obtain⟨f0,f1,f2,f3,f4,f5⟩:=hf it (by simp)
  refine wpAny_pyNext_tuple_item st (show s.heap.IsTuple a its.toArray from p) (x:=u) (by simpa using hu) λh' O sb=>?_
  have I1:Inv X pq σ H { s with heap:=h'}:=I.turned (t':=s.toks) (λb o hb e=>(sb.2 b hb).trans e) f0 f1 f3 f4 f5
  obtain⟨o,e,c,d⟩:=id O;exact⟨u,rfl,Fj (s:={ s with heap:=h'}) e c d (by decide) ⟨x,H,I1,ru,⟨rfl,λys hy=>by rw[I.vB hy U];exact hx⟩,O,λb hb=>(hf b hb).1⟩⟩
 done:=by
  intro X Y hw Z hc i pq s σ H E I hf st hg;subst Y hw Z;obtain⟨xs,U,hx⟩:=hg;obtain⟨its,rv,p,hz⟩:=I.tuple U;obtain⟨f0,f1,f2,f3,f4,f5⟩:=hf it (by simp)
  have hl:=rv.length;exact wpAny_pyNext_tuple_end (I.ok.hd hc) st (show s.heap.IsTuple a its.toArray from p) (by simp;lia) λh' eb=>⟨rfl,I.turned (t':=s.toks) (λb o hb e=>eb b o hb e) f0 f1 f3 f4 f5⟩
 self:=λ_ _ _ _ _ st h=>wpAny_pyIter_tupleiter st h
def AG{P:Program}{w:World}{K:bH}{tg:Expr}(it:Addr)(lo:Int)(n:Nat):Turn P w K tg (II lo n) [it] it (λi h=>IsRangeIter h it (lo+(i:Nat)*1) ((n:Int)-(i:Nat)) 1) where
 mem:=by simp
 obj:=λi h st b hb=>by
  have e:b=it:=by simpa using hb
  subst e;exact⟨_,st,λv z=>by
   have z' : Data.fields _=Data.cell v:=z;cases z'⟩
 keep:=λi h h' st k=>k it (by simp) _ st
 item:=by
  intro X U hw Y hc i pq s σ H E I hf st Z;subst U hw Y;obtain⟨f0,f1,f2,f3,f4,f5⟩:=hf it (by simp)
  have W:=Walks.range (prog:=X.prog) (w:=X.w) (I.ok.hd hc) it lo 1 n;refine W.item i s _ _ Z st λv h' tk hv O kk=>?_
  obtain⟨t,rfl⟩:=hv;have I1:Inv X pq σ H { s with heap:=h',toks:=tk}:=I.turned (λb o hb e=>kk b o (by simpa using hb) e) f0 f1 f3 f4 f5
  refine⟨_,rfl,Fj (s:={ s with heap:=h',toks:=tk}) (n:="range_iterator") O rfl rfl (by decide) ⟨.int (lo+i),H,I1,⟨t,?_⟩,⟨rfl,rfl⟩,O,λb hb=>(hf b hb).1⟩⟩
  rw[Int.mul_one]
 done:=by
  intro X U hw Y hc i pq s σ H E I hf st Z;subst U hw Y;obtain⟨f0,f1,f2,f3,f4,f5⟩:=hf it (by simp)
  exact wpAny_pyNext_range_end (I.ok.hd hc) st (by have:n<=i:=Z;lia) λh' eb=>⟨rfl,I.turned (t':=s.toks) (λb o hb e=>eb b o hb e) f0 f1 f3 f4 f5⟩
 self:=λ_ _ _ _ _ st h=>wpAny_pyIter_rangeiter st h
section
variable {X:Cx}{tg:Expr}
def Ca(K:bH)(tl:TE):TI:=λσ H R=>tl σ H λx H1=>∃a,x = .ref a/\(∃xs,aV K H1 a xs)/\R (IT K a) H1
def IU(K:bH)(tl:TE):TI:=λσ H R=>tl σ H λx H1=>∃a,x = .ref a/\(∃xs,bf K H1 a xs)/\R (Nu K a) H1
def Cb{l:Expr}{tl:TE}(hl:PE X l tl):PI X tg l (Ca X.K tl):=by
 intro pq s σ H R I h;refine cM (hl pq s σ H _ I h) λv s1 ⟨x,H1,O,U,Y⟩=>?_
 obtain⟨a,e,⟨xs,Z⟩,q⟩:=Y;subst e;cases U;obtain⟨its,rv,p,hz⟩:=O.list Z;refine wpAny_pyIter_list p.isList ?_;refine⟨s1.heap.objs.size,[s1.heap.objs.size],_,_,H1,rfl,O.kept (t':=s1.toks) λb o e=>Z2 _ e,Df a _,⟨_,aag _ rfl,rfl,rfl⟩,λb hb=>?_,q⟩
 have e:b=s1.heap.objs.size:=by simpa using hb
 subst e;exact O.De (Z3 _) (O.hok.fresh (Z3 _))
def Fl{l:Expr}{tl:TE}(hl:PE X l tl):PI X tg l (IU X.K tl):=by
 intro pq s σ H R I h;refine cM (hl pq s σ H _ I h) λv s1 ⟨x,H1,O,U,Y⟩=>?_
 obtain⟨a,e,⟨xs,Z⟩,q⟩:=Y;subst e;cases U;obtain⟨its,rv,p,hz⟩:=O.tuple Z;refine wpAny_pyIter_tuple (show s1.heap.IsTuple a its.toArray from p) ?_
 refine⟨s1.heap.objs.size,[s1.heap.objs.size],_,_,H1,rfl,O.kept (t':=s1.toks) λb o e=>Z2 _ e,AF a _,⟨_,aag _ rfl,rfl,rfl⟩,λb hb=>?_,q⟩
 have e:b=s1.heap.objs.size:=by simpa using hb
 subst e;exact O.De (Z3 _) (O.hok.fresh (Z3 _))
def Fo{pq:aS}{σ:St}{H:Hp}{s:Shared}{R:It->Hp->Prop}{E:cP}{lo hi:Int}{t u v:Tok}{tk:Nat}(I:Inv X pq σ H s)(h1 : -(2^62)<=lo)(h2:lo<2^62)(h3 : -(2^62)<=hi)(h4:hi<2^62)
 (q:R (II lo (hi-lo).toNat) H):wpAny (model X.prog X.w) X.A (pyIter (.ref s.heap.objs.size)) (TY X pq σ tg R) E { s with heap:=s.heap.push { cls:=.type "range",data:=.fields #[.int lo t,.int hi u,.int 1 v]},toks:=tk}:=by
 refine wpAny_pyIter_range (IsRange.new ..) (small_one h1 h2 h3 h4) ?_;have O:Inv X pq σ H { s with heap:=s.heap.push { cls:=.type "range",data:=.fields #[.int lo t,.int hi u,.int 1 v]},toks:=tk}:=I.kept λb o e=>Z2 _ e
 refine⟨(s.heap.push { cls:=.type "range",data:=.fields #[.int lo t,.int hi u,.int 1 v]}).objs.size,[(s.heap.push { cls:=.type "range",data:=.fields #[.int lo t,.int hi u,.int 1 v]}).objs.size],_,_,H,rfl,
  O.kept (t':=tk) λb o e=>Z2 _ e,AG _ lo (hi-lo).toNat,?_,λb hb=>?_,q⟩
 ·have U:lo+((0:Nat):Int)*1=lo:=by simp
  have Y:(((hi-lo).toNat:Nat):Int)-((0:Nat):Int)=Builtin.Range.rangeSize lo hi 1:=by rw[rangeSize_one];split<;>lia
  show IsRangeIter _ _ (lo+((0:Nat):Int)*1) ((((hi-lo).toNat:Nat):Int)-((0:Nat):Int)) 1;rw[U,Y];exact aag _ rfl
 ·have e:b=(s.heap.push { cls:=.type "range",data:=.fields #[.int lo t,.int hi u,.int 1 v]}).objs.size:=by simpa using hb
  subst e;exact O.De (Z3 _) (O.hok.fresh (Z3 _))
def Oc(ta:TA):TI:=λσ H R=>ta σ H λvs H1=>∃j:Int,vs=[.int j]/\-(2^62)<=j/\j<2^62/\R (II 0 j.toNat) H1
def dw{a:Expr}{ta:TA}{p pos:Pos}(hg:Gl X "range")(hm:X.mg "range"=none)(ha:PA X [a] ta)(hs:starEach [a] X.env=[(false,eval a X.env)]:=by rfl):PI X tg (.Call (.Name "range" p) [a] [] pos) (Oc ta):=by
 intro pq s σ H R I h;refine Call_ (nc I hg hm boot_range (abx (cM (ha pos pq s σ H _ I h) λus s1 ⟨vs,H1,U,Y,O⟩=>?_) hs rfl))
 obtain⟨j,e,O,Z,q⟩:=O;subst e;cases Y with
 | cons r rr =>
   cases rr;obtain⟨t,rfl⟩:=r;exact call_range_1 (Fo U (by lia) (by lia) O Z (by simpa using q))
def iE(wi:TI)(g:TG)(tb:TS):TS:=λD σ H=>wi σ H λJ H1=>∃W:Nat->Nat->St->Hp->Prop,(∃m,W 0 m σ H1)/\∀i m σ H,W i m σ H->
 (J.stop i H/\D.nx σ H)\/(J.go i H/\∃N:St->Hp->Prop,(∀σ' H',N σ' H'->∃m',m'<m/\W (i+1) m' σ' H')/\∀x H',J.IG i H x H'->g x σ H' λσ2 H2=>tb { D with nx:=N,ct:=N,bk:=D.nx} σ2 H2)
def pC(fp:List Addr)(h:Heap):aS:=fp.filterMap λb=>(h.get? b).map λo=>(b,o)
def fU{fp:List Addr}{h:Heap}{b:Addr}{o:Obj}(hb:b∈fp)(e:h.get? b=some o):(b,o)∈pC fp h:=abP.mpr ⟨b,hb,by rw[e];rfl⟩
def Dg{fp:List Addr}{h:Heap}{p:Addr×Obj}(hp:p∈pC fp h):p.1∈fp/\h.get? p.1=some p.2:=by
 obtain⟨b,hb,e⟩:=abP.mp hp;cases q:h.get? b with
 | none=>rw[q]at e;cases e
 | some o =>
   rw[q]at e;have e' : (b,o)=p:=Option.some.inj e;subst e';exact⟨hb,q⟩
def Inv.pinned{pq:aS}{σ:St}{H:Hp}{s:Shared}{fp:List Addr}(I:Inv X pq σ H s)(hf:∀b∈fp,nh X pq H b)(ho:∀b∈fp,∃o,s.heap.get? b=some o/\∀v,o.data≠.cell v):Inv X (pq++pC fp s.heap) σ H s :=
 I.fH λp O=>(aau.mp O).elim (λz=>I.pin p (iD _ z)) λz=>by
  obtain⟨hb,e⟩:=Dg z;obtain⟨f0,f1,f2,_⟩:=hf p.1 hb;obtain⟨o,e',d⟩:=ho p.1 hb;rw[e]at e';cases e';exact⟨e,f0,f1,f2,d⟩
def Inv.iX{pq pl:aS}{σ:St}{H:Hp}{s:Shared}(I:Inv X (pq++pl) σ H s):Inv X pq σ H s:=I.fH λp O=>I.pin p (iD _ (acE _ O))
def jN{iter:Expr}{body:List Stmt}{wi:TI}{g:TG}{tb:TS}{pos:Pos}(hp:PassesOwn (model X.prog X.w) X.A X.env X.xe)(hc:X.calm=true)(hi:PI X tg iter wi)(hg:PG X tg g)(hb:uU X body tb)
 (hs:∀x,foldedSetIterable iter X.env x=pure x:=by intro _;rfl):PS X (.For tg iter body [] pos) (iE wi g tb):=by
 intro pq s σ H D I h;refine wpAny_For (cM (hi pq s σ H _ I h) λv s1 h1=>cM h1 λag s2 h2=>?_) hs
 obtain⟨it,fp,tn,J,H2,e,I2,T,ab,f2,W,⟨m0,w0⟩,turn⟩:=h2;subst e;have AH:∀{H' : Hp},(∀b∈fp,H' b=none)->∀b∈fp,nh X pq H' b:=λhn b hb=>⟨hn b hb,(f2 b hb).2⟩
 refine codeAny_forLoop_any (λn s'=>∃i σ' H',Inv X pq σ' H' s'/\tn i s'.heap/\(∀b∈fp,H' b=none)/\W i n σ' H') ?_ m0 ⟨0,σ,H2,I2,ab,λb hb=>(f2 b hb).1,w0⟩
 rintro n s3 ⟨i,σ3,H3,I3,Z,KL,w3⟩;rcases turn i n σ3 H3 w3 with⟨stop,qn⟩|⟨go,N,hN,step⟩
 ·refine wpAny_passesOwn hp (cM (T.done X rfl rfl rfl hc i pq s3 σ3 H3 X.xe I3 (AH KL) Z stop) λr s4 ⟨hr,I4⟩=>?_)
  subst hr;exact wpAny_execs_nil ⟨σ3,H3,I4,qn⟩
 ·refine wpAny_passesOwn hp (cM (T.item X rfl rfl rfl hc i pq s3 σ3 H3 X.xe I3 (AH KL) Z go) λr s4 ⟨u,hr,h4⟩=>?_)
  subst hr;refine wpAny_passesOwn hp (cM h4 λ_ s5 ⟨x,H5,I5,r5,y5,Fp,Od⟩=>?_)
  have Oe:=I5.pinned (AH Od) (T.obj _ _ Fp);refine wpAny_passesOwn hp (cM (hg _ s5 σ3 H5 x u _ Oe r5 (step x H5 y5)) λ_ s6 ⟨σ6,H6,I6,q6⟩=>?_)
  refine wpAny_passesOwn hp (cM (hb _ s6 σ6 H6 _ I6 q6) λf s7 Y=>?_)
  have again:∀{σ7:St} {O:Hp},Inv X (pq++pC fp s5.heap) σ7 O s7->N σ7 O->∃m,m<n/\∃i σ' H',Inv X pq σ' H' s7/\tn i s7.heap/\(∀b∈fp,H' b=none)/\W i m σ' H':=λ{σ7 O} U n7=>by
   obtain⟨m',hm,w7⟩:=hN σ7 O n7;refine⟨m',hm,i+1,σ7,O,U.iX,T.keep _ _ _ Fp λb hb o e=>(U.pin (b,o) (iD _ (iD _ (fU hb e)))).1,λb hb=>?_,w7⟩
   obtain⟨o,e,d⟩:=T.obj _ _ Fp b hb;exact(U.pin (b,o) (iD _ (iD _ (fU hb e)))).2.1
  cases f with
  | next=>obtain⟨σ7,O,U,n7⟩:=Y;exact again U n7
  | cont=>obtain⟨σ7,O,U,n7⟩:=Y;exact again U n7
  | brk=>obtain⟨σ7,O,U,Y⟩:=Y;exact⟨σ7,O,U.iX,Y⟩
  | ret v=>obtain⟨x7,σ7,O,U,r7,Y⟩:=Y;exact⟨x7,σ7,O,U.iX,r7,Y⟩
end
def sL{K:bH}{a:Addr}{xs:List V}{g:TG}{tb:TS}{D:Ends}{σ:St}{H:Hp}(Pv:Nat->St->Hp->Prop)(h0:Pv 0 σ H)(hl:∀i σ H,i<=xs.length->Pv i σ H->aV K H a xs)
 (hs:∀i x σ H,xs[i]?=some x->Pv i σ H->g x σ H λσ2 H2=>tb { D with nx:=Pv (i+1),ct:=Pv (i+1),bk:=D.nx} σ2 H2) (hd:∀σ H,Pv xs.length σ H->D.nx σ H) :
 ∃W:Nat->Nat->St->Hp->Prop,(∃m,W 0 m σ H)/\∀i m σ H,W i m σ H->
   ((IT K a).stop i H/\D.nx σ H)\/((IT K a).go i H/\∃N:St->Hp->Prop,(∀σ' H',N σ' H'->∃m',m'<m/\W (i+1) m' σ' H')/\∀x H',(IT K a).IG i H x H'->g x σ H' λσ2 H2=>tb { D with nx:=N,ct:=N,bk:=D.nx} σ2 H2):=by
 refine⟨λi m σ H=>m=xs.length-i/\i<=xs.length/\Pv i σ H,⟨xs.length,by simp,aaB _,h0⟩,?_⟩
 rintro i m σ H ⟨rfl,hi,p⟩;have q:=hl i σ H hi p
 by_cases I:i<xs.length
 ·refine .inr ⟨⟨xs,xs[i],q,by simp[I]⟩,Pv (i+1),λσ' H' O=>⟨xs.length-(i+1),by lia,rfl,I,O⟩,λx H' y=>?_⟩
  obtain⟨e,y⟩:=y;subst e;exact hs i x σ _ (y xs q) p
 ·have e:i=xs.length:=by lia
  subst e;exact .inl ⟨⟨xs,q,Z3 _⟩,hd σ H p⟩
def IV{K:bH}{a:Addr}{xs:List V}{g:TG}{tb:TS}{D:Ends}{σ:St}{H:Hp}(Pv:Nat->St->Hp->Prop)(h0:Pv 0 σ H)(hl:∀i σ H,i<=xs.length->Pv i σ H->bf K H a xs)
 (hs:∀i x σ H,xs[i]?=some x->Pv i σ H->g x σ H λσ2 H2=>tb { D with nx:=Pv (i+1),ct:=Pv (i+1),bk:=D.nx} σ2 H2) (hd:∀σ H,Pv xs.length σ H->D.nx σ H) :
 ∃W:Nat->Nat->St->Hp->Prop,(∃m,W 0 m σ H)/\∀i m σ H,W i m σ H->
   ((Nu K a).stop i H/\D.nx σ H)\/((Nu K a).go i H/\∃N:St->Hp->Prop,(∀σ' H',N σ' H'->∃m',m'<m/\W (i+1) m' σ' H')/\∀x H',(Nu K a).IG i H x H'->g x σ H' λσ2 H2=>tb { D with nx:=N,ct:=N,bk:=D.nx} σ2 H2):=by
 refine⟨λi m σ H=>m=xs.length-i/\i<=xs.length/\Pv i σ H,⟨xs.length,by simp,aaB _,h0⟩,?_⟩
 rintro i m σ H ⟨rfl,hi,p⟩;have q:=hl i σ H hi p
 by_cases I:i<xs.length
 ·refine .inr ⟨⟨xs,xs[i],q,by simp[I]⟩,Pv (i+1),λσ' H' O=>⟨xs.length-(i+1),by lia,rfl,I,O⟩,λx H' y=>?_⟩
  obtain⟨e,y⟩:=y;subst e;exact hs i x σ _ (y xs q) p
 ·have e:i=xs.length:=by lia
  subst e;exact .inl ⟨⟨xs,q,Z3 _⟩,hd σ H p⟩
def Dh{lo:Int}{n:Nat}{g:TG}{tb:TS}{D:Ends}{σ:St}{H:Hp}(Pv:Nat->St->Hp->Prop)(h0:Pv 0 σ H)
 (hs:∀i σ H,i<n->Pv i σ H->g (.int (lo+i)) σ H λσ2 H2=>tb { D with nx:=Pv (i+1),ct:=Pv (i+1),bk:=D.nx} σ2 H2) (hd:∀σ H,Pv n σ H->D.nx σ H) :
 ∃W:Nat->Nat->St->Hp->Prop,(∃m,W 0 m σ H)/\∀i m σ H,W i m σ H->
   ((II lo n).stop i H/\D.nx σ H)\/((II lo n).go i H/\∃N:St->Hp->Prop,(∀σ' H',N σ' H'->∃m',m'<m/\W (i+1) m' σ' H')/\∀x H',(II lo n).IG i H x H'->g x σ H' λσ2 H2=>tb { D with nx:=N,ct:=N,bk:=D.nx} σ2 H2):=by
 refine⟨λi m σ H=>m=n-i/\i<=n/\Pv i σ H,⟨n,by simp,aaB _,h0⟩,?_⟩
 rintro i m σ H ⟨rfl,hi,p⟩
 by_cases I:i<n
 ·refine .inr ⟨I,Pv (i+1),λσ' H' O=>⟨n-(i+1),by lia,rfl,I,O⟩,λx H' y=>?_⟩
  obtain⟨e,y⟩:=y;subst e y;exact hs i σ _ I p
 ·have e:i=n:=by lia
  subst e;exact .inl ⟨Z3 _,hd σ H p⟩
abbrev R2:=V->V->Hp->VK->Prop
def lq(X:Cx)(f:Value->Value->Sem Value)(r:R2):Prop :=
 ∀(pq:aS) (s:Shared) (σ:St) (H:Hp) (x y:V) (v u:Value) (Q:VK),Inv X pq σ H s->RelV x v->RelV y u->r x y H Q->
  wpAny (model X.prog X.w) X.A (f v u) (EP X pq σ Q) X.xe s
def RD(X:Cx)(f:Value->Sem Value)(r:V->Hp->VK->Prop):Prop :=
 ∀(pq:aS) (s:Shared) (σ:St) (H:Hp) (x:V) (v:Value) (Q:VK),Inv X pq σ H s->RelV x v->r x H Q->
  wpAny (model X.prog X.w) X.A (f v) (EP X pq σ Q) X.xe s
def jx(X:Cx)(f:Value)(r:List V->Hp->VK->Prop):Prop :=
 ∀(pq:aS) (s:Shared) (σ:St) (H:Hp) (xs:List V) (us:List Value) (Q:VK),Inv X pq σ H s->Vals xs us->r xs H Q->
  wpAny (model X.prog X.w) X.A (call f us) (EP X pq σ Q) X.xe s
def Of(r:R2)(ta tb:TE):TE:=λσ H Q=>ta σ H λx H1=>tb σ H1 λy H2=>r x y H2 Q
def V5(r:V->Hp->VK->Prop)(ta:TE):TE:=λσ H Q=>ta σ H λx H1=>r x H1 Q
def rI(C:Int->Int->Prop)(g:Int->Int->V):R2:=λx y H Q=>∃i j,x = .int i/\y = .int j/\C i j/\Q (g i j) H
def Fq(g:Int->Int->V):R2:=λx y H Q=>∃i j,x = .int i/\y = .int j/\Q (g i j) H
def rU(g:Int->V):V->Hp->VK->Prop:=λx H Q=>∃i,x = .int i/\Q (g i) H
section
variable {X:Cx}{a b c:Expr}{ta tb tc:TE}{pos:Pos}
def LK(ha:PE X a ta)(hb:PE X b tb){pq:aS}{s:Shared}{σ:St}{H:Hp}{R:V->V->Hp->Prop}(I:Inv X pq σ H s)
 (h:ta σ H λx H1=>tb σ H1 λy H2=>R x y H2) {Q:cP} {f:Value->Value->Sem Value}
 (hf:∀v u s2 x y H2,Inv X pq σ H2 s2->RelV x v->RelV y u->R x y H2->wpAny (model X.prog X.w) X.A (f v u) Q X.xe s2) :
 wpAny (model X.prog X.w) X.A (eval a X.env) (λv O=>wpAny (model X.prog X.w) X.A (eval b X.env) (λu U=>wpAny (model X.prog X.w) X.A (f v u) Q X.xe U) X.xe O) X.xe s:=by
 refine cM (ha pq s σ H _ I h) λv s1 ⟨x,H1,Y,Z,q1⟩=>?_
 refine cM (hb pq s1 σ H1 _ Y q1) λu s2 ⟨y,H2,I2,r2,q2⟩=>?_
 exact hf v u s2 x y H2 I2 Z r2 q2
def aR{op:Operator}{r:R2}(ho:lq X (binaryOp op) r)(ha:PE X a ta)(hb:PE X b tb):PE X (.BinOp a op b pos) (Of r ta tb):=by
 intro pq s σ H Q I h;exact wpAny_BinOp (LK ha hb I h λv u s2 x y H2 O rx U q=>ho pq s2 σ H2 x y v u Q O rx U q)
def Og{op:UnaryOp}{r:V->Hp->VK->Prop}(ho:RD X (unaryOp op) r)(ha:PE X a ta):PE X (.UnaryOp op a pos) (V5 r ta):=by
 intro pq s σ H Q I h;exact UnaryOp_ (cM (ha pq s σ H _ I h) λv s1 ⟨x,H1,O,U,Y⟩=>ho pq s1 σ H1 x v Q O U Y)
def Nv{f:Value->Value->Sem Value}{C:Int->Int->Prop}{g:Int->Int->Int}
 (rule:∀(i j:Int) (t u:Tok) (s:Shared) (Q:cP) (E:cP),C i j->Q (.int (g i j) s.toks) { s with toks:=s.toks+1}->wpAny (model X.prog X.w) X.A (f (.int i t) (.int j u)) Q E s) :
 lq X f (rI C λi j=>.int (g i j)):=by
 intro pq s σ H x y v u Q I rx O h;obtain⟨i,j,rfl,rfl,hc,q⟩:=h;obtain⟨t,rfl⟩:=rx;obtain⟨t',rfl⟩:=O;exact rule i j t t' s _ _ hc ⟨.int (g i j),H,I.tok _,⟨_,rfl⟩,q⟩
def Ft{f:Value->Value->Sem Value}{g:Int->Int->Int}
 (rule:∀(i j:Int) (t u:Tok) (s:Shared) (Q:cP) (E:cP),Q (.int (g i j) s.toks) { s with toks:=s.toks+1}->wpAny (model X.prog X.w) X.A (f (.int i t) (.int j u)) Q E s) :
 lq X f (Fq λi j=>.int (g i j)):=by
 intro pq s σ H x y v u Q I rx O h;obtain⟨i,j,rfl,rfl,q⟩:=h;obtain⟨t,rfl⟩:=rx;obtain⟨t',rfl⟩:=O;exact rule i j t t' s _ _ ⟨.int (g i j),H,I.tok _,⟨_,rfl⟩,q⟩
def IW{f:Value->Value->Sem Value}{g:Int->Int->Bool}
 (rule:∀(i j:Int) (t u:Tok) (s:Shared) (Q:cP) (E:cP),Q (.bool (g i j)) s->wpAny (model X.prog X.w) X.A (f (.int i t) (.int j u)) Q E s) :
 lq X f (Fq λi j=>.bl (g i j)):=by
 intro pq s σ H x y v u Q I rx O h;obtain⟨i,j,rfl,rfl,q⟩:=h;obtain⟨t,rfl⟩:=rx;obtain⟨t',rfl⟩:=O;exact rule i j t t' s _ _ ⟨.bl (g i j),H,I,rfl,q⟩
def LL(i j:Int):Prop:=0<j/\j<1073741824
def Oh(i j:Int):Prop:=0<=j/\j<=1000000/\i.natAbs<2^64
def LM(i j:Int):Prop:=(-(2^64)<i/\i<2^64)\/(-(2^64)<j/\j<2^64)
def LM.ok{i j:Int}(h:LM i j):IntMulOk i j:=by
 rcases h with⟨h1,h2⟩|⟨h1,h2⟩
 ·exact .of_left (intBits_le_64 h1 h2)
 ·exact .of_right (intBits_le_64 h1 h2)
def AI(k:Nat):(0:Int)<=2^k:=by
 rw[two_pow_cast];exact Int.natCast_nonneg _
def fV:lq X (binaryOp .Add) (Fq λi j=>.int (i+j)):=Ft λ_ _ _ _ _ _ _ q=>add_int q
def w9:lq X (binaryOp .Sub) (Fq λi j=>.int (i-j)):=Ft λ_ _ _ _ _ _ _ q=>sub_int q
def AJ:lq X (binaryOp .Mult) (rI LM λi j=>.int (i*j)):=Nv λ_ _ _ _ _ _ _ hc q=>mul_int q hc.ok
def kI:lq X (binaryOp .FloorDiv) (rI LL λi j=>.int (i/j)):=Nv λi j _ _ _ _ _ hc q=>by
 have h1:(0:Int)<j:=hc.1;have h2:j<1073741824:=hc.2;exact floordiv_int (by lia) (by rw[Int.fdiv_eq_ediv_of_nonneg i (by lia)];exact q) (.inl (PyProof.noPylong_small (by lia)))
def fW:lq X (binaryOp .Mod) (rI (λ_ j=>0<j) λi j=>.int (i%j)):=Nv λi j _ _ _ _ _ hc q=>by
 have h1:(0:Int)<j:=hc;exact mod_int' (by lia) (by rw[Int.fmod_eq_emod_of_nonneg i (by lia)];exact q)
def Fv:lq X (binaryOp .Pow) (rI Oh λi j=>.int (i^j.toNat)):=Nv λ_ _ _ _ _ _ _ hc q=>pow_int_small hc.1 hc.2.1 hc.2.2 q
def pD:lq X (binaryOp .LShift) (rI Oh λi j=>.int (i*2^j.toNat)):=Nv λ_ _ _ _ _ _ _ hc q=>lshift_int_small hc.1 hc.2.1 hc.2.2 q
def LN:lq X (binaryOp .RShift) (rI (λ_ j=>0<=j) λi j=>.int (i/2^j.toNat)):=Nv λi j _ _ _ _ _ hc q =>
 rshift_int hc (by rw[Int.fdiv_eq_ediv_of_nonneg i (AI _)];exact q)
def Fw:lq X (binaryOp .BitAnd) (Fq λi j=>.int (Builtin.bitAnd i j)):=Ft λ_ _ _ _ _ _ _ q=>and_int q
def jO:lq X (binaryOp .BitXor) (Fq λi j=>.int (Builtin.bitXor i j)):=Ft λ_ _ _ _ _ _ _ q=>xor_int q
def Fy:lq X (inplaceOp .BitOr) (Fq λi j=>.int (Builtin.bitOr i j)):=Ft λ_ _ _ _ _ _ _ q=>ior_int q
def V6{f:Value->Sem Value}{g:Int->Int}
 (rule:∀(i:Int) (t:Tok) (s:Shared) (Q:cP) (E:cP),Q (.int (g i) s.toks) { s with toks:=s.toks+1}->wpAny (model X.prog X.w) X.A (f (.int i t)) Q E s) :
 RD X f (rU λi=>.int (g i)):=by
 intro pq s σ H x v Q I rx h;obtain⟨i,rfl,q⟩:=h;obtain⟨t,rfl⟩:=rx;exact rule i t s _ _ ⟨.int (g i),H,I.tok _,⟨_,rfl⟩,q⟩
def LO:RD X (unaryOp .USub) (rU λi=>.int (-i)):=V6 λ_ _ _ _ _ q=>neg_int q
end
def Oi:V->V->Bool
 | .dH,.dH=>true | .dH,.int _=>true | .int _,.dH=>true | .dH,.bl _=>true | .bl _,.dH=>true | .dH,.str _=>true | .str _,.dH=>true
 | .int _,.int _=>true | .bl _,.bl _=>true | .str _,.str _=>true | .EY _,.EY _=>true
 | .int _,.str _=>true | .str _,.int _=>true | .bl _,.str _=>true | .str _,.bl _=>true
 | _,_=>false
def V7:R2:=λx y H Q=>Oi x y=true/\Q (.bl (decide (x=y))) H
def V8:R2:=λx y H Q=>Oi x y=true/\Q (.bl (!decide (x=y))) H
def Cc{i j:Int}:decide (V.int i=V.int j)=(i==j):=by
 rw[aa1];simp
def Fz{i j:Bool}:decide (V.bl i=V.bl j)=(i==j):=by
 rw[aa1];simp
def Cd{i j:Str}:decide (V.str i=V.str j)=(i==j):=by
 rw[aa1];simp
def Ce{i j:Array UInt8}:decide (V.EY i=V.EY j)=(i.toList==j.toList):=by
 rw[aa1];cases i;cases j;simp
section
variable {X:Cx}{a b c:Expr}{ta tb tc:TE}{pos:Pos}
def bx{pq:aS}{σ:St}{H:Hp}{s:Shared}{Q:VK}{k k' : Bool}(I:Inv X pq σ H s)(q:Q (.bl k) H)(e:k=k'):EP X pq σ Q (.bool k') s:=by
 subst e;exact⟨.bl k,H,I,rfl,q⟩
def iY:lq X (compareOp .Eq) V7:=by
 intro pq s σ H x y v u Q I rx O h;obtain⟨hs,q⟩:=h;cases x with
 | dH =>
   cases rx;cases y with
   | dH=>cases O;exact PySem.EqNone.eq_none_none (bx I q (by simp))
   | bl j=>cases O;exact PySem.EqNone.eq_none_bool (bx I q (by simp))
   | int j=>obtain⟨U,rfl⟩:=O;exact PySem.EqNone.eq_none_int (bx I q (by simp))
   | str j=>obtain⟨U,rfl⟩:=O;exact PySem.EqNone.eq_none_str (bx I q (by simp))
   | _=>exact absurd (show false=true from hs) aac
 | bl i =>
   cases rx;cases y with
   | dH=>cases O;exact PySem.EqNone.eq_bool_none (bx I q (by simp))
   | bl j=>cases O;exact eq_bool (bx I q Fz)
   | str j=>obtain⟨U,rfl⟩:=O;exact PySem.EqMixed.eq_bool_str (bx I q (by simp))
   | _=>exact absurd (show false=true from hs) aac
 | int i =>
   obtain⟨t,rfl⟩:=rx;cases y with
   | dH=>cases O;exact PySem.EqNone.eq_int_none (bx I q (by simp))
   | int j=>obtain⟨U,rfl⟩:=O;exact eq_int (bx I q Cc)
   | str j=>obtain⟨U,rfl⟩:=O;exact PySem.EqMixed.eq_int_str (bx I q (by simp))
   | _=>exact absurd (show false=true from hs) aac
 | str i =>
   obtain⟨t,rfl⟩:=rx;cases y with
   | dH=>cases O;exact PySem.EqNone.eq_str_none (bx I q (by simp))
   | bl j=>cases O;exact PySem.EqMixed.eq_str_bool (bx I q (by simp))
   | int j=>obtain⟨U,rfl⟩:=O;exact PySem.EqMixed.eq_str_int (bx I q (by simp))
   | str j=>obtain⟨U,rfl⟩:=O;exact eq_str (bx I q Cd)
   | _=>exact absurd (show false=true from hs) aac
 | EY i =>
   obtain⟨t,rfl⟩:=rx;cases y with
   | EY j=>obtain⟨U,rfl⟩:=O;exact PySem.W.eq_bytes (bx I q Ce)
   | _=>exact absurd (show false=true from hs) aac
 | _=>cases y<;>exact absurd (show false=true from hs) aac
def yC:lq X (compareOp .NotEq) V8:=by
 intro pq s σ H x y v u Q I rx O h;obtain⟨hs,q⟩:=h;cases x with
 | dH =>
   cases rx;cases y with
   | dH=>cases O;exact PySem.EqNone.ne_none_none (bx I q (by simp))
   | bl j=>cases O;exact PySem.EqNone.ne_none_bool (bx I q (by simp))
   | int j=>obtain⟨U,rfl⟩:=O;exact PySem.EqNone.ne_none_int (bx I q (by simp))
   | str j=>obtain⟨U,rfl⟩:=O;exact PySem.EqNone.ne_none_str (bx I q (by simp))
   | _=>exact absurd (show false=true from hs) aac
 | bl i =>
   cases rx;cases y with
   | dH=>cases O;exact PySem.EqNone.ne_bool_none (bx I q (by simp))
   | bl j=>cases O;exact ne_bool (bx I q (aas not Fz))
   | str j=>obtain⟨U,rfl⟩:=O;exact PySem.EqMixed.ne_bool_str (bx I q (by simp))
   | _=>exact absurd (show false=true from hs) aac
 | int i =>
   obtain⟨t,rfl⟩:=rx;cases y with
   | dH=>cases O;exact PySem.EqNone.ne_int_none (bx I q (by simp))
   | int j=>obtain⟨U,rfl⟩:=O;exact ne_int (bx I q (aas not Cc))
   | str j=>obtain⟨U,rfl⟩:=O;exact PySem.EqMixed.ne_int_str (bx I q (by simp))
   | _=>exact absurd (show false=true from hs) aac
 | str i =>
   obtain⟨t,rfl⟩:=rx;cases y with
   | dH=>cases O;exact PySem.EqNone.ne_str_none (bx I q (by simp))
   | bl j=>cases O;exact PySem.EqMixed.ne_str_bool (bx I q (by simp))
   | int j=>obtain⟨U,rfl⟩:=O;exact PySem.EqMixed.ne_str_int (bx I q (by simp))
   | str j=>obtain⟨U,rfl⟩:=O;exact ne_str (bx I q (aas not Cd))
   | _=>exact absurd (show false=true from hs) aac
 | EY i =>
   obtain⟨t,rfl⟩:=rx;cases y with
   | EY j=>obtain⟨U,rfl⟩:=O;exact PySem.W.ne_bytes (bx I q (aas not Ce))
   | _=>exact absurd (show false=true from hs) aac
 | _=>cases y<;>exact absurd (show false=true from hs) aac
def vC:lq X (compareOp .Lt) (Fq λi j=>.bl (decide (i<j))):=IW λ_ _ _ _ _ _ _ q=>lt_int q
def KN:lq X (compareOp .LtE) (Fq λi j=>.bl (decide (i<=j))):=IW λ_ _ _ _ _ _ _ q=>le_int q
def qR:lq X (compareOp .Gt) (Fq λi j=>.bl (decide (j<i))):=IW λ_ _ _ _ _ _ _ q=>gt_int q
def Cf:lq X (compareOp .GtE) (Fq λi j=>.bl (decide (j<=i))):=IW λ_ _ _ _ _ _ _ q=>ge_int q
def AK:lq X (compareOp .Is) (λx y H Q=>y = .dH/\Q (.bl (decide (x = .dH))) H):=by
 intro pq s σ H x y v u Q I rx O h;obtain⟨rfl,q⟩:=h;cases O;refine is_none_gen (bx I q ?_);cases x<;>first
  | (cases rx;rfl)
  | (obtain⟨t,rfl⟩:=rx;rfl)
def IX:lq X (compareOp .IsNot) (λx y H Q=>y = .dH/\Q (.bl (!decide (x = .dH))) H):=by
 intro pq s σ H x y v u Q I rx O h;obtain⟨rfl,q⟩:=h;cases O;refine isnot_none_gen (bx I q ?_);cases x<;>first
  | (cases rx;rfl)
  | (obtain⟨t,rfl⟩:=rx;rfl)
def aP(b:Expr){op:CmpOp}(h:op≠.In:=by decide)(h2:op≠.NotIn:=by decide):behindInMarks op b=false:=by
 have I:(op==CmpOp.In)=false:=by cases op<;>first | rfl | exact absurd rfl h
 have O:(op==CmpOp.NotIn)=false:=by cases op<;>first | rfl | exact absurd rfl h2
 cases b<;>simp[behindInMarks,I,O]
def fJ{op:CmpOp}{r:R2}(ho:lq X (compareOp op) r)(ha:PE X a ta)(hb:PE X b tb)(hm:behindInMarks op b=false):PE X (.Compare a [op] [b] pos) (Of r ta tb):=by
 intro pq s σ H Q I h;exact wpAny_Compare1 (LK ha hb I h λv u s2 x y H2 O rx U q=>ho pq s2 σ H2 x y v u Q O rx U q) hm
def Oj(t:TE):TT:=λσ H Q=>t σ H λx H'=>∃k,x = .bl k/\Q k H'
def aH{op:CmpOp}{r:R2}(ho:lq X (compareOp op) r)(ha:PE X a ta)(hb:PE X b tb)(hm:behindInMarks op b=false):PT X (.Compare a [op] [b] pos) (Oj (Of r ta tb)):=by
 intro pq s σ H Q I h;refine wpAny_isTrue_Compare1 (cM (ha pq s σ H _ I h) λv s1 ⟨x,H1,O,U,Y⟩=>cM (hb pq s1 σ H1 _ O Y) λu s2 ⟨y,H2,Z,r2,q2⟩ =>
  cM (ho pq s2 σ H2 x y v u _ Z U r2 q2) λc s3 ⟨z,H3,I3,r3,k,e,q3⟩=>?_) hm
 subst e;cases r3;exact wpAny_truthy_bool ⟨H3,I3,q3⟩
def pF:(sizeLine:Nat)<2^63:=by rw[sizeLine_eq];decide
def vals1{x:V}{us:List Value}(r:Vals [x] us):∃u,us=[u]/\RelV x u:=by
 cases r with
 | cons I O=>cases O;exact⟨_,rfl,I⟩
def vals2{x y:V}{us:List Value}(r:Vals [x,y] us):∃u I,us=[u,I]/\RelV x u/\RelV y I:=by
 cases r with
 | cons O U =>
   cases U with
   | cons Y Z=>cases Z;exact⟨_,_,rfl,O,Y⟩
def mq(hc:X.calm=true):jx X (.builtin "max") (λxs H Q=>∃i j,xs=[.int i,.int j]/\Q (.int (if j > i then j else i)) H):=by
 intro pq s σ H xs us Q I r h;obtain⟨i,j,rfl,q⟩:=h;obtain⟨u,w',rfl,⟨t,rfl⟩,⟨t',rfl⟩⟩:=vals2 r;refine max_two_ints (I.ok.hd hc) λh' tk k=>⟨_,H,I.kept k,?_,q⟩
 by_cases hj:j > i
 ·rw[Z1 hj,Z1 hj];exact⟨_,rfl⟩
 ·rw[Z0 hj,Z0 hj];exact⟨_,rfl⟩
def Di(hc:X.calm=true):jx X (.builtin "min") (λxs H Q=>∃i j,xs=[.int i,.int j]/\Q (.int (if j<i then j else i)) H):=by
 intro pq s σ H xs us Q I r h;obtain⟨i,j,rfl,q⟩:=h;obtain⟨u,w',rfl,⟨t,rfl⟩,⟨t',rfl⟩⟩:=vals2 r;refine min_two_ints (I.ok.hd hc) λh' tk k=>⟨_,H,I.kept k,?_,q⟩
 by_cases hj:j<i
 ·rw[Z1 hj,Z1 hj];exact⟨_,rfl⟩
 ·rw[Z0 hj,Z0 hj];exact⟨_,rfl⟩
end
structure AL(h:Heap)(x dx C:Addr)(mA:lE):Prop where
 obj:h.get? x=some (PySem.W.instObj C dx)
 ns:h.Ns1 dx mA
 ne:dx≠x
def Dl{h:Heap}{dx:Addr}{mA:lE}(n:h.Ns1 dx mA):∃od,h.get? dx=some od/\∀name,PySem.W.lookIn name od=some (mA name):=by
 obtain⟨o,es,ep,O,hd,hk,_,hm⟩:=n;refine⟨o,O,λname=>?_⟩
 have e:=hm name;unfold nsFind findBy at e;rw[<-Array.find?_toList]at e;unfold PySem.W.lookIn;rw[hd];dsimp only
 split
 ·rename_i y q
  rw[q]at e;exact aas some e
 ·rename_i q
  rw[q]at e;have a:es.toList.any (·.refKey)=false:=by
   rw[List.any_eq_false];intro y U;obtain⟨z,t,I⟩:=hk y (Array.mem_toList_iff.mp U);simp[DictEntry.refKey,I]
  have Y : ¬ es.toList.any (·.refKey)=true:=by rw[a];exact aac
  rw[Z0 Y];exact aas some e
def AL.look{h:Heap}{x dx C:Addr}{mA:lE}(I:AL h x dx C mA):∃od,PySem.W.InstAt h x (PySem.W.instObj C dx) C (some od)/\∀name,PySem.W.lookIn name od=some (mA name) :=
 let⟨od,ho,hl⟩:=Dl I.ns
 ⟨od,⟨I.obj,rfl,rfl,ho⟩,hl⟩
section
variable {prog:Program}{w:World}{A:Around}{E:cP}{s:Shared}{K:bH}{x dx C f:Addr}{mA:lE}{name:Str}{v:Value}
def get_map{expr:Bool}{Q:cP}(X:K.In s.heap)(I:AL s.heap x dx C mA)(hg:PySem.W.plainGet K C name=true)(hh:PySem.W.hasDictIn K C=true)
 (ha:PySem.W.findIn K (.ref C) name=some none) (hv:mA name=some v) (Dm:PySem.W.handedIn v=true) (h:Q v { s with toks:=s.toks+1}) :
 wpAny (model prog w) A (getAttr (.ref x) name expr) Q E s:=by
 obtain⟨od,J,O⟩:=I.look;exact PySem.W.get_value X J (acM hg).1 (PySem.W.findObj_own hh ha rfl (by rw[O,hv])) Dm h
def FA{pl:Sem Bool}{Q:Value×List Value->Shared->Prop}(X:K.In s.heap)(I:AL s.heap x dx C mA)(hg:PySem.W.plainGet K C name=true)
 (hf:PySem.W.findIn K (.ref C) name=some (some (.ref f))) (ht:PySem.W.isFn K (.ref f)=true) (hv:mA name=none) (h:Q (.ref f,[.ref x]) s) :
 wpAny (model prog w) A (getMethod (.ref x) name pl) Q E s:=by
 obtain⟨od,J,O⟩:=I.look;exact PySem.W.method_fn X J (acM hg).1 (acM hg).2 hf (acF.mp ht) (by show(PySem.W.lookIn name od).map (·.isSome)=some false;rw[O,hv];rfl) h
def IY{ns:List Str}{Q:Unit->Shared->Prop}(X:K.In s.heap)(I:AL s.heap x dx C mA)
 (hs:PySem.W.findIn K (.ref C) "__setattr__"=some (some (.builtin "object.__setattr__"))) (Z:PySem.W.plainOver K C=true) (ht:PySem.W.takerIn K C name=some none) (hh:PySem.W.hasDictIn K C=true)
 (hw:PySem.Within mA ns) (hsz:ns.length<=sizeLine)
 (h:∀h',AL h' x dx C (λy=>if y=name then some v else mA y)->Heap.SameBut dx s.heap h'->Q () { s with heap:=h',toks:=s.toks+2}) :
 wpAny (model prog w) A (setAttr (.ref x) name v) Q E s:=by
 obtain⟨od,J,hl⟩:=I.look;refine PySem.W.set_plain X J hs (PySem.W.osa_open (s:={ s with toks:=s.toks+1}) (r:=none) X J Z ht λb=>?_)
 obtain⟨cd,hc,Y⟩:=PySem.W.any_some hh;have hx:s.heap.get? x=some ⟨.ref C,some dx,.plain,#[]⟩:=I.obj;refine aQ (Z5 (aQ (aQ (wpAny_loadPart hx (aQ (PySem.W.Looks.here (s:={ s with toks:=s.toks+1}) (PySem.W.looks_clsIn X hc) ?_))))))
 rw[Y];refine Z5 (a:=some dx) (aQ (Z5 (aQ ?_)));refine wpAny_nsSet1 (s:={ s with toks:=s.toks+1}) I.ns λh' O U=>?_
 obtain⟨oD,Zz,ZA,V9,Wa,Ol⟩:=O.count (PySem.Within.cons name v hw);refine aQ (wpAny_lookBehind V9 (by rw[Wa];exact pastItsLine_dict (aat Ol (by rw[aaA];lia))) ?_)
 exact Z5 (h _ ⟨(U.2 _ (aaq I.ne)).trans I.obj,O,I.ne⟩ U)
def FD{R:Result->Shared->Prop}{vs:List Value}{kw:List (Str×Value)}(X:K.In s.heap)(hm:PySem.W.makesIn K C=true)
 (hi:PySem.W.findIn K (.ref C) "__init__"=some (some (.ref f))) (hf:PySem.W.typeIn K (.ref f)=some (.type "function"))
 (h:codeAny (model prog w) (A.under (.builtin "type.__call__" ⟨.ref C::vs,kw⟩)) (.call (.ref f) ⟨.ref (s.heap.objs.size+1)::vs,kw⟩) (PySem.W.InitBack (s.heap.objs.size+1) R)
  { s with heap:=(s.heap.push PySem.W.emptyDict).push (PySem.W.instObj C s.heap.objs.size)}) :
 codeAny (model prog w) A (.call (.ref C) ⟨vs,kw⟩) R s:=by
 obtain⟨hh,g,d,t,os⟩:=s;exact PySem.W.make_core (PySem.W.makes_of X hm) (PySem.W.looks_findIn X hi) (λself=>PySem.W.bind_fn X self hf) (.inl rfl) h
end
def cA(f:Str)(v:V):List (Str×V)->List (Str×V)
 | []=>[(f,v)]
 | (g,x)::r=>if g=f then(g,v)::r else(g,x)::cA f v r
def aZ(f g:Str)(v:V):∀fs:List (Str×V),(cA f v fs).lookup g=if g=f then some v else fs.lookup g
 | []=>by
   show List.lookup g [(f,v)]=_
   by_cases h:g=f
   ·have hb:(g==f)=true:=acF.mpr h;simp only[List.lookup,hb,Z1 h]
   ·have hb:(g==f)=false:=beq_eq_false_iff_ne.mpr h;simp only[List.lookup,hb,Z0 h]
 | (k,x)::r=>by
   have I:=aZ f g v r;rw[show cA f v ((k,x)::r)=(if k=f then(k,v)::r else(k,x)::cA f v r) from rfl]
   by_cases hk:k=f
   ·rw[Z1 hk]
    by_cases h:g=k
    ·have hb:(g==k)=true:=acF.mpr h;simp only[List.lookup,hb,Z1 (h.trans hk)]
    ·have hb:(g==k)=false:=beq_eq_false_iff_ne.mpr h;simp only[List.lookup,hb,Z0 (λe:g=f=>h (e.trans hk.symm))]
   ·rw[Z0 hk]
    by_cases h:g=k
    ·have hb:(g==k)=true:=acF.mpr h;simp only[List.lookup,hb,Z0 (λe:g=f=>hk (h.symm.trans e))]
    ·have hb:(g==k)=false:=beq_eq_false_iff_ne.mpr h;simp only[List.lookup,hb];exact I
def pG(f:Str)(v:V):∀fs:List (Str×V),f∈(cA f v fs).map (·.1)/\∀g,g∈fs.map (·.1)->g∈(cA f v fs).map (·.1)
 | []=>⟨by simp[cA],λg h=>by simp at h⟩
 | (k,x)::r=>by
   obtain⟨I,O⟩:=pG f v r;rw[show cA f v ((k,x)::r)=(if k=f then(k,v)::r else(k,x)::cA f v r) from rfl]
   by_cases hk:k=f
   ·rw[Z1 hk];subst hk;exact⟨by simp,λg h=>by simpa using h⟩
   ·rw[Z0 hk];refine⟨?_,λg h=>?_⟩
    ·rw[aaj];exact m9 _ I
    ·rw[aaj]at h ⊢;rcases aaa.mp h with e|e
     ·exact aaa.mpr (.inl e)
     ·exact m9 _ (O g e)
def gH(f:Str)(v:V):∀fs:List (Str×V),(cA f v fs).length<=fs.length+1
 | []=>by simp[cA]
 | (k,x)::r=>by
   have I:=gH f v r;rw[show cA f v ((k,x)::r)=(if k=f then(k,v)::r else(k,x)::cA f v r) from rfl]
   by_cases hk:k=f
   ·rw[Z1 hk,aaA,aaA];lia
   ·rw[Z0 hk,aaA,aaA];lia
def j8.some_of{v:V}{o:Option Value}(r:j8 (some v) o):∃u,o=some u/\RelV v u:=by
 cases o with
 | none=>exact(show False from r).elim
 | some u=>exact⟨u,rfl,r⟩
def j8.none_of{o:Option Value}(r:j8 none o):o=none:=by
 cases o with
 | none=>rfl
 | some u=>exact(show False from r).elim
def Dp{v:V}{u:Value}(r:RelV v u):PySem.W.handedIn u=true:=by
 cases v with
 | dH=>cases(show u=Value.none from r);rfl
 | bl b=>cases(show u=Value.bool b from r);rfl
 | int i=>obtain⟨t,e⟩:=(show ∃t,u=Value.int i t from r);cases e;rfl
 | str x=>obtain⟨t,e⟩:=(show ∃t,u=Value.str x t from r);cases e;rfl
 | EY b=>obtain⟨t,e⟩:=(show ∃t,u=Value.bytes b t from r);cases e;rfl
 | Qs b=>obtain⟨t,e⟩:=(show ∃t,u=Value.float b t from r);cases e;rfl
 | ref a=>cases(show u=Value.ref a from r);rfl
 | ty n=>cases(show u=Value.type n from r);rfl
section
variable {P:Program}{w:World}{H H' : Hp}{h h' : Heap}{a C dx:Addr}{fs fs' : List (Str×V)}
def xg(hok:lG P w H h)(e:H a=some (.ins C dx fs)):∃mA,AL h a dx C mA/\(∀f,j8 (fs.lookup f) (mA f))/\PySem.Within mA (fs.map (·.1))/\fs.length<=1000/\H dx=some (.own a):=by
 obtain⟨d,z,ne,ob,mA,n,r,q⟩:=(show bC P w H h a (.ins C dx fs) from hok a _ e)
 exact⟨mA,⟨ob,n,ne⟩,r,q,z,d⟩
end
structure IJ(K:bH)(C:Addr):Prop where
 pg:PySem.W.plainGet K C Str.empty=true
 hd:PySem.W.hasDictIn K C=true
 po:PySem.W.plainOver K C=true
 sa:PySem.W.findIn K (.ref C) "__setattr__"=some (some (.builtin "object.__setattr__"))
def IJ.get{K:bH}{C:Addr}(c:IJ K C)(f:Str):PySem.W.plainGet K C f=true:=c.pg
def jP(K:bH)(C:Addr)(f:Str):Prop:=PySem.W.findIn K (.ref C) f=some none
def jP.Om{K:bH}{C:Addr}{f:Str}(n:jP K C f):PySem.W.takerIn K C f=some none:=by
 unfold PySem.W.takerIn;rw[show PySem.W.findIn K (.ref C) f=some none from n]
 rfl
structure Meth(K:bH)(C:Addr)(m:Str)(f:Addr):Prop where
 at_:PySem.W.findIn K (.ref C) m=some (some (.ref f))
 fn:PySem.W.isFn K (.ref f)=true
 kp:PySem.W.keepIn K (.ref f)=true
section
variable {X:Cx}{pq:aS}{σ:St}{H:Hp}{s:Shared}{a C dx:Addr}{fs:List (Str×V)}{f:Str}{v:V}{A:Around}{E:cP}
def AM{b:Bool}{Q:cP}(I:Inv X pq σ H s)(e:H a=some (.ins C dx fs))(c:IJ X.K C)(n:jP X.K C f)(l:fs.lookup f=some v)
 (h:∀u s',Inv X pq σ H s'->RelV v u->Q u s'):wpAny (model X.prog X.w) A (getAttr (.ref a) f b) Q E s:=by
 obtain⟨mA,O,r,_,_,_⟩:=xg I.hok e;obtain⟨u,hu,ru⟩:=j8.some_of (v:=v) (o:=mA f) (by rw[<-l];exact r f)
 exact get_map I.AD O (c.get f) c.hd n hu (Dp ru) (h u _ (I.tok _) ru)
def sM{m:Str}{g:Addr}{pl:Sem Bool}{Q:Value×List Value->Shared->Prop}(I:Inv X pq σ H s)(e:H a=some (.ins C dx fs))(c:IJ X.K C)(k:Meth X.K C m g)(l:fs.lookup m=none)
 (h:Q (.ref g,[.ref a]) s):wpAny (model X.prog X.w) A (getMethod (.ref a) m pl) Q E s:=by
 obtain⟨mA,O,r,_,_,_⟩:=xg I.hok e;have hn:mA m=none:=j8.none_of (by rw[<-l];exact r m)
 exact FA I.AD O (c.get m) k.at_ k.fn hn h
def AN{y:V}{u:Value}{Q:Unit->Shared->Prop}(I:Inv X pq σ H s)(e:H a=some (.ins C dx fs))(c:IJ X.K C)(n:jP X.K C f)(hl:fs.length<1000)(ry:RelV y u)
 (h:∀s',Inv X pq σ (upd H a (.ins C dx (cA f y fs))) s'->Q () s'):wpAny (model X.prog X.w) A (setAttr (.ref a) f u) Q E s:=by
 obtain⟨mA,O,r,wi,_,Y⟩:=xg I.hok e;have hz:(fs.map (·.1)).length<=sizeLine:=by rw[ZZ,sizeLine_eq];lia
 refine IY I.AD O c.sa c.po n.Om c.hd wi hz λh' U Z=>h _ ?_
 have hd:∃o,h'.get? dx=some o:=let⟨o,_,_,e',_⟩:=U.ns;⟨o,e'⟩;refine I.write (x:=a) (e:=dx) (by rw[e];exact True.intro) (.inr Y) (λb q hb z=>(Z.2 b hb).trans z) hd ?_
 refine⟨by rw[ae O.ne];exact Y,?_,O.ne,U.obj,_,U.ns,λg=>?_,λg hg=>?_⟩
 ·have:=gH f y fs;lia
 ·show j8 ((cA f y fs).lookup g) (if g=f then some u else mA g)
  rw[aZ]
  by_cases q:g=f
  ·rw[Z1 q,Z1 q];exact ry
  ·rw[Z0 q,Z0 q];exact r g
 ·by_cases q:g=f
  ·rw[q];exact(pG f y fs).1
  ·refine(pG f y fs).2 g (wi g λz=>hg ?_)
   show(if g=f then some u else mA g)=none
   rw[Z0 q];exact z
def Inv.made(I:Inv X pq σ H s):Inv X pq σ (upd (upd H s.heap.objs.size (.own (s.heap.objs.size+1))) (s.heap.objs.size+1) (.ins C s.heap.objs.size []))
 { s with heap:=(s.heap.push PySem.W.emptyDict).push (PySem.W.instObj C s.heap.objs.size)}:=by
 have O:(s.heap.push PySem.W.emptyDict).get? s.heap.objs.size=some PySem.W.emptyDict:=aag s.heap rfl;have U:((s.heap.push PySem.W.emptyDict).push (PySem.W.instObj C s.heap.objs.size)).get? (s.heap.objs.size+1)=some (PySem.W.instObj C s.heap.objs.size):=by
  have:=aag (s.heap.push PySem.W.emptyDict) (o:=PySem.W.instObj C s.heap.objs.size) rfl
  rwa [ab9]at this
 have Y:(s.heap.push PySem.W.emptyDict).Ns s.heap.objs.size (λ_=>none):=⟨PySem.W.emptyDict,#[],_,O,rfl,(λe he=>absurd he (by simp)),λ_=>rfl⟩
 have Z:=I.laid (a:=s.heap.objs.size) (o:=.own (s.heap.objs.size+1)) (h':=s.heap.push PySem.W.emptyDict) (t':=s.toks) (λb u q=>Z2 _ q) (Z3 _) ⟨_,O⟩
 refine Z.laid (a:=s.heap.objs.size+1) (o:=.ins C s.heap.objs.size []) (t':=s.toks) (λb u q=>Z2 _ q) (abU (ab9 _ _)) ?_
 have ne:s.heap.objs.size≠s.heap.objs.size+1:=aak (abb _);refine⟨by rw[ae ne,af],aaB _,ne,U,λ_=>none,(Heap.Ns1.of_empty Y).at λo q=>Z2 _ q,λ_=>True.intro,λy hy=>absurd rfl hy⟩
def IZ{prog:Program}{w:World}{env:Env}{e:Expr}{f:Str}{pos:Pos}{s:Shared}{Q:cP}(hb:attributeBase e f env (eval e env)=eval e env)
 (h:wpAny (model prog w) A (eval e env) (λo I=>wpAny (model prog w) A (getAttr o f true) Q E I) E s):wpAny (model prog w) A (eval (.Attribute e f pos) env) Q E s :=
 Attribute_any_ h (by rw[arm_eval_Attribute,hb])
end
def Oo(K:bH)(ta:TE)(f:Str):TE:=λσ H Q=>ta σ H λx H1=>∃a C dx fs v,x = .ref a/\H1 a=some (.ins C dx fs)/\IJ K C/\jP K C f/\fs.lookup f=some v/\Q v H1
def RE(K:bH)(ta tv:TE)(f:Str):TS:=λD σ H=>tv σ H λy H1=>ta σ H1 λx H2=>∃a C dx fs,x = .ref a/\H2 a=some (.ins C dx fs)/\IJ K C/\jP K C f/\fs.length<1000/\
 D.nx σ (upd H2 a (.ins C dx (cA f y fs)))
section
variable {X:Cx}{o e value:Expr}{f:Str}{pos pos' tpos:Pos}{ta tv:TE}
def LP(he:PE X e ta)(hb:attributeBase e f X.env (eval e X.env)=eval e X.env):PE X (.Attribute e f pos) (Oo X.K ta f):=by
 intro pq s σ H Q I h;refine IZ hb (cM (he pq s σ H _ I h) λu s1 ⟨x,H1,O,rx,a,C,dx,fs,v,ex,U,c,n,l,q⟩=>?_)
 subst ex;obtain rfl:u=Value.ref a:=rx;exact AM O U c n l λu' s2 Y Z=>⟨v,H1,Y,Z,q⟩
def pH(ha:PE X o ta)(hv:PE X value tv)(hs:swapsWith value (some (.Attribute o f pos')) pos.line X.env=pure false):PS X (.Assign [.Attribute o f pos'] value pos) (RE X.K ta tv f):=by
 intro pq s σ H D I h;refine plainObj_wpAny_Assign_Attribute (cM (hv pq s σ H _ I h) λu s1 ⟨y,H1,O,U,q⟩=>cM (ha pq s1 σ H1 _ O q) λY s2 ⟨x,H2,Z,rx,a,C,dx,fs,ex,ea,c,n,l,q2⟩=>?_) hs
 subst ex;obtain rfl:Y=Value.ref a:=rx;exact AN Z ea c n l U λs3 I3=>⟨σ,_,I3,q2⟩
end
structure cW(k:Nat)(A:Around):Prop where
 hd:A.handled=none
 dp:A.depth+3*k+5<recursionLimit
 un:A.units+16*k+200<cLine
def cW.mono{j k:Nat}{A:Around}(r:cW k A)(h:j<=k):cW j A:=⟨r.hd,by have:=r.dp;lia,by have:=r.un;lia⟩
def cW.deeper{k:Nat}{A:Around}(r:cW (k+1) A)(env:Env):cW k (A.deeper env) :=
 ⟨r.hd,by have:=r.dp;show A.depth+1+3*k+5<_;lia,by have:=r.un;show A.units+3+16*k+200<_;lia⟩
def cW.in1{k:Nat}{A:Around}(r:cW (k+1) A):cW k A.in1 :=
 ⟨r.hd,by have:=r.dp;show A.depth+3*k+5<_;lia,by have:=r.un;show A.units+1+16*k+200<_;lia⟩
def AO{A:Around}{C:Addr}{us:List Value}{kw:List (Str×Value)}:(A.under (.builtin "type.__call__" ⟨.ref C::us,kw⟩)).depth=A.depth+1:=by
 first | rfl | simp[Around.under,Code.weight,Code.isCreation,Code.isGuard,Code.isCaller,Code.frames,Code.isFrame,guardIds]
def AQ{A:Around}{C:Addr}{us:List Value}{kw:List (Str×Value)}:(A.under (.builtin "type.__call__" ⟨.ref C::us,kw⟩)).units=A.units+1:=by
 first | rfl | simp[Around.under,Code.cUnits,Code.frames,Code.isFrame]
def cW.make{k:Nat}{A:Around}(r:cW (k+1) A)(C:Addr)(us:List Value)(kw:List (Str×Value)):cW k (A.under (.builtin "type.__call__" ⟨.ref C::us,kw⟩)) :=
 ⟨r.hd,by have:=r.dp;rw[AO];lia,by have:=r.un;rw[AQ];lia⟩
def cW.depth{k:Nat}{A:Around}(r:cW k A):A.depth<recursionLimit:=by have:=r.dp;lia
def cW.units{k:Nat}{A:Around}(r:cW k A):A.units+64<cLine:=by have:=r.un;lia
def cW.AR{k:Nat}{A:Around}(r:cW k A):A.units<cLine:=by have:=r.un;lia
def Oq:TA:=λ_ H Q=>Q [] H
def Ot(ta:TE)(tr:TA):TA:=λσ H Q=>ta σ H λx H1=>tr σ H1 λxs H2=>Q (x::xs) H2
section
variable {X:Cx}{e:Expr}{es:List Expr}{te:TE}{t:TA}{pos:Pos}
def ah:PA X [] Oq:=λ_ _ _ _ H Q I h=>Calls.spliced_nil ⟨[],H,I,.nil,h⟩
def aa(ha:PE X e te)(hr:PA X es t)(hs:starEach (e::es) X.env=(false,eval e X.env)::starEach es X.env:=by rfl):PA X (e::es) (Ot te t):=by
 intro pos pq s σ H Q I h;rw[hs];show wpAny _ _ (spliced ((false,eval e X.env)::backTo pos (starEach es X.env))) _ _ s;refine Calls.spliced_cons (cM (ha pq s σ H _ I h) λu s1 ⟨x,H1,O,U,Y⟩=>?_)
 exact cM (hr pos pq s1 σ H1 _ O Y) λus s2 ⟨xs,H2,Z,r2,q2⟩=>⟨x::xs,H2,Z,.cons U r2,q2⟩
def RG(t:TA):TE:=λσ H Q=>t σ H λxs H1=>xs.length<=sizeLine/\∀p,H1 p=none->Q (.ref p) (upd H1 p (.tup xs))
def RH(t:TA):TE:=λσ H Q=>t σ H λxs H1=>xs.length<=sizeLine/\∀p,H1 p=none->Q (.ref p) (upd H1 p (.lst xs))
def cI{x1}(h:PA X es t):PE X (.Tuple es x1 pos) (RG t):=by
 intro pq s σ H Q I U;refine wpAny_Tuple_spliced (cM (h pos pq s σ H _ I U) λus s1 ⟨xs,H1,O,r,z,q⟩=>⟨by rw[<-r.length];exact z,?_⟩)
 have hf:H1 s1.heap.objs.size=none:=O.hok.fresh (Z3 _);refine⟨.ref s1.heap.objs.size,upd H1 s1.heap.objs.size (.tup xs),O.laid (t':=s1.toks) (λb u e=>Z2 _ e) (Z3 _) ?_,rfl,q _ hf⟩
 exact⟨z,us,r,⟨_,aag _ rfl,rfl,_,rfl⟩⟩
def fb(h:PA X es t):PE X (.List es pos) (RH t):=by
 intro pq s σ H Q I U;refine wpAny_List_spliced (cM (h pos pq s σ H _ I U) λus s1 ⟨xs,H1,O,r,z,q⟩=>⟨by rw[<-r.length];exact z,?_⟩)
 have hf:H1 s1.heap.objs.size=none:=O.hok.fresh (Z3 _);refine⟨.ref s1.heap.objs.size,upd H1 s1.heap.objs.size (.lst xs),O.laid (t':=s1.toks) (λb u e=>Z2 _ e) (Z3 _) ?_,rfl,q _ hf⟩
 exact⟨z,us,0,r,aag _ rfl⟩
end
abbrev Sp:=List V->Hp->VK->XK->Prop
abbrev EZ:=List Env->Hp->Shared->XK->Value->Shared->Prop
structure AS(P:Program)(w:World)(K:bH)(mg:lE)(base:Heap)(A:Around)(outer:List Env)(s:Shared)(H:Hp):Prop where
 frames:A.frames=some outer
 mod:Mod K mg base
 bs:∀b o,base.get? b=some o->s.heap.get? b=some o/\H b=none
 IE:base.objs.size<=s.heap.objs.size
 funs:s.heap.FunFrames base outer
 IQ:∀b∈frs outer,H b=none
 hok:lG P w H s.heap
 bare:AllBare s.gens
def CE(outer:List Env)(P:Program)(w:World)(H:Hp)(s:Shared)(Q:VK)(u:Value)(s' : Shared):Prop :=
 ∃v H',s'.os=s.os/\AllBare s'.gens/\Un (frs outer) [] H H' s.heap s'.heap/\lG P w H' s'.heap/\RelV v u/\Q v H'
def CR(CX:EZ)(outer:List Env)(P:Program)(w:World)(H:Hp)(s:Shared)(Q:VK)(E:XK)(r:Result)(s' : Shared):Prop :=
 match r with
 | .ok (.ret u)=>CE outer P w H s Q u s'
 | .ok _=>False
 | .error e=>CX outer H s E e s'
structure fF(P:Program)(w:World)(K:bH)(mg:lE)(base:Heap)(CX:EZ)(k:Nat)(f:Addr)(fd:FuncData)(ps:List Str)(sp:Sp):Prop where
 len:∀vs H Q E,sp vs H Q E->vs.length=ps.length
 run:∀(A:Around) (outer:List Env) (s:Shared) (H:Hp) (args:Args) (us:List Value) (vs:List V) (Q:VK) (E:XK),cW k A->AS P w K mg base A outer s H->BindsTo s fd args (ps.zip us)->Vals vs us->sp vs H Q E->
  codeAny (model P w) A (.call (.ref f) args) (CR CX outer P w H s Q E) s
def AS.make{P:Program}{w:World}{K:bH}{mg:lE}{base:Heap}{A:Around}{outer:List Env}{s:Shared}{H:Hp}(e:AS P w K mg base A outer s H)(C:Addr)(us:List Value)(kw:List (Str×Value)):
 AS P w K mg base (A.under (.builtin "type.__call__" ⟨.ref C::us,kw⟩)) outer s H:=⟨by first | exact e.frames | (simpa[Around.under,Code.envs,Code.isFrame,pushEnvs]using e.frames),e.mod,e.bs,e.IE,e.funs,e.IQ,e.hok,e.bare⟩
section
variable {X:Cx}{pq:aS}{σ:St}{H:Hp}{s s' : Shared}
def Inv.Ou(I:Inv X pq σ H s):AS X.prog X.w X.K X.mg X.base X.A X.stack s H :=
 ⟨I.ok.frames,I.ok.mod,I.bs,aat I.ok.IE I.sz,I.stack,I.w5,I.hok,I.bare⟩
def Inv.after{Q:VK}{u:Value}(I:Inv X pq σ H s)(h:CE X.stack X.prog X.w H s Q u s'):EP X pq σ Q u s':=by
 obtain⟨v,H',os,bare,un,hok,r,q⟩:=h;obtain⟨hh,g,d,t,os'⟩:=s';obtain rfl:os' = s.os:=os;exact⟨v,H',I.call (h':=hh) (g':=g) (d':=d) (t':=t) (ch:=[]) un hok bare (λb z=>absurd z (by simp)),r,q⟩
end
def KO(sp:Sp)(uV:List V)(E:XK)(t:TA):TE:=λσ H Q=>t σ H λvs H1=>sp (vs++uV) H1 Q E
def KP(C:Addr)(m:Str)(sp:Sp)(uV:List V)(E:XK)(ta:TE)(t:TA):TE:=λσ H Q=>ta σ H λx H1=>∃a dx fs,x = .ref a/\H1 a=some (.ins C dx fs)/\fs.lookup m=none/\
 t σ H1 λvs H2=>sp (x::(vs++uV)) H2 Q E
def Ov(C:Addr)(sp:Sp)(uV:List V)(E:XK)(t:TA):TE:=λσ H Q=>t σ H λvs H1=>∀x dx,H1 x=none->H1 dx=none->dx≠x->
 sp (.ref x::(vs++uV)) (upd (upd H1 dx (.own x)) x (.ins C dx [])) (λv H2=>v = .dH/\Q (.ref x) H2) E
def Binds(K:bH)(fd:FuncData)(ps:List Str)(ds:List Value):Prop :=
 ∀(s:Shared) (us:List Value),K.In s.heap->(us++ds).length=ps.length->BindsTo s fd ⟨us,[]⟩ (ps.zip (us++ds))
def Binds.all{K:bH}{fd:FuncData}{ps:List Str}(h:∀us:List Value,us.length=ps.length->bindArgs fd ⟨us,[]⟩=pure (ps.zip us)):Binds K fd ps []:=λs us _ I=>by
 rw[abq]at I ⊢;exact .of_eq (h us I)
def Passes(CX:EZ)(X:Cx)(E:XK):Prop:=∀(pq:aS) (σ:St) (H:Hp) (s:Shared) (e:Value) (s' : Shared),Inv X pq σ H s->CX X.stack H s E e s'->X.xe e s'
section
variable {X:Cx}{CX:EZ}{k:Nat}{f C:Addr}{fd:FuncData}{ps:List Str}{sp:Sp}{uV:List V}{ds:List Value}{E:XK}{x m:Str}{p pos apos:Pos}{e o:Expr}{es:List Expr}{ta:TE}{t:TA}
def AU{pq:aS}{σ:St}{H:Hp}{s:Shared}{Q:VK}{us:List Value}{vs:List V}(F:fF X.prog X.w X.K X.mg X.base CX k f fd ps sp)(hr:cW k X.A)(hb:Binds X.K fd ps ds)(hd:Vals uV ds)(hx:Passes CX X E)
 (I:Inv X pq σ H s) (r:Vals vs us) (h:sp (vs++uV) H Q E):wpAny (model X.prog X.w) X.A (call (.ref f) us) (EP X pq σ Q) X.xe s:=by
 have U:Vals (vs++uV) (us++ds):=r.append hd;have Y:(us++ds).length=ps.length:=by rw[<-U.length];exact F.len _ _ _ _ h
 refine wpAny_call (codeAny_mono (F.run X.A X.stack s H ⟨us,[]⟩ (us++ds) (vs++uV) Q E hr I.Ou (hb s us I.AD Y) U h) λr s' O=>?_)
 cases r with
 | error e=>exact hx pq σ H s e s' I O
 | ok fl =>
   cases fl with
   | ret u=>exact I.after O
   | next=>exact False.elim O
   | brk=>exact False.elim O
   | cont=>exact False.elim O
def Ja(F:fF X.prog X.w X.K X.mg X.base CX k f fd ps sp)(hr:cW k X.A)(hg:Gl X x)(hm:X.mg x=some (.ref f))(hk:PySem.W.keepIn X.K (.ref f)=true)(hb:Binds X.K fd ps ds)(hd:Vals uV ds)(hx:Passes CX X E)
 (ha:PA X (e::es) t) (hdb:(x==("__debug__":Str))=false:=by decide) (he:starEach (e::es) X.env=(false,eval e X.env)::starEach es X.env:=by rfl) (hpl:(backTo pos (starEach es X.env)).any (·.1)=false:=by rfl) :
 PE X (.Call (.Name x p) (e::es) [] pos) (KO sp uV E t):=by
 intro pq s σ H Q I h;refine wpAny_Call_Name_kw (rZ I hg hm ?_ hdb);refine acP (h₀:=X.base) I.ok.mod.Nq hk (cM (ha pos pq s σ H _ I h) λus s1 ⟨vs,H1,O,r,q⟩=>⟨O.AD,?_⟩) he hpl
 exact AU F hr hb hd hx O r q
def Cg{pl:Sem Bool}(he:PE X o ta)(c:IJ X.K C)(hm:Meth X.K C m f)(F:fF X.prog X.w X.K X.mg X.base CX k f fd ps sp)(hr:cW k X.A)(hb:Binds X.K fd ps ds)(hd:Vals uV ds)(hx:Passes CX X E)(ha:PA X (e::es) t)
 (hst:starEach (e::es) X.env=(false,eval e X.env)::starEach es X.env:=by rfl) (hpl:(backTo pos (starEach es X.env)).any (·.1)=false:=by rfl)
 (ht:eval (.Call (.Attribute o m apos) (e::es) [] pos) X.env=(do
  let O←eval o X.env
  standAt apos.atName
  let(f,first)←holding [O] (getMethod O m pl)
  callWith pos f first (backTo pos (starEach (e::es) X.env)) (backToKw pos (keywordEach [] X.env))):=by rfl) :
 PE X (.Call (.Attribute o m apos) (e::es) [] pos) (KP C m sp uV E ta t):=by
 intro pq s σ H Q I h;refine PySem.W.methodCall_KW (pl:=pl) (cM (he pq s σ H _ I h) λu s1 ⟨x,H1,U,rx,a,dx,fs,ex,Z,l,q⟩=>?_) ht
 subst ex;obtain rfl:u=Value.ref a:=rx;refine sM U Z c hm l ?_;refine acP (first:=[.ref a]) (h₀:=X.base) I.ok.mod.Nq hm.kp (cM (ha pos pq s1 σ H1 _ U q) λus s2 ⟨vs,H2,Y,r,q2⟩=>⟨Y.AD,?_⟩) hst hpl
 exact AU (us:=.ref a::us) (vs:=.ref a::vs) F hr hb hd hx Y (.cons rfl r) q2
def cu{pl:Sem Bool}(he:PE X o ta)(c:IJ X.K C)(hm:Meth X.K C m f)(F:fF X.prog X.w X.K X.mg X.base CX k f fd ps sp)(hr:cW k X.A)(hb:Binds X.K fd ps ds)(hd:Vals uV ds)(hx:Passes CX X E)
 (ht:eval (.Call (.Attribute o m apos) [] [] pos) X.env=(do
  let U←eval o X.env
  standAt apos.atName
  let(f,first)←holding [U] (getMethod U m pl)
  callWith pos f first (backTo pos (starEach [] X.env)) (backToKw pos (keywordEach [] X.env))):=by rfl) :
 PE X (.Call (.Attribute o m apos) [] [] pos) (KP C m sp uV E ta Oq):=by
 intro pq s σ H Q I h;refine PySem.W.methodCall_KW (pl:=pl) (cM (he pq s σ H _ I h) λu s1 ⟨x,H1,O,rx,a,dx,fs,ex,Y,l,q⟩=>?_) ht
 subst ex;obtain rfl:u=Value.ref a:=rx;refine sM O Y c hm l ?_;exact PySem.W.callWith_K0 (first:=[.ref a]) O.AD hm.kp (AU (us:=[.ref a]) (vs:=[.ref a]) F hr hb hd hx O (.cons rfl .nil) q)
structure Mk(K:bH)(C f:Addr):Prop where
 makes:PySem.W.makesIn K C=true
 init:PySem.W.findIn K (.ref C) "__init__"=some (some (.ref f))
 fn:PySem.W.isFn K (.ref f)=true
 kp:PySem.W.keepIn K (.ref C)=true
def FE{pq:aS}{σ:St}{H:Hp}{s:Shared}{Q:VK}{us:List Value}{vs:List V}(M:Mk X.K C f)(F:fF X.prog X.w X.K X.mg X.base CX k f fd ps sp)(hr:cW (k+1) X.A)(hb:Binds X.K fd ps ds)(hd:Vals uV ds)
 (hx:Passes CX X E) (I:Inv X pq σ H s) (r:Vals vs us)
 (h:∀x dx,H x=none->H dx=none->dx≠x->sp (.ref x::(vs++uV)) (upd (upd H dx (.own x)) x (.ins C dx [])) (λv H2=>v = .dH/\Q (.ref x) H2) E) :
 wpAny (model X.prog X.w) X.A (call (.ref C) us) (EP X pq σ Q) X.xe s:=by
 have Y:=h (s.heap.objs.size+1) s.heap.objs.size (I.hok.fresh (abv _)) (I.hok.fresh (Z3 _)) (aak (abb _));have U:=Inv.made (C:=C) I;have Z:Vals (V.ref (s.heap.objs.size+1)::(vs++uV)) (Value.ref (s.heap.objs.size+1)::(us++ds)):=.cons rfl (r.append hd);have hl:(Value.ref (s.heap.objs.size+1)::us++ds).length=ps.length:=by
  have e:=Z.length;rw[F.len _ _ _ _ Y]at e;exact e.symm
 refine wpAny_call (FD (f:=f) I.AD M.makes M.init (acF.mp M.fn) (codeAny_mono (F.run _ X.stack _ _ ⟨Value.ref (s.heap.objs.size+1)::us,[]⟩ (Value.ref (s.heap.objs.size+1)::(us++ds)) _ _ E (hr.make C us [])
  (U.Ou.make C us []) (hb _ (Value.ref (s.heap.objs.size+1)::us) U.AD hl) Z Y) λr s' O=>?_))
 cases r with
 | error e=>exact hx pq σ _ _ e s' U O
 | ok fl =>
   cases fl with
   | ret u =>
     obtain⟨v,H',I3,rv,ev,q3⟩:=U.after O;subst ev;exact⟨rv,⟨V.ref (s.heap.objs.size+1),H',I3,rfl,q3⟩⟩
   | next=>exact False.elim O
   | brk=>exact False.elim O
   | cont=>exact False.elim O
def Jb(M:Mk X.K C f)(F:fF X.prog X.w X.K X.mg X.base CX k f fd ps sp)(hr:cW (k+1) X.A)(hg:Gl X x)(hm:X.mg x=some (.ref C))(hb:Binds X.K fd ps ds)(hd:Vals uV ds)(hx:Passes CX X E)
 (ha:PA X (e::es) t) (hdb:(x==("__debug__":Str))=false:=by decide) (he:starEach (e::es) X.env=(false,eval e X.env)::starEach es X.env:=by rfl) (hpl:(backTo pos (starEach es X.env)).any (·.1)=false:=by rfl) :
 PE X (.Call (.Name x p) (e::es) [] pos) (Ov C sp uV E t):=by
 intro pq s σ H Q I h;refine wpAny_Call_Name_kw (rZ I hg hm ?_ hdb);refine acP (h₀:=X.base) I.ok.mod.Nq M.kp (cM (ha pos pq s σ H _ I h) λus s1 ⟨vs,H1,O,r,q⟩=>⟨O.AD,?_⟩) he hpl
 exact FE M F hr hb hd hx O r q
end
structure aC(N P:List Str)(sc:Scope):Prop where
 kind:sc.kind = .function
 co:sc.isCoroutine=false
 gen:sc.isGenerator=false
 nd:N.Nodup
 pre:N.take P.length=P
 par:∀x∈P,sc.names.lookup x=some .local\/sc.names.lookup x=some .cell
 LQ:∀y∈sc.names,y.2≠.free
def vD{kindOf:Str->Option NameKind}{x:Str}:∀{binds:List (Str×Value)} {m:lE},(∀v,(x,v)∉binds)->bindL kindOf binds m x=m x
 | [],_,_=>rfl
 | (n,v)::r,m,h=>by
   unfold bindL;rw[vD λw hw=>h w (m9 _ hw)]
   split
   ·have:x≠n:=by rintro rfl;exact h v aad
    simp[this]
   ·rfl
def vE{kindOf:Str->Option NameKind}{x:Str}:∀{binds:List (Str×Value)} {m:lE},(∀v,(x,v)∉binds)->bindC kindOf binds m x=m x
 | [],_,_=>rfl
 | (n,v)::r,m,h=>by
   unfold bindC;rw[vE λw hw=>h w (m9 _ hw)]
   split
   ·rfl
   ·have:x≠n:=by rintro rfl;exact h v aad
    simp[this]
def vF{kindOf:Str->Option NameKind}{x:Str}{v:Value}:∀{P:List Str} {vs:List Value} {i:Nat} {m:lE},P.Nodup->P[i]?=some x->vs[i]?=some v->kindOf x=some .local->
 bindL kindOf (P.zip vs) m x=some v
 | [],_,_,_,_,h,_,_=>by simp at h
 | _::_,[],_,_,_,_,h,_=>by simp at h
 | p::P,w::vs,0,m,nd,h1,h2,hk=>by
   simp at h1 h2;subst h1;subst h2;show bindL kindOf ((p,w)::P.zip vs) m p=_;unfold bindL;rw[vD λv I=>(aaI.mp nd).1 (List.of_mem_zip I).1,Z1 hk]
   simp
 | p::P,w::vs,i+1,m,nd,h1,h2,hk=>by
   show bindL kindOf ((p,w)::P.zip vs) m x=_;unfold bindL;exact vF (i:=i) (aaI.mp nd).2 (by simpa using h1) (by simpa using h2) hk
def vG{kindOf:Str->Option NameKind}{x:Str}{v:Value}:∀{P:List Str} {vs:List Value} {i:Nat} {m:lE},P.Nodup->P[i]?=some x->vs[i]?=some v->kindOf x≠some .local->
 bindC kindOf (P.zip vs) m x=some v
 | [],_,_,_,_,h,_,_=>by simp at h
 | _::_,[],_,_,_,_,h,_=>by simp at h
 | p::P,w::vs,0,m,nd,h1,h2,hk=>by
   simp at h1 h2;subst h1;subst h2;show bindC kindOf ((p,w)::P.zip vs) m p=_;unfold bindC;rw[vE λv I=>(aaI.mp nd).1 (List.of_mem_zip I).1,Z0 hk]
   simp
 | p::P,w::vs,i+1,m,nd,h1,h2,hk=>by
   show bindC kindOf ((p,w)::P.zip vs) m x=_;unfold bindC;exact vG (i:=i) (aaI.mp nd).2 (by simpa using h1) (by simpa using h2) hk
def start(N:List Str)(vs:List V):St:=vs.map some++List.replicate (N.length-vs.length) none
def rq(CX:EZ)(P:Program)(w:World)(K:bH)(mg:lE)(base:Heap)(N:List Str)(qual:Str)(scope:Scope)(f:Addr)(cd:Value)(A:Around)(outer:List Env)(s:Shared)(H:Hp)(E:XK):Cx where
 prog:=P
 w:=w
 K:=K
 mg:=mg
 base:=base
 A:=A.deeper (envOfC qual scope s.heap.objs.size f cd)
 N:=N
 s₀:=s
 H₀:=H
 env:=envOfC qual scope s.heap.objs.size f cd
 outer:=outer
 stack:=envOfC qual scope s.heap.objs.size f cd::outer
 ex:=[]
 calm:=true
 fn:=λ_=>true
 pn:=[]
 xe:=λe s'=>wpAny (model P w) (A.deeper (envOfC qual scope s.heap.objs.size f cd)) (leaving (envOfC qual scope s.heap.objs.size f cd) e) (λ_ s''=>CX outer H s E e s'') (λe' s''=>CX outer H s E e' s'') s'
def yD{sc:Scope}{n:Nat}{x:Str}(h:sc.names.lookup x=some .cell):∃c,(cellsFrom n sc.names []).lookup x=some c:=by
 have q:=PySem.W.cellsFrom_some sc.names n [] (.inl h);exact Option.isSome_iff_exists.mp q
def Dr{CX:EZ}{P:Program}{w:World}{K:bH}{mg:lE}{base:Heap}{N ps:List Str}{qual:Str}{scope:Scope}{f:Addr}{cd:Value}{A:Around}{outer:List Env}{s s1:Shared}{H:Hp}{E:XK}{us:List Value}{vs:List V}
 (S:aC N ps scope) (hd:A.handled=none) (e0:AS P w K mg base A outer s H) (hl:vs.length=ps.length) (r:Vals vs us)
 (x:InCallC s s.heap.objs.size (bindL (envOfC qual scope s.heap.objs.size f cd).kindOf (ps.zip us) λ_=>none) (cellsFrom (s.heap.objs.size+1) scope.names []) (bindC (envOfC qual scope s.heap.objs.size f cd).kindOf (ps.zip us) λ_=>none) s1) :
 Inv (rq CX P w K mg base N qual scope f cd A outer s H E) [] (start N vs) H s1:=by
 have ab:ps.length<=N.length:=by have:=aas List.length S.pre;rw[abc]at this;lia
 obtain⟨h1,tk,rfl,hk⟩:=x.done;have U:∀b:Addr,b∉(rq CX P w K mg base N qual scope f cd A outer s H E).ex:=λb z=>absurd (show b∈([]:List Addr) from z) (by simp)
 refine⟨⟨e0.mod,S.kind,rfl,rfl,Z3 _,λy z c h1 h2=>?_,λy I=>?_,λy c _ h=>?_,λ_=>hd,Around.frames_deeper e0.frames,.inr ⟨rfl,rfl⟩,λb z=>absurd z (U b),e0.bs,e0.IE,λb _ _=>U b,λb z=>absurd z (U b),e0.funs,e0.IQ⟩,
  rfl,e0.bare,Un.kept hk,⟨_,x.toInCall.ns,λi y v h1 h2 h3=>?_⟩,λy c h=>⟨_,x.cell y c h⟩,e0.hok.fresh (Z3 _),λy c h=>?_,λp O=>absurd (show p∈([]:aS) from O) (by simp),e0.hok.kept hk,?_⟩
 ·exact name_of_addr x.apart (aaQ h1) (aaQ h2)
 ·have I:scope.names.lookup y=some .cell\/scope.names.lookup y=some .free:=I;rcases I with I|I
  ·exact yD I
  ·exact absurd rfl (S.LQ _ (aaQ I))
 ·exact aaZ (x.above y c (aaQ h))
 ·have hi:i<vs.length:=by
   unfold start at h2
   by_cases hi:i<vs.length
   ·exact hi
   ·rw[aaC (by simpa using hi)]at h2
    rw[ace]at h2
    split at h2<;>cases h2
  have ha:vs[i]?=some v:=by
   unfold start at h2;rw[aav (by simpa using hi),Z9]at h2
   cases e:vs[i]? with
   | none=>rw[e]at h2;cases h2
   | some a=>rw[e]at h2;cases h2;rfl
  obtain⟨u,Y,rv⟩:=r.get ha;have O:ps[i]?=some y:=by
   rw[<-S.pre,List.getElem?_take_of_lt (by lia)];exact h1
  have Z:ps.Nodup:=by rw[<-S.pre];exact S.nd.sublist (List.take_sublist _ _)
  refine⟨u,rv,?_⟩;rcases S.par y (j7 O) with k|k
  ·exact .inl ⟨k,vF Z O Y k⟩
  ·obtain⟨c,e⟩:=yD (n:=s.heap.objs.size+1) k;refine .inr ⟨.inl k,c,e,?_⟩;have q:=x.cell y c e;rw[vG Z O Y (by show scope.names.lookup y≠_;rw[k];decide)]at q
   exact q
 ·exact e0.hok.fresh (aaZ (x.above y c (aaQ h)))
 ·unfold start;show _=N.length;rw[Z7,ZZ,abz]
  lia
def FF{CX:EZ}{P:Program}{w:World}{K:bH}{mg:lE}{base:Heap}{k:Nat}{f:Addr}{name qual:Str}{params:Arguments}{body:List Stmt}{scope:Scope}{dV kV doc pm cdv ct oc:Value}{an od:Option Addr}
 {osl:Array (Option Value)} {N ps:List Str} {sp:Sp} (lk:K.lookup f=some ⟨oc,od,.func (PySem.W.fnOf name qual params body scope dV kV doc pm an cdv ct),osl⟩) (hcd:PySem.W.codeIn K cdv qual=true) (S:aC N ps scope)
 (len:∀vs H Q E,sp vs H Q E->vs.length=ps.length)
 (hbody:∀(A:Around) (outer:List Env) (s:Shared) (H:Hp) (vs:List V) (Q:VK) (E:XK),cW k (A.deeper (envOfC qual scope s.heap.objs.size f cdv))->sp vs H Q E->
  ∃t,uU (rq CX P w K mg base N qual scope f cdv A outer s H E) body t/\t { nx:=λ_ H'=>Q .dH H',rt:=Q} (start N vs) H) :
 fF P w K mg base CX (k+1) f (PySem.W.fnOf name qual params body scope dV kV doc pm an cdv ct) ps sp:=by
 refine⟨len,λA outer s H args us vs Q E hr U hb r Z=>?_⟩
 have hl:=len _ _ _ _ Z;have KX:K.In s.heap:=U.mod.Nq.keeps λb o e=>(U.bs b o e).1
 have lim:s.heap.NoLimit:=U.mod.nolimit.keeps λb o e=>(U.bs b o e).1
 have O:∀y∈ps.zip us,scope.names.lookup y.1=some .local\/(scope.names.lookup y.1=some .cell/\((cellsFrom (s.heap.objs.size+1) scope.names []).lookup y.1).isSome=true):=λ⟨n,v⟩ hy=>by
  rcases S.par n (List.of_mem_zip hy).1 with q|q
  ·exact .inl q
  ·exact .inr ⟨q,PySem.W.cellsFrom_some _ _ _ (.inl q)⟩
 refine codeAny_call_function hr.depth (KX _ _ lk) rfl S.co S.gen rfl (PySem.W.codeRec_of KX hcd) (hb _ _ _ _ ?_);refine wpAny_newFunctionEnv_cells S.kind O λenv he s1 x=>?_
 subst he;refine⟨lim.keeps x.toInCall.keep,codeAny_func ?_⟩;obtain⟨t,ht,hq⟩:=hbody A outer s H vs Q E (hr.deeper _) Z;have I:Inv (rq CX P w K mg base N qual scope f cdv A outer s H E) [] (start N vs) H s1:=Dr S hr.hd U hl r x;refine aar (ht [] s1 (start N vs) H _ I hq) (λfl s' hs=>?_) λe s' hs=>hs
 have fin:∀{σ' : St} {H' : Hp} {v:V} {u:Value},Inv (rq CX P w K mg base N qual scope f cdv A outer s H E) [] σ' H' s'->RelV v u->Q v H'->CE outer P w H s Q u s' :=
  λ{σ' H' v u} J Y q=>⟨v,H',J.os,J.bare,J.base,J.hok,Y,q⟩
 cases fl with
 | ret u =>
   obtain⟨v,σ',H',J,Y,q⟩:=hs;exact fin J Y q
 | next =>
   obtain⟨σ',H',J,q⟩:=hs;exact fin (v:=V.dH) (u:=Value.none) J rfl q
 | brk =>
   obtain⟨_,_,_,q⟩:=hs;exact False.elim q
 | cont =>
   obtain⟨_,_,_,q⟩:=hs;exact False.elim q
section
variable {X:Cx}{x:Str}{p pos:Pos}{e:Expr}{es:List Expr}{t:TA}{id T:String}{r:List V->Hp->VK->Prop}
def RJ(r:List V->Hp->VK->Prop)(t:TA):TE:=λσ H Q=>t σ H λvs H1=>r vs H1 Q
def eN(hc:jx X (.builtin id) r)(hg:Gl X x)(hm:X.mg x=none)(hv:bootBuiltins x=some (.builtin id))(ha:PA X (e::es) t)(hn:x≠"__name__":=by decide)(hdb:(x==("__debug__":Str))=false:=by decide)
 (he:starEach (e::es) X.env=(false,eval e X.env)::starEach es X.env:=by rfl) (hpl:(backTo pos (starEach es X.env)).any (·.1)=false:=by rfl):PE X (.Call (.Name x p) (e::es) [] pos) (RJ r t):=by
 intro pq s σ H Q I h;refine wpAny_Call_Name_kw (nc I hg hm hv ?_ hn hdb);exact PyProof.Rows.callWith_builtin1 (cM (ha pos pq s σ H _ I h) λus s1 ⟨vs,H1,O,U,Y⟩=>hc pq s1 σ H1 vs us Q O U Y) he hpl
def fB(hc:jx X (.type T) r)(hg:Gl X x)(hm:X.mg x=none)(hv:bootBuiltins x=some (.type T))(ha:PA X (e::es) t)(hn:x≠"__name__":=by decide)(hdb:(x==("__debug__":Str))=false:=by decide)
 (he:starEach (e::es) X.env=(false,eval e X.env)::starEach es X.env:=by rfl) (hpl:(backTo pos (starEach es X.env)).any (·.1)=false:=by rfl):PE X (.Call (.Name x p) (e::es) [] pos) (RJ r t):=by
 intro pq s σ H Q I h;refine wpAny_Call_Name_kw (nc I hg hm hv ?_ hn hdb);exact abx (cM (ha pos pq s σ H _ I h) λus s1 ⟨vs,H1,O,U,Y⟩=>hc pq s1 σ H1 vs us Q O U Y) he hpl
end
end L2
namespace HT
open PySem PyProof.Rows
def lexLt:List Int->List Int->Bool
 | [],[]=>false
 | [],_::_=>true
 | _::_,[]=>false
 | x::xs,y::ys=>if x=y then lexLt xs ys else decide (x<y)
def fX(x y:Int)(xs ys:List Int):lexLt (x::xs) (y::ys)=if x=y then lexLt xs ys else decide (x<y):=rfl
def m3:lexLt [] []=false:=rfl
def sN(y:Int)(ys:List Int):lexLt [] (y::ys)=true:=rfl
def fK(x:Int)(xs:List Int):lexLt (x::xs) []=false:=rfl
def yE(A:Around)(s:Shared)(a:Int)(t:Tok)(c:Int)(u:Tok):∃e,SeqAt.EqAt A s (.int a t) (.int c u) e/\(e=true↔a=c) :=
 ⟨(a==c),SeqAt.EqAt.int_int a t c u,by simp⟩
def FG(A:Around)(s:Shared)(a:Int)(t:Tok)(c:Int)(u:Tok)(prog:Program)(w:World)(E:cP)(Q:cP)(h:Q (.bool (decide (a<c))) s):
 wpAny (model prog w) A (richCompare .Lt (.int a t) (.int c u)) Q E s :=
 (PyProof.Rows.lt_int h:wpAny (model prog w) A (compareOp .Lt (.int a t) (.int c u)) Q E s)
section
open PySem.SeqAt
open PySem.AutoSeq1 (wpAny_loadPart')
open PySem.MeetsSeq PySem.MeetsSeq2 PySem.MeetsSeq3
def uW(l b:Addr)(items items2:Array Value)(n n2:Nat)(dd dd2:Option Addr)(sl sl2:Array (Option Value))(ns ms:List Int)(hi:IntsAre items.toList ns)(hj:IntsAre items2.toList ms):
 Meets (Builtin.«tuple.__lt__» ⟨[.ref l,.ref b],[]⟩)
  (λ_ R s=>s.heap.get? l=some { cls:=.type "tuple",dict:=dd,data:=.seq items n,slots:=sl}/\s.heap.get? b=some { cls:=.type "tuple",dict:=dd2,data:=.seq items2 n2,slots:=sl2}/\
   R (.ok (.ret (.bool (lexLt ns ms)))) s) :=
 .of_wp λprog w A R s h=>by
  obtain⟨hp,g,d,tk,os⟩:=s;obtain⟨hl,hb,h⟩:=h;have f2:=AutoSeq1.sub_tuple_tuple;have z1:items.size=ns.length:=by rw[<-hi.length];simp
  have z2:items2.size=ms.length:=by rw[<-hj.length];simp
  wp_walk using wpAny_loadPart' hl,wpAny_loadPart' hb,wpAny_forIn_list _ (λrest b s'=>b.1=none/\s' = ⟨hp,g,d,tk,os⟩/\∃(vs ws:List Value) (I O : List Int),rest=vs.zip ws/\
   IntsAre vs I/\IntsAre ws O/\I.length+items2.size=O.length+items.size/\R (.ok (.ret (.bool (lexLt I O)))) ⟨hp,g,d,tk,os⟩) _
  case turn =>
   rintro⟨y,x⟩ rest b s' ⟨Z,rfl,vs,ws,I,O,hz,KQ,U,hlen,Y⟩;cases KQ with
   | nil=>rw[List.zip_nil_left]at hz;cases hz
   | cons a t ab =>
     cases U with
     | nil=>rw[List.zip_nil_right]at hz;cases hz
     | cons c u ag =>
       rw[List.zip_cons_cons]at hz;injection hz with hyx hrest
       injection hyx with hy hx
       subst hy hx;rw[fX]at Y;simp only[aaA]at hlen;obtain⟨e,he,FH⟩:=yE A.in1 ⟨hp,g,d,tk,os⟩ a t c u;refine wpAny_bind (he prog w _ _ ?_);cases e with
       | true =>
         rw[Z1 (FH.mp rfl)]at Y
         wp_walk
         exact⟨rfl,rfl,_,_,_,_,hrest,ab,ag,by lia,Y⟩
       | false =>
         rw[Z0 (λq=>absurd (FH.mpr q) aac)]at Y
         have Nx:=FG A.in1 ⟨hp,g,d,tk,os⟩ a t c u prog w
         wp_walk using Nx
         exact⟨_,rfl,by simpa using Y⟩
  case fin =>
   rintro⟨b1,b2⟩ s' ⟨Z,rfl,vs,ws,I,O,hz,KQ,U,hlen,Y⟩;simp only at Z;subst Z;have hv:lexLt I O = decide (items.size<items2.size):=by
    cases KQ with
    | nil =>
      cases U with
      | nil =>
        simp only[abA]at hlen;rw[m3];exact(iK (by lia)).symm
      | cons c u hw =>
        simp only[abA,aaA]at hlen;rw[sN];exact(fG (by lia)).symm
    | cons a t hv =>
      cases U with
      | nil =>
        simp only[abA,aaA]at hlen;rw[fK];exact(iK (by lia)).symm
      | cons c u hw =>
        rw[List.zip_cons_cons]at hz;cases hz
   rw[hv]at Y
   wp_walk
   exact⟨_,rfl,by simpa[Builtin.Tuple.tupleCompareSizes]using Y⟩
  case h =>
   exact⟨rfl,rfl,items.toList,items2.toList,ns,ms,rfl,hi,hj,by lia,h⟩
end
section
variable {prog:Program}{w:World}{A:Around}{E:cP}{s:Shared}
def AV{l b:Addr}{items items2:Array Value}{ns ms:List Int}{Q:cP}(hl:IsTup s.heap l items)(hb:IsTup s.heap b items2)(hi:IntsAre items.toList ns)(hj:IntsAre items2.toList ms)
 (hu:A.units<cLine) (h:Q (.bool (lexLt ns ms)) s):wpAny (model prog w) A (compareOp .Lt (.ref l) (.ref b)) Q E s:=by
 obtain⟨⟨cls,O,data,sl⟩,I,hc,n,hd⟩:=id hl;obtain⟨⟨Jc,dd2,data2,sl2⟩,ho2,hc2,n2,hd2⟩:=id hb;simp only at hc hd hc2 hd2;subst hc hd hc2 hd2;exact richCompare_meets_room (op:=.Lt) ⟨_,I,rfl⟩ ⟨_,ho2,rfl⟩ PySem.F.slot_tuple_lt PySem.F.entry_tuple_lt (PySem.F.args_tuple_lt_2 _ _) (uW l b items items2 n n2 O dd2 sl sl2 ns ms hi hj)
  ⟨I,ho2,show Value.bool (lexLt ns ms)≠Value.notImplemented/\Q (.bool (lexLt ns ms)) s from⟨(λx=>nomatch x),h⟩⟩ hu
def Jd{t b:Addr}{vs ws:List Value}{Q:cP}(ht:IsTup s.heap t vs.toArray)(hb:IsTup s.heap b ws.toArray)(hv:vs≠[])
 (h1:ws=[]->Q (.ref t) s) (h2:ws≠[]->Q (.ref s.heap.objs.size) { s with heap:=s.heap.push { cls:=.type "tuple",data:=.seq (vs++ws).toArray}})
 (hsz:vs.length+ws.length<=sizeLine):wpAny (model prog w) A (binaryOp .Add (.ref t) (.ref b)) Q E s:=by
 obtain⟨⟨cls,O,data,sl⟩,I,hc,n,hd⟩:=id ht;obtain⟨⟨Jc,dd2,data2,sl2⟩,ho2,hc2,n2,hd2⟩:=id hb;simp only at hc hd hc2 hd2;subst hc hd hc2 hd2;have e:vs.toArray++ws.toArray=(vs++ws).toArray:=by simp
 by_cases hw:ws=[]
 ·exact concat_meets ⟨_,I,rfl⟩ ⟨_,ho2,rfl⟩ noFill_tuple_add seq_tuple_add acm acf (ab4 _ _)
   (tuple_addW1 t b vs.toArray ws.toArray n n2 O dd2 sl sl2 (by simpa using hv) (by simp[hw])) ⟨I,ho2,h1 hw⟩
 ·refine concat_meets ⟨_,I,rfl⟩ ⟨_,ho2,rfl⟩ noFill_tuple_add seq_tuple_add acm acf (ab4 _ _)
   (tuple_addW2 t b vs.toArray ws.toArray n n2 O dd2 sl sl2 (by simpa using hv) (by simpa using hw) (by rw[aae,aae];exact hsz)) ⟨I,ho2,?_⟩
  rw[e];exact h2 hw
def vH(n d:Nat):Option Int->Nat
 | none=>d
 | some v=>if v<0 then(v+(n:Int)).toNat else min v.toNat n
def FI(n d:Nat):vH n d none=d:=rfl
def Je(n d k:Nat):vH n d (some (k:Int))=min k n:=by
 show(if(k:Int)<0 then((k:Int)+(n:Int)).toNat else min (k:Int).toNat n)=min k n
 rw[Z0 (by lia),aah]
end
end HT
namespace L2
open PySem PySem.Spec PyProof.Rows
abbrev TO:=St->Hp->(Option Int->Hp->Prop)->Prop
def PO(X:Cx)(e:Option Expr)(t:TO):Prop :=
 ∀(pq:aS) (s:Shared) (σ:St) (H:Hp) (Q:Option Int->Hp->Prop),Inv X pq σ H s->t σ H Q->
  wpAny (model X.prog X.w) X.A (evalPart e X.env) (λu s'=>∃o H',Inv X pq σ H' s'/\IsPart u o/\Q o H') X.xe s
def Jf:TO:=λ_ H Q=>Q none H
def Ow(t:TE):TO:=λσ H Q=>t σ H λx H1=>∃i,x = .int i/\Q (some i) H1
def intsAre_of{ns:List Int}:∀{us:List Value},Vals (ns.map V.int) us->IntsAre us ns:=by
 induction ns with
 | nil=>intro us r;rw[List.map_nil]at r;cases r;exact .nil
 | cons n ns I =>
   intro us r;rw[aaj]at r;cases r with
   | cons O U =>
     obtain⟨t,e⟩:=O;subst e;exact .cons n t (I U)
section
variable {X:Cx}{e:Expr}{te:TE}{lo hi:Option Expr}{tl th:TO}{pos p2:Pos}
def Jg:PO X none Jf:=by
 intro pq s σ H Q I h;rw[evalPart_none];exact Z5 ⟨none,H,I,.none,h⟩
def xh(h:PE X e te):PO X (some e) (Ow te):=by
 intro pq s σ H Q I hw;rw[evalPart_some];refine cM (h pq s σ H _ I hw) λu s1 ⟨x,H1,O,U,Y⟩=>?_
 obtain⟨i,rfl,q⟩:=Y;obtain⟨t,rfl⟩:=U;exact⟨some i,H1,O,.int i t,q⟩
def RK(X:Cx)(r:V->Option Int->Option Int->Hp->VK->Prop):Prop :=
 ∀(pq:aS) (s:Shared) (σ:St) (H:Hp) (x:V) (v I O:Value) (lo hi:Option Int) (sl:Addr) (Q:VK),Inv X pq σ H s->RelV x v->s.heap.IsSliceOf sl I O .none->IsPart I lo->IsPart O hi->r x lo hi H Q->
  ∃T id,typeLookup (.type T) "__getitem__"=pure (some (.builtin id))/\s.TypeIs v T/\wpAny (model X.prog X.w) X.A (getItem v (.ref sl)) (EP X pq σ Q) X.xe s
def Wb(r:V->Option Int->Option Int->Hp->VK->Prop)(te:TE)(tl th:TO):TE:=λσ H Q=>te σ H λx H1=>tl σ H1 λl H2=>th σ H2 λu H3=>r x l u H3 Q
def yF{r:V->Option Int->Option Int->Hp->VK->Prop}(hr:RK X r)(he:PE X e te)(hl:PO X lo tl)(hu:PO X hi th):PE X (.Subscript e (.Slice lo hi none p2) pos) (Wb r te tl th):=by
 intro pq s σ H Q I h;refine Subscript_ (cM (he pq s σ H _ I h) λv s1 ⟨x,H1,Y,Z,q1⟩=>?_)
 refine wpAny_Slice (cM (hl pq s1 σ H1 _ Y q1) λO s2 ⟨l,H2,I2,pl,q2⟩=>cM (hu pq s2 σ H2 _ I2 q2) λU s3 ⟨u,H3,I3,pu,q3⟩=>?_)
 rw[evalPart_none];refine Z5 ?_;have I4:Inv X pq σ H3 { s3 with heap:=s3.heap.push { cls:=.type "slice",data:=.fields #[O,U,.none]}}:=I3.kept (t':=s3.toks) λb ob q=>Z2 _ q
 obtain⟨T,id,hT,ht,hg⟩:=hr pq { s3 with heap:=s3.heap.push { cls:=.type "slice",data:=.fields #[O,U,.none]}} σ H3 x v O U l u s3.heap.objs.size Q I4 Z (Heap.IsSliceOf.new ..) pl pu q3
 show wpAny (model X.prog X.w) X.A (subscriptTail e (.Slice lo hi none p2) v (.ref s3.heap.objs.size)) (EP X pq σ Q) X.xe { s3 with heap:=s3.heap.push { cls:=.type "slice",data:=.fields #[O,U,.none]}}
 exact tail_any (ops:=[.ref s3.heap.objs.size,v]) ht hT hg (by with_unfolding_all rfl)
def uX(xs:List V)(lo hi:Option Int):List V:=(xs.drop (HT.vH xs.length 0 lo)).take (HT.vH xs.length xs.length hi-HT.vH xs.length 0 lo)
def yG(xs:List V)(lo hi:Option Int):(uX xs lo hi).length<=xs.length:=by
 unfold uX;rw[abc,acq]
 lia
def Ox(K:bH):R2:=λx y H Q=>∃a b xs ys,x = .ref a/\y = .ref b/\bf K H a xs/\bf K H b ys/\xs≠[]/\xs.length+ys.length<=sizeLine/\
 (ys=[]->Q (.ref a) H)/\(ys≠[]->∀p,H p=none->Q (.ref p) (upd H p (.tup (xs++ys))))
def Vals.xj{xs:List V}{us:List Value}(r:Vals xs us):us=[]↔xs=[]:=by
 cases r with
 | nil=>simp
 | cons _ _=>simp
def Jh:lq X (binaryOp .Add) (Ox X.K):=by
 intro pq s σ H x y v u Q I rx O h;obtain⟨a,b,xs,ys,rfl,rfl,ha,hb,hx,hz,U,Y⟩:=h;cases rx;cases O;obtain⟨its,r1,p1,_⟩:=I.tuple ha;obtain⟨its2,r2,p2,_⟩:=I.tuple hb;refine HT.Jd p1 p2 (λz=>hx (r1.xj.mp z)) (λz=>⟨.ref a,H,I,rfl,U (r2.xj.mp z)⟩) (λz=>?_) (by rw[<-r1.length,<-r2.length];exact hz)
 refine⟨.ref s.heap.objs.size,_,I.laid (t':=s.toks) (o:=.tup (xs++ys)) (λb ob q=>Z2 _ q) (Z3 _) ?_,rfl,Y (λw=>z (r2.xj.mpr w)) _ (I.hok.fresh (Z3 _))⟩
 exact⟨by rw[Z7];exact hz,_,r1.append r2,IsTup.new _ _⟩
end
def Ji(n:Nat)(i:Int):Option Nat:=if 0<=i then(if i<n then some i.toNat else none) else if -(n:Int)<=i then some (i+n).toNat else none
def Ci{α:Type}(xs:List α)(i:Int):Option α:=(Ji xs.length i).bind λj=>xs[j]?
def Cj{n:Nat}{i:Int}{j:Nat}(h:Ji n i=some j):seqIndex? i n=some j/\j<n/\-(n:Int)<=i/\i<n:=by
 unfold Ji at h
 by_cases h0:0<=i
 ·rw[Z1 h0]at h
  by_cases h1:i<n
  ·rw[Z1 h1]at h;have e:i.toNat=j:=Option.some.inj h;exact⟨by rw[seqIndex_of h0 h1,e],by lia,by lia,h1⟩
  ·rw[Z0 h1]at h;cases h
 ·rw[Z0 h0]at h
  by_cases h1 : -(n:Int)<=i
  ·rw[Z1 h1]at h;have e:(i+n).toNat=j:=Option.some.inj h;exact⟨by rw[seqIndex_neg (by lia) h1,e],by lia,h1,by lia⟩
  ·rw[Z0 h1]at h;cases h
def xm{α:Type}{xs:List α}{i:Int}{v:α}(h:Ci xs i=some v):∃j,seqIndex? i xs.length=some j/\xs[j]?=some v/\j<xs.length/\-(xs.length:Int)<=i/\i<xs.length:=by
 unfold Ci at h;cases e:Ji xs.length i with
 | none=>rw[e]at h;cases h
 | some j =>
   rw[e]at h;obtain⟨h1,h2,I,O⟩:=Cj e;exact⟨j,h1,h,h2,I,O⟩
def ao{α:Type}{xs:List α}{j:Nat}{v:α}(h:xs[j]?=some v):Ci xs (j:Int)=some v:=by
 have hj:j<xs.length:=(ju.mp h).1;have e:Ji xs.length (j:Int)=some j:=by
  unfold Ji;rw[Z1 (by lia),Z1 (by lia)];simp
 unfold Ci;rw[e];exact h
def Ck(b:Expr):Prop:=∀o i,subscripted b false o i=operate [o,i] (getItem o i)
def Dt(X:Cx)(r:R2):Prop :=
 ∀(value slice:Expr) (pq:aS) (s:Shared) (σ:St) (H:Hp) (x y:V) (v u:Value) (Q:VK),Inv X pq σ H s->RelV x v->RelV y u->r x y H Q->
  subscripted slice false v u=operate [v,u] (getItem v u)->wpAny (model X.prog X.w) X.A (subscriptTail value slice v u) (EP X pq σ Q) X.xe s
def RL(X:Cx)(id:String)(r:V->List V->Hp->VK->Prop):Prop :=
 ∀(pq:aS) (s:Shared) (σ:St) (H:Hp) (x:V) (xs:List V) (v:Value) (us:List Value) (Q:VK),Inv X pq σ H s->RelV x v->Vals xs us->r x xs H Q->
  wpAny (model X.prog X.w) X.A (call (.builtin id) (v::us)) (EP X pq σ Q) X.xe s
section
variable {X:Cx}{a b:Expr}{ta tb:TE}{pos:Pos}
def Dt.or{r r' : R2}(h:Dt X r)(h' : Dt X r'):Dt X (λx y H Q=>r x y H Q\/r' x y H Q):=by
 intro value slice pq s σ H x y v u Q I rx O q hs;rcases q with q|q
 ·exact h value slice pq s σ H x y v u Q I rx O q hs
 ·exact h' value slice pq s σ H x y v u Q I rx O q hs
def Oz{r:R2}(hr:Dt X r)(ha:PE X a ta)(hb:PE X b tb)(hs:Ck b):PE X (.Subscript a b pos) (Of r ta tb):=by
 intro pq s σ H Q I h;exact Subscript_ (LK ha hb I h λv u s2 x y H2 O rx U q=>hr a b pq s2 σ H2 x y v u Q O rx U q (hs _ _))
def LR(K:bH):R2:=λx y H Q=>∃p xs i v,x = .ref p/\y = .int i/\aV K H p xs/\Ci xs i=some v/\Q v H
def LS(K:bH):R2:=λx y H Q=>∃p xs i v,x = .ref p/\y = .int i/\bf K H p xs/\Ci xs i=some v/\Q v H
def OA:R2:=λx y H Q=>∃z i c,x = .str z/\y = .int i/\z.length<=sizeLine/\Ci z.cps.toList i=some c/\Q (.str ⟨#[c]⟩) H
def Cm:Dt X (LR X.K):=by
 intro value slice pq s σ H x y v u Q I rx O h hs;obtain⟨p,xs,i,z,rfl,rfl,U,he,q⟩:=h;cases rx;obtain⟨t,rfl⟩:=O;obtain⟨its,r,pl,hz⟩:=I.list U;obtain⟨j,h1,h2,h3,h4,h5⟩:=xm he;obtain⟨w,ew,rw'⟩:=r.get h2;have Y:=r.length;have hn:=pF;have fin:EP X pq σ Q w s:=⟨z,H,I,rw',q⟩
 by_cases h0:0<=i
 ·have hj:i.toNat=j:=by
   rw[seqIndex_of h0 h5]at h1;exact Option.some.inj h1
  exact item_listR pl.isList h0 (by lia) (by rw[hj];simpa using ew) fin hs
 ·have hj:(i+(its.toArray.size:Int)).toNat=j:=by
   rw[seqIndex_neg (by lia) h4]at h1
   rw[aae,<-Y];exact Option.some.inj h1
  exact subscriptTail_builtinR (x:=w) pl.isList.typeIs slot_list_getitem.lookup
   (wpAny_getItem_list_neg (Q:=λr s'=>r=w/\EP X pq σ Q r s') pl.isList (by lia) (by rw[aae]<;>lia) (by lia) (by rw[hj];simpa using ew) ⟨rfl,fin⟩) hs
def FJ:Dt X (LS X.K):=by
 intro value slice pq s σ H x y v u Q I rx O h hs;obtain⟨p,xs,i,z,rfl,rfl,U,he,q⟩:=h;cases rx;obtain⟨t,rfl⟩:=O;obtain⟨its,r,pl,hz⟩:=I.tuple U;obtain⟨j,h1,h2,h3,h4,h5⟩:=xm he;obtain⟨w,ew,rw'⟩:=r.get h2;have Y:=r.length;have hn:=pF;have fin:EP X pq σ Q w s:=⟨z,H,I,rw',q⟩;exact subscriptTail_builtinR (x:=w) pl.typeIs slot_tuple_getitem.lookup
  (getItem_tuple (j:=j) (Q:=λr s'=>r=w/\EP X pq σ Q r s') pl (by lia) (by lia) (by rw[aae,<-Y];exact h1) (by simpa using ew) ⟨rfl,fin⟩) hs
def LU:Dt X OA:=by
 intro value slice pq s σ H x y v u Q I rx O h hs;obtain⟨z,i,c,rfl,rfl,hz,he,q⟩:=h;obtain⟨t,rfl⟩:=rx;obtain⟨t',rfl⟩:=O;obtain⟨j,h1,h2,h3,h4,h5⟩:=xm he;have U:z.cps.toList.length=z.length:=by simp[Str.length]
 rw[U]at h1 h4 h5;have hn:=pF;exact tail_any (typeIs_str s z t) slot_str_getitem.lookup (getItem_str (c:=c) (by
  have Y:decide (i < -(2^63:Int))=false:=iK (by lia)
  have Z:decide (i ≥ 2^63)=false:=iK (by lia)
  rw[Y,Z,Bool.or_false]) (by rw[h1];simpa using h2) ⟨.str ⟨#[c]⟩,H,I.tok _,⟨_,rfl⟩,q⟩) hs
def RN(K:bH):R2:=λx y H Q=>LR K x y H Q\/LS K x y H Q\/OA x y H Q
def LV:Dt X (RN X.K):=Cm.or (FJ.or LU)
def AW(its:List Value)(n j:Nat)(u:Value):Obj.mapSeq (·.setIfInBounds j u) { cls:=.type "list",data:=.seq its.toArray n}={ cls:=.type "list",data:=.seq (its.set j u).toArray n}:=by
 simp[Obj.mapSeq]
def Inv.lst{pq:aS}{σ:St}{H:Hp}{s:Shared}{p:Addr}{xs:List V}(I:Inv X pq σ H s)(h:H p=some (.lst xs)):
 ∃(O:List Value) (n:Nat),Vals xs O/\s.heap.get? p=some { cls:=.type "list",data:=.seq O.toArray n}/\xs.length<=sizeLine:=by
 obtain⟨z,O,n,r,e⟩:=I.hok p _ h;exact⟨O,n,r,e,z⟩
def Inv.LW{pq:aS}{σ:St}{H:Hp}{s:Shared}{p:Addr}{xs ys:List V}{its its' : List Value}{n n' : Nat}{f:Obj->Obj}(I:Inv X pq σ H s)(h:H p=some (.lst xs))
 (ho:s.heap.get? p=some { cls:=.type "list",data:=.seq its.toArray n}) (hf:f { cls:=.type "list",data:=.seq its.toArray n}={ cls:=.type "list",data:=.seq its'.toArray n'}) (r:Vals ys its') (hz:ys.length<=sizeLine) (t:Nat) :
 Inv X pq σ (upd H p (.lst ys)) { s with heap:=s.heap.update p f,toks:=t}:=by
 have e:(s.heap.update p f).get? p=some { cls:=.type "list",data:=.seq its'.toArray n'}:=by
  rw[abo f ho (by rw[hf]<;>rfl),hf]
 refine I.write (x:=p) (e:=p) (by rw[h];trivial) (.inl rfl) (λb u hb q=>(aa6 _ _ (aaq hb)).trans q) ⟨_,e⟩ ?_
 exact⟨hz,its',n',r,e⟩
def OB:V->V->V->Hp->(Hp->Prop)->Prop:=λo i v H Q=>∃p xs k j,o = .ref p/\i = .int k/\H p=some (.lst xs)/\Ji xs.length k=some j/\Q (upd H p (.lst (xs.set j v)))
def set_list:N8 X OB:=by
 intro pq s σ H o i v ov iv u Q I Z ri rv h;obtain⟨p,xs,k,j,rfl,rfl,U,hj,q⟩:=h;cases Z;obtain⟨t,rfl⟩:=ri;obtain⟨its,n,r,ho,hz⟩:=I.lst U;obtain⟨h1,h2,h3,h4⟩:=Cj hj;have O:=r.length;have hn:=pF;have Y : Inv X pq σ (upd H p (.lst (xs.set j v))) { s with heap:=s.heap.update p (Obj.mapSeq (·.setIfInBounds j u))} :=
  I.LW U ho (AW its n j u) (r.set rv j) (by rw[List.length_set];exact hz) s.toks
 by_cases h0:0<=k
 ·have hk:k.toNat=j:=by
   rw[seqIndex_of h0 h4]at h1;exact Option.some.inj h1
  exact PySem.W.ki_setAt ho h0 (by lia) (by rw[aae,<-O];exact h4) (by rw[hk];exact⟨_,Y,q⟩)
 ·have hk:(k+(its.toArray.size:Int)).toNat=j:=by
   rw[seqIndex_neg (by lia) h3]at h1
   rw[aae,<-O];exact Option.some.inj h1
  exact PySem.W.ki_setBack ho (by lia) (by rw[aae,<-O];exact h3) (by lia) (by rw[hk];exact⟨_,Y,q⟩)
def xn(lo hi:Option Int)(n:Nat):(sliceBounds lo hi none n).1=((HT.vH n 0 lo:Nat):Int)/\(sliceBounds lo hi none n).2.1=((HT.vH n n hi:Nat):Int)/\(sliceBounds lo hi none n).2.2=1:=by
 refine⟨?_,?_,rfl⟩
 ·cases lo with
  | none=>simp[sliceBounds,HT.vH]
  | some i =>
    simp only[sliceBounds,HT.vH,Option.getD_none,show(1:Int) > 0 by decide,if_true]
    by_cases h:i<0
    ·simp only[h,if_true]<;>lia
    ·simp only[h,if_false]<;>lia
 ·cases hi with
  | none=>simp[sliceBounds,HT.vH]
  | some i =>
    simp only[sliceBounds,HT.vH,Option.getD_none,show(1:Int) > 0 by decide,if_true]
    by_cases h:i<0
    ·simp only[h,if_true]<;>lia
    ·simp only[h,if_false]<;>lia
def uY(its:List Value)(lo hi:Option Int):slicePick its.toArray lo hi none=((its.drop (HT.vH its.length 0 lo)).take (HT.vH its.length its.length hi-HT.vH its.length 0 lo)).toArray:=by
 obtain⟨h1,h2,I⟩:=xn lo hi its.toArray.size;unfold slicePick;rw[h1,h2,I];simp only[sliceRange_one,pick_run,aae]<;>rfl
def OD(K:bH):V->Option Int->Option Int->Hp->VK->Prop:=λx lo hi H Q=>∃a xs,x = .ref a/\aV K H a xs/\∀p,H p=none->Q (.ref p) (upd H p (.lst (uX xs lo hi)))
def Jj:RK X (OD X.K):=by
 intro pq s σ H x v U Y lo hi sl Q I rx hs O pu h;obtain⟨a,xs,rfl,hx,q⟩:=h;cases rx;obtain⟨its,r,ht,hz⟩:=I.list hx;have hlen:=r.length;refine⟨"list",_,slot_list_getitem.lookup,ht.isList.typeIs,?_⟩;refine wpAny_getItem_list_slice ht.isList hs O pu .none (by simp) ?_ (by rw[aae]<;>lia)
 rw[uY,<-hlen];refine⟨.ref s.heap.objs.size,_,I.laid (t':=s.toks) (o:=.lst (uX xs lo hi)) (λb ob q=>Z2 _ q) (Z3 _) ?_,rfl,q _ (I.hok.fresh (Z3 _))⟩
 exact⟨aat (yG xs lo hi) hz,_,0,(r.drop (HT.vH xs.length 0 lo)).take (HT.vH xs.length xs.length hi-HT.vH xs.length 0 lo),aag _ rfl⟩
def ly:V->Bool
 | .dH=>true
 | .bl _=>true
 | .int _=>true
 | .str _=>true
 | _=>false
def FL:V->V->Bool
 | .dH,.dH=>true
 | .bl a,.bl b=>a==b
 | .bl a,.int b=>(if a then 1 else 0)==b
 | .int a,.bl b=>a==(if b then 1 else 0)
 | .int a,.int b=>a==b
 | .str a,.str b=>a==b
 | _,_=>false
def LX{A:Around}{s:Shared}{y x:V}{u v:Value}(ry:RelV y u)(rx:RelV x v)(fy:ly y=true)(fx:ly x=true):SeqAt.EqAt A s u v (FL y x):=by
 cases y with
 | dH =>
   cases ry;cases x with
   | dH=>cases rx;exact SeqAt.EqAt.same _
   | bl b=>cases rx;exact SeqAt.EqAt.none_bool b
   | int b=>obtain⟨t,rfl⟩:=rx;exact SeqAt.EqAt.none_int b t
   | str b=>obtain⟨t,rfl⟩:=rx;exact SeqAt.EqAt.none_str b t
   | _=>exact absurd (show false=true from fx) aac
 | bl a =>
   cases ry;cases x with
   | dH=>cases rx;exact SeqAt.EqAt.bool_none a
   | bl b=>cases rx;exact SeqAt.EqAt.bool_bool a b
   | int b=>obtain⟨t,rfl⟩:=rx;exact SeqAt.EqAt.bool_int a b t
   | str b=>obtain⟨t,rfl⟩:=rx;exact SeqAt.EqAt.bool_str a b t
   | _=>exact absurd (show false=true from fx) aac
 | int a =>
   obtain⟨I,rfl⟩:=ry;cases x with
   | dH=>cases rx;exact SeqAt.EqAt.int_none a I
   | bl b=>cases rx;exact SeqAt.EqAt.int_bool a I b
   | int b=>obtain⟨t,rfl⟩:=rx;exact SeqAt.EqAt.int_int a I b t
   | str b=>obtain⟨t,rfl⟩:=rx;exact SeqAt.EqAt.int_str a I b t
   | _=>exact absurd (show false=true from fx) aac
 | str a =>
   obtain⟨I,rfl⟩:=ry;cases x with
   | dH=>cases rx;exact SeqAt.EqAt.str_none a I
   | bl b=>cases rx;exact SeqAt.EqAt.str_bool a I b
   | int b=>obtain⟨t,rfl⟩:=rx;exact SeqAt.EqAt.str_int a I b t
   | str b=>obtain⟨t,rfl⟩:=rx;exact SeqAt.EqAt.str_str a I b t
   | _=>exact absurd (show false=true from fx) aac
 | _=>exact absurd (show false=true from fy) aac
def yH(x:V)(u:Value):Bool:=match u with
 | .none=>FL .dH x
 | .bool b=>FL (.bl b) x
 | .int i _=>FL (.int i) x
 | .str z _=>FL (.str z) x
 | _=>false
def AX{x y:V}{u:Value}(r:RelV y u)(f:ly y=true):yH x u=FL y x:=by
 cases y with
 | dH=>cases r;rfl
 | bl b=>cases r;rfl
 | int i=>obtain⟨t,rfl⟩:=r;rfl
 | str z=>obtain⟨t,rfl⟩:=r;rfl
 | _=>exact absurd (show false=true from f) aac
def nV{x:V}:∀{xs:List V} {us:List Value},Vals xs us->xs.all ly=true->us.any (yH x)=xs.any λy=>FL y x
 | _,_,.nil,_=>rfl
 | y::xs,u::us,.cons r t,f=>by
   rw[List.all_cons,aaT]at f;rw[aco,aco,AX r f.1,nV t f.2]
def j9{A:Around}{s:Shared}{x:V}{v:Value}(rx:RelV x v)(fx:ly x=true):∀{xs:List V} {us:List Value},Vals xs us->xs.all ly=true->∀u∈us,SeqAt.EqAt A s u v (yH x u)
 | _,_,.nil,_=>λu I=>by cases I
 | y::xs,u::us,.cons r t,f=>λO I=>by
   rw[List.all_cons,aaT]at f;rcases aaa.mp I with rfl|I
   ·rw[AX r f.1];exact LX r rx f.1 fx
   ·exact j9 rx fx t f.2 O I
def E1(x:V)(xs:List V):Bool:=xs.any λy=>FL y x
def Qx(K:bH)(neg:Bool):R2:=λx y H Q=>∃p xs,y = .ref p/\(aV K H p xs\/bf K H p xs)/\ly x=true/\xs.all ly=true/\Q (.bl (if neg then !E1 x xs else E1 x xs)) H
def Du:lq X (compareOp .In) (Qx X.K false):=by
 intro pq s σ H x y v u Q I rx ry h;obtain⟨p,xs,rfl,U,Z,fs,q⟩:=h;cases ry;rcases U with U|U
 ·obtain⟨O,r,Y,hz⟩:=I.list U;refine SeqAt.in_listAt (yH x) Y.isList (λw hw=>j9 rx Z r fs w (by simpa using hw)) ⟨.bl _,H,I,rfl,?_⟩
  rw[show O.toArray.any (yH x)=O.any (yH x) by simp,nV r fs]
  exact q
 ·obtain⟨O,r,Y,hz⟩:=I.tuple U;refine SeqAt.in_tupleAt (yH x) Y (λw hw=>j9 rx Z r fs w (by simpa using hw)) ⟨.bl _,H,I,rfl,?_⟩
  rw[show O.toArray.any (yH x)=O.any (yH x) by simp,nV r fs]
  exact q
def xo:lq X (compareOp .NotIn) (Qx X.K true):=by
 intro pq s σ H x y v u Q I rx ry h;obtain⟨p,xs,rfl,U,Z,fs,q⟩:=h;cases ry;rcases U with U|U
 ·obtain⟨O,r,Y,hz⟩:=I.list U;refine SeqAt.notIn_listAt (yH x) Y.isList (λw hw=>j9 rx Z r fs w (by simpa using hw)) ⟨.bl _,H,I,rfl,?_⟩
  rw[show O.toArray.any (yH x)=O.any (yH x) by simp,nV r fs]
  exact q
 ·obtain⟨O,r,Y,hz⟩:=I.tuple U;refine SeqAt.notIn_tupleAt (yH x) Y (λw hw=>j9 rx Z r fs w (by simpa using hw)) ⟨.bl _,H,I,rfl,?_⟩
  rw[show O.toArray.any (yH x)=O.any (yH x) by simp,nV r fs]
  exact q
def xq:jx X (.builtin "len") (λxs H Q=>∃p ys,xs=[.ref p]/\(aV X.K H p ys\/bf X.K H p ys)/\Q (.int ys.length) H):=by
 intro pq s σ H xs us Q I r h;obtain⟨p,ys,rfl,O,q⟩:=h;obtain⟨u,rfl,rx⟩:=vals1 r;cases rx;have hn:=pF;rcases O with O|O
 ·obtain⟨U,Y,Z,hz⟩:=I.list O;have hlen:=Y.length;exact Calls.call_len_list Z.isList (by simp only[aae]<;>lia) ⟨.int ys.length,H,I.tok _,⟨s.toks+1,by rw[aae,hlen]⟩,q⟩
 ·obtain⟨U,Y,Z,hz⟩:=I.tuple O;have hlen:=Y.length;exact len_tuple Z (by simp only[aae]<;>lia) ⟨.int ys.length,H,I.tok _,⟨s.toks+1,by rw[aae,hlen]⟩,q⟩
def uZ:jx X (.type "tuple") (λxs H Q=>∃p ys,xs=[.ref p]/\((aV X.K H p ys/\∀l,H l=none->Q (.ref l) (upd H l (.tup ys)))\/(bf X.K H p ys/\Q (.ref p) H))):=by
 intro pq s σ H xs us Q I r h;obtain⟨p,ys,rfl,h⟩:=h;obtain⟨u,rfl,rx⟩:=vals1 r;cases rx;rcases h with⟨U,q⟩|⟨U,q⟩
 ·obtain⟨O,Y,Z,hz⟩:=I.list U;have hlen:=Y.length;refine call_tuple_list Z.isList (λh' kp=>?_) (by simp only[aae]<;>lia)
  have I1:Inv X pq σ H { s with heap:=h'}:=I.kept (t':=s.toks) kp
  have I2:Inv X pq σ (upd H h'.objs.size (.tup ys)) { s with heap:=h'.push { cls:=.type "tuple",data:=.seq O.toArray}} :=
   I1.laid (t':=s.toks) (λb o e=>Z2 _ e) (Z3 _) (show bC X.prog X.w _ _ _ (.tup ys) from⟨hz,O,Y,IsTup.new _ _⟩)
  exact⟨.ref h'.objs.size,_,I2,rfl,q _ (I1.hok.fresh (Z3 _))⟩
 ·obtain⟨O,Y,Z,hz⟩:=I.tuple U;exact call_tuple_same Z ⟨.ref p,H,I,rfl,q⟩
def RO(K:bH)(T:String)(x:V)(H:Hp):Prop:=match x with
 | .str _=>T="str"
 | .int _=>T="int"
 | .ref p=>(T="list"/\∃xs,aV K H p xs)\/(T="tuple"/\∃o,K.lookup p=some o/\o.cls = .type "tuple"/\o.dict=none)\/
  (T="dict"/\((∃kvs,H p=some (.dK kvs))\/∃kvs,H p=some (.dT kvs)))\/(T="set"/\∃S n,H p=some (.set S n))
 | _=>False
def FN{pq:aS}{σ:St}{H:Hp}{s:Shared}{T:String}{x:V}{v:Value}(I:Inv X pq σ H s)(r:RelV x v)(ty:RO X.K T x H):
 s.TypeIs v T/\∀a,v = .ref a->∃ob,s.heap.get? a=some ob/\ob.dict=none:=by
 cases x with
 | str z =>
   obtain⟨t,rfl⟩:=r;cases(show T="str" from ty)
   exact⟨typeIs_str s z t,λ_ e=>nomatch e⟩
 | int i =>
   obtain⟨t,rfl⟩:=r;cases(show T="int" from ty)
   exact⟨typeIs_int s i t,λ_ e=>nomatch e⟩
 | ref p =>
   cases r;rcases ty with⟨rfl,xs,Y⟩|⟨rfl,o,hk,hc,hd⟩|⟨rfl,hk⟩|⟨rfl,S,n,hk⟩
   ·obtain⟨Z,_,U,_⟩:=I.list Y;refine⟨U.isList.typeIs,λa e=>?_⟩
    cases e;obtain⟨o,n,e,c,hd,_⟩:=U;exact⟨o,e,hd⟩
   ·refine⟨⟨o,I.AD p o hk,hc⟩,λa e=>?_⟩
    cases e;exact⟨o,I.AD _ o hk,hd⟩
   ·have z:∃o,s.heap.get? p=some o/\o.ExactDict:=by
     rcases hk with⟨kvs,hk⟩|⟨kvs,hk⟩
     ·obtain⟨_,_,_,_,o,_,_,e,ex,_⟩:=I.hok p _ hk;exact⟨o,e,ex⟩
     ·obtain⟨_,_,_,_,o,_,_,e,ex,_⟩:=I.hok p _ hk;exact⟨o,e,ex⟩
    obtain⟨o,e,ex⟩:=z;refine⟨⟨o,e,ex.1⟩,λa O=>?_⟩
    cases O;exact⟨o,e,ex.2.1⟩
   ·obtain⟨o,_,_,_,e,ex,_⟩:=I.hok p _ hk;refine⟨⟨o,e,ex.1⟩,λa O=>?_⟩
    cases O;exact⟨o,e,ex.2.1⟩
 | _=>exact False.elim ty
def LY(K:bH)(T:String)(r:V->List V->Hp->VK->Prop)(to:TE):TE:=λσ H Q=>to σ H λx H1=>RO K T x H1/\r x [] H1 Q
def RP(K:bH)(T:String)(r:V->List V->Hp->VK->Prop)(to:TE)(t:TA):TE:=λσ H Q=>to σ H λx H1=>RO K T x H1/\t σ H1 λxs H2=>r x xs H2 Q
variable {o e:Expr}{es:List Expr}{to:TE}{t:TA}{name:Str}{apos cpos:Pos}{T id:String}{r:V->List V->Hp->VK->Prop}
def AY(pa:PlainAttrs T)(slot:Slot T name id)(hty:typeOf (.builtin id)=pure (.type "method_descriptor"))(hm:RL X id r)(ho:PE X o to)
 (hbase:attributeBase o name X.env (eval o X.env)=eval o X.env:=by rfl) (hline:(apos.endLine==cpos.line)=true:=by rfl):PE X (.Call (.Attribute o name apos) [] [] cpos) (LY X.K T r to):=by
 intro pq s σ H Q I h;refine wpAny_Call_method0_late hbase hline (cM (ho pq s σ H _ I h) λv s1 ⟨x,H1,O,U,ty,Y⟩=>?_)
 obtain⟨h1,h2⟩:=FN O U ty;exact⟨T,id,pa,slot,hty,h1,h2,Calls.callWith_builtin rfl (PySem.evalArgs_none (hm pq s1 σ H1 x [] v [] Q O U .nil Y))⟩
def lz(pa:PlainAttrs T)(slot:Slot T name id)(hty:typeOf (.builtin id)=pure (.type "method_descriptor"))(hm:RL X id r)(ho:PE X o to)(ha:PA X (e::es) t)
 (hbase:attributeBase o name X.env (eval o X.env)=eval o X.env:=by rfl)
 (hfew:((backTo cpos (starEach (e::es) X.env)).all (λx=>!x.1)&&(backToKw cpos (keywordEach [] X.env)).all (λx=>x.1.isSome)
  && decide ((e::es).length+([]:List Keyword).length+(if([]:List Keyword).isEmpty then 0 else 1)<30))=true:=by rfl)
 (hline:(apos.endLine==cpos.line)=true:=by rfl) (hs:starEach (e::es) X.env=(false,eval e X.env)::starEach es X.env:=by rfl) (hplain:(backTo cpos (starEach es X.env)).any (·.1)=false:=by rfl) :
 PE X (.Call (.Attribute o name apos) (e::es) [] cpos) (RP X.K T r to t):=by
 intro pq s σ H Q I h;refine wpAny_Call_method_late hbase hfew hline rfl (cM (ho pq s σ H _ I h) λv s1 ⟨x,H1,O,U,ty,Z⟩=>?_)
 obtain⟨h1,h2⟩:=FN O U ty;refine⟨T,id,pa,slot,hty,h1,h2,?_⟩;have Y:=ha cpos pq s1 σ H1 _ O Z;rw[hs]at Y ⊢;refine Calls.callWith_builtin (by show(false || (backTo cpos (starEach es X.env)).any (·.1))=false;rw[hplain]<;>rfl) (Calls.evalArgs_plain ?_)
 exact cM Y λus s2 ⟨vs,H2,I2,r2,q2⟩=>hm pq s2 σ H2 x vs v us Q I2 U r2 q2
end
def Qy(X:Cx)(id:String)(r:V->List V->Hp->VK->Prop):Prop :=
 ∀(pq:aS) (s:Shared) (σ:St) (H:Hp) (x:V) (xs:List V) (v:Value) (us:List Value) (Q:VK),Inv X pq σ H s->RelV x v->Vals xs us->r x xs H Q->
  wpAny (model X.prog X.w) X.A (call (.builtin id) (v::us)) (EP X pq σ Q) X.xe s
def Vals.one:∀{x:V} {us:List Value},Vals [x] us->∃u,us=[u]/\RelV x u
 | _,_,.cons r .nil=>⟨_,rfl,r⟩
def Vals.zero:∀{us:List Value},Vals [] us->us=[]
 | _,.nil=>rfl
def Vals.dropLast{xs:List V}{us:List Value}(h:Vals xs us):Vals xs.dropLast us.dropLast:=by
 induction h with
 | nil=>exact .nil
 | cons r t I =>
   cases t with
   | nil=>exact .nil
   | cons q O=>exact .cons r I
def Vals.eraseIdx:∀{xs:List V} {us:List Value} (i:Nat),Vals xs us->Vals (xs.eraseIdx i) (us.eraseIdx i)
 | _,_,_,.nil=>.nil
 | _,_,0,.cons _ t=>t
 | _,_,i+1,.cons r t=>.cons r (Vals.eraseIdx i t)
def Vals.rep{xs:List V}{us:List Value}(h:Vals xs us):∀k:Nat,Vals (List.replicate k xs).flatten (List.replicate k us).flatten
 | 0=>.nil
 | k+1=>by
   rw[abL,abL,acj,acj];exact Vals.append h (Vals.rep h k)
def AZ{α:Type}(l:List α):l.eraseIdx (l.length-1)=l.dropLast:=by
 induction l with
 | nil=>rfl
 | cons a r I =>
   cases r with
   | nil=>rfl
   | cons b r =>
     have e:(a::b::r).length-1=((b::r).length-1)+1:=by
      have h1:(a::b::r).length=r.length+2:=rfl;have h2:(b::r).length=r.length+1:=rfl
      lia
     rw[e,abN,I]
     all_goals rfl
def vI{α:Type}:∀(l:List α) (i:Nat),(l.eraseIdx i).length<=l.length
 | [],_=>Z3 _
 | _::_,0=>abv _
 | _::r,i+1=>Nat.succ_le_succ (vI r i)
def foldl_rep(its:List Value):∀(k:Nat) (acc:List Value),
 List.foldl (λI O=>I++O) acc.toArray (List.replicate k its.toArray)=(acc++(List.replicate k its).flatten).toArray
 | 0,acc=>by simp
 | k+1,acc=>by
   have e:acc.toArray++its.toArray=(acc++its).toArray:=by simp
   have U:(acc++its)++(List.replicate k its).flatten=acc++(List.replicate (k+1) its).flatten:=by
    rw[abL,acj,List.append_assoc]
   rw[<-U,<-foldl_rep its k (acc++its),<-e,abL,List.foldl_cons]
section
variable {X:Cx}{pq:aS}{σ:St}{H:Hp}{s:Shared}{l b:Addr}{xs ys zs:List V}
def Inv.LZ{its its' : List Value}{n:Nat}{f:Array Value->Array Value}{t' : Nat}(I:Inv X pq σ H s)(hH:H l=some (.lst xs))
 (e:s.heap.get? l=some { cls:=.type "list",data:=.seq its.toArray n}) (hf:f its.toArray=its'.toArray) (hv:Vals ys its') (hz:ys.length<=sizeLine) :
 Inv X pq σ (upd H l (.lst ys)) { s with heap:=s.heap.update l (Obj.mapSeq f),toks:=t'}:=by
 have q:=PySem.IsL.update e f;rw[hf]at q;refine I.write (x:=l) (e:=l) (by rw[hH];exact trivial) (.inl rfl) (λU u hb O=>(aa6 s.heap (Obj.mapSeq f) (aaq hb)).trans O) ⟨_,q⟩ ?_
 exact⟨hz,its',_,hv,q⟩
def Inv.OE{its:List Value}{t' : Nat}(I:Inv X pq σ H s)(hv:Vals ys its)(hz:ys.length<=sizeLine):
 Inv X pq σ (upd H s.heap.objs.size (.lst ys)) { s with heap:=s.heap.push { cls:=.type "list",data:=.seq its.toArray},toks:=t'} :=
 I.laid (λ_ _ q=>Z2 _ q) (Z3 _) ⟨hz,its,0,hv,aag _ rfl⟩
def Inv.fresh(I:Inv X pq σ H s):H s.heap.objs.size=none:=I.hok.fresh (Z3 _)
def Inv.FO(I:Inv X pq σ H s)(hH:H l=some (.lst xs)):xs.length<=sizeLine/\∃(O:List Value) (n:Nat),Vals xs O/\xs.length=O.length/\s.heap.get? l=some { cls:=.type "list",data:=.seq O.toArray n}:=by
 obtain⟨z,O,n,r,e⟩:=I.hok l _ hH;exact⟨z,O,n,r,r.length,e⟩
def FP{n:Nat}(h:n<=sizeLine):Builtin.List.listTooLong n=false:=by
 unfold Builtin.List.listTooLong;exact iK (by lia)
end
section
variable {X:Cx}
def Jk:V->List V->Hp->VK->Prop:=λx vs H Q=>∃l xs y,x = .ref l/\vs=[y]/\H l=some (.lst xs)/\xs.length<sizeLine/\Q .dH (upd H l (.lst (xs++[y])))
def cQ:Qy X "list.append" Jk:=by
 intro pq s σ H x vs v us Q I rx U h;obtain⟨l,xs,y,rfl,rfl,O,hz,q⟩:=h;cases rx;obtain⟨u,rfl,ru⟩:=U.one;obtain⟨z,its,n,r,hl,e⟩:=I.FO O;refine call_meets F.slot_list_append ⟨_,e,rfl⟩ F.entry_list_append (F.args_list_append_2 _ _) (PySem.list_append l its.toArray n u (by rw[aae];lia)) ⟨e,?_⟩
 refine⟨.dH,_,I.LZ (its':=its++[u]) O e (by simp) (r.append (.cons ru .nil)) ?_,rfl,q⟩
 rw[Z7,aaL]
 lia
def RQ:V->List V->Hp->VK->Prop:=λx vs H Q=>∃l xs y,x = .ref l/\vs=[]/\H l=some (.lst xs)/\xs[xs.length-1]?=some y/\Q y (upd H l (.lst xs.dropLast))
def FQ:Qy X "list.pop" RQ:=by
 intro pq s σ H x vs v us Q I rx Y h;obtain⟨l,xs,y,rfl,rfl,U,Z,q⟩:=h;cases rx;have Wc:=Y.zero;subst Wc;obtain⟨z,its,n,r,hl,e⟩:=I.FO U;obtain⟨u,hu,ru⟩:=r.get Z;have O : its.toArray[its.toArray.size-1]?=some u:=by
  show its.toArray[its.length-1]?=some u;rw[<-abB,<-hl];exact hu
 refine call_meets F.slot_list_pop ⟨_,e,rfl⟩ F.entry_list_pop (F.args_list_pop_1 _) (MeetsSeq.list_pop_last l its.toArray n u O (by rw[aae];lia)) ⟨e,?_⟩
 refine⟨y,_,I.LZ (its':=its.dropLast) U e ?_ r.dropLast ?_,ru,q⟩
 ·show its.toArray.eraseIdxIfInBounds (its.toArray.size-1)=its.dropLast.toArray;rw[aae,acC,AZ]
 ·rw[List.length_dropLast]
  lia
def L0:V->List V->Hp->VK->Prop:=λx vs H Q=>∃l xs i k y,x = .ref l/\vs=[.int i]/\H l=some (.lst xs)/\-(2^63)<=i/\i<2^63/\seqIndex? i xs.length=some k/\xs[k]?=some y/\Q y (upd H l (.lst (xs.eraseIdx k)))
def FT:Qy X "list.pop" L0:=by
 intro pq s σ H x vs v us Q I rx U h;obtain⟨l,xs,i,k,y,rfl,rfl,O,h1,h2,hk,Y,q⟩:=h;cases rx;obtain⟨u,rfl,ru⟩:=U.one;obtain⟨t,rfl⟩:=ru;obtain⟨z,its,n,r,hl,e⟩:=I.FO O;obtain⟨w,hw,rw'⟩:=r.get Y;refine call_meets F.slot_list_pop ⟨_,e,rfl⟩ F.entry_list_pop (F.args_list_pop_2 _ _)
  (MeetsSeq.list_pop_at l its.toArray n i t k w (fitsIndex_both h1 h2) (by rw[aae,<-hl];exact hk) (by rw[<-abB];exact hw) (by rw[aae];lia)) ⟨e,?_⟩
 refine⟨y,_,I.LZ (its':=its.eraseIdx k) O e ?_ (r.eraseIdx k) ?_,rw',q⟩
 ·show its.toArray.eraseIdxIfInBounds k=(its.eraseIdx k).toArray;rw[acC]
 ·have:=vI xs k
  lia
def RS:R2:=λx y H Q=>∃l k xs,x = .ref l/\y = .int k/\H l=some (.lst xs)/\-(2^63)<=k/\k<2^63/\xs.length*k.toNat<=sizeLine/\
 ∀p,H p=none->Q (.ref p) (upd H p (.lst (List.replicate k.toNat xs).flatten))
def len_rep{α:Type}(xs:List α)(k:Nat):(List.replicate k xs).flatten.length=k*xs.length:=by
 induction k with
 | zero=>simp
 | succ k I=>rw[abL,acj,Z7,I,Nat.succ_mul,Nat.add_comm]
def L1:lq X (binaryOp .Mult) RS:=by
 intro pq s σ H x y v u Q I rx ry h;obtain⟨l,k,xs,rfl,rfl,hH,h1,h2,hz,q⟩:=h;cases rx;obtain⟨t,rfl⟩:=ry;obtain⟨z,its,n,r,hl,e⟩:=I.FO hH;have hlen:its.toArray.size*k.toNat<=sizeLine:=by rw[aae,<-hl];exact hz
 have RT : ¬ its.toArray.size*k.toNat > (2^63-1)/8:=by
  have:(sizeLine:Nat)<=(2^63-1)/8:=by decide
  lia
 have O : ¬(!Builtin.List.listFitsIndex k)=true:=by
  rw[fitsIndex_both h1 h2];exact aac
 have OF : ¬ Builtin.List.listTooLong (its.toArray.size*k.toNat)=true:=by
  rw[FP hlen];exact aac
 have Y:List.foldl (λZ x2=>Z++x2) #[] (List.replicate (if its.toArray.isEmpty=true then 0 else k.toNat) its.toArray)=(List.replicate k.toNat its).flatten.toArray:=by
  have f0:∀m:Nat,List.foldl (λZ x2=>Z++x2) #[] (List.replicate m its.toArray)=(List.replicate m its).flatten.toArray:=λm=>by
   have:=foldl_rep its m [];rw[List.nil_append]at this;exact this
  rw[f0];cases its with
  | nil=>simp
  | cons a r'=>rw[Z0 (by simp)]
 refine wpAny_binaryOp_repeat_ref (T:="list") (U:="int") (by decide) ⟨_,e,rfl⟩ (λs'=>typeIs_int s' k t) noFill_list_mul F.fills_int_mul F.slot_int_rmul repeat_list F.slot_int_index.lookup
  (call_meets F.slot_int_rmul (typeIs_int s k t) F.entry_int_rmul (F.args_int_rmul_2 _ _) (int___rmul___int_list k t l its.toArray n)
   ⟨e,rfl,⟨_,e,rfl⟩,call_meets F.slot_list_mul ⟨_,e,rfl⟩ F.entry_list_mul (F.args_list_mul_2 _ _) (AutoListH.list___mul___list_int_3 l its.toArray n k t O RT OF) ⟨e,?_⟩⟩)
 rw[Y];exact⟨.ref _,_,I.OE (t':=s.toks) (r.rep k.toNat) (by rw[len_rep,Nat.mul_comm];exact hz),rfl,q _ I.fresh⟩
end
end L2
namespace Att
open PySem PySem.W PySem.Calls PyProof.Rows
def rA{P:Params}{h:Heap}:∀(ns:List Int) (vs:List Value),WellAll P h vs (ns.map WData.int)->IntsAre vs ns:=by
 intro ns
 induction ns with
 | nil =>
   intro vs w;rw[List.map_nil]at w;cases w;exact .nil
 | cons n ns I =>
   intro vs w;rw[aaj]at w;cases w with
   | cons a b =>
     cases a;exact .cons _ _ (I _ b)
def Dv{l:OpenLaw}{n:Nat}(hn:l.most=some n){P:Params}{h:Heap}{args:List WData}{vals:List Value}
 (hpre:l.row.toRowW.claim.pre args=true) (RU:WellAll P h vals args) :
 ∃a vs ns,vals=[Value.ref a]/\args=[WData.list (ns.map WData.int)]/\h.get? a=some { cls:=.type "list",data:=.seq vs.toArray}/\IntsAre vs ns/\ns.length<=n:=by
 have U:WShape.hasAll [] args [.list .int]=true:=(pre_splitW hpre).1;have hc:l.pre.holds [] { args:=args}=true:=(pre_splitW hpre).2;obtain⟨d,r,rfl,h1,h2⟩:=hasAllW_cons U;obtain rfl:=hasAllW_nil h2;obtain⟨xs,rfl,h3⟩:=hasW_list h1;obtain⟨ns,rfl⟩:=items_int h3;have hlen:ns.length<=n:=by
  unfold OpenLaw.pre at hc;have I:(WTm.not (.lt (.lit (.int (n:Int))) (.len (.arg 0)))).holds [] { args:=[.list (ns.map .int)]}=true:=by
   have I:=(holds_andW hc).1;rw[hn]at I;exact I
  have O:=condW_of I (w_not (w_lt w_lit (w_len_list (w_arg rfl))));rw[ZZ]at O;refine Nat.le_of_not_lt λq=>?_
  have q' : (n:Int)<((ns.length:Nat):Int):=by lia
  first
   | (rw[fG q']at O;exact absurd O (by decide))
   | (simp at O;lia)
 cases RU with
 | cons Y Z =>
   cases Z;cases Y with
   | list ho hall=>exact⟨_,_,ns,rfl,rfl,ho,rA ns _ hall,hlen⟩
def Dw(l:OpenLaw)(args:List WData):l.row.toRowW.claim.post args (.bool true) args=true :=
 postW_of (r:=l.row.toRowW) (X:=(true==true))
  (show WShape.has [] (.bool true) .bool=true by first | rfl | decide | simp[WShape.has,WShape.arms,WShape.armsAll])
  (show(WTm.eq .res (.lit (.bool true))).value [] { args:=args,res:=some (.bool true),after:=args}=some (.bool (true==true)) from w_eq_bool (w_res rfl) w_lit) rfl
def yI{l:OpenLaw}{n:Nat}{q:Program}{loose:List Str}{XP:(Str->Option Value)->Heap->Prop}{YP:World->Heap->Prop}{d:DefRec}
 (hn:l.most=some n) (KR:d.params.defaults=[])
 (call:∀(w:World) (s₀ I:Shared) (mg mb:lE) (fa:Addr) (o:Obj) (pm cd doc:Value) (a:Addr) (vs:List Value) (ns:List Int),
  Ground q loose [] XP w s₀ mg mb I.heap->YP w I.heap->
  I.heap.get? fa=some o->o.data = .func (docDef d.name d.params d.body d.scope pm cd doc)->I.heap.CodeRec cd d.name->mg d.name=some (.ref fa)->
  I.heap.get? a=some { cls:=.type "list",data:=.seq vs.toArray}->IntsAre vs ns->ns.length<=n->I.gens = #[]->
  codeAny (model l.prog w) callerA (.call (.ref fa) ⟨[.ref a],[]⟩) (λr s'=>r = .ok (.ret (.bool true))/\OldK I.heap s'.heap/\s'.os=I.os/\AllBare s'.gens) I) :
 WalkO q loose XP YP l.row.toRowW d [] (λf vs=>PySem.call f vs):=by
 intro w s₀ I mg mb G Y fa o pm cd doc dV kV ho hd U hD Z hg args vals as O ab ag RU ar;obtain rfl:dV = .none:=Dflts.none hD KR;obtain rfl:kV = .none:=Dflts.noKw hD;obtain⟨a,vs,ns,rfl,rfl,hobj,hints,hlen⟩:=Dv hn O RU;refine enter_call (codeAny_mono (call w s₀ I mg mb fa o pm cd doc a vs ns G Y ho (fd_plain hd) U Z hobj hints hlen hg) λr s' hq=>?_)
 obtain⟨rfl,h2,h3,h4⟩:=hq;exact⟨.inl ⟨.bool true,.bool true,[],rfl,λ_=>rfl,.bool true,Dw l _,λ_=>⟨List.Pairwise.nil,λ_ hm=>(nomatch hm)⟩⟩,h2,h3,h4⟩
end Att
namespace L2
open PySem PySem.Spec PyProof.Rows
def vJ:∀{vs:List Value} {ns:List Int},IntsAre vs ns->Vals (ns.map V.int) vs
 | _,_,.nil=>.nil
 | _,_,.cons n t h=>.cons ⟨t,rfl⟩ (vJ h)
end L2
namespace L2
open PySem PySem.Spec PyProof.Rows
def inClass(s:Stmt)(j:Nat):Stmt:=match s with
 | .ClassDef _ _ _ body _ _ _ _ _ _ _=>body.getD j (.Pass ⟨0,0,0,0⟩)
 | _=>.Pass ⟨0,0,0,0⟩
def dI(s:Stmt):Arguments:=match s with
 | .FunctionDef _ a _ _ _ _ _ _ _ _=>a
 | _=>{ posonlyargs:=[],args:=[],vararg:=none,kwonlyargs:=[],kw_defaults:=[],kwarg:=none,defaults:=[]}
def bV(s:Stmt):List Stmt:=match s with
 | .FunctionDef _ _ b _ _ _ _ _ _ _=>b
 | _=>[]
def aj(s:Stmt):Scope:=match s with
 | .FunctionDef _ _ _ _ _ _ sc _ _ _=>sc
 | _=>{ kind:=.function,names:=[],isGenerator:=false,isCoroutine:=false}
abbrev sO:EZ:=λ_ _ _ _ _ _=>False
abbrev E0:XK:=λ_ _ _=>False
def aJ{X:Cx}:Passes sO X E0:=λ_ _ _ _ _ _ _ h=>h.elim
structure pJ(K:bH)(x qual:Str)(st:Stmt)(f:Addr)(fd:FuncData):Prop where
 ex:∃(oc:Value) (od:Option Addr) (kV doc pm:Value) (an:Option Addr) (cdv ct:Value) (osl:Array (Option Value)),
  fd=PySem.W.fnOf x qual (dI st) (bV st) (aj st) .none kV doc pm an cdv ct/\K.lookup f=some ⟨oc,od,.func fd,osl⟩/\PySem.W.codeIn K cdv qual=true
 kp:PySem.W.keepIn K (.ref f)=true
section
variable {P:Program}{w:World}{K:bH}{mg:lE}{base:Heap}
def pJ.ok{x qual:Str}{st:Stmt}{f:Addr}{fd:FuncData}{N ps:List Str}{k:Nat}{sp:Sp}(F:pJ K x qual st f fd)(S:aC N ps (aj st))(len:∀vs H Q E,sp vs H Q E->vs.length=ps.length)
 (hbody:∀(cdv:Value) (A:Around) (outer:List Env) (s:Shared) (H:Hp) (vs:List V) (Q:VK) (E:XK),cW k (A.deeper (envOfC qual (aj st) s.heap.objs.size f cdv))->sp vs H Q E->
  ∃t,uU (rq sO P w K mg base N qual (aj st) f cdv A outer s H E).Av (bV st) t/\t { nx:=λ_ H'=>Q .dH H',rt:=Q} (start N vs) H):fF P w K mg base sO (k+1) f fd ps sp:=by
 obtain⟨oc,od,kV,doc,pm,an,cdv,ct,osl,rfl,O,I⟩:=F.ex;refine FF O I S len λA outer s H vs Q E hr U=>?_
 obtain⟨t,h,q⟩:=hbody cdv A outer s H vs Q E hr U;exact⟨t,h.Av,q⟩
def pJ.binds{x qual:Str}{st:Stmt}{f:Addr}{fd:FuncData}{ps:List Str}(F:pJ K x qual st f fd)
 (h:∀(kV doc pm:Value) (an:Option Addr) (cdv ct:Value) (us:List Value),us.length=ps.length->bindArgs (PySem.W.fnOf x qual (dI st) (bV st) (aj st) .none kV doc pm an cdv ct) ⟨us,[]⟩=pure (ps.zip us)):Binds K fd ps []:=by
 obtain⟨oc,od,kV,doc,pm,an,cdv,ct,osl,rfl,O,I⟩:=F.ex;exact .all (h kV doc pm an cdv ct)
def jQ{x qual:Str}{st:Stmt}{f:Addr}{oc:Value}{od an:Option Addr}{osl:Array (Option Value)}{kV doc pm cdv ct:Value}(l:K.lookup f=some ⟨oc,od,.func (PySem.W.fnOf x qual (dI st) (bV st) (aj st) .none kV doc pm an cdv ct),osl⟩)
 (c:PySem.W.codeIn K cdv qual=true) (k:PySem.W.keepIn K (.ref f)=true):pJ K x qual st f (PySem.W.fnOf x qual (dI st) (bV st) (aj st) .none kV doc pm an cdv ct):=⟨⟨oc,od,kV,doc,pm,an,cdv,ct,osl,rfl,l,c⟩,k⟩
end
def nW{A:Around}{k:Nat}(hr:cW k A):A.units+1<cLine:=abp (Nat.add_le_add_left (by decide:1<=64) _) hr.units
def cf{n:Nat}(h:n<=1000):n<sizeLine:=abp h (by decide)
section
variable {X:Cx}
def pv(i:Nat){x:Str}{pos:Pos}(hN:X.N[i]?=some x:=by rfl)(hv:Qt X.env.scope x:=by first | exact Or.inl rfl | exact Or.inr (Or.inl rfl) | exact Or.inr (Or.inr rfl))(hd:(x==("__debug__":Str))=false:=by decide)
 (hcd:(x==("__classdict__":Str))=false:=by decide):PE X (.Name x pos) (N5 i):=LD hN hv hd hcd
end
def jR{A B:Prop}(h:B):if false=true then A else B:=by
 rw[Z0 aac];exact h
def lN{A B:Prop}(h:A):if true=true then A else B:=by
 rw[Z1 rfl];exact h
def rB{c A B:Prop}[Decidable c](h1:c->A)(h2 : ¬ c->B):if c then A else B:=by
 by_cases h:c
 ·rw[Z1 h];exact h1 h
 ·rw[Z0 h];exact h2 h
def FU{c A B:Prop}[Decidable c](hc:c)(h:B):if(!decide c)=true then A else B:=by
 rw[fG hc];exact jR h
def aq(H H' : Hp):Prop:=∀b o,H b=some o->H' b=some o
def aq.refl(H:Hp):aq H H:=λ_ _ h=>h
def aq.trans{H H1 H2:Hp}(a:aq H H1)(b:aq H1 H2):aq H H2:=λc o h=>b c o (a c o h)
def aq.free{H H' : Hp}(e:aq H H'){l:Addr}(h:H' l=Option.none):H l=Option.none:=by
 cases q:H l with
 | none=>rfl
 | some o =>
   rw[e l o q]at h;cases h
def aq.seq{K:bH}{H H' : Hp}{a:Addr}{xs:List V}(e:aq H H')(h:aV K H a xs):aV K H' a xs:=by
 rcases h with(h|⟨o,h⟩) | h
 ·exact .inl (.inl (e _ _ h))
 ·exact .inl (.inr ⟨o,e _ _ h⟩)
 ·exact .inr h
def cR(cells:List (Str×Addr)):List (Str×NameKind)->List (Str×Addr)->List (Str×Addr)
 | [],cs=>cs
 | (n,k)::r,cs=>cR cells r (if(k==NameKind.free)=true then(n,(cells.lookup n).getD 0)::cs else cs)
def sP{env:Env}{f:Str×NameKind->List (Str×Addr)->Sem (ForInStep (List (Str×Addr)))}
 (hf1:∀n k cs c,(k==NameKind.free)=true->env.cells.lookup n=some c->f (n,k) cs=pure (.yield ((n,c)::cs)))
 (hf2:∀n k cs,(k==NameKind.free)=false->f (n,k) cs=pure (.yield cs)) :
 ∀(names:List (Str×NameKind)) (cs:List (Str×Addr)),(∀n k,(n,k)∈names->(k==NameKind.free)=true->∃c,env.cells.lookup n=some c)->
  forIn names cs f=(pure (cR env.cells names cs):Sem (List (Str×Addr)))
 | [],cs,_=>by rw[List.forIn_nil];rfl
 | (n,k)::r,cs,h=>by
   have I:=λcs=>sP hf1 hf2 r cs λm j hm=>h m j (m9 _ hm)
   rw[List.forIn_cons];cases e:(k==NameKind.free) with
   | true =>
     obtain⟨c,hc⟩:=h n k aad e;rw[hf1 n k cs c e hc,pure_bind];show forIn r ((n,c)::cs) f=_;rw[I]
     conv=>rhs;unfold cR
     rw[Z1 e,hc];rfl
   | false =>
     rw[hf2 n k cs e,pure_bind];show forIn r cs f=_;rw[I]
     conv=>rhs;unfold cR
     rw[Z0 (by rw[e];exact aac)]
def ni{scope:Scope}{env:Env}(h:∀n k,(n,k)∈scope.names->(k==NameKind.free)=true->∃c,env.cells.lookup n=some c):closureFor scope env=pure (cR env.cells scope.names []):=by
 simp only[closureFor];rw[sP (env:=env) ?_ ?_ scope.names [] h]
 ·rfl
 ·intro n k cs c e hc;show(if(k==NameKind.free)=true then _ else _)=_
  rw[Z1 e];unfold cellOf;rw[hc];rfl
 ·intro n k cs e;show(if(k==NameKind.free)=true then _ else _)=_
  rw[Z0 (by rw[e];exact aac)]
def jy{cells:List (Str×Addr)}{x:Str}{c:Addr}:∀{names:List (Str×NameKind)} {cs:List (Str×Addr)},(cR cells names cs).lookup x=some c->cs.lookup x=some c\/((x,NameKind.free)∈names/\(cells.lookup x).getD 0=c)
 | [],cs,h=>.inl h
 | (n,k)::r,cs,h=>by
   unfold cR at h;rcases jy h with q|⟨I,O⟩
   ·by_cases e:(k==NameKind.free)=true
    ·rw[Z1 e]at q
     by_cases hx:x=n
     ·subst hx;rw[acw]at q;have hk:k=NameKind.free:=eq_of_beq e;exact .inr ⟨by rw[hk];exact aad,Option.some.inj q⟩
     ·have hb:(x==n)=false:=beq_eq_false_iff_ne.mpr hx;simp only[aaU,hb]at q;exact .inl q
    ·rw[Z0 e]at q;exact .inl q
   ·exact .inr ⟨m9 _ I,O⟩
def iZ{cells:List (Str×Addr)}{x:Str}:∀{names:List (Str×NameKind)} {cs:List (Str×Addr)},((x,NameKind.free)∈names\/∃c,cs.lookup x=some c)->∃c,(cR cells names cs).lookup x=some c
 | [],cs,h=>by
   rcases h with h|h
   ·cases h
   ·exact h
 | (n,k)::r,cs,h=>by
   unfold cR;apply iZ;rcases h with h|⟨c,h⟩
   ·rcases aaa.mp h with h|h
    ·cases h
     right
     rw[Z1 (by rfl)]
     exact⟨_,acw⟩
    ·exact .inl h
   ·right
    by_cases e:(k==NameKind.free)=true
    ·rw[Z1 e]
     by_cases hx:x=n
     ·subst hx;exact⟨_,acw⟩
     ·have hb:(x==n)=false:=beq_eq_false_iff_ne.mpr hx;exact⟨c,by simp only[aaU,hb];exact h⟩
    ·rw[Z0 e];exact⟨c,h⟩
def kJ{env:Env}{x:Str}{k:NameKind}:∀{names:List (Str×NameKind)},
 (names.map λ(n,k)=>if(k==NameKind.free&&env.scope.kind == .function&&env.kindOf n==some .cell) then(n,NameKind.cell) else(n,k)).lookup x=some k->
  ∃k0,names.lookup x=some k0/\(k=k0\/(k0 = .free/\k = .cell))
 | [],h=>by cases h
 | (n,j)::r,h=>by
   have I:=@kJ env x k r
   replace h:List.lookup x ((if(j==NameKind.free&&env.scope.kind == .function&&env.kindOf n==some .cell)=true then(n,NameKind.cell) else(n,j))::_)=some k:=h
   cases hx:x==n with
   | true =>
     by_cases hc:(j==NameKind.free&&env.scope.kind == .function&&env.kindOf n==some .cell)=true
     ·rw[Z1 hc]at h;simp only[aaU,hx]at h ⊢;have hj:j=NameKind.free:=by
       rw[aaT,aaT]at hc;exact eq_of_beq hc.1.1
      exact⟨j,rfl,.inr ⟨hj,(Option.some.inj h).symm⟩⟩
     ·rw[Z0 hc]at h;simp only[aaU,hx]at h ⊢;exact⟨j,rfl,.inl (Option.some.inj h).symm⟩
   | false =>
     by_cases hc:(j==NameKind.free&&env.scope.kind == .function&&env.kindOf n==some .cell)=true
     ·rw[Z1 hc]at h;simp only[aaU,hx]at h ⊢;exact I h
     ·rw[Z0 hc]at h;simp only[aaU,hx]at h ⊢;exact I h
def nX{env:Env}{x:Str}:∀{names:List (Str×NameKind)},names.lookup x=some .free->
 (names.map λ(n,k)=>if(k==NameKind.free&&env.scope.kind == .function&&env.kindOf n==some .cell) then(n,NameKind.cell) else(n,k)).lookup x=some .cell\/
 (names.map λ(n,k)=>if(k==NameKind.free&&env.scope.kind == .function&&env.kindOf n==some .cell) then(n,NameKind.cell) else(n,k)).lookup x=some .free
 | [],h=>by cases h
 | (n,j)::r,h=>by
   have I:=@nX env x r;show List.lookup x ((if(j==NameKind.free&&env.scope.kind == .function&&env.kindOf n==some .cell)=true then(n,NameKind.cell) else(n,j))::_)=_\/
    List.lookup x ((if(j==NameKind.free&&env.scope.kind == .function&&env.kindOf n==some .cell)=true then(n,NameKind.cell) else(n,j))::_)=_
   cases hx:x==n with
   | true =>
     simp only[aaU,hx]at h;cases h
     by_cases hc:(NameKind.free==NameKind.free&&env.scope.kind == .function&&env.kindOf n==some .cell)=true
     ·rw[Z1 hc];simp only[aaU,hx];exact .inl trivial
     ·rw[Z0 hc];simp only[aaU,hx];exact .inr trivial
   | false =>
     simp only[aaU,hx]at h
     by_cases hc:(j==NameKind.free&&env.scope.kind == .function&&env.kindOf n==some .cell)=true
     ·rw[Z1 hc];simp only[aaU,hx];exact I h
     ·rw[Z0 hc];simp only[aaU,hx];exact I h
def cS(X:Cx)(N:List Str)(scope:Scope)(xe:cP)(C:Addr)(s:Shared)(H:Hp)(fp:List Addr):Cx where
 prog:=X.prog
 w:=X.w
 K:=X.K
 mg:=X.mg
 base:=X.base
 A:=X.A
 N:=N
 s₀:=s
 H₀:=H
 env:=compEnvC scope (cR X.env.cells scope.names []) C X.env
 outer:=X.stack
 stack:=X.stack
 ex:=fp
 fn:=λ_=>false
 calm:=X.calm
 pn:=[]
 xe:=xe
def eJ(σ:St)(js:List Nat):St:=js.map λj=>(σ[j]?).getD none
structure dh(X:Cx)(scope:Scope)(own fq:List Str)(js:List Nat):Prop where
 kind:scope.kind = .function
 xr:∀y∈scope.names,y.2≠.cell
 names:∀y∈scope.names,y.2 = .local->scope.names.lookup y.1=some .local
 free:∀y∈scope.names,y.2 = .free->X.env.scope.names.lookup y.1=some .cell\/X.env.scope.names.lookup y.1=some .free
 at_:js.map (λj=>X.N[j]?)=fq.map some
 fr:∀x∈fq,scope.names.lookup x=some .free
def sQ{σ:St}{js:List Nat}{i:Nat}{v:V}(h:(eJ σ js)[i]?=some (some v)):∃j,js[i]?=some j/\σ[j]?=some (some v):=by
 unfold eJ at h;rw[Z9]at h;cases e:js[i]? with
 | none=>rw[e]at h;cases h
 | some j =>
   rw[e]at h;have h' : (σ[j]?).getD none=some v:=Option.some.inj h;refine⟨j,rfl,?_⟩;cases q:σ[j]? with
   | none=>rw[q]at h';cases h'
   | some o=>rw[q]at h';rw[show o=some v from h']
section
variable {X:Cx}
def fY{pq:aS}{σ:St}{H:Hp}{s:Shared}{scope:Scope}{own fq:List Str}{js:List Nat}(I:Inv X pq σ H s)(T:dh X scope own fq js):
 ∀n k,(n,k)∈scope.names->(k==NameKind.free)=true->∃c,X.env.cells.lookup n=some c:=λn k hm e=>by
 have hk:k=NameKind.free:=eq_of_beq e;exact I.ok.has n (T.free (n,k) hm hk)
def FW{pq:aS}{σ:St}{H:Hp}{s:Shared}{scope:Scope}{own fq:List Str}{js:List Nat}{fp:List Addr}{D C:Addr}{h1:Heap}{t1:Nat}{m:lE}{xe:cP}
 (I:Inv X pq σ H s) (T:dh X scope own fq js) (hf:∀b∈fp,nh X pq H b) (hfo:∀b∈fp,∃o,s.heap.get? b=some o) (hD:s.heap.objs.size<=D) (hC:s.heap.objs.size<=C) (hDC:D≠C)
 (old:∀b o,s.heap.get? b=some o->h1.get? b=some o) (hl:h1.get? D=some { cls:=.type "list",data:=.seq ([]:List Value).toArray 0}) (hn:h1.Ns C m) :
 Inv (cS X (own++fq) scope xe C s H fp) [] (List.replicate own.length none++eJ σ js) (upd H D (.lst [])) { s with heap:=h1,toks:=t1}:=by
 have cells:∀x c,(cR X.env.cells scope.names []).lookup x=some c->X.env.cells.lookup x=some c:=λx c h=>by
  rcases jy h with q|⟨q1,q2⟩
  ·cases q
  ·obtain⟨c',O⟩:=fY I T x .free q1 rfl;rw[O]at q2;rw[O];exact aas some q2
 have OG:∀b o,s.heap.get? b=some o->b<s.heap.objs.size:=λb o e=>aab e
 have ab:∀x c,X.env.cells.lookup x=some c->c<s.heap.objs.size:=λx c e=>by
  obtain⟨v,q⟩:=I.cell x c e;exact q.lt
 have Wd:∀b∈frs X.stack,b<s.heap.objs.size:=λb hb=>by
  obtain⟨_,o,ho,_⟩:=I.stack.mem hb;exact aab ho
 have We:H D=none:=I.hok.fresh hD;have L3:H C=none:=I.hok.fresh hC;refine⟨⟨I.ok.mod,T.kind,I.ok.glob,I.ok.blt,hC,λx y c a b=>I.ok.inj x y c (cells x c a) (cells y c b),λx hx=>?_,λx c z _=>(nomatch z),I.ok.hd,I.ok.frames,.inl rfl,λb hb=>⟨?_,λx c e z=>?_⟩,
  λb o e=>I.bs b o e,aat I.ok.IE I.sz,λb o e hb=>?_,λb hb z=>?_,I.stack,I.w5⟩,
  rfl,I.bare,Un.laid old hD We,⟨m,hn,λi x v Y e2 e3=>?_⟩,λx c e=>?_,?_,λx c e=>?_,λp hp=>absurd (show p∈([]:aS) from hp) (by simp),?_,?_⟩
 ·
  have hx:(relabel scope X.env).names.lookup x=some .cell\/(relabel scope X.env).names.lookup x=some .free:=hx;have Wf:(x,NameKind.free)∈scope.names:=by
   rcases hx with hx|hx
   ·obtain⟨k0,q,r⟩:=kJ hx;have hm:=aaQ q;rcases r with r|⟨r,_⟩
    ·exact absurd r.symm (T.xr _ hm)
    ·rw[r]at hm;exact hm
   ·obtain⟨k0,q,r⟩:=kJ hx;have hm:=aaQ q;rcases r with r|⟨_,r⟩
    ·rw[<-r]at hm;exact hm
    ·cases r
  exact iZ (.inl Wf)
 ·
  obtain⟨o,ho⟩:=hfo b hb;exact aak (aaf (OG b o ho) hC)
 ·exact(hf b hb).2.2.2.2.1 x c (cells x c e) z
 ·
  obtain⟨_,_,_,f3,_,_⟩:=hf b hb;rcases f3 with z|z
  ·exact I.ok.C6 b o e z
  ·exact absurd (aaf (aab (I.ok.bs b o e).1) z) (aa5 _)
 ·
  obtain⟨_,f1,f2,_⟩:=hf b hb;rcases aaa.mp (I.sE b z) with q|q
  ·exact f1 q
  ·exact f2 q
 ·
  by_cases hi:i<own.length
  ·rw[aav (by simpa using hi),ace,Z1 hi]at e2
   cases e2
  ·rw[aaC (by simpa using hi),abz]at e2
   replace Y:(own++fq)[i]?=some x:=Y
   rw[aaC (by lia)]at Y
   obtain⟨j,hj,hσ⟩:=sQ e2;have hN:X.N[j]?=some x:=by
    have q:=aas (λl=>l[i-own.length]?) T.at_
    simp only[Z9,hj,Y,abC]at q;exact Option.some.inj q
   have Z:=T.fr x (j7 Y);have hm:=aaQ Z;have hk:=T.free (x,.free) hm rfl;obtain⟨m0,ag,E2⟩:=I.loc;obtain⟨u,r,l⟩:=E2 j x v hN hσ (by rcases hk with k|k;exact .inr (.inl k);exact .inr (.inr k))
   refine⟨u,r,.inr ⟨nX Z,?_⟩⟩;rcases l with⟨yn,_⟩|⟨_,c,hc,U⟩
   ·have yn:X.env.scope.names.lookup x=some .local:=yn;rcases hk with k|k<;>(rw[yn]at k;cases k)
   ·obtain⟨c',O⟩:=iZ (cells:=X.env.cells) (names:=scope.names) (cs:=[]) (x:=x) (.inl hm);have q:=cells x c' O;rw[hc]at q;cases q;exact⟨c,O,U.keeps old⟩
 ·
  obtain⟨v,q⟩:=I.cell x c (cells x c e);exact⟨v,q.keeps old⟩
 ·
  show upd H D (.lst []) C=none;rw[ae (aaq hDC)];exact L3
 ·show upd H D (.lst []) c=none;have e:=cells x c e;rw[ae (aak (aaf (ab x c e) hD))];exact I.eF x c e
 ·exact I.hok.laid old hD ⟨aaB _,[],0,.nil,hl⟩
 ·show _=(own++fq).length;have q:=aas List.length T.at_;rw[ZZ,ZZ]at q;rw[Z7,Z7,abz];unfold eJ;rw[ZZ,q]
def m4{pq:aS}{σ σ' : St}{H H' : Hp}{s s' : Shared}{scope:Scope}{N:List Str}{fp:List Addr}{C:Addr}{h' : Heap}{xe:cP}
 (I:Inv X pq σ H s) (hf:∀b∈fp,nh X pq H b) (hC:s.heap.objs.size<=C) (J:Inv (cS X N scope xe C s H fp) [] σ' H' s') (sb:Heap.SameBut C s'.heap h'):Inv X pq σ H' { s' with heap:=h'}:=by
 have O:H' C=none:=J.free;refine I.Fc (ch:=fp) J.os ?_ ?_ J.bare (λb hb=>?_)
 ·have u:Un (frs X.stack) fp H H' s.heap s'.heap:=J.base;have ne:∀b o,s.heap.get? b=some o->b≠C:=λb o e=>aak (aaf (aab e) hC)
  refine⟨λb o e n hb hx=>(sb.2 b (ne b o e)).trans (u.keep b o e n hb hx),λb o e n hb hx=>?_,u.free,λb o e hx=>?_,u.tups,u.kG,u.lH⟩
  ·obtain⟨sl,q⟩:=u.slot b o e n hb hx;exact⟨sl,(sb.2 b (ne b o e)).trans q⟩
  ·obtain⟨o',q⟩:=u.there b o e hx;exact⟨o',(sb.2 b (ne b o e)).trans q⟩
 ·intro b ob e;refine(J.hok b ob e).stay (λc U hc q=>(sb.2 c ?_).trans q) (λ_ q=>q) λ_ _ q=>q
  rintro rfl;rcases hc with rfl|hc
  ·rw[O]at e;cases e
  ·rw[O]at hc;cases hc
 ·obtain⟨_,f1,_,f3,f4,f5⟩:=hf b hb;exact⟨f3,f1,f4,f5⟩
end
section
variable {prog:Program}{w:World}{A:Around}{R:Result->Shared->Prop}{s:Shared}
abbrev Cn(ifs:List Expr)(env:Env):Sem Bool:=forIn ifs true λc r=>if r=true then do let ok←isTrue c env (eval c env);pure (ForInStep.yield ok) else pure (ForInStep.yield r)
def xu{elt target iter:Expr}{ifs:List Expr}{scope:Scope}{pos:Pos}{it acc:Value}{env:Env}(I:Nat->Shared->Prop)
 (turn:∀n s,I n s->wpAny (model prog w) A (pyNext it) (λr O=>match r with
  | none=>R (.ok .next) O
  | some v=>wpAny (model prog w) A (letOwnedTupleGo target it v) (λ_ s₀=>wpAny (model prog w) A (assign target env v) (λ_ Y =>
   wpAny (model prog w) A (Cn ifs env) (λok U =>
    if ok=true then wpAny (model prog w) A (eval elt env) (λx Z =>
     wpAny (model prog w) A (call (.builtin "list.append") [acc,x]) (λ_ s₅=>∃m,m<n/\I m s₅) (notedBy (model prog w) A env λe s'=>R (.error e) s') Z) (notedBy (model prog w) A env λe s'=>R (.error e) s') U
    else ∃m,m<n/\I m U) (notedBy (model prog w) A env λe s'=>R (.error e) s') Y) (notedBy (model prog w) A env λe s'=>R (.error e) s') s₀) (notedBy (model prog w) A env λe s'=>R (.error e) s') O) (notedBy (model prog w) A env λe s'=>R (.error e) s') s)
 (n:Nat) (h:I n s) :
 codeAny (model prog w) A (.compLoop (.ListComp elt [⟨target,iter,ifs,0⟩] scope pos) 0 it acc env) R s:=by
 refine codeAny_loop rfl I (λn s hI=>?_) n h
 show wpAny _ A ((compTurn (.ListComp elt [⟨target,iter,ifs,0⟩] scope pos) 0 it acc env).onRaise (λx=>do noteFrame x env;theTreesLotGoes x)) _ _ s
 refine wpAny_noted ?_;rw[compTurn_list];refine aQ (wpAny_standAt (aQ (aar (turn n s hI) (λr O h₁=>?_) λ_ _ h'=>h')))
 cases r with
 | none=>exact Z5 h₁
 | some v =>
   refine aQ (aar h₁ (λ_ s₀ h₀=>?_) λ_ _ h'=>h')
   refine aQ (aar h₀ (λ_ Y h₂=>aQ (aar h₂ (λok U h₃=>?_) λ_ _ h'=>h')) λ_ _ h'=>h')
   cases ok with
   | false=>exact Z5 ⟨rfl,h₃⟩
   | true =>
     exact aQ (aQ (aar h₃ (λx Z h₄=>aQ (aar h₄ (λ_ s₅ h₅=>Z5 (Z5 ⟨rfl,h₅⟩)) λ_ _ h'=>h')) λ_ _ h'=>h'))
end
def OH(X:Cx)(ifs:List Expr)(t:TT):Prop :=
 ∀(pq:aS) (s:Shared) (σ:St) (H:Hp) (Q:Bool->Hp->Prop),Inv X pq σ H s->t σ H Q->wpAny (model X.prog X.w) X.A (Cn ifs X.env) (TP X pq σ Q) X.xe s
def OI:TT:=λ_ H Q=>Q true H
def dJ{X:Cx}:OH X [] OI:=λ_ _ _ H _ I h=>wpAny_tests_nil ⟨H,I,h⟩
def mw{X:Cx}{c:Expr}{t:TT}(h:PT X c t):OH X [c] t:=λpq s σ H Q I q=>wpAny_tests_one (h pq s σ H Q I q)
def i0(J:It)(g:TG)(tt:TT)(te:TE)(n:Nat)(fr:St)(D:Addr)(Q:Hp->Prop)(H1:Hp):Prop :=
 ∃W:Nat->Nat->List V->Hp->Prop,(∃m,W 0 m [] H1)/\∀i m acc H,W i m acc H->H D=some (.lst acc)/\
   ((J.stop i H/\Q H)\/(J.go i H/\acc.length<sizeLine/\∃N:List V->Hp->Prop,(∀I H',N I H'->∃m',m'<m/\W (i+1) m' I H')/\
     ∀x H',J.IG i H x H'->g x (List.replicate n none++fr) H' λσ2 H2=>σ2.drop n=fr/\tt σ2 H2 λb H3 =>
     if b=true then te σ2 H3 λv H4=>H4 D=some (.lst acc)/\N (acc++[v]) (upd H4 D (.lst (acc++[v])))
     else N acc H3))
def KS(wi:TI)(g:TG)(tt:TT)(te:TE)(n:Nat)(js:List Nat):TE:=λσ H Q=>wi σ H λJ H1=>∀D,H1 D=none->i0 J g tt te n (eJ σ js) D (λH2=>Q (.ref D) H2) (upd H1 D (.lst []))
structure KU(A:Around)(cm:Bool)(P:Program)(w:World)(K:bH)(tg:Expr)(J:It)(fp:List Addr)(it:Addr)(tn:Nat->Heap->Prop):Prop where
 mem:it∈fp
 obj:∀i h,tn i h->∀b∈fp,∃o,h.get? b=some o/\∀v,o.data≠.cell v
 keep:∀i h h',tn i h->(∀b∈fp,∀o,h.get? b=some o->h'.get? b=some o)->tn i h'
 item:∀(X:Cx),X.prog=P->X.w=w->X.K=K->X.A=A->X.calm=cm->∀(i:Nat) (pq:aS) (s:Shared) (σ:St) (H:Hp) (E:cP),Inv X pq σ H s->(∀b∈fp,nh X pq H b)->tn i s.heap->J.go i H->
  wpAny (model P w) X.A (pyNext (.ref it)) (λr s1=>∃u,r=some u/\
   wpAny (model P w) X.A (letOwnedTupleGo tg (.ref it) u) (λ_ s2=>∃x H',Inv X pq σ H' s2/\RelV x u/\J.IG i H x H'/\tn (i+1) s2.heap/\∀b∈fp,H' b=none) E s1) E s
 done:∀(X:Cx),X.prog=P->X.w=w->X.K=K->X.A=A->X.calm=cm->∀(i:Nat) (pq:aS) (s:Shared) (σ:St) (H:Hp) (E:cP),Inv X pq σ H s->(∀b∈fp,nh X pq H b)->tn i s.heap->J.stop i H->
  wpAny (model P w) X.A (pyNext (.ref it)) (λr s1=>r=none/\Inv X pq σ H s1) E s
 self:∀(A:Around) (i:Nat) (s:Shared) (Q:cP) (E:cP),tn i s.heap->Q (.ref it) s->wpAny (model P w) A (pyIter (.ref it)) Q E s
def Turn.x{A:Around}{cm:Bool}{P:Program}{w:World}{K:bH}{tg:Expr}{J:It}{fp:List Addr}{it:Addr}{tn:Nat->Heap->Prop}(T:Turn P w K tg J fp it tn)(hc:cm=true):KU A cm P w K tg J fp it tn :=
 ⟨T.mem,T.obj,T.keep,λX a b c _ d=>T.item X a b c (d.trans hc),λX a b c _ d=>T.done X a b c (d.trans hc),T.self⟩
section
variable {X:Cx}{elt iter tg:Expr}{ifs:List Expr}{scope:Scope}{pos:Pos}{own fq:List Str}{js:List Nat}{wi:TI}{g:TG}{tt:TT}{te:TE}
def sR{pq:aS}{σ:St}{H2:Hp}{s2:Shared}{it:Addr}{fp:List Addr}{tn:Nat->Heap->Prop}{J:It}{E:cP}{RR:Value->Addr->Result->Shared->Prop}{QQ:Addr->Hp->Prop}
 (T:dh X scope own fq js)
 (hg:∀C s H fp,PG (cS X (own++fq) scope (λ_ _=>False) C s H fp) tg g)
 (ht:∀C s H fp,OH (cS X (own++fq) scope (λ_ _=>False) C s H fp) ifs tt)
 (he:∀C s H fp,PE (cS X (own++fq) scope (λ_ _=>False) C s H fp) elt te)
 (I2:Inv X pq σ H2 s2) (E3:KU X.A X.calm X.prog X.w X.K tg J fp it tn) (st2:tn 0 s2.heap) (f2:∀b∈fp,nh X pq H2 b)
 (hl:∀D,H2 D=none->i0 J g tt te own.length (eJ σ js) D (QQ D) (upd H2 D (.lst [])))
 (hRR:∀D C σ' H' s',s2.heap.objs.size<=C->Inv (cS X (own++fq) scope (λ_ _=>False) C s2 H2 fp) [] σ' H' s'->QQ D H'->RR (.ref D) C (.ok .next) s') :
 wpAny (model X.prog X.w) X.A (newList []) (λacc Y=>wpAny (model X.prog X.w) X.A (newFunctionEnv scope X.env.globals (cR X.env.cells scope.names []) [] X.env.qual none .none (some X.env)) (λI s₄ =>
  codeAny (model X.prog X.w) X.A (.compStart (.ListComp elt [⟨tg,iter,ifs,0⟩] scope pos) 0 (.ref it) acc { I with scope:=relabel scope X.env}) (RR acc I.locals) s₄) E Y) E s2:=by
 refine wpAny_newObj_type (wpAny_newFunctionEnv T.xr (by intro y hy;simp at hy) (λh₁ L4 Jl=>?_) T.kind)
 dsimp only at L4 Jl ⊢;generalize Jm:s2.heap.push { cls:=.type "list",dict:=none,data:=.seq ([]:List Value).toArray}=G2 at L4 Jl ⊢;have hC:G2.objs.size=s2.heap.objs.size+1:=by rw[<-Jm,ab9]
 have Z:s2.heap.objs.size≠G2.objs.size:=by rw[hC];exact aak (abb _)
 have OJ:s2.heap.objs.size<=G2.objs.size:=by rw[hC];exact abv _
 have below:∀b,b<s2.heap.objs.size->b≠G2.objs.size:=λb hb=>by rw[hC];exact aak (abh hb)
 have old:∀b o,s2.heap.get? b=some o->h₁.get? b=some o:=λb o e=>Jl.extBut b o (below b (aab e)) (Z2 _ (Jm▸Z2 _ e))
 have ab:h₁.get? s2.heap.objs.size=some { cls:=.type "list",data:=.seq ([]:List Value).toArray 0}:=Jl.extBut _ _ Z (Z2 _ (Jm▸aag _ rfl));have RV:∀b∈fp,∃o,s2.heap.get? b=some o:=λb hb=>let⟨o,e,_⟩:=E3.obj _ _ st2 b hb;⟨o,e⟩
 have ag:tn 0 h₁:=E3.keep _ _ _ st2 λb _ o e=>old b o e
 obtain⟨W,⟨m0,w0⟩,turn⟩:=hl s2.heap.objs.size (I2.hok.fresh (Z3 _));have O:∀{H' : Hp},(∀b∈fp,H' b=none)->∀b∈fp,nh (cS X (own++fq) scope (λ_ _=>False) G2.objs.size s2 H2 fp) [] H' b:=λ{H'} hn b hb=>by
  obtain⟨_,f1,Wg,_,f4,_⟩:=f2 b hb;obtain⟨o,ho⟩:=RV b hb;refine⟨hn b hb,below b (aab ho),λz=>?_,.inl hb,λx c e=>?_,λp hp=>absurd (show p∈([]:aS) from hp) (by simp)⟩
  ·rcases aaa.mp (I2.sE b z) with q|q
   ·exact f1 q
   ·exact Wg q
  ·rcases jy (show(cR X.env.cells scope.names []).lookup x=some c from e) with q|⟨q1,q2⟩
   ·cases q
   ·obtain⟨c',ar⟩:=fY I2 T x .free q1 rfl;rw[ar]at q2;have q2:c' = c:=q2;rw[<-q2];exact f4 x c' ar
 have Wh:∀b∈fp,upd H2 s2.heap.objs.size (.lst []) b=none:=λb hb=>by
  obtain⟨o,ho⟩:=RV b hb;rw[ae (aak (aab ho))];exact(f2 b hb).1
 have back:∀{σ6:St} {p6:aS} {H6:Hp} {s6:Shared},Inv (cS X (own++fq) scope (λ_ _=>False) G2.objs.size s2 H2 fp) p6 σ6 H6 s6->σ6.drop own.length=eJ σ js->
  Inv (cS X (own++fq) scope (λ_ _=>False) G2.objs.size s2 H2 fp) [] (List.replicate own.length none++eJ σ js) H6 s6:=λ{σ6 p6 H6 s6} I6 hd=>by
  have Wi:σ6.length=(own++fq).length:=I6.len;have J6:=I6.fH (LC:=[]) λp hp=>absurd hp (by simp)
  refine J6.weak ?_ λi v e=>?_
  ·have q:=aas List.length hd;rw[acq]at q;rw[Z7]at Wi;rw[Z7,abz]
   lia
  ·by_cases hi:i<own.length
   ·rw[aav (by simpa using hi),ace,Z1 hi]at e
    cases e
   ·rw[aaC (by simpa using hi),abz,<-hd,List.getElem?_drop]at e
    rw[show own.length+(i-own.length)=i by lia]at e
    exact e
 have loop:∀Y:Shared,Y={ s2 with heap:=h₁,toks:=s2.toks+([]:List (Str×Value)).length}->
  codeAny (model X.prog X.w) X.A (.compLoop (.ListComp elt [⟨tg,iter,ifs,0⟩] scope pos) 0 (.ref it) (.ref s2.heap.objs.size) (compEnvC scope (cR X.env.cells scope.names []) G2.objs.size X.env))
   (RR (.ref s2.heap.objs.size) G2.objs.size) Y:=by
  rintro Y rfl;refine xu (λn s'=>∃i acc H',Inv (cS X (own++fq) scope (λ_ _=>False) G2.objs.size s2 H2 fp) [] (List.replicate own.length none++eJ σ js) H' s'/\tn i s'.heap/\(∀b∈fp,H' b=none)/\W i n acc H') ?_ m0
   ⟨0,[],upd H2 s2.heap.objs.size (.lst []),FW I2 T f2 RV (Z3 _) OJ Z old ab L4,ag,Wh,w0⟩
  rintro n s3 ⟨i,acc,H3,I3,aw,KL,w3⟩;obtain⟨FY,OL⟩:=turn i n acc H3 w3;rcases OL with⟨stop,qn⟩|⟨go,hz,NN,T3,step⟩
  ·refine aar (E3.done (cS X (own++fq) scope (λ_ _=>False) G2.objs.size s2 H2 fp) rfl rfl rfl rfl rfl i [] s3 _ H3 (λ_ _=>False) I3 (O KL) aw stop) (λr s4 ⟨hr,I4⟩=>?_) λ_ _ z=>z.elim
   subst hr;exact hRR _ _ _ H3 s4 OJ I4 qn
  ·refine aar (E3.item (cS X (own++fq) scope (λ_ _=>False) G2.objs.size s2 H2 fp) rfl rfl rfl rfl rfl i [] s3 _ H3 (λ_ _=>False) I3 (O KL) aw go) (λr s4 ⟨u,hr,h4⟩=>?_) λ_ _ z=>z.elim
   subst hr;refine aar h4 (λ_ s5 ⟨x,H5,I5,r5,y5,Fp,Od⟩=>?_) λ_ _ z=>z.elim
   have Oe:=I5.pinned (O Od) (E3.obj _ _ Fp);refine aar (hg _ _ _ _ _ s5 _ H5 x u _ Oe r5 (step x H5 y5)) (λ_ s6 ⟨σ6,H6,I6,T4,q6⟩=>?_) λ_ _ z=>z.elim
   refine aar (ht _ _ _ _ _ s6 σ6 H6 _ I6 q6) (λok s7 ⟨H7,I7,q7⟩=>?_) λ_ _ z=>z.elim
   have again:∀{U:Hp} {s8:Shared},Inv (cS X (own++fq) scope (λ_ _=>False) G2.objs.size s2 H2 fp) ([]++pC fp s5.heap) σ6 U s8->tn (i+1) s8.heap/\∀b∈fp,U b=none:=λ{U s8} I8=>by
    refine⟨E3.keep _ _ _ Fp λb hb o e=>(I8.pin (b,o) (iD _ (iD _ (fU hb e)))).1,λb hb=>?_⟩
    obtain⟨o,e,d⟩:=E3.obj _ _ Fp b hb;exact(I8.pin (b,o) (iD _ (iD _ (fU hb e)))).2.1
   cases ok with
   | false =>
     rw[Z0 aac];obtain⟨m',hm,w7⟩:=T3 _ _ q7;obtain⟨t7,n7⟩:=again I7;exact⟨m',hm,i+1,acc,H7,back I7 T4,t7,n7,w7⟩
   | true =>
     rw[Z1 rfl];refine aar (he _ _ _ _ _ s7 σ6 H7 _ I7 q7) (λxv s8 ⟨v,U,I8,r8,Ny,q8⟩=>?_) λ_ _ z=>z.elim
     obtain⟨m',hm,w8⟩:=T3 _ _ q8;refine aar (cQ (X:=cS X (own++fq) scope (λ_ _=>False) G2.objs.size s2 H2 fp) _ s8 σ6 U (.ref s2.heap.objs.size) [v] (.ref s2.heap.objs.size) [xv] (λy H9=>y = .dH/\H9=upd U s2.heap.objs.size (.lst (acc++[v]))) I8 rfl (.cons r8 .nil) ⟨_,acc,v,rfl,rfl,Ny,hz,rfl,rfl⟩)
      (λ_ s9 ⟨y,H9,I9,_,_,e9⟩=>?_) λ_ _ z=>z.elim
     subst e9;obtain⟨t9,n9⟩:=again I9;exact⟨m',hm,i+1,acc++[v],_,back I9 T4,t9,n9,w8⟩
 exact codeAny_compStart_list (loop _ rfl) (E3.self _ 0 _ _ _ ag (loop _ rfl))
def dS(T:dh X scope own fq js)(hc:X.calm=true)(hi:PI X tg iter wi)
 (hg:∀C s H fp,PG (cS X (own++fq) scope (λ_ _=>False) C s H fp) tg g)
 (ht:∀C s H fp,OH (cS X (own++fq) scope (λ_ _=>False) C s H fp) ifs tt)
 (he:∀C s H fp,PE (cS X (own++fq) scope (λ_ _=>False) C s H fp) elt te)
 (hs:∀x,foldedSetIterable iter X.env x=pure x:=by intro _;rfl) :
 PE X (.ListComp elt [⟨tg,iter,ifs,0⟩] scope pos) (KS wi g tt te own.length js):=by
 intro pq s σ H Q I h;rw[eval_ListComp];refine wpAny_comprehension_free (use:=none) rfl hs (ni (fY I T)) T.kind T.names ?_;refine aar (hi pq s σ H _ I h) (λv s1 h1=>aar h1 (λZ s2 h2=>?_) λ_ _ z=>z) λ_ _ z=>z
 obtain⟨it,fp,tn,J,H2,e,U,E3,O,f2,hl⟩:=h2;subst e;refine sR (QQ:=λD H'=>Q (.ref D) H') T hg ht he U (E3.x hc) O f2 hl λD C σ' H' s' hC Y q=>?_
 obtain⟨m,hn,_⟩:=Y.loc;exact⟨m,hn,λh' sb=>⟨.ref D,H',m4 U f2 hC Y sb,rfl,q⟩⟩
def FZ(i:Nat)(wi:TI)(g:TG)(tt:TT)(te:TE)(n:Nat)(js:List Nat):TS:=λD σ H=>KS wi g tt te n js σ H λv H1=>D.nx (σ.set i (some v)) H1
def kK{i:Nat}{x:Str}{pos' spos:Pos}(hN:X.N.Nodup)(hix:X.N[i]?=some x)(hx:X.env.scope.names.lookup x=some .local)(T:dh X scope own fq js)(hc:X.calm=true)(hi:PI X tg iter wi)
 (hg:∀C s H fp,PG (cS X (own++fq) scope (λ_ _=>False) C s H fp) tg g)
 (ht:∀C s H fp,OH (cS X (own++fq) scope (λ_ _=>False) C s H fp) ifs tt)
 (he:∀C s H fp,PE (cS X (own++fq) scope (λ_ _=>False) C s H fp) elt te)
 (hsw:swapsWith (.ListComp elt [⟨tg,iter,ifs,0⟩] scope pos) (some (.Name x pos')) spos.line X.env=pure true:=by rfl)
 (hs:∀x,foldedSetIterable iter X.env x=pure x:=by intro _;rfl) :
 PS X (.Assign [.Name x pos'] (.ListComp elt [⟨tg,iter,ifs,0⟩] scope pos) spos) (FZ i wi g tt te own.length js):=by
 intro pq s σ H D I h;rw[exec_Assign_Name_used _ _ _ _ hsw];refine aQ (wpAny_standAt (aQ ?_));show wpAny _ X.A (do let _←comprehension (.ListComp elt [⟨tg,iter,ifs,0⟩] scope pos) scope X.env _ (newList []) false (eval iter X.env) (some (assign (.Name x pos') X.env))) _ _ s
 refine aQ (aar (wpAny_comprehension_free (use:=some (assign (.Name x pos') X.env)) (Q:=λ_ s'=>SP X pq D .next s') rfl hs (ni (fY I T)) T.kind T.names ?_) (λ_ s' hq=>Z5 (Z5 hq)) λ_ _ e=>e)
 refine aar (hi pq s σ H _ I h) (λv s1 h1=>aar h1 (λab s2 h2=>?_) λ_ _ z=>z) λ_ _ z=>z
 obtain⟨it,fp,tn,J,H2,e,O,E3,Z,f2,hl⟩:=h2;subst e;refine sR (QQ:=λY H'=>D.nx (σ.set i (some (.ref Y))) H') T hg ht he O (E3.x hc) Z f2 hl λY C σ' H' s' U J' q=>?_
 have I3:Inv X pq σ H' s':=by
  obtain⟨hh,gg,dd,ZC,oo⟩:=s';exact m4 O f2 U J' (Heap.SameBut.refl ..)
 obtain⟨m,hn,_⟩:=J'.loc;obtain⟨oC,es,ep,Wj,T5,rest⟩:=id hn;have L3:H' C=none:=J'.free;have T6:C≠X.env.locals:=abi (aaf O.lt U);have Wm:C∉X.fs:=λz=>by
  obtain⟨_,o,ho,_⟩:=O.funs.mem z;exact absurd (aaf (aab ho) U) (aa5 _)
 have I4:Inv X (pq++[(C,oC)]) σ H' s':=I3.fH λp hp=>(aau.mp hp).elim (λz=>I3.pin p (iD _ z)) λz=>by
  have e:p=(C,oC):=by simpa using z
  subst e;exact⟨Wj,L3,T6,Wm,λv z=>by have z' : oC.data = .cell v:=z;rw[T5]at z';cases z'⟩
 show wpAny _ X.A (assign (.Name x pos') X.env (.ref Y)) _ _ _;refine wpAny_assign_Name (nU (v:=.ref Y) I4 hN hix (.inl hx) rfl (λs5 I5=>?_) (.inr hx))
 have e5:s5.heap.get? C=some oC:=(I5.pin (C,oC) (iD _ (iD _ (by simp)))).1
 refine⟨m,⟨oC,es,ep,e5,T5,rest⟩,λh' sb=>⟨_,H',?_,q⟩⟩
 have I6:Inv X pq (σ.set i (some (.ref Y))) H' s5:=I5.iX;refine I6.turned (t':=s5.toks) (λb o hb e=>(sb.2 b hb).trans e) L3 T6 (.inr (aat O.sz U)) (λy c e=>?_) (λp hp z=>?_)
 ·obtain⟨v,qc⟩:=O.cell y c e;exact aak (aaf qc.lt U)
 ·have E4:=(O.pin p hp).1;exact absurd (aaf (aab E4) (by rw[z];exact U)) (aa5 _)
end
section
variable {K:bH}{a:Addr}{xs:List V}{g:TG}{tt:TT}{te:TE}{n:Nat}{fr:St}{D:Addr}{Q:Hp->Prop}{H1:Hp}
def dz(Pv:Nat->List V->Hp->Prop)(h0:Pv 0 [] H1)(hl:∀i acc H,i<=xs.length->Pv i acc H->aV K H a xs/\H D=some (.lst acc)/\acc.length<=i)(hz:xs.length<=sizeLine)
 (hs:∀i x acc H,xs[i]?=some x->Pv i acc H->g x (List.replicate n none++fr) H λσ2 H2=>σ2.drop n=fr/\tt σ2 H2 λb H3 =>
  if b=true then te σ2 H3 λv H4=>H4 D=some (.lst acc)/\Pv (i+1) (acc++[v]) (upd H4 D (.lst (acc++[v]))) else Pv (i+1) acc H3)
 (hd:∀acc H,Pv xs.length acc H->Q H):i0 (IT K a) g tt te n fr D Q H1:=by
 refine⟨λi m acc H=>m=xs.length-i/\i<=xs.length/\Pv i acc H,⟨xs.length,by simp,aaB _,h0⟩,?_⟩
 rintro i m acc H ⟨rfl,hi,p⟩;obtain⟨q,U,ha⟩:=hl i acc H hi p;refine⟨U,?_⟩
 by_cases I:i<xs.length
 ·refine .inr ⟨⟨xs,xs[i],q,by simp[I]⟩,by lia,Pv (i+1),λO H' Y=>⟨xs.length-(i+1),by lia,rfl,I,Y⟩,λx H' y=>?_⟩
  obtain⟨e,y⟩:=y;subst e;exact hs i x acc _ (y xs q) p
 ·have e:i=xs.length:=by lia
  subst e;exact .inl ⟨⟨xs,q,Z3 _⟩,hd acc H p⟩
def F0(Pv:Nat->List V->Hp->Prop)(h0:Pv 0 [] H1)(hl:∀i acc H,i<=xs.length->Pv i acc H->bf K H a xs/\H D=some (.lst acc)/\acc.length<=i)(hz:xs.length<=sizeLine)
 (hs:∀i x acc H,xs[i]?=some x->Pv i acc H->g x (List.replicate n none++fr) H λσ2 H2=>σ2.drop n=fr/\tt σ2 H2 λb H3 =>
  if b=true then te σ2 H3 λv H4=>H4 D=some (.lst acc)/\Pv (i+1) (acc++[v]) (upd H4 D (.lst (acc++[v]))) else Pv (i+1) acc H3)
 (hd:∀acc H,Pv xs.length acc H->Q H):i0 (Nu K a) g tt te n fr D Q H1:=by
 refine⟨λi m acc H=>m=xs.length-i/\i<=xs.length/\Pv i acc H,⟨xs.length,by simp,aaB _,h0⟩,?_⟩
 rintro i m acc H ⟨rfl,hi,p⟩;obtain⟨q,U,ha⟩:=hl i acc H hi p;refine⟨U,?_⟩
 by_cases I:i<xs.length
 ·refine .inr ⟨⟨xs,xs[i],q,by simp[I]⟩,by lia,Pv (i+1),λO H' Y=>⟨xs.length-(i+1),by lia,rfl,I,Y⟩,λx H' y=>?_⟩
  obtain⟨e,y⟩:=y;subst e;exact hs i x acc _ (y xs q) p
 ·have e:i=xs.length:=by lia
  subst e;exact .inl ⟨⟨xs,q,Z3 _⟩,hd acc H p⟩
def dN{lo:Int}{m:Nat}(Pv:Nat->List V->Hp->Prop)(h0:Pv 0 [] H1)(hl:∀i acc H,i<=m->Pv i acc H->H D=some (.lst acc)/\acc.length<=i)(hz:m<=sizeLine)
 (hs:∀i acc H,i<m->Pv i acc H->g (.int (lo+i)) (List.replicate n none++fr) H λσ2 H2=>σ2.drop n=fr/\tt σ2 H2 λb H3 =>
  if b=true then te σ2 H3 λv H4=>H4 D=some (.lst acc)/\Pv (i+1) (acc++[v]) (upd H4 D (.lst (acc++[v]))) else Pv (i+1) acc H3)
 (hd:∀acc H,Pv m acc H->Q H):i0 (II lo m) g tt te n fr D Q H1:=by
 refine⟨λi k acc H=>k=m-i/\i<=m/\Pv i acc H,⟨m,by simp,aaB _,h0⟩,?_⟩
 rintro i k acc H ⟨rfl,hi,p⟩;obtain⟨U,ha⟩:=hl i acc H hi p;refine⟨U,?_⟩
 by_cases I:i<m
 ·refine .inr ⟨I,by lia,Pv (i+1),λO H' Y=>⟨m-(i+1),by lia,rfl,I,Y⟩,λx H' y=>?_⟩
  obtain⟨e,y⟩:=y;subst e y;exact hs i acc _ I p
 ·have e:i=m:=by lia
  subst e;exact .inl ⟨Z3 _,hd acc H p⟩
end
def yJ(scope OM:Scope)(N fq:List Str)(js:List Nat):Bool :=
 decide (scope.kind = .function)&&scope.names.all (λy=>decide (y.2≠.cell))&&scope.names.all (λy=>decide (y.2 = .local->scope.names.lookup y.1=some .local)) &&
 scope.names.all (λy=>decide (y.2 = .free->OM.names.lookup y.1=some .cell\/OM.names.lookup y.1=some .free))&&decide (js.map (λj=>N[j]?)=fq.map some)&&fq.all (λx=>decide (scope.names.lookup x=some .free))
def aN{X:Cx}{scope:Scope}{own fq:List Str}{js:List Nat}(OM:Scope)(N:List Str)(h1:X.env.scope=OM:=by rfl)(h2:X.N=N:=by rfl)(h:yJ scope OM N fq js=true:=by decide +kernel):dh X scope own fq js:=by
 unfold yJ at h;simp only[aaT,decide_eq_true_eq,acr]at h;obtain⟨⟨⟨⟨⟨a,b⟩,c⟩,d⟩,e⟩,f⟩:=h;exact⟨a,b,c,by rw[h1];exact d,by rw[h2];exact e,f⟩
mutual
inductive nY(K:bH)(H:Hp):V->PyData->Prop
 | dH:nY K H .dH .none
 | bl (b:Bool):nY K H (.bl b) (.bool b)
 | int (i:Int):nY K H (.int i) (.int i)
 | str (x:Str):nY K H (.str x) (.str x)
 | lst {a:Addr} {xs:List V} {ds:List PyData} (h:aV K H a xs) (r:DatVs K H xs ds):nY K H (.ref a) (.list ds)
 | tup {a:Addr} {xs:List V} {ds:List PyData} (h:bf K H a xs) (r:DatVs K H xs ds):nY K H (.ref a) (.tuple ds)
inductive DatVs(K:bH)(H:Hp):List V->List PyData->Prop
 | nil:DatVs K H [] []
 | cons {x:V} {d:PyData} {xs:List V} {ds:List PyData} (h:nY K H x d) (r:DatVs K H xs ds):DatVs K H (x::xs) (d::ds)
end
section
variable {X:Cx}{pq:aS}{σ:St}{H:Hp}{s:Shared}
mutual
def nY.reads(I:Inv X pq σ H s):∀{v:V} {d:PyData} {u:Value},nY X.K H v d->RelV v u->∃as,Reads s.heap u d as
 | _,_,u,.dH,r=>by cases(show u=Value.none from r);exact⟨_,.none⟩
 | _,_,u,.bl b,r=>by cases(show u=Value.bool b from r);exact⟨_,.bool b⟩
 | _,_,u,.int i,r=>by obtain⟨t,rfl⟩:=(show ∃t,u=Value.int i t from r);exact⟨_,.int i t⟩
 | _,_,u,.str x,r=>by obtain⟨t,rfl⟩:=(show ∃t,u=Value.str x t from r);exact⟨_,.str x t⟩
 | _,_,u,.lst (a:=a) h rs,r=>by
   cases(show u=Value.ref a from r)
   obtain⟨O,U,⟨o,n,e,c,_,d⟩,_⟩:=I.list h;obtain⟨as,q⟩:=DatVs.reads I rs U;exact⟨_,.list e c d (by simpa using q)⟩
 | _,_,u,.tup (a:=a) h rs,r=>by
   cases(show u=Value.ref a from r)
   obtain⟨O,U,⟨o,e,c,n,d⟩,_⟩:=I.tuple h;obtain⟨as,q⟩:=DatVs.reads I rs U;exact⟨_,.tuple e c d (by simpa using q)⟩
def DatVs.reads(I:Inv X pq σ H s):∀{vs:List V} {ds:List PyData} {us:List Value},DatVs X.K H vs ds->Vals vs us->∃as,ReadsAll s.heap us ds as
 | _,_,_,.nil,.nil=>⟨_,.nil⟩
 | _,_,_,.cons h r,.cons rv rr=>by
   obtain⟨as,q⟩:=nY.reads I h rv;obtain⟨bs,q2⟩:=DatVs.reads I r rr;exact⟨_,.cons q q2⟩
end
end
section
variable {X:Cx}
def ON(K:bH):R2:=λx y H Q=>∃d e,nY K H x d/\nY K H y e/\SeqAt.shaped d=true/\SeqAt.shaped e=true/\Q (.bl (PyData.eqv d e)) H
def OO(K:bH):R2:=λx y H Q=>∃d e,nY K H x d/\nY K H y e/\SeqAt.shaped d=true/\SeqAt.shaped e=true/\Q (.bl (!PyData.eqv d e)) H
def L5(hu:X.A.units+64<cLine):lq X (compareOp .Eq) (ON X.K):=by
 intro pq s σ H x y v u Q I rx O h;obtain⟨d,e,h1,h2,s1,s2,q⟩:=h;obtain⟨as,ra⟩:=h1.reads I rx;obtain⟨bs,rb⟩:=h2.reads I O;exact eq_dataH ra rb s1 s2 hu ⟨.bl _,H,I,rfl,q⟩
def L6(hu:X.A.units+64<cLine):lq X (compareOp .NotEq) (OO X.K):=by
 intro pq s σ H x y v u Q I rx O h;obtain⟨d,e,h1,h2,s1,s2,q⟩:=h;obtain⟨as,ra⟩:=h1.reads I rx;obtain⟨bs,rb⟩:=h2.reads I O;exact ne_dataH ra rb s1 s2 hu ⟨.bl _,H,I,rfl,q⟩
def Jo:RL X "int.bit_length" (λx xs H Q=>∃i,x = .int i/\xs=[]/\Q (.int (Builtin.Int.intBits i)) H):=by
 intro pq s σ H x xs v us Q I rx rs h;obtain⟨i,rfl,rfl,q⟩:=h;obtain⟨t,rfl⟩:=rx;cases rs;exact call_int_bit_length ⟨.int _,H,I.tok _,⟨_,rfl⟩,q⟩
def xw{x:Str}{v:Int}{pos:Pos}(hg:Gl X x)(h:∃t,X.mg x=some (.int v t))(hd:(x==("__debug__":Str))=false:=by decide):PE X (.Name x pos) (tC (.int v)):=by
 obtain⟨t,e⟩:=h;exact IS hg e ⟨t,rfl⟩ hd
def PI.or{tg l:Expr}{wi wj:TI}(h:PI X tg l wi)(h' : PI X tg l wj):PI X tg l (λσ H R=>wi σ H R\/wj σ H R):=by
 intro pq s σ H R I q;rcases q with q|q
 ·exact h pq s σ H R I q
 ·exact h' pq s σ H R I q
def L7{tg l:Expr}{tl:TE}(hl:PE X l tl):PI X tg l (λσ H R=>Ca X.K tl σ H R\/IU X.K tl σ H R):=(Cb hl).or (Fl hl)
def pL{K:bH}{H:Hp}{p:Addr}{xs:List V}{i:Int}{v:V}{Q:VK}(h:aV K H p xs\/bf K H p xs)(e:Ci xs i=some v)(q:Q v H):RN K (.ref p) (.int i) H Q:=by
 rcases h with h|h
 ·exact .inl ⟨p,xs,i,v,rfl,rfl,h,e,q⟩
 ·exact .inr (.inl ⟨p,xs,i,v,rfl,rfl,h,e,q⟩)
end
def dl{n:Nat}(h:Nat.ble n 1000=true):n<=sizeLine:=aaZ (cf (Nat.le_of_ble_eq_true h))
def yK{j:Int}(h:decide (0<j)=true):0<j:=sC h
def mU{c A B:Prop}[Decidable c](h : ¬ c)(hb:B):if decide c=true then A else B:=by
 rw[iK h];exact jR hb
def OP{c A B:Prop}[Decidable c](h:c)(ha:A):if decide c=true then A else B:=by
 rw[fG h];exact lN ha
def aq.new{H:Hp}{p:Addr}{o:HO}(h:H p=none):aq H (upd H p o):=λb u e=>by
 rw[ae (aF e h)];exact e
def aq.put{H H2:Hp}{D:Addr}{o:HO}(s:aq H H2)(h:H D=none):aq H (upd H2 D o):=λb u e=>by
 rw[ae (aF e h)];exact s b u e
def aq.T7{K:bH}{H H' : Hp}{a:Addr}{xs:List V}(e:aq H H')(h:bf K H a xs):bf K H' a xs:=by
 rcases h with(h|⟨o,h⟩) | h
 ·exact .inl (.inl (e _ _ h))
 ·exact .inl (.inr ⟨o,e _ _ h⟩)
 ·exact .inr h
def bJ(H H' : Hp):Prop:=∀b xs,H b=some (.tup xs)->H' b=some (.tup xs)
def aq.tups{H H' : Hp}(s:aq H H'):bJ H H':=λb xs e=>s b _ e
def bJ.trans{H H1 H2:Hp}(a:bJ H H1)(b:bJ H1 H2):bJ H H2:=λc xs e=>b c xs (a c xs e)
def bJ.put{H:Hp}{D:Addr}{o:HO}{ys:List V}(h:H D=some (.lst ys)):bJ H (upd H D o):=λb xs e=>by
 rw[ae (aE e h (by intro z;cases z))]
 exact e
def Paired.sS{α β:Type}{F:α->β->Prop}:∀{l:List α} {r:List β} {i:Nat} {x:α},Paired F l r->l[i]?=some x->∃y,r[i]?=some y/\F x y
 | _,_,_,_,.nil,e=>by simp at e
 | _,_,0,_,.cons h _,e=>by
   simp at e;subst e;exact⟨_,rfl,h⟩
 | _,_,i+1,x,.cons _ t,e=>by
   obtain⟨y,h1,h2⟩:=Paired.sS (i:=i) (x:=x) t (by simpa using e)
   exact⟨y,by simpa using h1,h2⟩
def F1(ns:List Int)(lo hi:Option Int):uX (ns.map V.int) lo hi=((ns.drop (HT.vH ns.length 0 lo)).take (HT.vH ns.length ns.length hi-HT.vH ns.length 0 lo)).map V.int:=by
 unfold uX;rw[ZZ,<-List.map_drop,<-List.map_take]
section
variable {X:Cx}{l:Expr}{tl:TE}{tg a b o e:Expr}{ta tb to:TE}{es:List Expr}
def A1(K:bH)(hu:X.A.units+64<cLine)(h:X.K=K:=by rfl):lq X (compareOp .Eq) (ON K):=by subst h;exact L5 hu
def L8(K:bH)(hu:X.A.units+64<cLine)(h:X.K=K:=by rfl):lq X (compareOp .NotEq) (OO K):=by subst h;exact L6 hu
def OQ(K:bH):List V->Hp->VK->Prop:=λxs H Q=>∃p ys,xs=[.ref p]/\(aV K H p ys\/bf K H p ys)/\Q (.int ys.length) H
def RW(K:bH)(h:X.K=K:=by rfl):jx X (.builtin "len") (OQ K):=by subst h;exact xq
def OR(K:bH):List V->Hp->VK->Prop:=λxs H Q=>∃p ys,xs=[.ref p]/\((aV K H p ys/\∀l,H l=none->Q (.ref l) (upd H l (.tup ys)))\/(bf K H p ys/\Q (.ref p) H))
def Co(K:bH)(h:X.K=K:=by rfl):jx X (.type "tuple") (OR K):=by subst h;exact uZ
def my(K:bH)(h:X.K=K:=by rfl):Dt X (LR K):=by subst h;exact Cm
def eO(K:bH)(h:X.K=K:=by rfl):Dt X (LS K):=by subst h;exact FJ
def Nz(K:bH)(h:X.K=K:=by rfl):Dt X (RN K):=by subst h;exact LV
def T8(K:bH)(h:X.K=K:=by rfl):RK X (OD K):=by subst h;exact Jj
def Qz(K:bH)(h:X.K=K:=by rfl):lq X (compareOp .In) (Qx K false):=by subst h;exact Du
def Ma(K:bH)(h:X.K=K:=by rfl):lq X (compareOp .NotIn) (Qx K true):=by subst h;exact xo
def yL(K:bH)(hl:PE X l tl)(h:X.K=K:=by rfl):PI X tg l (Ca K tl):=by subst h;exact Cb hl
def Wn(K:bH)(hl:PE X l tl)(h:X.K=K:=by rfl):PI X tg l (IU K tl):=by subst h;exact Fl hl
def Wo(K:bH)(hl:PE X l tl)(h:X.K=K:=by rfl):PI X tg l (λσ H R=>Ca K tl σ H R\/IU K tl σ H R):=by subst h;exact L7 hl
def Mb(K:bH){k:Nat}{t:IF}{n:Nat}{pos:Pos}(hc:X.calm=true)(hp:Nt X es t)(hn:(assignEach es X.env).length=n:=by rfl)(hst:(assignEach es X.env).findIdx? (·.1)=none:=by rfl)(h:X.K=K:=by rfl):
 PG X (.Tuple es k pos) (Oa K n t):=by subst h;exact LI hc hp hn hst
end
def u4(od:Option Addr)(c:Value)(e:Addr)(h:Heap):Prop:=∃I vs,h.get? e=some I/\I.data = .fields vs/\vs[2]?=some c/\I.dict=od
def F2(o:Obj)(f):(o.mapFields f).dict=o.dict:=by
 obtain⟨c,d,dt,sl⟩:=o;cases dt<;>rfl
section
variable {M:Model}{A:Around}{E:cP}{s:Shared}{B:Heap}{env:Env}{outer l:List Env}{L e:Addr}{cls a0:Value}{Q:Unit->Shared->Prop}{od:Option Addr}{c:Value}
def xx{h:Heap}{T:Addr}{oT:Obj}{ts:Array Value}(f:Obj->Obj)(hT:h.get? T=some oT)(hd:oT.data = .fields ts):h.UpToSlots (h.update T f):=λb o hb hn=>by
 have ne:T≠b:=λz=>by
  rw[<-z,hT]at hb;cases hb;exact hn ts hd
 exact⟨o.slots,(aa6 h f ne).trans hb⟩
def pM{h:Heap}{T:Addr}(f:Obj->Obj)(k:B.StaysIn h)(n:B.get? T=none):B.StaysIn (h.update T f):=λb o hb=>by
 have ne:T≠b:=λz=>by
  rw[<-z,n]at hb;cases hb
 exact(aa6 h f ne).trans (k b o hb)
def kL{h h' : Heap}(x:h.FunFrames B l)(u:h.UpToSlots h'):h'.FunFrames B l:=x.of_keeps λb o hb hn =>
 let⟨_,q⟩:=u b o hb hn
 ⟨_,q,rfl⟩
def KW{fl:Value}(hk:B.StaysIn s.heap)(hn:B.get? e=none)(hl:s.heap.FunFrames B l)(ht:s.heap.TracedAtW B e cls a0 fl)(h2:u4 od c e s.heap)
 (q:∀h',Heap.FlyingW B l e cls a0 h'->u4 od c e h'->s.heap.UpToSlots h'->Q () { s with heap:=h'}):wpAny M A (setFlight (.ref e) none) Q E s:=by
 obtain⟨O,vs,T,oT,ts,ge,hc,U,f1,Y,Z,I,dT,f3⟩:=ht;have z3:3<ts.size:=(abm.mp f3).1;rw[setFlight];refine aQ (wpAny_field ge U f1 ?_);rw[Z1 (by simp)]
 refine wpAny_setField I dT z3 ?_;have up:=xx (Obj.mapFields (·.setIfInBounds 3 ((none:Option Addr).elim Value.none λf=>rawInt f))) I dT
 have QA:=(aa6 s.heap (Obj.mapFields (·.setIfInBounds 3 ((none:Option Addr).elim Value.none λf=>rawInt f))) Z).trans ge
 have T9:=abQ dT (·.setIfInBounds 3 ((none:Option Addr).elim Value.none λf=>rawInt f))
 refine q _ ⟨pM _ hk Y,hn,kL hl up,O,vs,T,_,_,QA,hc,U,f1,Y,Z,abo _ I (abV T9),T9,by simp[z3]⟩ ?_ up
 obtain⟨o2,v2,g2,d2,k2,z2⟩:=h2;rw[ge]at g2;cases g2;exact⟨O,v2,QA,d2,k2,z2⟩
def F3{oe:Obj}{vs:Array Value}{head:Value}{hadNext:Bool}(hfr:A.frames=some (env::outer))(hl:s.heap.FunFrames B (env::outer))(hf:env.frame=some L)(ge:s.heap.get? e=some oe)(hk:B.StaysIn s.heap)(hn:B.get? e=none)
 (de:oe.data = .fields vs) (hz:1<vs.size) (h0:vs[0]?=some a0) (h2:vs[2]?=some c) (hz2:oe.dict=od)
 (q:∀h',Heap.HeldW B (env::outer) e oe.cls a0 L h'->u4 od c e h'->s.heap.UpToSlots h'->Q () { s with heap:=h'}) :
 wpAny M A (do let a←frameOf env;let I←entryPlaceOf L hadNext;let b←EntryCells.newEntry head a .none (rawInt L) .none I;setField (.ref e) 1 b) Q E s:=by
 have RX:e∉(env::outer).filterMap (·.frame):=λz=>by
  obtain⟨_,o,ho,nf⟩:=hl.mem z;rw[ge]at ho;cases ho;exact nf vs de
 refine aQ (wpAny_frameOf_fun hfr hl hf λh1 U=>aQ (wpAny_entryPlaceOf λI ip=>?_))
 rw[EntryCells.newEntry,newFields];refine aQ (wpAny_newObj_type ?_ (ip.sizeOk5 _ _ _ _ _));generalize O:({ cls:=.type "traceback",dict:=none,data:=.fields ([head,.ref L,.none,rawInt L,.none]++(if I.isEmpty then List.replicate 6 Value.none else I)).toArray}:Obj)=nw
 have dn:nw.data = .fields ([head,.ref L,.none,rawInt L,.none]++(if I.isEmpty then List.replicate 6 Value.none else I)).toArray:=by rw[<-O]
 have ge1:h1.get? e=some oe:=(U.2.1 e RX).trans ge;have Y:=Z2 (h:=h1) nw ge1;have Te:h1.objs.size≠e:=abi (aab ge1);refine wpAny_setField Y de hz ?_;have Z:=abQ de (·.setIfInBounds 1 (Value.ref h1.objs.size));have Ua:=abo (Obj.mapFields (·.setIfInBounds 1 (Value.ref h1.objs.size))) Y (abV Z);have Wq:=(aa6 (h1.push nw) (Obj.mapFields (·.setIfInBounds 1 (Value.ref h1.objs.size))) (aaq Te)).trans (aag h1 (by rw[<-O];rfl))
 have up:s.heap.UpToSlots ((h1.push nw).update e (Obj.mapFields (·.setIfInBounds 1 (Value.ref h1.objs.size)))):=by
  have u1:s.heap.UpToSlots h1:=λb o hb _=>U.2.2 b o hb
  exact(u1.trans (.of_keeps λb o hb=>Z2 nw hb)).trans (xx _ Y de)
 have k1:B.StaysIn h1:=λb o hb=>(U.2.1 b λz=>by rw[(hl.mem z).1]at hb;cases hb).trans (hk b o hb)
 have k2:B.StaysIn (h1.push nw):=λb o hb=>Z2 nw (k1 b o hb)
 refine q _ ⟨pM _ k2 hn,hn,kL hl up,_,_,h1.objs.size,nw,_,Ua,⟨Obj.cls_mapFields _ _,by rw[acD (by decide)];exact h0⟩,Z,by simp[hz],k1.fresh,Te,Wq,dn,?_⟩ ?_ up
 ·first | (simp;done) | (rcases ip with rfl | ⟨_,_,_,_,_,_,_,rfl⟩<;>simp)
 ·exact⟨_,_,Ua,Z,by rw[acD (by decide)];exact h2,(F2 _ _).trans hz2⟩
def OS(hfr:A.frames=some (env::outer))(hf:env.frame=some L)(fl:Heap.FlyingW B (env::outer) e cls a0 s.heap)(h2:u4 od c e s.heap)
 (q:∀h',Heap.HeldW B (env::outer) e cls a0 L h'->u4 od c e h'->s.heap.UpToSlots h'->Q () { s with heap:=h'}):wpAny M A (noteFrame (.ref e) env) Q E s:=by
 obtain⟨hk,hn,U,oe,vs,T,oT,ts,ge,⟨hc,h0⟩,I,f1,Y,Z,O,dT,f3⟩:=fl;obtain⟨o2,v2,g2,d2,k2,z2⟩:=h2;rw[ge]at g2;cases g2;rw[I]at d2;cases d2;cases hc;rw[noteFrame];simp only[hf];refine aQ (wpAny_field ge I f1 ?_);rw[Z1 (by simp)]
 refine aQ (wpAny_field O dT f3 ?_);rw[Z0 (by simp[rawInt])]
 refine aQ (wpAny_setField O dT (abm.mp f3).1 ?_);have up:=xx (Obj.mapFields (·.setIfInBounds 3 Value.none)) O dT;have QA:=(aa6 s.heap (Obj.mapFields (·.setIfInBounds 3 Value.none)) Z).trans ge;exact F3 (s:={ s with heap:=s.heap.update T (Obj.mapFields (·.setIfInBounds 3 Value.none))}) hfr (kL U up) hf QA (pM _ hk Y) hn I (abm.mp f1).1 h0 k2 z2 λh' x1 x2 x3=>q h' x1 x2 (up.trans x3)
def OT(x:Heap.FlyingW B (env::outer) e cls a0 s.heap):Heap.FlyingW B outer e cls a0 s.heap :=
 let⟨k1,k2,⟨_,_,k3⟩,k4⟩:=x
 ⟨k1,k2,k3,k4⟩
def leave_on2(hfr:A.frames=some (env::outer))(hf:env.frame=some L)(fl:Heap.FlyingW B (env::outer) e cls a0 s.heap)(h2:u4 od c e s.heap)
 (q:∀h',Heap.FlyingW B outer e cls a0 h'->u4 od c e h'->s.heap.UpToSlots h'->Q () { s with heap:=h'}):wpAny M A (leaving env (.ref e)) Q E s:=by
 rw[leaving];refine aQ (OS hfr hf fl h2 λh' O U Y=>?_)
 obtain⟨Z,y2,y3,y4⟩:=O;exact KW (s:={ s with heap:=h'}) Z y2 y3 y4 U λI z1 z2 z3=>q I (OT (s:={ s with heap:=I}) z1) z2 (Y.trans z3)
def leave_new{oe:Obj}{vs:Array Value}(hfr:A.frames=some (env::outer))(hf:env.frame=some L)(hk:B.StaysIn s.heap)(hn:B.get? e=none)(hl:s.heap.FunFrames B (env::outer))(ge:s.heap.get? e=some oe)(de:oe.data = .fields vs)
 (h0:vs[0]?=some a0) (h1:vs[1]?=some .none) (h2:vs[2]?=some c) (hz2:oe.dict=od)
 (q:∀h',Heap.FlyingW B outer e oe.cls a0 h'->u4 od c e h'->s.heap.UpToSlots h'->Q () { s with heap:=h'}):wpAny M A (leaving env (.ref e)) Q E s:=by
 rw[leaving,noteFrame];simp only[hf];refine aQ (aQ (wpAny_field ge de h1 ?_));rw[Z0 (by decide)]
 refine F3 (a0:=a0) hfr hl hf ge hk hn de (abm.mp h1).1 h0 h2 hz2 λh' O U Y=>?_
 obtain⟨Z,y2,y3,y4⟩:=O;exact KW (s:={ s with heap:=h'}) Z y2 y3 y4 U λI z1 z2 z3=>q I (OT (s:={ s with heap:=I}) z1) z2 (Y.trans z3)
end
section
variable {P:Program}{w:World}{H H0 H1:Hp}{h h0 h1 h2:Heap}{a:Addr}{o:HO}{fs:List Addr}{B:Heap}
def bC.thing(x:bC P w H h a o):∃ob,h.get? a=some ob:=by
 cases o with
 | lst xs=>obtain⟨_,_,_,_,e⟩:=x;exact⟨_,e⟩
 | tup xs=>obtain⟨_,_,_,ob,e,_⟩:=x;exact⟨ob,e⟩
 | dK kvs=>obtain⟨_,_,_,_,ob,_,_,e,_⟩:=x;exact⟨ob,e⟩
 | dT kvs=>obtain⟨_,_,_,_,ob,_,_,e,_⟩:=x;exact⟨ob,e⟩
 | set S n=>obtain⟨ob,_,_,_,e,_⟩:=x;exact⟨ob,e⟩
 | ins C dx fs=>obtain⟨_,_,_,e,_⟩:=x;exact⟨_,e⟩
 | own y=>exact x
 | xd fs=>obtain⟨_,⟨ob,_,_,e,_⟩,_⟩:=x;exact⟨ob,e⟩
 | C4 lo hi=>obtain⟨_,_,_,e⟩:=x;exact⟨_,e⟩
 | lF ob u=>obtain⟨e,_⟩:=x;exact⟨_,e⟩
 | iL ps=>obtain⟨_,e,_⟩:=x;exact⟨_,e⟩
 | met f y=>exact⟨_,(show h.get? a=some _ from x)⟩
 | ext φ=>obtain⟨_,e,_⟩:=x;exact e
def Jp(B:Heap)(fs:List Addr)(h0:Heap)(H:Hp)(h:Heap):Prop:=∀b o,h.get? b=some o->(H b≠none\/∃o',h0.get? b=some o')->b∉fs->B.get? b=some o
def F4(un:Un fs [] H0 H1 h0 h1)(hok:lG P w H1 h1)(Wr:∀b∈fs,H1 b=none)(fr:∀b∈fs,∀ob,h1.get? b=some ob->∀vs,ob.data≠.fields vs)(KY:Jp B fs h0 H1 h1)
 (hB:B.StaysIn h2) (up:h1.UpToSlots h2):Un fs [] H0 H1 h0 h2/\lG P w H1 h2/\Jp B fs h0 H1 h2:=by
 have O:∀b ob,h1.get? b=some ob->(H1 b≠none\/∃o',h0.get? b=some o')->b∉fs->h2.get? b=some ob:=λb ob e c n=>hB b ob (KY b ob e c n)
 have Np:∀b u,H1 b=some u->b∉fs:=λb u e z=>by
  rw[Wr b z]at e;cases e
 refine⟨⟨λb ob e n hb hx=>O b ob (un.keep b ob e n hb hx) (.inr ⟨ob,e⟩) hb,λb ob e n hb hx=>?_,un.free,λb ob e hx=>?_,un.tups,un.kG,un.lH⟩,λb u e=>?_,λb ob e c n=>?_⟩
 ·obtain⟨sl,q⟩:=un.slot b ob e n hb hx;obtain⟨Y,q'⟩:=up b _ q (fr b hb _ q);exact⟨Y,q'⟩
 ·obtain⟨o',q⟩:=un.there b ob e hx
  by_cases hb:b∈fs
  ·obtain⟨Y,q'⟩:=up b _ q (fr b hb _ q);exact⟨_,q'⟩
  ·exact⟨o',O b o' q (.inr ⟨ob,e⟩) hb⟩
 ·refine(hok b u e).stay (λc v hc q=>?_) (λ_ q=>q) λ_ _ q=>q
  have U:∃z,H1 c=some z:=by
   rcases hc with hc|hc
   ·rw[hc];exact⟨u,e⟩
   ·exact⟨_,hc⟩
  obtain⟨z,hz⟩:=U;exact O c v q (.inl (by rw[hz];simp)) (Np c z hz)
 ·have ht:∃I,h1.get? b=some I:=by
   rcases c with c|⟨o',c⟩
   ·cases hz:H1 b with
    | none=>exact absurd hz c
    | some z=>exact(hok b z hz).thing
   ·exact un.there b o' c (by simp)
  obtain⟨I,q⟩:=ht;have Z:=KY b I q c n;have q3:=hB b I Z;rw[e]at q3;rw[Option.some.inj q3];exact Z
end
def R1(ea:Addr)(cls:Value):HO:=.ext λh=>∃I vs,h.get? ea=some I/\I.cls=cls/\I.data = .fields vs/\vs[2]?=some .none
def Mc(E:XK)(cls:Value)(od:Option Addr)(c:Value)(H:Hp):Prop:=(c = .none/\(∃I:Addr,cls = .ref I)/\E cls od H)\/∃C e' O,cls = .ref C/\od=none/\c = .ref e'/\H e' = some (R1 e' O)/\E (.int (C:Int) e') none H
def F5(P:Program)(w:World):EZ:=λouter H s E e s'=>∃(I:Addr) (cls a0:Value) (od:Option Addr) (c:Value) (H' : Hp) (B:Heap),e = .ref I/\s'.os=s.os/\AllBare s'.gens/\Un (frs outer) [] H H' s.heap s'.heap/\lG P w H' s'.heap/\H' I=none/\
 Jp B (frs outer) s.heap H' s'.heap/\Heap.FlyingW B outer I cls a0 s'.heap/\u4 od c I s'.heap/\Mc E cls od c H'
structure Out(X:Cx)(E:XK):Prop where
 ID:X.stack=X.env::X.outer
 fr:X.env.frame=some X.env.locals
 ex:X.ex=[]
 xe:∀e s',wpAny (model X.prog X.w) X.A (leaving X.env e) (λ_ s''=>F5 X.prog X.w X.outer X.H₀ X.s₀ E e s'') (λe' s''=>F5 X.prog X.w X.outer X.H₀ X.s₀ E e' s'') s'->X.xe e s'
def Ub(X:Cx)(E:XK):Prop:=∀(pq:aS) (σ:St) (H:Hp) (s:Shared) (h1:Heap) (I O:Addr) (vs:List Value),Inv X pq σ H s->Heap.MadeExcOf s.heap h1 I (.ref O) vs->E (.ref O) none H->X.xe (.ref I) { s with heap:=h1}
section
variable {X:Cx}{E:XK}{pq:aS}{σ:St}{H:Hp}{s:Shared}
def Inv.Me(I:Inv X pq σ H s):∀b∈X.fs,∀ob,s.heap.get? b=some ob->∀vs,ob.data≠.fields vs:=λb hb ob e=>by
 obtain⟨_,o,U,O⟩:=I.funs.mem hb;rw[e]at U;cases U;exact O
def Inv.Mf(I:Inv X pq σ H s)(hx:X.ex=[]):∀b∈X.fs,H b=none:=λb hb=>by
 obtain⟨_,o,O,_⟩:=I.ok.funs.mem hb;exact I.base.free b o O (I.ok.IQ b hb) (by rw[hx];simp)
def Jp.outer{B h0:Heap}{h:Heap}(I:Inv X pq σ H s)(KY:Jp B (frs X.stack) h0 H h)(k:∀b o,X.s₀.heap.get? b=some o->∃o',h0.get? b=some o'):Jp B X.fs X.s₀.heap H h:=λb o e c n=>by
 refine KY b o e (c.imp id λ⟨o',q⟩=>k b o' q) λz=>?_
 rcases aaa.mp (I.sE b z) with q|q
 ·subst q;rcases c with c|⟨o',c⟩
  ·exact c I.free
  ·exact absurd (aaf (aab c) I.ok.above) (aa5 _)
 ·exact n q
def Cp(O:Out X E)(I:Inv X pq σ H s){B:Heap}{ea:Addr}{cls a0:Value}{od:Option Addr}{c:Value}{h2:Heap}(KY:Jp B X.fs X.s₀.heap H s.heap)(fl:Heap.FlyingW B X.outer ea cls a0 h2)(sc:u4 od c ea h2)(up:s.heap.UpToSlots h2)(hn:H ea=none)(q:Mc E cls od c H):
 F5 X.prog X.w X.outer X.H₀ X.s₀ E (.ref ea) { s with heap:=h2}:=by
 have un:Un X.fs [] X.H₀ H X.s₀.heap s.heap:=by
  have u:=I.base;rw[O.ex]at u;exact u
 obtain⟨U,Y,Z⟩:=F4 un I.hok (I.Mf O.ex) I.Me KY fl.1 up;exact⟨ea,cls,a0,od,c,H,B,rfl,I.os,I.bare,U,Y,hn,Z,fl,sc,q⟩
def Out.R3(O:Out X E){ea:Addr}{oe:Obj}{vs:Array Value}{a0 c:Value}(I:Inv X pq σ H s)(ge:s.heap.get? ea=some oe)(de:oe.data = .fields vs)(h0:vs[0]?=some a0)(h1:vs[1]?=some .none)(h2:vs[2]?=some c)
 (hn:H ea=none) (new:X.s₀.heap.get? ea=none) (q:Mc E oe.cls oe.dict c H):X.xe (.ref ea) s:=by
 refine O.xe _ _ ?_;have U:X.A.frames=some (X.env::X.outer):=by rw[I.ok.frames,O.ID]
 have Y:s.heap.FunFrames (PySem.W.hideAll s.heap (ea::frs X.stack)) (X.env::X.outer):=by
  have z:=PySem.W.funFrames_hide (as:=ea::frs X.stack) I.stack λenv he b hb=>m9 _ (abP.mpr ⟨env,he,hb⟩)
  rw[O.ID]at z ⊢;exact z
 refine leave_new U O.fr (λb o e=>PySem.W.of_hideAll _ e) (PySem.W.hideAll_none _ (aad ..)) Y ge de h0 h1 h2 rfl λZ fl sc up=>?_
 refine Cp O I (Jp.outer I (h0:=X.s₀.heap) (λb o e c n=>?_) λb o e=>⟨o,e⟩) fl sc up hn q
 refine PySem.W.hideAll_get _ e λz=>?_
 rcases aaa.mp z with z|z
 ·subst z;rcases c with c|⟨o',c⟩
  ·exact c hn
  ·rw[new]at c;cases c
 ·exact n z
def Out.R4(O:Out X E){ea:Addr}{oe:Obj}{vs:Array Value}{a0:Value}(I:Inv X pq σ H s)(ge:s.heap.get? ea=some oe)(de:oe.data = .fields vs)(h0:vs[0]?=some a0)(h1:vs[1]?=some .none)(h2:vs[2]?=some .none)
 (hn:H ea=none) (new:X.s₀.heap.get? ea=none) (hcl:∃U:Addr,oe.cls = .ref U) (q:E oe.cls oe.dict H):X.xe (.ref ea) s:=O.R3 I ge de h0 h1 h2 hn new (.inl ⟨rfl,hcl,q⟩)
def Out.Uc(O:Out X E):Ub X E:=by
 intro pq σ H s h1 U Z vs I mk q;have Y:Inv X pq σ H { s with heap:=h1}:=I.kept (t':=s.toks) mk.keeps
 have hn:H U=none:=by
  cases hz:H U with
  | none=>rfl
  | some z =>
    obtain⟨ob,e⟩:=(I.hok U z hz).thing;rw[mk.new]at e;cases e
 obtain⟨t,ge,_,_⟩:=mk.there;refine O.R4 Y (a0:=.ref t) ge rfl rfl rfl rfl hn ?_ ⟨_,rfl⟩ q;cases hz:X.s₀.heap.get? U with
 | none=>rfl
 | some o =>
   obtain⟨o',e⟩:=I.base.there U o hz (by rw[O.ex];simp)
   rw[mk.new]at e;cases e
def Inv.OU{H' : Hp}{s' : Shared}(I:Inv X pq σ H s)(os:s'.os=s.os)(bare:AllBare s'.gens)(un:Un (frs X.stack) [] H H' s.heap s'.heap)(hok:lG X.prog X.w H' s'.heap):Inv X pq σ H' s' :=
 I.Fc (ch:=[]) os un hok bare λb z=>absurd z (by simp)
def Out.passes(O:Out X E):Passes (F5 X.prog X.w) X E:=by
 intro pq σ H s e s' I q;obtain⟨ea,cls,a0,od,c,H',B,rfl,os,bare,un,hok,hn,Z,fl,sc,qE⟩:=q;have Y:=I.OU os bare un hok;refine O.xe _ _ ?_;have U:X.A.frames=some (X.env::X.outer):=by rw[I.ok.frames,O.ID]
 rw[O.ID]at fl;refine leave_on2 U O.fr fl sc λh2 Wu NB up=>?_
 exact Cp O Y (Jp.outer Y Z λb o e=>I.base.there b o e (by rw[O.ex];simp)) Wu NB up hn qE
end
def kM{P:Program}{w:World}{K:bH}{mg:lE}{base:Heap}{N:List Str}{qual:Str}{scope:Scope}{f:Addr}{cd:Value}{A:Around}{outer:List Env}{s:Shared}{H:Hp}{E:XK}:
 Out (rq (F5 P w) P w K mg base N qual scope f cd A outer s H E) E:=⟨rfl,rfl,rfl,λ_ _ h=>h⟩
def pJ.Jq{P:Program}{w:World}{K:bH}{mg:lE}{base:Heap}{x qual:Str}{st:Stmt}{f:Addr}{fd:FuncData}{N ps:List Str}{k:Nat}{sp:Sp}(F:pJ K x qual st f fd)(S:aC N ps (aj st))
 (len:∀vs H Q E,sp vs H Q E->vs.length=ps.length)
 (hbody:∀(cdv:Value) (A:Around) (outer:List Env) (s:Shared) (H:Hp) (vs:List V) (Q:VK) (E:XK),cW k (A.deeper (envOfC qual (aj st) s.heap.objs.size f cdv))->sp vs H Q E->
  ∃t,uU (rq (F5 P w) P w K mg base N qual (aj st) f cdv A outer s H E) (bV st) t/\t { nx:=λ_ H'=>Q .dH H',rt:=Q} (start N vs) H):fF P w K mg base (F5 P w) (k+1) f fd ps sp:=by
 obtain⟨oc,od,kV,doc,pm,an,cdv,ct,osl,rfl,O,I⟩:=F.ex;exact FF O I S len λA outer s H vs Q E hr U=>hbody cdv A outer s H vs Q E hr U
section
variable {X:Cx}{E:XK}
def Mg(C:Addr)(E:XK)(t:TA):TS:=λ_ σ H=>t σ H λvs H1=>vs.length<=sizeLine/\E (.ref C) none H1
def yM{x:Str}{C:Addr}{bm:List Value}{B newId initId:String}{e:Expr}{es:List Expr}{ta:TA}{np cpos pos:Pos}(th:Ub X E)(hc:X.calm=true)(hg:Gl X x)(O:∀h,X.K.In h->h.Ns mainGlobals X.mg->OwnCls x C bm newId X.mg h)
 (FB:ExcBaseFacts B newId initId bm) (ha:PA X (e::es) ta) (he:starEach (e::es) X.env=(false,eval e X.env)::starEach es X.env:=by rfl) (hpl:(backTo cpos (starEach es X.env)).any (·.1)=false:=by rfl)
 (hd:(x==("__debug__":Str))=false:=by decide):PS X (.Raise (some (.Call (.Name x np) (e::es) [] cpos)) none pos) (Mg C E ta):=by
 intro pq s σ H D I h;have Z:=O _ I.mod.Nq I.mod.glob;obtain⟨tl,N,nm,q,bs,hdct,sn,sub,ab,col,dd,k0,k1,k2,k3,k5,mN,hC,hN,Y,T⟩:=Z.obj;refine wpAny_Raise_call_subT (C:=C) (nm:=nm) (q:=q) (N:=N) (bs:=bs) (bm:=tl) (hdct:=hdct) (sn:=sn) (sub:=sub) (ab:=ab) (col:=col) (dd:=dd) (k0:=k0) (k1:=k1) (k2:=k2) (k3:=k3) (k5:=k5)
  FB (mN:=mN) (T.hasType FB.hasBase) (I.ok.hd hc) (by rw[he];show(false || (backTo cpos (starEach es X.env)).any (·.1))=false;rw[hpl];rfl) Y (rZ I hg Z.bound ⟨rfl,?_⟩ hd)
 have hA:=ha cpos pq s σ H _ I h;rw[he]at hA ⊢;refine Calls.evalArgs_plain (aar hA (λus s1 ⟨vs,H1,U,r1,z,q1⟩=>?_) λ_ _ y=>y)
 exact⟨rfl,by rw[<-r1.length];exact z,U.bk _ _ hC,hN.keeps U.bk,T.keeps U.bk,λh' ea hm=>th pq σ H1 s1 h' ea _ us U hm q1⟩
end
section
variable {X:Cx}{pq:aS}{σ:St}{H:Hp}{s:Shared}
def Inv.OV{A' : Around}{QB LC:aS}{cm:Bool}{Ud:cP}(I:Inv X pq σ H s)(hA:A'.frames=X.A.frames)(Wv:cm=true->A'.handled=none)(hp:∀p∈QB++LC,p∈X.pn++pq):
 Inv { X with A:=A',calm:=cm,pn:=QB,xe:=Ud} LC σ H s :=
 ⟨⟨I.ok.mod,I.ok.kind,I.ok.glob,I.ok.blt,I.ok.above,I.ok.inj,I.ok.has,I.ok.Nr,Wv,hA.trans I.ok.frames,I.ok.ID,I.ok.Rq,I.ok.bs,I.ok.IE,I.ok.C6,I.ok.Fb,I.ok.funs,I.ok.IQ⟩,
   I.os,I.bare,I.base,I.loc,I.cell,I.free,I.eF,λp z=>I.pin p (hp p z),I.hok,I.len⟩
end
open PySem PySem.Spec PySem.Calls PyProof.Rows PySem.W PySem.Builtin PySem.Builtin.ObjectAttr PySem.Builtin.Getset_descriptor
section
variable {X:Cx}
def OX(K:bH):R2:=λx y H Q=>∃l b xs zs,x = .ref l/\y = .ref b/\aV K H l xs/\aV K H b zs/\xs.length+zs.length<=sizeLine/\∀p,H p=none->Q (.ref p) (upd H p (.lst (xs++zs)))
def R5(K:bH)(hK:X.K=K:=by rfl):lq X (binaryOp .Add) (OX K):=by
 subst hK;intro pq s σ H x y v u Q I rx O h;obtain⟨l,b,xs,zs,rfl,rfl,U,Y,hz,q⟩:=h;cases rx;cases O;obtain⟨its,r,pl,_⟩:=I.list U;obtain⟨its2,r2,QC,_⟩:=I.list Y;obtain⟨⟨cls,dd,data,sl⟩,n,e,hc,_,hd⟩:=pl;obtain⟨⟨Jc,dd2,data2,sl2⟩,n2,e2,hc2,_,hd2⟩:=QC;simp only at hc hd hc2 hd2;subst hc hd hc2 hd2;have l1:=r.length;have l2:=r2.length;have Z:its.toArray++its2.toArray=(its++its2).toArray:=by simp
 refine concat_meets ⟨_,e,rfl⟩ ⟨_,e2,rfl⟩ noFill_list_add seq_list_add PySem.F.slot_list_add PySem.F.entry_list_add (PySem.F.args_list_add_2 _ _)
  (list_addW l b its.toArray its2.toArray n n2 dd dd2 sl sl2 (by rw[aae,aae];lia)) ⟨e,e2,?_⟩
 rw[Z];exact⟨.ref _,_,I.OE (t':=s.toks) (r.append r2) (by rw[Z7];lia),rfl,q _ I.fresh⟩
def F6:Qy X "list.index" (λx vs H Q=>∃l xs y j,x = .ref l/\vs=[y]/\H l=some (.lst xs)/\ly y=true/\xs.all ly=true/\j<xs.length/\(∀m z,xs[m]?=some z->m<=j->FL z y=decide (m=j))/\Q (.int (j:Nat)) H):=by
 intro pq s σ H x vs v us Q I rx rv h;obtain⟨l,xs,y,j,rfl,rfl,hH,fy,Z,hj,hit,q⟩:=h;cases rx;obtain⟨u,rfl,ru⟩:=rv.one;obtain⟨z,O,n,r,hl,e⟩:=I.FO hH;have hn:=pF;have at_:∀m (hm:m<O.toArray.size),m<=j->yH y O.toArray[m]=decide (m=j):=λm hm Ue=>by
  have U : m<xs.length:=by rw[hl];simpa using hm
  have ez:xs[m]?=some xs[m]:=by simp[U]
  obtain⟨u',eu,Ww⟩:=r.get ez;have e2:O.toArray[m]=u':=by
   have:=(ju.mp eu).2
   simpa using this
  have fz:ly xs[m]=true:=acr.mp Z _ (acs U);rw[e2,AX Ww fz];exact hit m _ ez Ue
 have Y:j<O.toArray.size:=by rw[aae];lia
 refine call_meets PySem.F.slot_list_index ⟨_,e,rfl⟩ PySem.F.entry_list_index (PySem.F.args_list_index_2 _ _) (SeqAt.list_indexAt l O.toArray n none #[] u (yH y) j Y (by lia) ?_ ?_) ⟨e,λw hw=>j9 ru fy r Z w (by simpa using hw),?_⟩
 ·rw[at_ j Y (Z3 _)];simp
 ·intro m hm Ue;rw[at_ m hm (by lia)]
  exact iK (by lia)
 ·exact⟨.int _,H,I.tok _,⟨s.toks,rfl⟩,q⟩
end
section
variable {X:Cx}{tg:Expr}
def Cq{iter:Expr}{body:List Stmt}{wi:TI}{g:TG}{tb:TS}{pos:Pos}(hc:X.calm=true)(hi:PI X tg iter wi)(hg:PG X.Av tg g)(hb:uU X.Av body tb)(hs:∀x,foldedSetIterable iter X.env x=pure x:=by intro _;rfl):
 PS X (.For tg iter body [] pos) (iE wi g tb):=by
 intro pq s σ H D I h;refine wpAny_For (cM (hi pq s σ H _ I h) λv s1 h1=>cM h1 λag s2 h2=>?_) hs
 obtain⟨it,fp,tn,J,H2,e,I2,T,ab,f2,W,⟨m0,w0⟩,turn⟩:=h2;subst e;have AH:∀{H' : Hp},(∀b∈fp,H' b=none)->∀b∈fp,nh X.Av pq H' b:=λhn b hb=>⟨hn b hb,(f2 b hb).2⟩
 refine codeAny_forLoop_any (λn s'=>∃i σ' H',Inv X.Av pq σ' H' s'/\tn i s'.heap/\(∀b∈fp,H' b=none)/\W i n σ' H') ?_ m0 ⟨0,σ,H2,I2.sI _,ab,λb hb=>(f2 b hb).1,w0⟩
 rintro n s3 ⟨i,σ3,H3,I3,Z,KL,w3⟩;rcases turn i n σ3 H3 w3 with⟨stop,qn⟩|⟨go,N,hN,step⟩
 ·refine aar (T.done X.Av rfl rfl rfl hc i pq s3 σ3 H3 (λ_ _=>False) I3 (AH KL) Z stop) (λr s4 ⟨hr,I4⟩=>?_) λ_ _ z=>z.elim
  subst hr;exact wpAny_execs_nil ⟨σ3,H3,I4.iW,qn⟩
 ·refine aar (T.item X.Av rfl rfl rfl hc i pq s3 σ3 H3 (λ_ _=>False) I3 (AH KL) Z go) (λr s4 ⟨u,hr,h4⟩=>?_) λ_ _ z=>z.elim
  subst hr;refine aar h4 (λ_ s5 ⟨x,H5,I5,r5,y5,Fp,Od⟩=>?_) λ_ _ z=>z.elim
  have Oe:=I5.pinned (AH Od) (T.obj _ _ Fp);refine aar (hg _ s5 σ3 H5 x u _ Oe r5 (step x H5 y5)) (λ_ s6 ⟨σ6,H6,I6,q6⟩=>?_) λ_ _ z=>z.elim
  refine aar (hb _ s6 σ6 H6 _ I6 q6) (λf s7 Y=>?_) λ_ _ z=>z.elim
  have again:∀{σ7:St} {O:Hp},Inv X.Av (pq++pC fp s5.heap) σ7 O s7->N σ7 O->∃m,m<n/\∃i σ' H',Inv X.Av pq σ' H' s7/\tn i s7.heap/\(∀b∈fp,H' b=none)/\W i m σ' H':=λ{σ7 O} U n7=>by
   obtain⟨m',hm,w7⟩:=hN σ7 O n7;refine⟨m',hm,i+1,σ7,O,U.iX,T.keep _ _ _ Fp λb hb o e=>(U.pin (b,o) (iD _ (iD _ (fU hb e)))).1,λb hb=>?_,w7⟩
   obtain⟨o,e,d⟩:=T.obj _ _ Fp b hb;exact(U.pin (b,o) (iD _ (iD _ (fU hb e)))).2.1
  cases f with
  | next=>obtain⟨σ7,O,U,n7⟩:=Y;exact again U n7
  | cont=>obtain⟨σ7,O,U,n7⟩:=Y;exact again U n7
  | brk=>obtain⟨σ7,O,U,Y⟩:=Y;exact⟨σ7,O,U.iX.iW,Y⟩
  | ret v=>obtain⟨x7,σ7,O,U,r7,Y⟩:=Y;exact⟨x7,σ7,O,U.iX.iW,r7,Y⟩
def yN{P:Program}{w:World}{X:Cx}:Passes (F5 P w) X (λ_ _ _=>False):=by
 intro pq σ H s e s' I q;obtain⟨_,_,_,_,_,_,_,_,_,_,_,_,_,_,_,_,z⟩:=q;rcases z with⟨_,_,z⟩|⟨_,_,_,_,_,_,_,z⟩
 ·exact z.elim
 ·exact z.elim
end
def F8{K:bH}{h:Heap}{mg:lE}{x:Str}{C:Addr}{bmB:List Value}{newId:String}(X:K.In h)(G:h.Ns mainGlobals mg)(e:PySem.W.nsIn K mainGlobals x=some (some (.ref C)))(q:PySem.W.excIn K C bmB newId=true):
 OwnCls x C bmB newId mg h:=by
 refine⟨PySem.W.mg_of X G e,?_⟩;unfold PySem.W.excIn at q
 split at q
 ·rename_i od cd sl look
  split at q
  ·rename_i Cx bm Z j1 j2 j3 nw j5 I O
   simp only[aaT,acF,Bool.not_eq_true']at q;obtain⟨⟨⟨⟨⟨rfl,rfl⟩,OY⟩,ht⟩,hok⟩,U⟩:=q;obtain⟨nm,bs,mro,ns,qn,hd,sn,sub,ab,col,del⟩:=cd
   (dsimp only at I OY hok U;subst I OY)
   have Y:sl = #[Z,j1,j2,j3,some (.builtin nw),j5]:=by
    obtain⟨l⟩:=sl;simp only at O;rw[O]
   subst Y;exact⟨bm,ns,nm,qn,bs,hd,sn,sub,ab,col,od,Z,j1,j2,j3,j5,_,X _ _ look,.of_isNs (PySem.W.isNs_of_in X hok),PySem.W.nsMap_none_of_in X hok U,PySem.W.tail_of_in X ht⟩
  ·cases q
 ·cases q
def A2{α:Type}:∀us:List α,us.length=1->∃a,us=[a]
 | [_],_=>⟨_,rfl⟩
def Mh{α:Type}:∀us:List α,us.length=2->∃a b,us=[a,b]
 | [_,_],_=>⟨_,_,rfl⟩
def R6{α:Type}:∀us:List α,us.length=3->∃a b c,us=[a,b,c]
 | [_,_,_],_=>⟨_,_,_,rfl⟩
def R7{α:Type}:∀us:List α,us.length=4->∃a b c d,us=[a,b,c,d]
 | [_,_,_,_],_=>⟨_,_,_,_,rfl⟩
section
variable {X:Cx}{pq:aS}{σ:St}{H:Hp}{s:Shared}{h' : Heap}
def Inv.yields{t' : Nat}{wr:List Addr}{T:Addr}{o:HO}(I:Inv X pq σ H s)(k:∀b u,b∉wr->s.heap.get? b=some u->h'.get? b=some u)(hf:∀b∈wr,nh X pq H b)(hT:s.heap.objs.size<=T)
 (new:bC X.prog X.w (upd H T o) h' T o):Inv X pq σ (upd H T o) { s with heap:=h',toks:=t'}:=by
 have U:H T=none:=I.hok.fresh hT;have O:∀b u,H b=some u->b≠T:=λb u e=>aF e U
 have nw:∀b u,H b=some u->b∉wr:=λb u e hb=>by rw[(hf b hb).1]at e;cases e
 refine I.step (g':=s.gens) (d':=s.drawn) (ch:=wr) (λb hb=>?_) (λb o _ _ hc e _=>k b o hc e) (λb o _ _ hc e _=>⟨o.slots,k b o hc e⟩) (λb u hc e n=>?_)
  (λb o hc e=>⟨o,k b o hc e⟩) (λb xs e=>?_) (λb ob xs e=>?_) (λb ps e=>⟨#[],?_⟩) (λm hm=>?_) (λb u e=>?_) I.bare
 ·obtain⟨_,f1,_,f3,f4,f5⟩:=hf b hb;exact⟨f3,f1,f4,f5⟩
 ·rw[ae (aak (aaf (aab e) hT))];exact n
 ·rw[ae (O b _ e)];exact e
 ·rw[ae (O b _ e)];exact e
 ·rw[ae (O b _ e),e];simp
 ·obtain⟨o,es,ep,Y,r⟩:=hm;exact⟨o,es,ep,k _ o (λhb=>(hf _ hb).2.1 rfl) Y,r⟩
 ·by_cases hb:b=T
  ·subst hb;rw[af]at e;cases e;exact new
  ·rw[ae hb]at e;refine(I.hok b u e).stay (λc v hc q=>k c v ?_ q) (λc q=>by rw[ae (O c _ q)];exact q) λc xs q=>by rw[ae (O c _ q)];exact q
   rcases hc with z|z
   ·rw[z];exact nw b u e
   ·exact nw c _ z
def Inv.Jr{t' : Nat}{wr:List Addr}(I:Inv X pq σ H s)(k:∀b u,b∉wr->s.heap.get? b=some u->h'.get? b=some u)(hf:∀b∈wr,nh X pq H b):Inv X pq σ H { s with heap:=h',toks:=t'}:=by
 have nw:∀b u,H b=some u->b∉wr:=λb u e hb=>by rw[(hf b hb).1]at e;cases e
 refine I.step (g':=s.gens) (d':=s.drawn) (ch:=wr) (λb hb=>?_) (λb o _ _ hc e _=>k b o hc e) (λb o _ _ hc e _=>⟨o.slots,k b o hc e⟩) (λ_ _ _ _ n=>n)
  (λb o hc e=>⟨o,k b o hc e⟩) (λ_ _ e=>e) (λ_ _ _ e=>e) (λb ps e=>⟨#[],by rw[e];simp⟩) (λm hm=>?_) (λb u e=>?_) I.bare
 ·obtain⟨_,f1,_,f3,f4,f5⟩:=hf b hb;exact⟨f3,f1,f4,f5⟩
 ·obtain⟨o,es,ep,O,r⟩:=hm;exact⟨o,es,ep,k _ o (λhb=>(hf _ hb).2.1 rfl) O,r⟩
 ·refine(I.hok b u e).stay (λc v hc q=>k c v ?_ q) (λ_ q=>q) λ_ _ q=>q
  rcases hc with z|z
  ·rw[z];exact nw b u e
  ·exact nw c _ z
end
def R8(K:bH)(a b:Addr):It :=
 ⟨λi H=>∃xs ys x y,aV K H a xs/\aV K H b ys/\xs[i]?=some x/\ys[i]?=some y,
  λi H v H'=>∃T x y,v = .ref T/\H T=none/\H' = upd H T (.tup [x,y])/\(∀xs,aV K H a xs->xs[i]?=some x)/\∀ys,aV K H b ys->ys[i]?=some y,
  λi H=>∃xs ys,aV K H a xs/\aV K H b ys/\(xs.length<=i\/ys.length<=i)⟩
def F9{P:Program}{w:World}{K:bH}{elts:List Expr}{k:Nat}{pos:Pos}(a b z TI TO i1 i2:Addr)(D:ZipApart z TI TO i1 i2 a b):
 Turn P w K (.Tuple elts k pos) (R8 K a b) [z,TI,TO,i1,i2] z (λi h=>IsZip h z TI TO .none/\IsPair h TI (.ref i1) (.ref i2)/\(∃u v,IsPair h TO u v)/\h.IsListIter i1 a i/\h.IsListIter i2 b i) where
 mem:=by simp
 obj:=λi h st c hc=>by
  obtain⟨hz,Y,⟨u,v,hO⟩,⟨o1,NC,_,d1⟩,o2,ab,_,d2⟩:=st;have O : c=z\/c=TI\/c=TO\/c=i1\/c=i2:=by simpa using hc
  rcases O with rfl|rfl|rfl|rfl|rfl
  ·exact⟨_,hz,λv z=>by cases z⟩
  ·exact⟨_,Y,λv z=>by cases z⟩
  ·exact⟨_,hO,λv z=>by cases z⟩
  ·exact⟨o1,NC,λv z=>by rw[d1]at z;cases z⟩
  ·exact⟨o2,ab,λv z=>by rw[d2]at z;cases z⟩
 keep:=λi h h' st k=>by
  obtain⟨hz,Y,⟨u,v,hO⟩,h1,h2⟩:=st;exact⟨k z (by simp) _ hz,k TI (by simp) _ Y,⟨u,v,k TO (by simp) _ hO⟩,h1.at λo e=>k i1 (by simp) o e,h2.at λo e=>k i2 (by simp) o e⟩
 item:=by
  intro X hP hw hK hc i pq s σ H E I hf st hg;subst hP hw hK;obtain⟨xs,ys,x,y,hq,Z,hx,hy⟩:=hg;obtain⟨its,rv,p,WA⟩:=I.list hq;obtain⟨its2,QD,p2,R9⟩:=I.list Z;obtain⟨u,hu,ru⟩:=rv.get hx;obtain⟨u2,WB,WC⟩:=QD.get hy;obtain⟨hz,Y,⟨v1,v2,hO⟩,h1,h2⟩:=st;refine wpAny_pyNext_zip_item D hz Y hO h1 h2 p.isList p2.isList (x:=u) (y:=u2) (by simpa using hu) (by simpa using WB) λh3 WD WE WG WH hT ag hk=>?_
  refine⟨_,rfl,wpAny_letOwnedTupleGo_zip WD λh4 WI Ga=>?_⟩
  have lt:∀{c o},s.heap.get? c=some o->s.heap.objs.size≠c:=λe=>abi (aab e)
  have QE:h4.get? s.heap.objs.size=some { cls:=.type "tuple",data:=.seq #[u,u2]}:=(Ga.2 _ (lt hz)).trans hT;have kk:∀c o,c∉[z,TO,i1,i2]->s.heap.get? c=some o->h4.get? c=some o:=λc o hc q=>by
   have c1:c≠z:=λe=>hc (by simp[e])
   exact(Ga.2 c c1).trans (hk c o c1 (λe=>hc (by simp[e])) (λe=>hc (by simp[e])) (λe=>hc (by simp[e])) q)
  have U:∀c∈[z,TO,i1,i2],c∈[z,TI,TO,i1,i2]:=λc hc=>by
   have O : c=z\/c=TO\/c=i1\/c=i2:=by simpa using hc
   rcases O with rfl|rfl|rfl|rfl<;>simp
  refine⟨.ref s.heap.objs.size,upd H s.heap.objs.size (.tup [x,y]),I.yields (wr:=[z,TO,i1,i2]) (t':=s.toks) kk (λc hc=>hf c (U c hc)) (Z3 _) ?_,rfl,
   ⟨_,x,y,rfl,I.fresh,rfl,λzs hy=>by rw[I.sH hy hq];exact hx,λzs hz=>by rw[I.sH hz Z];exact hy⟩,⟨WI,(Ga.2 _ D.TIz).trans (hk _ _ D.TIz D.TITO D.TIi1 D.TIi2 Y),⟨u,u2,(Ga.2 _ D.TOz).trans WE⟩,?_,?_⟩,λc hc=>?_⟩
  ·exact⟨dl rfl,[u,u2],.cons ru (.cons WC .nil),⟨_,QE,rfl,_,rfl⟩⟩
  ·exact WG.at λo q=>(Ga.2 _ D.i1z).trans q
  ·exact WH.at λo q=>(Ga.2 _ D.i2z).trans q
  ·rw[ae]
   ·exact(hf c hc).1
   ·have O : c=z\/c=TI\/c=TO\/c=i1\/c=i2:=by simpa using hc
    rcases O with rfl|rfl|rfl|rfl|rfl
    ·exact aaq (lt hz)
    ·exact aaq (lt Y)
    ·exact aaq (lt hO)
    ·obtain⟨o,q,_⟩:=h1;exact aaq (lt q)
    ·obtain⟨o,q,_⟩:=h2;exact aaq (lt q)
 done:=by
  intro X hP hw hK hc i pq s σ H E I hf st hg;subst hP hw hK;obtain⟨xs,ys,hq,Z,hx⟩:=hg;obtain⟨its,rv,p,WA⟩:=I.list hq;obtain⟨its2,QD,p2,R9⟩:=I.list Z;obtain⟨hz,Y,⟨v1,v2,hO⟩,h1,h2⟩:=st;have hl:=rv.length;have ar:=QD.length;have U:∀c∈[z,TO,i1,i2],c∈[z,TI,TO,i1,i2]:=λc hc=>by
   have O : c=z\/c=TO\/c=i1\/c=i2:=by simpa using hc
   rcases O with rfl|rfl|rfl|rfl<;>simp
  refine wpAny_pyNext_zip_end (I.ok.hd hc) D hz Y hO h1 h2 p.isList p2.isList (hx.imp (λq=>by simp;lia) λq=>by simp;lia) λh' kk=>⟨rfl,I.Jr (wr:=[z,TO,i1,i2]) (t':=s.toks) (λc o hc q=>?_) λc hc=>hf c (U c hc)⟩
  exact kk c o (λe=>hc (by simp[e])) (λe=>hc (by simp[e])) (λe=>hc (by simp[e])) (λe=>hc (by simp[e])) q
 self:=λ_ _ _ _ _ st h=>wpAny_pyIter_zip st.1 h
def Dy{n a b:Nat}(la:a<n)(lb:b<n):ZipApart (n+4) (n+2) (n+3) n (n+1) a b:=by
 have k:∀{x y:Nat},x<y\/y<x->x≠y:=λh=>by lia
 constructor<;>exact k (by lia)
section
variable {X:Cx}{elts:List Expr}{n:Nat}{tp:Pos}
def Sa(K:bH)(ta:TA):TI:=λσ H R=>ta σ H λvs H1=>∃a b,vs=[.ref a,.ref b]/\(∃xs,aV K H1 a xs)/\(∃ys,aV K H1 b ys)/\R (R8 K a b) H1
def Mi(K:bH){a b:Expr}{ta:TA}{p pos:Pos}(hg:Gl X "zip")(hm:X.mg "zip"=none)(ha:PA X [a,b] ta)(hs:starEach [a,b] X.env=[(false,eval a X.env),(false,eval b X.env)]:=by rfl)(hs2:starEach [b] X.env=[(false,eval b X.env)]:=by rfl)(hK:X.K=K:=by rfl):
 PI X (.Tuple elts n tp) (.Call (.Name "zip" p) [a,b] [] pos) (Sa K ta):=by
 subst hK;intro pq s σ H R I h;refine Call_ (nc I hg hm boot_zip (abx (cM (ha pos pq s σ H _ I h) λus s1 ⟨vs,H1,O,r1,q1⟩=>?_) (by rw[hs,hs2]) (by rw[hs2];rfl)))
 obtain⟨a,b,e,⟨xs,hq⟩,⟨ys,Y⟩,q⟩:=q1;subst e;cases r1 with
 | cons r Z =>
   cases Z with
   | cons r' Z =>
     cases Z;cases r;cases r';obtain⟨ag,rv,pl,hz⟩:=O.list hq;obtain⟨its2,QD,QC,hz2⟩:=O.list Y;refine call_zip_2 pl.isList QC.isList λh' Uh hI hO h1 h2 ar hk=>?_
     have I2:Inv X pq σ H1 { s1 with heap:=h'}:=O.kept (t':=s1.toks) hk
     have la:a<s1.heap.objs.size:=by obtain⟨_,q,_⟩:=pl.isList;exact aab q
     have lb:b<s1.heap.objs.size:=by obtain⟨_,q,_⟩:=QC.isList;exact aab q
     refine wpAny_pyIter_zip Uh ⟨_,[s1.heap.objs.size+4,s1.heap.objs.size+2,s1.heap.objs.size+3,s1.heap.objs.size,s1.heap.objs.size+1],_,_,H1,rfl,I2,
      F9 a b _ _ _ _ _ (Dy la lb),⟨Uh,hI,⟨_,_,hO⟩,h1,h2⟩,λc hc=>?_,q⟩
     have ab : c=s1.heap.objs.size+4\/c=s1.heap.objs.size+2\/c=s1.heap.objs.size+3\/c=s1.heap.objs.size\/c=s1.heap.objs.size+1:=by simpa using hc
     have U:s1.heap.objs.size<=c:=by
      rcases ab with rfl|rfl|rfl|rfl|rfl
      ·exact abI _ _
      ·exact abI _ _
      ·exact abI _ _
      ·exact Z3 _
      ·exact abI _ _
     exact O.De U (O.hok.fresh U)
end
section
variable {K:bH}{a b:Addr}{xs ys:List V}{g:TG}{tt:TT}{te:TE}{n:Nat}{fr:St}{D:Addr}{Q:Hp->Prop}{H1:Hp}
def Gb(hxy:xs.length=ys.length)(Pv:Nat->List V->Hp->Prop)(h0:Pv 0 [] H1)(hl:∀i acc H,i<=xs.length->Pv i acc H->aV K H a xs/\aV K H b ys/\H D=some (.lst acc)/\acc.length<=i)(hz:xs.length<=sizeLine)
 (hs:∀i x y T acc H,xs[i]?=some x->ys[i]?=some y->Pv i acc H->H T=none->g (.ref T) (List.replicate n none++fr) (upd H T (.tup [x,y])) λσ2 H2=>σ2.drop n=fr/\tt σ2 H2 λb H3 =>
  if b=true then te σ2 H3 λv H4=>H4 D=some (.lst acc)/\Pv (i+1) (acc++[v]) (upd H4 D (.lst (acc++[v]))) else Pv (i+1) acc H3)
 (hd:∀acc H,Pv xs.length acc H->Q H):i0 (R8 K a b) g tt te n fr D Q H1:=by
 refine⟨λi m acc H=>m=xs.length-i/\i<=xs.length/\Pv i acc H,⟨xs.length,by simp,aaB _,h0⟩,?_⟩
 rintro i m acc H ⟨rfl,hi,p⟩;obtain⟨q,O,Y,ha⟩:=hl i acc H hi p;refine⟨Y,?_⟩
 by_cases I:i<xs.length
 ·have Z:i<ys.length:=by lia
  refine .inr ⟨⟨xs,ys,xs[i],ys[i],q,O,by simp[I],by simp[Z]⟩,by lia,Pv (i+1),λU H' p'=>⟨xs.length-(i+1),by lia,rfl,I,p'⟩,λv H' y=>?_⟩
  obtain⟨T,x,z,rfl,hT,rfl,y1,y2⟩:=y;exact hs i x z T acc _ (y1 xs q) (y2 ys O) p hT
 ·have e:i=xs.length:=by lia
  subst e;exact .inl ⟨⟨xs,ys,q,O,.inl (Z3 _)⟩,hd acc H p⟩
end
section
variable {X:Cx}
def yO:jx X (.type "range") (λxs H Q=>∃j:Int,xs=[.int j]/\∀p,H p=none->Q (.ref p) (upd H p (.C4 0 j))):=by
 intro pq s σ H xs us Q I r h;obtain⟨j,rfl,q⟩:=h;obtain⟨u,rfl,t,rfl⟩:=vals1 r;refine call_range_1 ⟨.ref s.heap.objs.size,_,I.laid (t':=s.toks+1+1) (λb o e=>Z2 _ e) (Z3 _) ?_,rfl,q _ I.fresh⟩
 exact⟨_,_,_,aag _ rfl⟩
def u6(n:Nat):List V:=(List.range n).map λi=>V.int ((i:Nat):Int)
def KZ(hc:X.calm=true):jx X (.type "list") (λxs H Q=>∃p,∃n:Nat,xs=[.ref p]/\H p=some (.C4 0 (n:Int))/\n<=900/\∀l,H l=none->Q (.ref l) (upd H l (.lst (u6 n)))):=by
 intro pq s σ H xs us Q I r h;obtain⟨p,n,rfl,hp,hn,q⟩:=h;obtain⟨u,rfl,rx⟩:=vals1 r;cases rx;obtain⟨t,u,v,e⟩:=(show bC X.prog X.w H s.heap p (.C4 0 (n:Int)) from I.hok p _ hp)
 have U:Builtin.Range.rangeSize 0 (n:Int) 1=(n:Int):=by rw[rangeSize_one];split<;>lia
 refine call_list_range (I.ok.hd hc) e (small_one (by lia) (by lia) (by lia) (by lia)) U (aat hn (by decide)) λh' tk acc c kp e' O=>?_
 refine⟨.ref s.heap.objs.size,_,I.laid (t':=tk) kp (Z3 _) ?_,rfl,q _ I.fresh⟩;have hl:acc.toList.length=n:=by rw[abt];exact O.1
 have hz:(u6 n).length<=sizeLine:=by
  unfold u6;rw[ZZ,aax];exact aaZ (cf (by lia))
 refine⟨hz,acc.toList,c,?_,by simpa using e'⟩
 have key:∀(ys:List Value) (k:Nat),(∀j v,ys[j]?=some v->∃t,v=Value.int (((k+j:Nat)):Int) t)->Vals ((List.range' k ys.length).map λi=>V.int ((i:Nat):Int)) ys:=by
  intro ys
  induction ys with
  | nil=>intro k _;exact .nil
  | cons y r ih =>
    intro k hy;obtain⟨t,ht⟩:=hy 0 y rfl;refine .cons ⟨t,by simpa using ht⟩ (ih (k+1) λj v Y=>?_)
    obtain⟨t',Z⟩:=hy (j+1) v (by simpa using Y)
    exact⟨t',by rw[Z];congr 2;lia⟩
 have z:=key acc.toList 0 λj v Y=>by
  obtain⟨t,ht⟩:=O.2 j v (by simpa using Y)
  exact⟨t,by rw[ht];congr 1;lia⟩
 rw[hl]at z;unfold u6;rw[List.range_eq_range'];exact z
def sumK(K:bH)(hc:X.calm=true)(hK:X.K=K:=by rfl):jx X (.builtin "sum") (λxs H Q=>∃(p:Addr) (ns:List Int),xs=[.ref p]/\aV K H p (ns.map V.int)/\Q (.int ns.sum) H):=by
 subst hK;intro pq s σ H xs us Q I r h;obtain⟨p,ns,rfl,Z,q⟩:=h;obtain⟨u,rfl,rx⟩:=vals1 r;cases rx;obtain⟨O,rv,pl,hz⟩:=I.list Z;have hi:∀{ns:List Int} {O:List Value},Vals (ns.map V.int) O->∃xs:Array (Int×Tok),O.toArray=intItems xs/\xs.toList.map (·.1)=ns:=by
  intro ns
  induction ns with
  | nil=>intro O r;cases r;exact⟨#[],by simp[intItems],rfl⟩
  | cons a l ih =>
    intro O r;cases r with
    | cons r1 r2 =>
      obtain⟨t,rfl⟩:=r1;obtain⟨xs,h1,h2⟩:=ih r2;refine⟨#[(a,t)]++xs,?_,by simp[h2]⟩
      have Y:=aas Array.toList h1;simp only[intItems,Array.toList_map,List.toList_toArray]at Y;simp[intItems,Y,Array.map_append]
 obtain⟨U,e1,e2⟩:=hi rv;have hl:s.heap.IsList p (intItems U):=e1▸pl.isList;refine sum_intListG (I.ok.hd hc) hl λh' tk t' hk=>?_
 have e3:preSum (numAt U) U.size=ns.sum:=by rw[preSum_eq,List.take_of_length_le (by simp),e2]
 rw[e3];exact⟨.int ns.sum,H,I.kept hk,⟨t',rfl⟩,q⟩
end
def yP:∀{us:List Value} {ns:List Int},IntsAre us ns->Vals (ns.map V.int) us
 | _,_,.nil=>.nil
 | _,_,.cons n t r=>.cons ⟨t,rfl⟩ (yP r)
end L2
namespace Ring
open PySem
abbrev cJ:=Int×Int×Int
def bit(S:Int)(k:Nat):Bool:=decide (S/2^k%2=1)
def bT(S:Int):List Nat:=(List.range (Builtin.Int.intBits S)).filter (bit S)
structure O0(p:Nat)(ts:List cJ):Prop where
 ends:∀t∈ts,0<=t.1/\t.1<(p:Int)/\0<=t.2.1/\t.2.1<(p:Int)
def mz(m k:Nat):bit (m:Int) k=m.testBit k:=by
 unfold bit;rw[Nat.testBit_eq_decide_div_mod_eq];have e:((m:Int)/2^k%2=1)↔(m/2^k%2=1):=by
  have h2:((2:Int)^k)=((2^k:Nat):Int):=by simp
  rw[h2,<-Int.natCast_ediv]
  lia
 simp only[e]
def yQ(m:Nat):Builtin.Int.intBits (m:Int)=if m=0 then 0 else m.log2+1:=by
 unfold Builtin.Int.intBits
 by_cases h:m=0
 ·simp[h]
 ·simp[h]
def bits_le{m n:Nat}(h:m<2^n):Builtin.Int.intBits (m:Int)<=n:=by
 rw[yQ]
 split
 ·exact aaB _
 ·rename_i h0
  exact(Nat.log2_lt h0).mpr h
def yR{m k:Nat}(h:Builtin.Int.intBits (m:Int)<=k):bit (m:Int) k=false:=by
 rw[mz];rw[yQ]at h
 by_cases h0:m=0
 ·simp[h0]
 ·rw[Z0 h0]at h;exact aaH (aaf Nat.lt_log2_self (abe (by decide) h))
def nZ(f:Nat->Bool)(a:Nat):∀d,(∀k,a<=k->f k=false)->(List.range (a+d)).filter f=(List.range a).filter f
 | 0,_=>rfl
 | d+1,h=>by
   rw[<-Nat.add_assoc,abD,ab5,nZ f a d h];have e:[a+d].filter f=[]:=by rw[aay,Z0 (by rw[h _ (by lia)];simp)];rfl
   rw[e,abq]
def i7{m n:Nat}(h:m<2^n):bT (m:Int)=(List.range n).filter λk=>m.testBit k:=by
 unfold bT;have hb:=bits_le h;obtain⟨d,hd⟩:=acg hb;have e:(λk=>m.testBit k)=bit (m:Int):=funext λk=>(mz m k).symm
 rw[e]
 conv=>rhs;rw[hd]
 exact(nZ _ _ d λk hk=>yR hk).symm
def Cr{m n:Nat}(h:m<2^n){k:Nat}(hk:k∈bT (m:Int)):k<n:=by
 rw[i7 h]at hk;exact aan.mp (aao.mp hk).1
def Gd{a b x y:Nat}(q:x/2+2*(y/2)=a/2+b/2)(h:x%2+2*(y%2)=a%2+b%2):x+2*y=a+b:=by lia
def mod_one{u v:Nat}(hu:u=0\/u=1)(hv:v=0\/v=1):(u^^^v)+2*(u&&&v)=u+v:=by
 rcases hu with rfl|rfl<;>rcases hv with rfl|rfl<;>rfl
def Js:∀a b:Nat,(a^^^b)+2*(a&&&b)=a+b:=by
 intro a
 induction a using Nat.strongRecOn with
 | ind a ih =>
   intro b
   by_cases h:a=0
   ·subst h;simp
   ·have q:=ih (a/2) (by lia) (b/2)
    rw[<-Nat.xor_div_two,<-Nat.and_div_two]at q;refine Gd q ?_;have I:(a^^^b)%2=a%2^^^b%2:=Nat.xor_mod_two_pow (n:=1);have O:(a&&&b)%2=a%2&&&b%2:=Nat.and_mod_two_pow (n:=1);rw[I,O];exact mod_one (abE a) (abE b)
def xor_int(a b:Nat):Builtin.bitXor (a:Int) (b:Int)=((a^^^b:Nat):Int):=by
 have h:(a:Int)+b-2*((a&&&b:Nat):Int)=((a^^^b:Nat):Int):=by
  have q:=Js a b
  lia
 have e:=PyProof.Rows.bitXor_and (a:Int) (b:Int);rw[e,acn (by lia) (by lia)]
 simpa using h
open PySem L2
def kO(t:cJ):List V:=[.int t.1,.int t.2.1,.int t.2.2]
def TupAt(H:Hp)(x:V)(t:cJ):Prop:=∃b,x = .ref b/\H b=some (.tup (kO t))
structure b9(H:Hp)(w:Addr)(p:Nat)(ts:List cJ):Prop where
 ex:∃b xs,H w=some (.tup [.int (p:Int),.ref b])/\H b=some (.tup xs)/\Paired (TupAt H) xs ts
structure Mj(p:Nat)(ts:List cJ):Prop where
 ZD:O0 p ts
 len:ts.length<=24
 WJ:p<=10
def TupAt.tups{H H' : Hp}(s:bJ H H'){x:V}{t:cJ}(h:TupAt H x t):TupAt H' x t:=by
 obtain⟨b,e,h⟩:=h;exact⟨b,e,s _ _ h⟩
def b9.tups{H H' : Hp}{w:Addr}{p:Nat}{ts:List cJ}(s:bJ H H')(h:b9 H w p ts):b9 H' w p ts:=by
 obtain⟨b,xs,h1,h2,I⟩:=h.ex;exact⟨b,xs,s _ _ h1,s _ _ h2,Paired.imp' (λ_ _ z=>z.tups s) I⟩
def b9.same{H H' : Hp}{w:Addr}{p:Nat}{ts:List cJ}(s:aq H H')(h:b9 H w p ts):b9 H' w p ts:=h.tups s.tups
def aB(l:List Nat):List V:=l.map λk=>V.int ((k:Nat):Int)
def i8(l:List Nat)(k:Nat):aB (l++[k])=aB l++[.int (k:Int)]:=by unfold aB;rw[aaw];rfl
def aU(l:List Nat):(aB l).length=l.length:=by unfold aB;rw[ZZ]
def kc{l:List Nat}{i:Nat}{x:V}(h:(aB l)[i]?=some x):∃k,l[i]?=some k/\x = .int (k:Int):=by
 unfold aB at h;rw[Z9]at h;obtain⟨k,e,q⟩:=uT.mp h;exact⟨k,e,q.symm⟩
def cD(f:Nat->Bool)(i:Nat):(List.range (i+1)).filter f=(List.range i).filter f++(if f i=true then[i] else[]):=by
 rw[abD,ab5]
 congr 1
 cases h:f i with
 | true=>rw[aay,Z1 h,Z1 rfl];rfl
 | false=>rw[aay,Z0 (by rw[h];simp),Z0 (by simp)];rfl
def n5(f:Nat->Bool)(H:Hp)(D:Addr)(i:Nat)(acc:List V)(H2:Hp):Prop:=aq H H2/\H2 D=some (.lst acc)/\acc=aB ((List.range i).filter f)
section
variable {f:Nat->Bool}{H H2 H3:Hp}{D:Addr}{i:Nat}{acc:List V}
def n5.start(hD:H D=none):n5 f H D 0 [] (upd H D (.lst [])):=⟨aq.new hD,af,rfl⟩
def n5.len(p:n5 f H D i acc H2):H2 D=some (.lst acc)/\acc.length<=i:=by
 refine⟨p.2.1,?_⟩;rw[p.2.2,aU];exact aat (aaP _ _) (by rw[aax];exact Z3 _)
def n5.yes(p:n5 f H D i acc H2)(hD:H D=none)(s:aq H2 H3)(hf:f i=true):H3 D=some (.lst acc)/\n5 f H D (i+1) (acc++[.int (i:Int)]) (upd H3 D (.lst (acc++[.int (i:Int)]))):=by
 refine⟨s _ _ p.2.1,(p.1.trans s).put hD,af,?_⟩;rw[cD,Z1 hf,i8,<-p.2.2]
def n5.no(p:n5 f H D i acc H2)(s:aq H2 H3)(hf:f i=false):n5 f H D (i+1) acc H3:=by
 refine⟨p.1.trans s,s _ _ p.2.1,?_⟩;rw[cD,Z0 (by rw[hf];simp),abq]
 exact p.2.2
end
def bj(ts:List cJ)(k:Nat):cJ:=ts.getD k (0,0,0)
def Jt{n j:Nat}(h:j<n):Ji n (j:Int)=some j:=by
 unfold Ji;rw[Z1 (by lia),Z1 (by lia),aah]
def Ml(S:Int)(k:Nat):decide (V.int (Builtin.bitAnd (S/2^k) 1)=V.int 1)=bit S k:=by
 unfold bit;rw[PyProof.Rows.bitAnd_m1];rw[aa1];simp
structure iF(p:Int)(t:cJ):Prop where
 a0:0<=t.1
 a1:t.1<p
 b0:0<=t.2.1
 b1:t.2.1<p
 ne:t.1≠t.2.1
 l0:1<=t.2.2
 l1:t.2.2<=1000000000000000000000000000000
structure aD(p:Nat)(ts:List cJ):Prop where
 p1:1<=p
 p2:p<=10
 len:ts.length<=24
 rC:∀t∈ts,iF (p:Int) t
def aD.yo{p:Nat}{ts:List cJ}(g:aD p ts):Mj p ts:=⟨⟨λt ht=>let z:=g.rC t ht;⟨z.a0,z.a1,z.b0,z.b1⟩⟩,g.len,g.p2⟩
def fL{n:Nat}(h:n<=24):n<=sizeLine:=aaZ (cf (by lia))
def A3{n:Nat}(h:n<=900):n<sizeLine:=cf (by lia)
def Ju{ns:List Int}{k:Nat}(h:k<ns.length):(ns.map V.int)[k]?=some (.int (ns.getD k 0)):=by
 rw[Z9,Z6];simp[h]
def n8(x m:Int)(h:0<m):0<=x%m/\x%m<m:=⟨Int.emod_nonneg _ (by lia),Int.emod_lt_of_pos _ h⟩
end Ring
namespace RM
def bL(f:Nat->Bool):Nat->Bool
 | 0=>false
 | n+1=>bL f n^^f n
def bE{f g:Nat->Bool}:∀{n:Nat},(∀k,k<n->f k=g k)->bL f n=bL g n
 | 0,_=>rfl
 | n+1,h=>by
   unfold bL;rw[bE λk hk=>h k (by lia),h n (by lia)]
def i9(f g:Nat->Bool):∀n,bL (λk=>f k^^g k) n=(bL f n^^bL g n)
 | 0=>rfl
 | n+1=>by
   unfold bL;rw[i9 f g n];cases bL f n<;>cases bL g n<;>cases f n<;>cases g n<;>rfl
def nj:∀n,bL (λ_=>false) n=false
 | 0=>rfl
 | n+1=>by unfold bL;rw[nj n];rfl
def sU(c:Bool)(f:Nat->Bool):∀n,bL (λk=>c&&f k) n=(c&&bL f n)
 | 0=>by cases c<;>rfl
 | n+1=>by
   unfold bL;rw[sU c f n];cases c<;>simp
def vK(f:Nat->Nat->Bool)(n:Nat):∀m,bL (λx=>bL (λk=>f x k) n) m=bL (λk=>bL (λx=>f x k) m) n
 | 0=>by
   show false=_;rw[<-nj n];rfl
 | m+1=>by
   show(bL (λx=>bL (λk=>f x k) n) m^^bL (λk=>f m k) n)=_
   rw[vK f n m,<-i9];rfl
def iM{f:Nat->Bool}{n:Nat}(h:∀k,k<n->f k=false):bL f n=false:=by
 rw[bE (g:=λ_=>false) h,nj]
def oh{f:Nat->Bool}{a:Nat}:∀{n:Nat},a<n->(∀k,k<n->k≠a->f k=false)->bL f n=f a
 | 0,h,_=>absurd h (aa9 _)
 | n+1,h,z=>by
   unfold bL
   by_cases e:a=n
   ·subst e;rw[iM λk hk=>z k (by lia) (by lia)]
    simp
   ·rw[oh (a:=a) (by lia) λk hk hn=>z k (by lia) hn,z n (by lia) (λq=>e q.symm)]
    simp
def ja(C:Nat->Bool){a m:Nat}(h:a<m):bL (λx=>C x&&decide (a=x)) m=C a:=by
 rw[oh h λk _ hk=>by simp[aaq hk]]
 simp
structure Net where
 p:Nat
 n:Nat
 a:Nat->Nat
 b:Nat->Nat
 al:∀k,k<n->a k<p
 bl:∀k,k<n->b k<p
 ne:∀k,k<n->a k≠b k
variable (N:Net)
def Net.inc(k x:Nat):Bool:=decide (N.a k=x)^^decide (N.b k=x)
def Net.bd(m x:Nat):Bool:=bL (λk=>m.testBit k&&N.inc k x) N.n
def Net.dU(m:Nat):Prop:=∀x,x<N.p->N.bd m x=false
variable {N}
def jS(m q x:Nat):N.bd (m^^^q) x=(N.bd m x^^N.bd q x):=by
 unfold Net.bd;rw[<-i9];refine bE λk _=>?_
 rw[Z8];cases m.testBit k<;>cases q.testBit k<;>cases N.inc k x<;>rfl
def om(x:Nat):N.bd 0 x=false:=by
 unfold Net.bd;exact iM λk _=>by simp
def sV{k:Nat}(h:k<N.n)(x:Nat):N.bd (2^k) x=N.inc k x:=by
 unfold Net.bd;rw[oh h λj _ hj=>by simp[aal,aaq hj]]
 simp[aal]
def dU.xor{m q:Nat}(h:N.dU m)(h' : N.dU q):N.dU (m^^^q):=λx hx=>by rw[jS,h x hx,h' x hx];rfl
def dU.zero:N.dU 0:=λx _=>om x
def Ge{m:Nat}(C:Nat->Bool)(h:∀k,k<N.n->m.testBit k=true->C (N.a k)=C (N.b k)):bL (λx=>C x&&N.bd m x) N.p=false:=by
 have e:bL (λx=>C x&&N.bd m x) N.p=bL (λx=>bL (λk=>C x&&(m.testBit k&&N.inc k x)) N.n) N.p :=
  bE λx _=>(sU (C x) _ N.n).symm
 rw[e,vK];refine iM λk hk=>?_
 have I:bL (λx=>C x&&(m.testBit k&&N.inc k x)) N.p=(m.testBit k&&(C (N.a k)^^C (N.b k))):=by
  rw[<-ja C (N.al k hk),<-ja C (N.bl k hk),<-i9,<-sU];refine bE λx _=>?_
  unfold Net.inc;cases C x<;>cases m.testBit k<;>cases decide (N.a k=x)<;>cases decide (N.b k=x)<;>rfl
 rw[I];cases hb:m.testBit k with
 | false=>rfl
 | true=>rw[h k hk hb];simp
def join(L:Nat->Nat)(u v:Nat):Nat->Nat:=λx=>if L x=max (L u) (L v) then min (L u) (L v) else L x
def join_eq{L:Nat->Nat}{u v x y:Nat}(h:L x=L y):join L u v x=join L u v y:=by unfold join;rw[h]
def Dz(L:Nat->Nat)(u v:Nat):join L u v u=join L u v v:=by
 unfold join
 split<;>split<;>lia
def vL{L:Nat->Nat}{u v:Nat}(h:L u=L v):join L u v=L:=by
 funext x
 unfold join;rw[h]
 split<;>lia
def join_le{L:Nat->Nat}{u v x:Nat}(h:L x<=x):join L u v x<=x:=by
 unfold join
 split<;>lia
def DA{L:Nat->Nat}{u v:Nat}(h:∀x,L (L x)=L x)(x:Nat):join L u v (join L u v x)=join L u v x:=by
 have O:=h u;have U:=h v;have hx:=h x;have I:L (min (L u) (L v))=min (L u) (L v):=by
  rcases acG (L u) (L v) with q|q
  ·rw[ab2 q];exact O
  ·rw[acW q];exact U
 unfold join
 split
 ·rw[I]
  split<;>lia
 ·rw[hx]
  split<;>lia
def Net.bU(N:Net)(S:Nat->Bool):Nat->Nat->Nat
 | 0=>λx=>x
 | k+1=>if S k=true then join (Net.bU N S k) (N.a k) (N.b k) else Net.bU N S k
variable {S:Nat->Bool}
def r6:∀(k x:Nat),N.bU S k x<=x
 | 0,_=>Z3 _
 | k+1,x=>by
   unfold Net.bU
   split
   ·exact join_le (r6 k x)
   ·exact r6 k x
def iN:∀(k x:Nat),N.bU S k (N.bU S k x)=N.bU S k x
 | 0,_=>rfl
 | k+1,x=>by
   by_cases hs:S k=true
   ·have e:N.bU S (k+1)=join (N.bU S k) (N.a k) (N.b k):=by
     conv=>lhs;unfold Net.bU
     rw[Z1 hs]
    rw[e];exact DA (iN k) x
   ·have e:N.bU S (k+1)=N.bU S k:=by
     conv=>lhs;unfold Net.bU
     rw[Z0 hs]
    rw[e];exact iN k x
def vM{x y k:Nat}(h:N.bU S k x=N.bU S k y):∀d,N.bU S (k+d) x=N.bU S (k+d) y
 | 0=>h
 | d+1=>by
   have I:=vM h d;show N.bU S (k+d+1) x=N.bU S (k+d+1) y;unfold Net.bU
   split
   ·exact join_eq I
   ·exact I
def yS{j k:Nat}(h:j<k)(hs:S j=true):N.bU S k (N.a j)=N.bU S k (N.b j):=by
 obtain⟨d,rfl⟩:=acg (Nat.succ_le_of_lt h);refine vM ?_ d;show N.bU S (j+1) (N.a j)=N.bU S (j+1) (N.b j);unfold Net.bU;rw[Z1 hs];exact Dz _ _ _
def Net.cy(N:Net)(k:Nat):Nat->Nat:=N.bU (λ_=>true) k
def Net.fZ(N:Net)(k:Nat):Bool:=!decide (N.cy k (N.a k)=N.cy k (N.b k))
def oq(k:Nat):N.cy (k+1)=if N.fZ k=true then join (N.cy k) (N.a k) (N.b k) else N.cy k:=by
 show N.bU (λ_=>true) (k+1)=_
 unfold Net.bU;rw[Z1 rfl];unfold Net.fZ
 by_cases h:N.cy k (N.a k)=N.cy k (N.b k)
 ·rw[Z0 (by simp[h])]
  exact vL h
 ·rw[Z1 (by simp[h])]
  rfl
def fM{m:Nat}(hf:∀k,m.testBit k=true->k<N.n/\N.fZ k=true)(he:N.dU m):m=0:=by
 by_cases h0:m=0
 ·exact h0
 exfalso
 have Y:m.testBit m.log2=true:=Nat.testBit_log2 h0;obtain⟨O,U⟩:=hf _ Y;generalize WK:m.log2=K at Y O U;have Z:m<2^(K+1):=by rw[<-WK];exact Nat.lt_log2_self
 have I:=Ge (N:=N) (m:=m^^^2^K) (λx=>decide (N.cy K x=N.cy K (N.a K))) λk hk hb=>by
  have WL:k<K:=by
   rw[Z8,aal]at hb
   by_cases e:K=k
   ·subst e;simp[Y]at hb
   ·have ab : m.testBit k=true:=by simpa[e]using hb
    have:k<K+1:=by
     by_cases q:k<K+1
     ·exact q
     ·have z:=aaH (aaf Z (abe (by decide) (show K+1<=k by lia)))
      rw[ab]at z;cases z
    lia
  have e:N.cy K (N.a k)=N.cy K (N.b k):=yS (S:=λ_=>true) WL rfl
  show decide (N.cy K (N.a k)=_)=decide (N.cy K (N.b k)=_);rw[e]
 have e:bL (λx=>decide (N.cy K x=N.cy K (N.a K))&&N.bd (m^^^2^K) x) N.p=bL (λx=>decide (N.cy K x=N.cy K (N.a K))&&N.inc K x) N.p :=
  bE λx hx=>by rw[jS,he x hx,sV O];simp
 rw[e]at I;have e2:bL (λx=>decide (N.cy K x=N.cy K (N.a K))&&N.inc K x) N.p=(decide (N.cy K (N.a K)=N.cy K (N.a K))^^decide (N.cy K (N.b K)=N.cy K (N.a K))):=by
  rw[<-ja (λx=>decide (N.cy K x=N.cy K (N.a K))) (N.al K O),<-ja (λx=>decide (N.cy K x=N.cy K (N.a K))) (N.bl K O),<-i9]
  refine bE λx _=>?_
  unfold Net.inc;cases decide (N.cy K x=N.cy K (N.a K))<;>cases decide (N.a K=x)<;>cases decide (N.b K=x)<;>rfl
 rw[e2]at I;unfold Net.fZ at U;have ag : ¬ N.cy K (N.b K)=N.cy K (N.a K):=λq=>by rw[q]at U;simp at U
 simp[ag]at I
def Net.trail(N:Net):Nat->Nat->Nat
 | 0=>λ_=>0
 | k+1=>if N.fZ k=true then λv=>if N.cy k v=max (N.cy k (N.a k)) (N.cy k (N.b k)) then Net.trail N k v^^^(Net.trail N k (N.a k)^^^Net.trail N k (N.b k)^^^2^k) else Net.trail N k v
   else Net.trail N k
def kg:∀(k v j:Nat),(N.trail k v).testBit j=true->j<k/\N.fZ j=true
 | 0,v,j,h=>by simp[Net.trail]at h
 | k+1,v,j,h=>by
   have I:=kg k;unfold Net.trail at h
   split at h
   ·rename_i hf
    dsimp only at h
    split at h
    ·rw[Z8,Z8,Z8,aal]at h
     by_cases e:k=j
     ·subst e;exact⟨by lia,hf⟩
     ·have z : ¬((N.trail k v).testBit j=false/\(N.trail k (N.a k)).testBit j=false/\(N.trail k (N.b k)).testBit j=false):=by
       rintro⟨O,U,Y⟩;simp[O,U,Y,e]at h
      cases h1:(N.trail k v).testBit j with
      | true=>obtain⟨q,r⟩:=I v j h1;exact⟨by lia,r⟩
      | false=>cases h2:(N.trail k (N.a k)).testBit j with
        | true=>obtain⟨q,r⟩:=I _ j h2;exact⟨by lia,r⟩
        | false=>cases h3:(N.trail k (N.b k)).testBit j with
          | true=>obtain⟨q,r⟩:=I _ j h3;exact⟨by lia,r⟩
          | false=>exact absurd ⟨h1,h2,h3⟩ z
    ·obtain⟨q,r⟩:=I v j h;exact⟨by lia,r⟩
   ·obtain⟨q,r⟩:=I v j h;exact⟨by lia,r⟩
def Gf(a b c d e f g h:Bool)(WM:(d^^f)=(g^^h)):((a^^g)^^(((c^^d)^^(e^^f))^^(c^^e)))=(a^^h):=by
 have I:(((c^^d)^^(e^^f))^^(c^^e))=(d^^f):=by cases c<;>cases d<;>cases e<;>cases f<;>rfl
 rw[I,WM];cases a<;>cases g<;>cases h<;>rfl
def sW:∀(k:Nat),k<=N.n->∀v x,N.bd (N.trail k v) x=(decide (v=x)^^decide (N.cy k v=x))
 | 0,_,v,x=>by
   show N.bd 0 x=(decide (v=x)^^decide (v=x));rw[om];simp
 | k+1,hk,v,x=>by
   have I:=sW k (by lia)
   rw[oq];unfold Net.trail
   by_cases hf:N.fZ k=true
   ·rw[Z1 hf,Z1 hf]
    by_cases hm:N.cy k v=max (N.cy k (N.a k)) (N.cy k (N.b k))
    ·have e:join (N.cy k) (N.a k) (N.b k) v=min (N.cy k (N.a k)) (N.cy k (N.b k)):=by unfold join;rw[Z1 hm]
     show N.bd (if N.cy k v=_ then _ else _) x=_
     rw[Z1 hm,e,jS,jS,jS,sV (by lia),I,I,I]
     unfold Net.inc;refine Gf _ false _ _ _ _ _ _ ?_;rw[hm];rcases acG (N.cy k (N.a k)) (N.cy k (N.b k)) with q|q
     ·rw[acX q,ab2 q,Bool.xor_comm]
     ·rw[Nat.max_eq_left q,acW q]
    ·have e:join (N.cy k) (N.a k) (N.b k) v=N.cy k v:=by unfold join;rw[Z0 hm]
     show N.bd (if N.cy k v=_ then _ else _) x=_
     rw[Z0 hm,e,I]
   ·rw[Z0 hf,Z0 hf];exact I v x
def Net.ring(N:Net)(c:Nat):Nat:=N.trail N.n (N.a c)^^^N.trail N.n (N.b c)^^^2^c
def Gg{c:Nat}(h:c<N.n):N.cy N.n (N.a c)=N.cy N.n (N.b c):=yS (S:=λ_=>true) h rfl
def kh{c:Nat}(h:c<N.n):N.dU (N.ring c):=λx _=>by
 unfold Net.ring;rw[jS,jS,sV h,sW _ (Z3 _),sW _ (Z3 _),Gg h];unfold Net.inc;cases decide (N.a c=x)<;>cases decide (N.b c=x)<;>cases decide (N.cy N.n (N.b c)=x)<;>rfl
def lO{c j:Nat}(h:(N.ring c).testBit j=true):j=c\/(j<N.n/\N.fZ j=true):=by
 unfold Net.ring at h;rw[Z8,Z8,aal]at h
 by_cases e:c=j
 ·exact .inl e.symm
 ·right
  cases h1:(N.trail N.n (N.a c)).testBit j with
  | true=>exact kg _ _ _ h1
  | false=>cases h2:(N.trail N.n (N.b c)).testBit j with
    | true=>exact kg _ _ _ h2
    | false=>simp[h1,h2,e]at h
def sX{c:Nat}(hf:N.fZ c=false):(N.ring c).testBit c=true:=by
 unfold Net.ring;rw[Z8,Z8,aal];cases h1:(N.trail N.n (N.a c)).testBit c with
 | true=>obtain⟨_,q⟩:=kg _ _ _ h1;rw[hf]at q;cases q
 | false=>cases h2:(N.trail N.n (N.b c)).testBit c with
   | true=>obtain⟨_,q⟩:=kg _ _ _ h2;rw[hf]at q;cases q
   | false=>simp
def DB{j:Nat}(h:j<N.n)(hf:N.fZ j=true):(N.trail N.n (N.a j)).testBit j=true\/(N.trail N.n (N.b j)).testBit j=true:=by
 have z:N.ring j=0:=fM (λk hk=>by
  rcases lO hk with rfl|q
  ·exact⟨h,hf⟩
  ·exact q) (kh h)
 have b:(N.ring j).testBit j=false:=by rw[z];simp
 unfold Net.ring at b;rw[Z8,Z8,aal]at b;cases h1:(N.trail N.n (N.a j)).testBit j with
 | true=>exact .inl rfl
 | false=>cases h2:(N.trail N.n (N.b j)).testBit j with
   | true=>exact .inr rfl
   | false=>simp[h1,h2]at b
def cnt(f:Nat->Bool):Nat->Nat
 | 0=>0
 | n+1=>cnt f n+(if f n=true then 1 else 0)
def mC{f g:Nat->Bool}:∀{n:Nat},(∀k,k<n->f k=g k)->cnt f n=cnt g n
 | 0,_=>rfl
 | n+1,h=>by
   unfold cnt;rw[mC λk hk=>h k (by lia),h n (by lia)]
def sY{f g:Nat->Bool}{h:Nat}(hg:g h=true):∀{p:Nat},h<p->(∀x,x<p->f x=(g x && !decide (x=h)))->cnt g p=cnt f p+1
 | 0,hh,_=>absurd hh (aa9 _)
 | p+1,hh,e=>by
   unfold cnt
   by_cases q:h=p
   ·subst q;have z:cnt g h=cnt f h:=mC λk hk=>by rw[e k (by lia)];simp[show k≠h by lia]
    rw[z,Z1 hg,e h (by lia)]
    simp
   ·rw[sY hg (by lia) λx hx=>e x (by lia),e p (by lia)]
    simp[aaq q]
    lia
def mD(f:Nat->Bool):∀n,((List.range n).filter f).length=cnt f n
 | 0=>rfl
 | n+1=>by
   rw[abD,ab5,Z7,mD f n];show _=cnt f n+(if f n=true then 1 else 0)
   cases h:f n with
   | true=>rw[aay,Z1 h];rfl
   | false=>rw[aay,Z0 (by rw[h];simp)];rfl
def Cs(f:Nat->Bool):∀n,cnt f n+cnt (λk=>!f k) n=n
 | 0=>rfl
 | n+1=>by
   have I:=Cs f n;unfold cnt;cases h:f n<;>simp<;>lia
def Ct{f:Nat->Bool}:∀{n:Nat},(∀k,k<n->f k=true)->cnt f n=n
 | 0,_=>rfl
 | n+1,h=>by
   unfold cnt;rw[Ct λk hk=>h k (by lia),Z1 (h n (by lia))]
variable {N:Net}{S:Nat->Bool}
def Net.root(N:Net)(S:Nat->Bool)(k x:Nat):Bool:=decide (N.bU S k x=x)
def iO(k:Nat):N.bU S (k+1)=if S k=true then join (N.bU S k) (N.a k) (N.b k) else N.bU S k:=by
 conv=>lhs;unfold Net.bU
def Cu{k x:Nat}(h:x<N.p):N.bU S k x<N.p:=abp (r6 k x) h
def DC{L:Nat->Nat}{u v:Nat}(hr:∀x,L (L x)=L x)(hne:L u≠L v)(x:Nat):decide (join L u v x=x)=(decide (L x=x) && !decide (x=max (L u) (L v))):=by
 have I:L (max (L u) (L v))=max (L u) (L v):=by
  rcases acG (L u) (L v) with q|q
  ·rw[acX q];exact hr v
  ·rw[Nat.max_eq_left q];exact hr u
 have O:L (min (L u) (L v))=min (L u) (L v):=by
  rcases acG (L u) (L v) with q|q
  ·rw[ab2 q];exact hr u
  ·rw[acW q];exact hr v
 unfold join
 by_cases h:L x=max (L u) (L v)
 ·rw[Z1 h];have h1 : ¬ min (L u) (L v)=x:=λz=>by
   rw[<-z,O]at h
   lia
  by_cases h2:x=max (L u) (L v)
  ·simp[h1,h2]
   lia
  ·have U : ¬ L x=x:=λz=>h2 (z.symm.trans h)
   simp[h1,U]
 ·rw[Z0 h];have h2 : ¬ x=max (L u) (L v):=λz=>h (by rw[z];exact I)
  simp[h2]
def A4{k:Nat}(hk:k<N.n):cnt (N.root S k) N.p=cnt (N.root S (k+1)) N.p+(if(S k && !decide (N.bU S k (N.a k)=N.bU S k (N.b k)))=true then 1 else 0):=by
 cases hs:S k with
 | false =>
   have e:N.root S (k+1)=N.root S k:=by unfold Net.root;rw[iO,Z0 (by rw[hs];simp)]
   rw[e];simp
 | true =>
   by_cases h:N.bU S k (N.a k)=N.bU S k (N.b k)
   ·have e:N.root S (k+1)=N.root S k:=by unfold Net.root;rw[iO,Z1 hs,vL h]
    rw[e];simp[h]
   ·have I:N.bU S k (max (N.bU S k (N.a k)) (N.bU S k (N.b k)))=max (N.bU S k (N.a k)) (N.bU S k (N.b k)):=by
     rcases acG (N.bU S k (N.a k)) (N.bU S k (N.b k)) with q|q
     ·rw[acX q];exact iN _ _
     ·rw[Nat.max_eq_left q];exact iN _ _
    have h1:=Cu (S:=S) (k:=k) (N.al k hk);have h2:=Cu (S:=S) (k:=k) (N.bl k hk);rw[sY (f:=N.root S (k+1)) (g:=N.root S k) (h:=max (N.bU S k (N.a k)) (N.bU S k (N.b k))) (fG I) (by lia) λx _=>by
     unfold Net.root;rw[iO,Z1 hs];exact DC (iN k) h x]
    simp[h]
def ou:∀k,k<=N.n->cnt (N.root (λ_=>true) k) N.p+cnt N.fZ k=N.p
 | 0,_=>by
   show cnt (N.root (λ_=>true) 0) N.p+0=N.p
   rw[Ct (f:=N.root (λ_=>true) 0) λx _=>fG rfl]
   rfl
 | k+1,hk=>by
   have I:=ou k (by lia)
   have st:=A4 (N:=N) (S:=λ_=>true) (k:=k) (by lia)
   have e:((λ_=>true:Nat->Bool) k && !decide (N.bU (λ_=>true) k (N.a k)=N.bU (λ_=>true) k (N.b k)))=N.fZ k:=by rw[abF];rfl
   rw[e]at st;show cnt (N.root (λ_=>true) (k+1)) N.p+(cnt N.fZ k+if N.fZ k=true then 1 else 0)=N.p
   lia
def yT:(N.n:Int)-N.p+cnt (N.root (λ_=>true) N.n) N.p=(cnt (λk=>!N.fZ k) N.n:Nat):=by
 have h:=ou (N:=N) N.n (Z3 _);have h2:=Cs N.fZ N.n
 lia
def Net.aM(N:Net):List Nat:=(List.range N.n).filter λk=>!N.fZ k
def cX{c:Nat}:c∈N.aM↔c<N.n/\N.fZ c=false:=by
 unfold Net.aM;rw[aao,aan];simp
def nk:N.aM.length=cnt (λk=>!N.fZ k) N.n:=mD _ _
def cK{m n:Nat}(h:∀k,m.testBit k=true->k<n):m<2^n:=Nat.lt_pow_two_of_testBit m λk hk=>by
 cases q:m.testBit k with
 | false=>rfl
 | true=>exact absurd (h k q) (by lia)
def cY{m n k:Nat}(h:m<2^n)(hb:m.testBit k=true):k<n:=by
 by_cases q:k<n
 ·exact q
 ·have z:=aaH (aaf h (abe (by decide) (show n<=k by lia)))
  rw[hb]at z;cases z
def Gh{m q:Nat}(hm:m<2^N.n)(hq:q<2^N.n)(em:N.dU m)(eq:N.dU q)(h:∀c,c<N.n->N.fZ c=false->m.testBit c=q.testBit c):m=q:=by
 have z:m^^^q=0:=fM (N:=N) (λk hk=>by
  have I:=cY (aaM hm hq) hk;refine⟨I,?_⟩;cases hf:N.fZ k with
  | true=>rfl
  | false =>
    rw[Z8,h k I hf]at hk;simp at hk) (dU.xor em eq)
 have e:m=m^^^q^^^q:=by rw[aaR,abj,aaW]
 rw[e,z,aaS]
def oz{c:Nat}(h:c<N.n):N.ring c<2^N.n:=cK λk hk=>by
 rcases lO hk with rfl|⟨q,_⟩
 ·exact h
 ·exact q
def kP{c d:Nat}(hc:N.fZ c=false)(hd:N.fZ d=false):(N.ring c).testBit d=decide (c=d):=by
 by_cases e:c=d
 ·subst e;rw[sX hc];simp
 ·cases q:(N.ring c).testBit d with
  | false=>simp[e]
  | true=>rcases lO q with rfl | ⟨_,r⟩
          ·exact absurd rfl e
          ·rw[hd]at r;cases r
end RM
namespace Ring
open PySem L2
def maskOf(f:Nat->Bool):Nat->Nat
 | 0=>0
 | n+1=>(if f n=true then 2^n else 0)+maskOf f n
def mask_lt(f:Nat->Bool):∀n,maskOf f n<2^n
 | 0=>by show 0<1;decide
 | n+1=>by
   have I:=mask_lt f n;have e:2^(n+1)=2^n+2^n:=by rw[abr];lia
   unfold maskOf
   split<;>lia
def mask_bit(f:Nat->Bool)(j:Nat):∀n,(maskOf f n).testBit j=(decide (j<n)&&f j)
 | 0=>by simp[maskOf]
 | n+1=>by
   have I:=mask_bit f j n;have O:=mask_lt f n;unfold maskOf
   by_cases h:f n=true
   ·rw[Z1 h];rcases Nat.lt_trichotomy j n with q|q|q
    ·rw[Nat.testBit_two_pow_add_gt q,I];simp[q,show j<n+1 by lia]
    ·subst q;rw[Nat.testBit_two_pow_add_eq,I];simp[h]
    ·have z:2^n+maskOf f n<2^j:=aaf (show 2^n+maskOf f n<2^(n+1) by rw[abr];lia) (abe (by decide) q)
     rw[aaH z];simp[show ¬ j<n+1 by lia]
   ·rw[Z0 h,Nat.zero_add,I]
    by_cases q:j=n
    ·subst q;have h' : f j=false:=by simpa using h
     simp[h']
    ·by_cases r:j<n
     ·simp[r,show j<n+1 by lia]
     ·simp[r,show ¬ j<n+1 by lia]
def Gi(n:Nat):maskOf (λ_=>true) n=2^n-1:=by
 induction n with
 | zero=>rfl
 | succ n I =>
   unfold maskOf;rw[I,Z1 rfl,abr];have:=aa2 n
   lia
def Cv(n j:Nat):(2^n-1).testBit j=decide (j<n):=by
 rw[<-Gi,mask_bit];simp
def Mm{a b x y:Nat}(q:x/2+y/2=a/2+b/2)(h:x%2+y%2=a%2+b%2):x+y=a+b:=by lia
def Mn{u v:Nat}(hu:u=0\/u=1)(hv:v=0\/v=1):(u ||| v)+(u&&&v)=u+v:=by
 rcases hu with rfl|rfl<;>rcases hv with rfl|rfl<;>rfl
def Mp:∀a b:Nat,(a ||| b)+(a&&&b)=a+b:=by
 intro a
 induction a using Nat.strongRecOn with
 | ind a ih =>
   intro b
   by_cases h:a=0
   ·subst h;simp
   ·have q:=ih (a/2) (by lia) (b/2)
    rw[<-Nat.or_div_two,<-Nat.and_div_two]at q;refine Mm q ?_;have I:(a ||| b)%2=a%2 ||| b%2:=Nat.or_mod_two_pow (n:=1)
    have O:(a&&&b)%2=a%2&&&b%2:=Nat.and_mod_two_pow (n:=1);rw[I,O];exact Mn (abE a) (abE b)
def or_int(a b:Nat):Builtin.bitOr (a:Int) (b:Int)=((a ||| b:Nat):Int):=by
 have q:=Mp a b;rw[PyProof.Rows.bitOr_and,acn (by lia) (by lia)]
 have h:(a:Int)+b-((a&&&b:Nat):Int)=((a ||| b:Nat):Int):=by lia
 simpa using h
def r9(k:Nat):(1:Int)*2^(k:Int).toNat=((2^k:Nat):Int):=by
 rw[aah,Int.one_mul];simp
def dW{ts:List cJ}{k:Nat}(h:k<ts.length):bj ts k∈ts:=by
 unfold bj;rw[Z6];simp[h]
def vN{ts:List cJ}{k:Nat}(h:k<ts.length):ts[k]?=some (bj ts k):=by
 unfold bj;rw[Z6];simp[h]
def aD.N{p:Nat}{ts:List cJ}(g:aD p ts):RM.Net where
 p:=p
 n:=ts.length
 a:=λk=>(bj ts k).1.toNat
 b:=λk=>(bj ts k).2.1.toNat
 al:=λk hk=>by
  have z:=g.rC _ (dW hk);have I:=z.a0;have O:=z.a1
  lia
 bl:=λk hk=>by
  have z:=g.rC _ (dW hk);have I:=z.b0;have O:=z.b1
  lia
 ne:=λk hk e=>by
  have z:=g.rC _ (dW hk);have I:=z.a0;have O:=z.b0;exact z.ne (by lia)
def Gj{p:Nat}{ts:List cJ}{g:aD p ts}{k:Nat}(h:k<ts.length):(bj ts k).1=((g.N.a k:Nat):Int):=by
 have z:=(g.rC _ (dW h)).a0;show _=(((bj ts k).1.toNat:Nat):Int)
 lia
def Gk{p:Nat}{ts:List cJ}{g:aD p ts}{k:Nat}(h:k<ts.length):(bj ts k).2.1=((g.N.b k:Nat):Int):=by
 have z:=(g.rC _ (dW h)).b0;show _=(((bj ts k).2.1.toNat:Nat):Int)
 lia
def gJ(f:Nat->Nat)(n:Nat):List V:=(List.range n).map λx=>V.int ((f x:Nat):Int)
def fN(f:Nat->Nat)(n:Nat):(gJ f n).length=n:=by unfold gJ;rw[ZZ,aax]
def bY{f:Nat->Nat}{n x:Nat}(h:x<n):(gJ f n)[x]?=some (.int ((f x:Nat):Int)):=by
 unfold gJ;rw[Z9,acN h];rfl
def se{f:Nat->Nat}{n x:Nat}{v:V}(h:(gJ f n)[x]?=some v):x<n/\v = .int ((f x:Nat):Int):=by
 have hx:x<n:=by
  have:=(ju.mp h).1
  rwa [fN]at this
 rw[bY hx]at h;exact⟨hx,(Option.some.inj h).symm⟩
def vO(f:Nat->Nat)(n:Nat):gJ f (n+1)=gJ f n++[.int ((f n:Nat):Int)]:=by
 unfold gJ;rw[abD,aaw];rfl
def Gm(p:Nat):(List.replicate p [V.int 0]).flatten=gJ (λ_=>0) p:=by
 induction p with
 | zero=>rfl
 | succ p I =>
   rw[vO,<-I,List.replicate_succ',List.flatten_append];rfl
def xy(f:Nat->Nat)(H:Hp)(D:Addr)(i:Nat)(acc:List V)(H2:Hp):Prop:=aq H H2/\H2 D=some (.lst acc)/\acc=gJ f i
section
variable {f:Nat->Nat}{H H2 H3:Hp}{D:Addr}{i:Nat}{acc:List V}{v:V}
def xy.start(hD:H D=none):xy f H D 0 [] (upd H D (.lst [])):=⟨aq.new hD,af,rfl⟩
def xy.len(p:xy f H D i acc H2):H2 D=some (.lst acc)/\acc.length<=i:=⟨p.2.1,by rw[p.2.2,fN];exact Z3 _⟩
def xy.next(p:xy f H D i acc H2)(hD:H D=none)(s:aq H2 H3)(hv:v = .int ((f i:Nat):Int)):H3 D=some (.lst acc)/\xy f H D (i+1) (acc++[v]) (upd H3 D (.lst (acc++[v]))):=by
 refine⟨s _ _ p.2.1,(p.1.trans s).put hD,af,?_⟩;rw[vO,<-p.2.2,hv]
end
def vP{N:RM.Net}{m:Nat}:∀n,((List.range n).filter λk=>m.testBit k).foldl (λL k=>RM.join L (N.a k) (N.b k)) (λx=>x)=N.bU (λk=>m.testBit k) n
 | 0=>rfl
 | n+1=>by
   rw[cD,ack,vP n,RM.iO]
   split<;>rfl
end Ring
namespace RM
def nu{N:Net}{S S' : Nat->Bool}:∀{n:Nat},(∀k,k<n->S k=S' k)->N.bU S n=N.bU S' n
 | 0,_=>rfl
 | n+1,h=>by rw[iO,iO,nu λk hk=>h k (by lia),h n (by lia)]
end RM
namespace Ring
open PySem L2
def pieceOf(L:Nat->Nat)(p s:Nat):List Nat:=(List.range p).filter λx=>decide (L x=s)
def eT(L:Nat->Nat)(p:Nat):List Nat:=(List.range p).filter λx=>decide (L x=x)
def K0(D:Addr)(H0 H:Hp)(y:V)(l:List Nat):Prop:=∃b,y = .ref b/\b≠D/\H0 b=none/\H b=some (.lst (aB l))
def sZ(L:Nat->Nat)(p:Nat)(H:Hp)(D:Addr)(i:Nat)(H2:Hp):Prop:=aq H H2/\∃ys,H2 D=some (.lst ys)/\Paired (K0 D H H2) ys ((eT L i).map (pieceOf L p))/\ys.length<=i
section
variable {L:Nat->Nat}{p i:Nat}{H H2 H3:Hp}{D b:Addr}
def sZ.start(hD:H D=none):sZ L p H D 0 (upd H D (.lst [])):=⟨aq.new hD,[],af,.nil,Z3 _⟩
def tu:eT L (i+1)=eT L i++(if L i=i then[i] else[]):=by
 unfold eT;rw[cD]
 by_cases h:L i=i<;>simp[h]
def sZ.skip(h:sZ L p H D i H2)(hn : ¬ L i=i):sZ L p H D (i+1) H2:=by
 obtain⟨s,ys,hd,pr,I⟩:=h;refine⟨s,ys,hd,?_,by lia⟩
 rw[tu,Z0 hn,abq];exact pr
def sZ.push(h:sZ L p H D i H2)(hD:H D=none)(hr:L i=i)(s:aq H2 H3)(hb:H2 b=none)(WN:H3 b=some (.lst (aB (pieceOf L p i)))):
 ∃ys,H3 D=some (.lst ys)/\ys.length<=i/\sZ L p H D (i+1) (upd H3 D (.lst (ys++[.ref b]))):=by
 obtain⟨s2,ys,hd,pr,O⟩:=h;have U:=s _ _ hd;have I:b≠D:=λe=>by rw[e,hd]at hb;cases hb
 refine⟨ys,U,O,(s2.trans s).put hD,ys++[.ref b],af,?_,by rw[Z7,aaL];lia⟩
 rw[tu,Z1 hr,aaw];refine Paired.snoc (Paired.imp' (λ_ _ ⟨e,he,hn,h0,q⟩=>⟨e,he,hn,h0,by rw[ae hn];exact s _ _ q⟩) pr) ?_
 exact⟨b,rfl,I,s2.free hb,by rw[ae I];exact WN⟩
end
def qS(p:Nat)(ts:List cJ)(g:aD p ts)(ks:List Nat):Nat->Nat:=ks.foldl (λL k=>RM.join L (g.N.a k) (g.N.b k)) λx=>x
def A5{p:Nat}{ts:List cJ}{g:aD p ts}{ks:List Nat}{k:Nat}:qS p ts g (ks++[k])=RM.join (qS p ts g ks) (g.N.a k) (g.N.b k):=by
 unfold qS;rw[ack];rfl
def jb(p:Nat)(ts:List cJ)(g:aD p ts)(m:Nat):Nat->Nat:=g.N.bU (λk=>m.testBit k) ts.length
def A6{p:Nat}{ts:List cJ}{g:aD p ts}{m:Nat}(hm:m<2^ts.length):qS p ts g (bT (m:Int))=jb p ts g m:=by
 unfold qS jb;rw[i7 hm];exact vP _
def Jv{p:Nat}{ts:List cJ}{g:aD p ts}:jb p ts g (2^ts.length-1)=g.N.cy ts.length:=by
 unfold jb RM.Net.cy;exact RM.nu λk hk=>by rw[Cv];simp[hk]
def Jw{p:Nat}{ts:List cJ}{g:aD p ts}:(ts.length:Int)-(p:Int)+(eT (jb p ts g (2^ts.length-1)) p).length=(g.N.aM.length:Int):=by
 have h:=RM.yT (N:=g.N);rw[RM.nk];unfold eT;rw[RM.mD,Jv];exact h
def Jx(a b:Nat):(if(b:Int)<(a:Int) then(b:Int) else(a:Int))=((min a b:Nat):Int):=by
 split<;>lia
def Cw(a b:Nat):(if(b:Int) > (a:Int) then(b:Int) else(a:Int))=((max a b:Nat):Int):=by
 split<;>lia
def oA(a b:Nat):decide (V.int (a:Int)=V.int (b:Int))=decide (a=b):=by
 rw[aa1];simp
 lia
end Ring
namespace RM
variable {N:Net}{S:Nat->Bool}
variable {pt r j:Nat}{l:List Nat}
def Gn{l:List Nat}:∀{p:Nat},l.Nodup->(∀x∈l,x<p)->l.length<=p:=by
 intro p hn I;have O:l.Perm ((List.range p).filter λx=>decide (x∈l)):=by
  refine(List.perm_ext_iff_of_nodup hn (acH _ abu)).mpr λa=>?_
  rw[aao,aan];simp;exact λh=>I a h
 rw[O.length_eq];have:=aaP (λx=>decide (x∈l)) (List.range p)
 rwa [aax]at this
end RM
namespace Ring
open PySem L2
def A7{p:Nat}{f:Nat->Bool}:((List.range p).filter f).Pairwise (· < ·):=acH _ List.pairwise_lt_range
def tw(l:List Nat):aB l=(l.map λx=>((x:Nat):Int)).map V.int:=by unfold aB;rw[abk];rfl
def lP(u:Nat)(l:List Nat):E1 (.int (u:Int)) (aB l)=decide (u∈l):=by
 unfold E1 aB;rw[List.any_map,aa1,acY];simp only[Function.comp,decide_eq_true_eq]
 constructor
 ·rintro⟨x,hx,h⟩;have e:((x:Nat):Int)=(u:Int):=eq_of_beq h;have:x=u:=by lia
  exact this▸hx
 ·intro h;exact⟨u,h,by simp[FL]⟩
def iP(l:List Nat):(aB l).all ly=true:=by
 unfold aB;rw[List.all_map,acr];intro x _;rfl
def and_int(a b:Nat):Builtin.bitAnd (a:Int) (b:Int)=((a&&&b:Nat):Int):=by
 rw[acn (by lia) (by lia)]
 simp
def ND(T:Nat->Nat):Nat->Nat
 | 0=>0
 | n+1=>ND T n ||| T n
def Cy(T:Nat->Nat)(j:Nat):∀n,(ND T n).testBit j=true↔∃x,x<n/\(T x).testBit j=true
 | 0=>by simp[ND]
 | n+1=>by
   unfold ND;rw[Nat.testBit_or,Bool.or_eq_true,Cy T j n]
   constructor
   ·rintro(⟨x,hx,h⟩|h)
    ·exact⟨x,by lia,h⟩
    ·exact⟨n,by lia,h⟩
   ·rintro⟨x,hx,h⟩
    by_cases e:x=n
    ·subst e;exact .inr h
    ·exact .inl ⟨x,by lia,h⟩
section
variable {p:Nat}{ts:List cJ}{g:aD p ts}
def jz(p:Nat)(ts:List cJ)(g:aD p ts):Nat:=maskOf g.N.fZ ts.length
def A8:ND (g.N.trail ts.length) p=jz p ts g:=by
 refine aaE λj=>?_
 unfold jz;rw[mask_bit,aa1,Cy];simp only[aaT,decide_eq_true_eq]
 constructor
 ·rintro⟨x,_,h⟩;exact RM.kg _ _ _ h
 ·rintro⟨h1,h2⟩;rcases RM.DB (N:=g.N) h1 h2 with h|h
  ·exact⟨_,g.N.al j h1,h⟩
  ·exact⟨_,g.N.bl j h1,h⟩
def A9(j:Nat):((2^ts.length-1)^^^jz p ts g).testBit j=(decide (j<ts.length) && !g.N.fZ j):=by
 unfold jz;rw[Z8,Cv,mask_bit];cases decide (j<ts.length)<;>cases g.N.fZ j<;>rfl
def vQ:(2^ts.length-1)^^^jz p ts g<2^ts.length:=aaM (by have:=aa2 ts.length;lia) (mask_lt _ _)
def yU:bT (((2^ts.length-1)^^^jz p ts g:Nat):Int)=g.N.aM:=by
 rw[i7 vQ];unfold RM.Net.aM;refine List.filter_congr λk hk=>?_
 have:=aan.mp hk;rw[A9];simp[this]
end
def Jy(n:Nat):((2:Int)^n-1)=((2^n-1:Nat):Int):=by
 have h:((2:Int)^n)=((2^n:Nat):Int):=by simp
 have:=aa2 n
 lia
def Mq{S:Int}{l:List Nat}(h:∀c∈l,S≠((c:Nat):Int)):E1 (.int S) (aB l)=false:=by
 unfold E1 aB;rw[List.any_map,List.any_eq_false];intro x hx z;exact h x hx (eq_of_beq z).symm
def Jz{l:List Nat}{i:Nat}{k:Nat}(h:l[i]?=some k):(aB l)[i]?=some (.int (k:Int)):=by
 unfold aB;rw[Z9,h];rfl
def u9(f:Nat->Int)(l:List Nat)(H:Hp)(D:Addr)(i:Nat)(acc:List V)(H2:Hp):Prop:=aq H H2/\H2 D=some (.lst acc)/\acc=((l.take i).map f).map V.int
section
variable {f:Nat->Int}{l:List Nat}{H H2 H3:Hp}{D:Addr}{i k:Nat}{acc:List V}{v:V}
def u9.start(hD:H D=none):u9 f l H D 0 [] (upd H D (.lst [])):=⟨aq.new hD,af,rfl⟩
def u9.len(p:u9 f l H D i acc H2):H2 D=some (.lst acc)/\acc.length<=i:=by
 refine⟨p.2.1,?_⟩;rw[p.2.2,ZZ,ZZ,abc]
 lia
def u9.next(p:u9 f l H D i acc H2)(hD:H D=none)(s:aq H2 H3)(hk:l[i]?=some k)(hv:v = .int (f k)):H3 D=some (.lst acc)/\u9 f l H D (i+1) (acc++[v]) (upd H3 D (.lst (acc++[v]))):=by
 refine⟨s _ _ p.2.1,(p.1.trans s).put hD,af,?_⟩;rw[aaK,hk,aaw,aaw,<-p.2.2,hv];rfl
def u9.fin(p:u9 f l H D l.length acc H2):H2 D=some (.lst ((l.map f).map V.int)):=by rw[p.2.1,p.2.2,aaV]
end
end Ring
namespace RM
def tD(f:Nat->Bool):∀n,bL f n=decide (cnt f n%2=1)
 | 0=>rfl
 | n+1=>by
   unfold bL cnt;rw[tD f n]
   by_cases h:f n=true
   ·rw[h,Z1 rfl]
    by_cases q:cnt f n%2=1
    ·have q' : ¬(cnt f n+1)%2=1:=by lia
     simp[q,q']
    ·have q' : (cnt f n+1)%2=1:=by lia
     simp[q,q']
   ·have h' : f n=false:=by simpa using h
    rw[h',Z0 (by decide)]
    simp
end RM
namespace Ring
open PySem L2
def lenOf(ts:List cJ)(m:Nat):Int:=((bT (m:Int)).map λk=>(bj ts k).2.2).sum
def DE(ts:List cJ)(f:Nat->Bool):Nat->Int
 | 0=>0
 | n+1=>DE ts f n+(if f n=true then(bj ts n).2.2 else 0)
def qT(ts:List cJ)(f:Nat->Bool):∀n,(((List.range n).filter f).map λk=>(bj ts k).2.2).sum=DE ts f n
 | 0=>rfl
 | n+1=>by
   rw[cD,aaw,List.sum_append,qT ts f n];show _=DE ts f n+(if f n=true then(bj ts n).2.2 else 0)
   split<;>simp
def DF{ts:List cJ}{m:Nat}(hm:m<2^ts.length):lenOf ts m=DE ts (λk=>m.testBit k) ts.length:=by
 unfold lenOf;rw[i7 hm];exact qT ts _ _
section
variable {p:Nat}{ts:List cJ}(g:aD p ts)
include g
end
end Ring
namespace RM
def sm(f:Nat->Nat):Nat->Nat
 | 0=>0
 | n+1=>sm f n+f n
def yV{f g:Nat->Nat}:∀{n:Nat},(∀k,k<n->f k=g k)->sm f n=sm g n
 | 0,_=>rfl
 | n+1,h=>by
   show sm f n+f n=sm g n+g n;rw[yV λk hk=>h k (by lia),h n (by lia)]
def Cz:∀n,sm (λ_=>0) n=0
 | 0=>rfl
 | n+1=>by
   show sm (λ_=>0) n+0=0
   rw[Cz n]
def pN(f:Nat->Bool):∀n,cnt f n=sm (λk=>if f k=true then 1 else 0) n
 | 0=>rfl
 | n+1=>by
   show cnt f n+(if f n=true then 1 else 0)=sm (λk=>if f k=true then 1 else 0) n+(if f n=true then 1 else 0)
   rw[pN f n]
def Gp{f g:Nat->Nat}:∀{n:Nat},(∀k,k<n->f k<=g k)->sm f n<=sm g n
 | 0,_=>Z3 _
 | n+1,h=>by
   have h1:=Gp (f:=f) (g:=g) (n:=n) λk hk=>h k (by lia)
   have h2:=h n (by lia)
   show sm f n+f n<=sm g n+g n
   lia
def O1{f g:Nat->Nat}{n:Nat}(h:∀k,k<n->f k<=g k)(e:sm f n=sm g n):∀k,k<n->f k=g k:=by
 induction n with
 | zero=>exact λk hk=>absurd hk (aa9 _)
 | succ n O =>
   intro k hk;have h1:=Gp (f:=f) (g:=g) (n:=n) λk hk=>h k (by lia)
   have h2:=h n (by lia)
   have e:sm f n+f n=sm g n+g n:=e
   by_cases I:k=n
   ·subst I
    lia
   ·exact O (λj hj=>h j (by lia)) (by lia) k (by lia)
def Mr{f g:Nat->Bool}{n:Nat}(h:∀k,k<n->f k=true->g k=true):cnt f n<=cnt g n:=by
 rw[pN,pN];refine Gp λk hk=>?_
 by_cases hf:f k=true
 ·rw[Z1 hf,Z1 (h k hk hf)];exact Z3 _
 ·rw[Z0 hf];exact aaB _
def Gq{f g:Nat->Bool}{n:Nat}(h:∀k,k<n->f k=true->g k=true)(e:cnt f n=cnt g n):∀k,k<n->g k=true->f k=true:=λk hk I=>by
 rw[pN,pN]at e;have q:=O1 (n:=n) (λk hk=>by
  by_cases hf:f k=true
  ·rw[Z1 hf,Z1 (h k hk hf)];exact Z3 _
  ·rw[Z0 hf];exact aaB _) e k hk
 rw[Z1 I]at q
 by_cases hf:f k=true
 ·exact hf
 ·rw[Z0 hf]at q
  lia
def yW{f:Nat->Bool}:∀{n:Nat},0<cnt f n->∃k,k<n/\f k=true
 | 0,h=>absurd h (aa5 _)
 | n+1,h=>by
   by_cases hf:f n=true
   ·exact⟨n,by lia,hf⟩
   ·have h:0<cnt f n+(if f n=true then 1 else 0):=h
    rw[Z0 hf]at h;obtain⟨k,hk,q⟩:=yW (f:=f) (n:=n) (by lia)
    exact⟨k,by lia,q⟩
def CA{f:Nat->Bool}{k:Nat}(hf:f k=true):∀{n:Nat},k<n->0<cnt f n
 | 0,h=>absurd h (aa9 _)
 | n+1,h=>by
   show 0<cnt f n+(if f n=true then 1 else 0)
   by_cases hk:k=n
   ·subst hk;rw[Z1 hf]
    lia
   ·have:=CA hf (n:=n) (by lia)
    lia
variable {N:Net}
def Net.dg(N:Net)(m x:Nat):Nat:=cnt (λk=>m.testBit k&&N.inc k x) N.n
def O2(m x:Nat):N.bd m x=decide (N.dg m x%2=1):=tD _ _
def JA{k x:Nat}(hk:k<N.n):N.inc k x=true↔(N.a k=x\/N.b k=x):=by
 have ne:=N.ne k hk;unfold Net.inc
 by_cases h1:N.a k=x
 ·have h2 : ¬ N.b k=x:=λz=>ne (h1.trans z.symm)
  simp[h1,h2]
 ·by_cases h2:N.b k=x
  ·simp[h1,h2]
  ·simp[h1,h2]
def JB{m x:Nat}(h:0<N.dg m x):∃k,k<N.n/\m.testBit k=true/\(N.a k=x\/N.b k=x):=by
 obtain⟨k,hk,q⟩:=yW h;rw[aaT]at q;exact⟨k,hk,q.1,(JA hk).mp q.2⟩
def Net.Ring(N:Net)(m:Nat):Prop:=m≠0/\N.dU m/\∀q,(∀k,q.testBit k=true->m.testBit k=true)->N.dU q->q=0\/q=m
end RM
namespace Ring
open PySem L2
def Gr{m n:Nat}(hm:m<2^n):(bT (m:Int)).length=RM.cnt (λk=>m.testBit k) n:=by
 rw[i7 hm];exact RM.mD _ _
end Ring
namespace L2
open PySem PySem.Spec PyProof.Rows
section
variable {prog:Program}{w:World}{A:Around}{E:cP}{s:Shared}
def Ba{it t:Addr}{i:Nat}{items:Array Value}{x:Value}{Q:cP}(hit:s.heap.IsTupleIter it t i)(ht:s.heap.IsTuple t items)(hx:items[i]?=some x)
 (q:∀h',h'.IsTupleIter it t (i+1)->Heap.SameBut it s.heap h'->Q x { s with heap:=h'}):wpAny (model prog w) A (Builtin.SmallTypes.nextOf (.ref it)) Q E s:=by
 obtain⟨o,I,hc,hd⟩:=id hit;obtain⟨ot,Sd,_,nt,hdt⟩:=ht;rw[Builtin.SmallTypes.nextOf];refine aQ (wpAny_callSpecial?_slot (name:=Str.ofString "__next__") hit.typeIs F.slot_tuple_iterator_next (wpAny_call_entry F.slot_tuple_iterator_next hit.typeIs F.entry_tuple_iterator_next ?_ (F.args_tuple_iterator_next_1 _)));show wpAny _ _ (field (.ref it) 0 >>= λ_=>_) _ _ s
 refine aQ (wpAny_field I hd (x:=.ref t) rfl ?_);show wpAny _ _ (if(Value.ref t==Value.none)=true then _ else _) _ _ s
 rw[Z0 (by simp)]
 show wpAny _ _ (field (.ref it) 1 >>= λ_=>_) _ _ s
 refine aQ (wpAny_field I hd (x:=.int i 0) rfl ?_);show wpAny _ _ (seqItems? (.ref t) >>= λ_=>_) _ _ s
 refine aQ (wpAny_seqItems Sd hdt ?_);simp only[aah,hx];refine aQ (wpAny_setField I hd (by simp) (Z5 ⟨x,rfl,Z5 (q _ ?_ (aaJ ..))⟩))
 refine⟨_,abo _ I (abV (abQ hd _)),(Obj.cls_mapFields ..).trans hc,?_⟩;rw[abQ hd];simp[rawInt]
def DG{it t:Addr}{i:Nat}{items:Array Value}{Q:cP}(hh:A.handled=none)(hit:s.heap.IsTupleIter it t i)(ht:s.heap.IsTuple t items)(hx:items[i]?=none)
 (q:∀h' e,Heap.ExtBut it s.heap h'->(∃o,h'.get? e=some o/\o.cls = .type "StopIteration")->E (.ref e) { s with heap:=h'}):wpAny (model prog w) A (Builtin.SmallTypes.nextOf (.ref it)) Q E s:=by
 obtain⟨o,I,hc,hd⟩:=id hit;obtain⟨ot,Sd,_,nt,hdt⟩:=ht;rw[Builtin.SmallTypes.nextOf];refine aQ (wpAny_callSpecial?_slot (name:=Str.ofString "__next__") hit.typeIs F.slot_tuple_iterator_next (wpAny_call_entry F.slot_tuple_iterator_next hit.typeIs F.entry_tuple_iterator_next ?_ (F.args_tuple_iterator_next_1 _)));show wpAny _ _ (field (.ref it) 0 >>= λ_=>_) _ _ s
 refine aQ (wpAny_field I hd (x:=.ref t) rfl ?_);show wpAny _ _ (if(Value.ref t==Value.none)=true then _ else _) _ _ s
 rw[Z0 (by simp)]
 show wpAny _ _ (field (.ref it) 1 >>= λ_=>_) _ _ s
 refine aQ (wpAny_field I hd (x:=.int i 0) rfl ?_);show wpAny _ _ (seqItems? (.ref t) >>= λ_=>_) _ _ s
 refine aQ (wpAny_seqItems Sd hdt ?_);simp only[aah,hx];refine aQ (wpAny_rule (aQ (wpAny_setField I hd (by simp) ?_)))
 show wpAny _ _ (newExc (.type "StopIteration") [] >>= λ_=>_) _ _ _
 refine aQ ?_;simp only[newExc,newTuple];refine aQ (wpAny_newObj_type ?_ (by size_fits))
 refine aQ (m:=firstArgMember _ _) (wpAny_of_eq (a:=Value.none) (by first | rfl | (simp only[firstArgMember];rfl)) (wpAny_newObj_type ?_ (by size_fits)))
 exact wpAny_raiseNew_none hh (q _ _ (((aaJ ..).extBut.push _).push _) ⟨_,aag _ rfl,rfl⟩)
def qU(hh:A.handled=none)(it t:Addr)(hne:t≠it)(items:Array Value):
 Draws prog w A it [it,t] items.size (λi v=>items[i]?=some v) (λi h=>h.IsTupleIter it t i/\h.IsTuple t items) where
 live:=λ_ _ st=>let⟨o,ho,_⟩:=st.1;⟨o,ho⟩
 frame:=λ_ _ _ st hk=>⟨st.1.at λo e=>hk it (by simp) o e,st.2.at λo e=>hk t (by simp) o e⟩
 item:=λi s Q E hi st I=>Ba st.1 st.2 (x:=items[i]) (by simp[hi]) λh' O hs'=>I _ h' s.toks (by simp[hi]) ⟨O,st.2.extBut hs'.extBut hne⟩ hs'
 done:=λs Q E st U=>DG hh st.1 st.2 (by simp) U
end
open AutoSeq1 (wpAny_loadPart') in
def pO(l:Addr)(items:Array Value)(n:Nat)(dct:Option Addr)(sl:Array (Option Value)):
 Meets (Builtin.«enumerate.__new__» ⟨[.type "enumerate",.ref l],[]⟩) (λ_ R s=>s.heap.get? l=some { cls:=.type "tuple",dict:=dct,data:=.seq items n,slots:=sl}/\
  R (.ok (.ret (.ref (s.heap.push { cls:=.type "tuple_iterator",data:=.fields #[.ref l,.int 0 0]}).objs.size)))
    { s with heap:=(s.heap.push { cls:=.type "tuple_iterator",data:=.fields #[.ref l,.int 0 0]}).push { cls:=.type "enumerate",data:=.fields #[.none,.bool false,.ref s.heap.objs.size,rawInt 0,.none,.none]}}) :=
 .of_wp λprog w A R s h=>by
  obtain⟨U,g,d,tk,os⟩:=s;obtain⟨hl,h⟩:=h;have O:=sub_enumerate;have I:Heap.IsTuple (Shared.heap ⟨U,g,d,tk,os⟩) l items:=⟨_,hl,rfl,n,rfl⟩
  wp_walk using wpAny_loadPart' hl
  refine wpAny_stack_any λst=>Z5 ?_
  split
  ·rename_i c _ _ _ _ _
   cases(c==Value.type "enumerate")
   ·wp_walk using wpAny_loadPart' hl,wpAny_pyIter_tuple I
    exact⟨_,rfl,h⟩
   ·wp_walk using wpAny_loadPart' hl,wpAny_pyIter_tuple I
    exact⟨_,rfl,h⟩
  ·wp_walk using wpAny_loadPart' hl,wpAny_pyIter_tuple I
   exact⟨_,rfl,h⟩
section
variable {prog:Program}{w:World}{A:Around}{E:cP}{s:Shared}
def Bb{l:Addr}{items:Array Value}{Q:cP}(hL:s.heap.IsTuple l items)
 (h:∀h',IsEnum h' (s.heap.objs.size+1) s.heap.objs.size 0 .none->h'.IsTupleIter s.heap.objs.size l 0->h'.objs.size=s.heap.objs.size+2->(∀b o,s.heap.get? b=some o->h'.get? b=some o)->Q (.ref (s.heap.objs.size+1)) { s with heap:=h'}) :
 wpAny (model prog w) A (call (.type "enumerate") [.ref l]) Q E s:=by
 obtain⟨⟨c,I,dt,sl⟩,O,hc,n,hd⟩:=hL
 replace hc:c = .type "tuple":=hc
 replace hd:dt = .seq items n:=hd
 subst hc hd;refine callType_new F.called_enumerate (by decide) (F.typeCall_enumerate_1 _) (F.newCall_enumerate_1 _) (λobj=>F.args_object_init_2 obj _) F.entry_enumerate_new (pO l items n I sl) ⟨O,?_⟩
 have hz:(s.heap.push { cls:=.type "tuple_iterator",data:=.fields #[.ref l,.int 0 0]}).objs.size=s.heap.objs.size+1:=ab9 ..;show _/\_;rw[hz];have he:IsEnum ((s.heap.push { cls:=.type "tuple_iterator",data:=.fields #[.ref l,.int 0 0]}).push { cls:=.type "enumerate",data:=.fields #[.none,.bool false,.ref s.heap.objs.size,rawInt 0,.none,.none]}) (s.heap.objs.size+1) s.heap.objs.size 0 .none:=by
  have z:=aag (s.heap.push { cls:=.type "tuple_iterator",data:=.fields #[.ref l,.int 0 0]}) (o:={ cls:=.type "enumerate",data:=.fields #[.none,.bool false,.ref s.heap.objs.size,rawInt 0,.none,.none]}) rfl;rw[hz]at z;exact z
 exact⟨⟨_,he,rfl⟩,h _ he ⟨_,Z2 _ (aag _ rfl),rfl,rfl⟩ (by rw[ab9,hz]) λb o x=>Z2 _ (Z2 _ x)⟩
end
def DH(K:bH)(a:Addr):It :=
 ⟨λi H=>∃xs x,bf K H a xs/\xs[i]?=some x,λi H v H'=>∃T x,v = .ref T/\H T=none/\H' = upd H T (.tup [.int (i:Int),x])/\∀xs,bf K H a xs->xs[i]?=some x,λi H=>∃xs,bf K H a xs/\xs.length=i⟩
def Bc{P:Program}{w:World}{K:bH}{elts:List Expr}{k:Nat}{pos:Pos}(a e it:Addr)(hne:e≠it):
 Turn P w K (.Tuple elts k pos) (DH K a) [e,it] e (λi h=>(∃old,IsEnum h e it (i:Int) old)/\h.IsTupleIter it a i) where
 mem:=by simp
 obj:=λi h st b hb=>by
  obtain⟨⟨old,he⟩,o,ho,c,d⟩:=st;have O : b=e\/b=it:=by simpa using hb
  rcases O with rfl|rfl
  ·exact⟨_,he,λv z=>by cases z⟩
  ·exact⟨o,ho,λv z=>by rw[d]at z;cases z⟩
 keep:=λi h h' st k=>by
  obtain⟨⟨old,he⟩,hit⟩:=st;exact⟨⟨old,k e (by simp) _ he⟩,hit.at λo x=>k it (by simp) o x⟩
 item:=by
  intro X hP hw hK hc i pq s σ H E I hf st hg;subst hP hw hK;obtain⟨xs,x,hq,hx⟩:=hg;obtain⟨its,rv,p,hz⟩:=I.tuple hq;obtain⟨u,hu,ru⟩:=rv.get hx;obtain⟨⟨old,he⟩,hit⟩:=st;have Z:s.heap.IsTuple a its.toArray:=p;have U:a≠it:=λz=>by
   obtain⟨o1,h1,_,_,d1⟩:=Z;obtain⟨o2,h2,_,d2⟩:=hit;rw[z,h2]at h1;cases h1;rw[d2]at d1;cases d1
  have WQ:e∉[it,a]:=λz=>by
   have z' : e=it\/e=a:=by simpa using z
   rcases z' with z' | z'
   ·exact hne z'
   ·obtain⟨o1,h1,_,_,d1⟩:=Z;rw[<-z',he]at h1;cases h1;cases d1
  refine wpAny_pyNext_enum_itemD (qU (A:=X.A.in1) (I.ok.hd hc) it a U its.toArray) he ⟨hit,Z⟩ (by have:=(ju.mp hu).1;simpa using this) hne WQ λy h1 tk hy ho Sf hT ag hk=>?_
  have WR:y=u:=by
   have z:its.toArray[i]?=some u:=by simpa using hu
   rw[hy]at z;exact Option.some.inj z
  subst WR;refine⟨_,rfl,wpAny_letOwnedTupleGo_enum ho λh2 QH Y=>?_⟩
  have Uj:s.heap.objs.size≠e:=abi (aab he);have ab:h2.get? s.heap.objs.size=some { cls:=.type "tuple",data:=.seq #[.int i tk,y]}:=(Y.2 _ Uj).trans hT;refine⟨.ref s.heap.objs.size,upd H s.heap.objs.size (.tup [.int (i:Int),x]),I.yields (wr:=[e,it]) (t':=tk+1) (λb o hb q=>?_) hf (Z3 _) ?_,rfl,⟨_,x,rfl,I.fresh,rfl,λys hy=>by rw[I.vB hy hq];exact hx⟩,⟨⟨y,by simpa using QH⟩,?_⟩,λb hb=>?_⟩
  ·have OZ:b≠e:=λz=>hb (by simp[z])
   have WS:b≠it:=λz=>hb (by simp[z])
   exact(Y.2 b OZ).trans (hk b o OZ WS q)
  ·exact⟨dl rfl,[.int i tk,y],.cons ⟨_,rfl⟩ (.cons ru .nil),⟨_,ab,rfl,_,rfl⟩⟩
  ·exact Sf.1.at λo q=>(Y.2 it (aaq hne)).trans q
  ·rw[ae]
   ·exact(hf b hb).1
   ·have O : b=e\/b=it:=by simpa using hb
    rcases O with rfl|rfl
    ·exact aaq Uj
    ·obtain⟨o,q,_⟩:=hit;exact aak (aab q)
 done:=by
  intro X hP hw hK hc i pq s σ H E I hf st hg;subst hP hw hK;obtain⟨xs,hq,hx⟩:=hg;obtain⟨its,rv,p,hz⟩:=I.tuple hq;obtain⟨⟨old,he⟩,hit⟩:=st;have Z:s.heap.IsTuple a its.toArray:=p;have U:a≠it:=λz=>by
   obtain⟨o1,h1,_,_,d1⟩:=Z;obtain⟨o2,h2,_,d2⟩:=hit;rw[z,h2]at h1;cases h1;rw[d2]at d1;cases d1
  obtain⟨f0,f1,f2,f3,f4,f5⟩:=hf it (by simp)
  have hl:=rv.length;have hi:i=its.toArray.size:=by rw[aae];lia
  subst hi;exact wpAny_pyNext_enum_endD (qU (A:=X.A.in1) (I.ok.hd hc) it a U its.toArray) he ⟨hit,Z⟩ λh' eb=>⟨rfl,I.turned (t':=s.toks) (λb o hb e=>eb b o hb e) f0 f1 f3 f4 f5⟩
 self:=λ_ _ _ _ _ st h=>by
  obtain⟨⟨old,he⟩,_⟩:=st;exact wpAny_pyIter_enum he h
section
variable {X:Cx}{elts:List Expr}{n:Nat}{tp:Pos}
def Ms(K:bH)(ta:TA):TI:=λσ H R=>ta σ H λvs H1=>∃a,vs=[.ref a]/\(∃xs,bf K H1 a xs)/\R (DH K a) H1
def yX(K:bH){a:Expr}{ta:TA}{p pos:Pos}(hg:Gl X "enumerate")(hm:X.mg "enumerate"=none)(ha:PA X [a] ta)(hs:starEach [a] X.env=[(false,eval a X.env)]:=by rfl)(hK:X.K=K:=by rfl):
 PI X (.Tuple elts n tp) (.Call (.Name "enumerate" p) [a] [] pos) (Ms K ta):=by
 subst hK;intro pq s σ H R I h;refine Call_ (nc I hg hm boot_enumerate (abx (cM (ha pos pq s σ H _ I h) λus s1 ⟨vs,H1,O,r1,q1⟩=>?_) hs rfl))
 obtain⟨a,e,⟨xs,hq⟩,q⟩:=q1;subst e;cases r1 with
 | cons r rr =>
   cases rr;cases r;obtain⟨U,rv,pl,hz⟩:=O.tuple hq;refine Bb (show s1.heap.IsTuple a U.toArray from pl) λh' he hit ab hk=>?_
   have I2:Inv X pq σ H1 { s1 with heap:=h'}:=O.kept (t':=s1.toks) hk
   refine wpAny_pyIter_enum he ⟨_,[s1.heap.objs.size+1,s1.heap.objs.size],_,_,H1,rfl,I2,Bc a _ _ (acZ _),⟨⟨_,he⟩,hit⟩,λb hb=>?_,q⟩
   have Y : b=s1.heap.objs.size+1\/b=s1.heap.objs.size:=by simpa using hb
   have Z:s1.heap.objs.size<=b:=by
    rcases Y with rfl|rfl
    ·exact abv _
    ·exact Z3 _
   exact O.De Z (O.hok.fresh Z)
end
section
variable {K:bH}{a:Addr}{xs:List V}{g:TG}{tt:TT}{te:TE}{n:Nat}{fr:St}{D:Addr}{Q:Hp->Prop}{H1:Hp}
def Bd(Pv:Nat->List V->Hp->Prop)(h0:Pv 0 [] H1)(hl:∀i acc H,i<=xs.length->Pv i acc H->bf K H a xs/\H D=some (.lst acc)/\acc.length<=i)(hz:xs.length<=sizeLine)
 (hs:∀i x T acc H,xs[i]?=some x->Pv i acc H->H T=none->g (.ref T) (List.replicate n none++fr) (upd H T (.tup [.int (i:Int),x])) λσ2 H2=>σ2.drop n=fr/\tt σ2 H2 λb H3 =>
  if b=true then te σ2 H3 λv H4=>H4 D=some (.lst acc)/\Pv (i+1) (acc++[v]) (upd H4 D (.lst (acc++[v]))) else Pv (i+1) acc H3)
 (hd:∀acc H,Pv xs.length acc H->Q H):i0 (DH K a) g tt te n fr D Q H1:=by
 refine⟨λi m acc H=>m=xs.length-i/\i<=xs.length/\Pv i acc H,⟨xs.length,by simp,aaB _,h0⟩,?_⟩
 rintro i m acc H ⟨rfl,hi,p⟩;obtain⟨q,U,ha⟩:=hl i acc H hi p;refine⟨U,?_⟩
 by_cases I:i<xs.length
 ·refine .inr ⟨⟨xs,xs[i],q,by simp[I]⟩,by lia,Pv (i+1),λO H' Y=>⟨xs.length-(i+1),by lia,rfl,I,Y⟩,λv H' y=>?_⟩
  obtain⟨T,x,rfl,Z,rfl,y⟩:=y;exact hs i x T acc _ (y xs q) p Z
 ·have e:i=xs.length:=by lia
  subst e;exact .inl ⟨⟨xs,q,rfl⟩,hd acc H p⟩
end
end L2
namespace RM
variable {N:Net}
def Net.cut(N:Net)(C:Nat->Bool):Nat:=Ring.maskOf (λk=>C (N.a k)^^C (N.b k)) N.n
def Net.par(N:Net)(q m:Nat):Bool:=bL (λk=>q.testBit k&&m.testBit k) N.n
def mE(q r m:Nat):N.par (q^^^r) m=(N.par q m^^N.par r m):=by
 unfold Net.par;rw[<-i9];refine bE λk _=>?_
 rw[Z8];cases q.testBit k<;>cases r.testBit k<;>cases m.testBit k<;>rfl
def ki(m:Nat):N.par 0 m=false:=iM λk _=>by simp
def CB{k:Nat}(h:k<N.n)(m:Nat):N.par (2^k) m=m.testBit k:=by
 unfold Net.par;rw[oh h λj _ hj=>by simp[aal,aaq hj]]
 simp[aal]
def xA(C:Nat->Bool)(k:Nat):(N.cut C).testBit k=(decide (k<N.n)&&(C (N.a k)^^C (N.b k))):=Ring.mask_bit _ k _
def Mt(C:Nat->Bool):N.cut C<2^N.n:=Ring.mask_lt _ _
def DI{C D:Nat->Bool}(h:∀x,x<N.p->C x=D x):N.cut C=N.cut D:=by
 refine aaE λk=>?_
 rw[xA,xA]
 by_cases hk:k<N.n
 ·rw[h _ (N.al k hk),h _ (N.bl k hk)]
 ·rw[iK hk];rfl
def yY{k:Nat}(hk:k<N.n)(hf:N.fZ k=true):N.ring k=0:=fM (λj hj=>by
 rcases lO hj with e|e
 ·subst e;exact⟨hk,hf⟩
 ·exact e) (kh hk)
def DJ{m:Nat}(k:Nat):(m^^^N.cut λx=>N.par (N.trail N.n x) m).testBit k=if k<N.n then N.par (N.ring k) m else m.testBit k:=by
 rw[Z8,xA]
 by_cases hk:k<N.n
 ·rw[Z1 hk,fG hk,abF];unfold Net.ring;rw[mE,mE,CB hk];cases m.testBit k<;>cases N.par (N.trail N.n (N.a k)) m<;>cases N.par (N.trail N.n (N.b k)) m<;>rfl
 ·rw[Z0 hk,iK hk];simp
def yZ{m k:Nat}(hm:m<2^N.n)(h:(m^^^N.cut λx=>N.par (N.trail N.n x) m).testBit k=true):k<N.n/\N.fZ k=false/\N.par (N.ring k) m=true:=by
 rw[DJ]at h
 by_cases hk:k<N.n
 ·rw[Z1 hk]at h;refine⟨hk,?_,h⟩;cases hf:N.fZ k with
  | false=>rfl
  | true =>
    rw[yY hk hf,ki]at h;cases h
 ·rw[Z0 hk]at h;exact absurd (cY hm h) hk
end RM
namespace Ring
def orM(ks:List Nat):Nat:=ks.foldl (λm k=>m ||| 2^k) 0
def Gs(ks:List Nat)(j:Nat):∀m,(ks.foldl (λm k=>m ||| 2^k) m).testBit j=(m.testBit j || decide (j∈ks)):=by
 induction ks with
 | nil=>intro m;simp
 | cons k r I =>
   intro m;rw[List.foldl_cons,I,Nat.testBit_or,aal]
   by_cases h:k=j
   ·subst h;simp
   ·have h' : ¬ j=k:=λz=>h z.symm
    simp[h,h']
def jA(ks:List Nat)(j:Nat):(orM ks).testBit j=decide (j∈ks):=by
 unfold orM;rw[Gs];simp
def y9(ks:List Nat){t:Nat}(h:t∉ks):orM (ks++[t])=orM ks^^^2^t:=aaE λj=>by
 rw[Z8,jA,jA,aal]
 by_cases e:t=j
 ·subst e;simp[h]
 ·have e' : ¬ j=t:=λz=>e z.symm
  simp[e,e']
def Be(f:Nat->Bool)(n:Nat):orM ((List.range n).filter f)=maskOf f n:=aaE λj=>by
 rw[jA,mask_bit,aa1];simp
end Ring
namespace RM
variable {N:Net}
inductive Net.Walk(N:Net):List Nat->Nat->List Nat->Prop
 | one {v:Nat}:Net.Walk N [] v []
 | snoc {pre ks:List Nat} {v w t:Nat} (h:Net.Walk N pre v ks) (ht:t<N.n) (hn:t∉ks) (j:(N.a t=v/\N.b t=w)\/(N.b t=v/\N.a t=w)):Net.Walk N (pre++[v]) w (ks++[t])
def Net.Walk.len{pre ks:List Nat}{v:Nat}(h:N.Walk pre v ks):pre.length=ks.length:=by
 induction h with
 | one=>rfl
 | snoc _ _ _ _ ih=>rw[Z7,Z7,ih];rfl
def Net.Walk.lt{pre ks:List Nat}{v:Nat}(h:N.Walk pre v ks):∀t∈ks,t<N.n:=by
 induction h with
 | one=>exact λt ht=>nomatch ht
 | snoc _ ht _ _ ih =>
   intro s hs;rcases aau.mp hs with q|q
   ·exact ih s q
   ·have e:=aam.mp q;rw[e];exact ht
def Net.Walk.bd{pre ks:List Nat}{v:Nat}(h:N.Walk pre v ks):∀i u,(pre++[v])[i]?=some u->∀x,N.bd (Ring.orM (ks.drop i)) x=(decide (u=x)^^decide (v=x)):=by
 induction h with
 | one =>
   rename_i v
   intro i u I x
   match i,I with
   | 0,I =>
     have e:v=u:=Option.some.inj I;subst e;show N.bd 0 x=_;rw[om];simp
   | i+1,I=>simp at I
 | snoc hw ht hn j ih =>
   rename_i pre ks v w t
   intro i u I x;have hl:=hw.len
   by_cases hi:i<(pre++[v]).length
   ·rw[aav hi]at I;have U : i<=ks.length:=by rw[Z7]at hi;simp at hi;lia
    rw[List.drop_append_of_le_length U,Ring.y9 _ (λz=>hn (acI z)),jS,ih i u I x,sV ht]
    have e:N.inc t x=(decide (v=x)^^decide (w=x)):=by
     unfold Net.inc;rcases j with⟨Y,Z⟩|⟨Y,Z⟩
     ·rw[Y,Z]
     ·rw[Y,Z];exact Bool.xor_comm _ _
    rw[e];cases decide (u=x)<;>cases decide (v=x)<;>cases decide (w=x)<;>rfl
   ·have O:i=(pre++[v]).length:=by
     have:=(ju.mp I).1;rw[Z7]at this;simp at this hi ⊢
     lia
    rw[O,aaC (Z3 _),ab6]at I;have e:w=u:=Option.some.inj I;subst e;have:(ks++[t]).drop i=[]:=List.drop_eq_nil_of_le (by rw[O,Z7,Z7];simp;lia)
    rw[this];show N.bd 0 x=_;rw[om];simp
structure Way(N:Net)(dO:Nat)(pre:List Nat)(v:Nat)(ks:List Nat)(left:Nat):Prop where
 w:N.Walk pre v ks
 lt:dO<2^N.n
 ev:N.dU dO
 sub:∀t∈ks,dO.testBit t=true
 xB:left=dO^^^Ring.orM ks
 nd:pre.Nodup
 Ul:∀x∈pre++[v],x<N.p
 st:pre=[]->∃t,t<N.n/\dO.testBit t=true/\N.a t=v
section
variable {dO left v:Nat}{pre ks:List Nat}
def Way.start{t:Nat}(lt:dO<2^N.n)(ev:N.dU dO)(hb:dO.testBit t=true):Way N dO [] (N.a t) [] dO:=by
 have ht:=cY lt hb;refine⟨.one,lt,ev,(λ_ z=>nomatch z),?_,List.Pairwise.nil,λx hx=>?_,λ_=>⟨t,ht,hb,rfl⟩⟩
 ·show dO=dO^^^0;simp
 ·have e:x=N.a t:=by simpa using hx
  rw[e];exact N.al t ht
def Way.oB(h:Way N dO pre v ks left)(t:Nat):left.testBit t=(dO.testBit t && !decide (t∈ks)):=by
 rw[h.xB,Z8,Ring.jA]
 by_cases hm:t∈ks
 ·rw[h.sub t hm,fG hm];rfl
 ·rw[iK hm];simp
def Way.JC(h:Way N dO pre v ks left):left<2^N.n:=cK λk hk=>by
 rw[h.oB,aaT]at hk;exact cY h.lt hk.1
def Way.on(h:Way N dO pre v ks left)(hv:v∉pre):∃t,left.testBit t=true/\(N.a t=v\/N.b t=v):=by
 cases pre with
 | nil =>
   obtain⟨t,ht,hb,e⟩:=h.st rfl;have hk:ks=[]:=List.length_eq_zero_iff.mp (by rw[<-h.w.len];rfl)
   refine⟨t,?_,.inl e⟩;rw[h.oB,hb,hk];simp
 | cons u r =>
   have hb:=h.w.bd 0 u rfl v;rw[List.drop_zero]at hb;have U : ¬ u=v:=λz=>hv (by rw[z];exact aad)
   rw[iK U,fG rfl]at hb;have Y:v<N.p:=h.Ul v (iD _ (aam.mpr rfl));have O:N.bd left v=true:=by
    rw[h.xB,jS,h.ev v Y,hb];rfl
   rw[O2]at O;have Z:=sC O;obtain⟨k,hk,I,hx⟩:=JB (N:=N) (m:=left) (x:=v) (by lia)
   exact⟨k,I,hx⟩
def Way.go(h:Way N dO pre v ks left)(hv:v∉pre){t w:Nat}(hb:left.testBit t=true)(j:(N.a t=v/\N.b t=w)\/(N.b t=v/\N.a t=w)):
 Way N dO (pre++[v]) w (ks++[t]) (left^^^2^t):=by
 rw[h.oB,aaT]at hb;have hn:t∉ks:=by simpa using hb.2
 have ht:=cY h.lt hb.1;refine⟨.snoc h.w ht hn j,h.lt,h.ev,λs hs=>?_,?_,?_,λx hx=>?_,λz=>?_⟩
 ·rcases aau.mp hs with q|q
  ·exact h.sub s q
  ·rw[aam.mp q];exact hb.1
 ·rw[Ring.y9 _ hn,h.xB,aaR]
 ·refine acU.mpr ⟨h.nd,by simp,λx hx y O=>?_⟩
  have e:y=v:=by simpa using O
  rw[e];exact λz=>hv (z▸hx)
 ·rcases aau.mp hx with q|q
  ·exact h.Ul x q
  ·have e:x=w:=by simpa using q
   rw[e];rcases j with⟨_,I⟩|⟨_,I⟩
   ·rw[<-I];exact N.bl t ht
   ·rw[<-I];exact N.al t ht
 ·simp at z
def Way.closes(h:Way N dO pre v ks left){i:Nat}(hi:pre[i]?=some v):Ring.orM (ks.drop i)≠0/\N.dU (Ring.orM (ks.drop i))/\Ring.orM (ks.drop i)<2^N.n/\∀k,(Ring.orM (ks.drop i)).testBit k=true->dO.testBit k=true:=by
 have U:=(ju.mp hi).1;have Y:=h.w.len;have O:∀k,(Ring.orM (ks.drop i)).testBit k=true->k∈ks:=λk hk=>by
  rw[Ring.jA]at hk;exact acI (sC hk)
 refine⟨λz=>?_,λx _=>?_,cK λk hk=>h.w.lt k (O k hk),λk hk=>h.sub k (O k hk)⟩
 ·have I:ks.drop i≠[]:=λq=>by
   have:=List.drop_eq_nil_iff.mp q
   lia
  obtain⟨k,hk⟩:=List.exists_mem_of_ne_nil _ I;have:=Ring.jA (ks.drop i) k;rw[z,fG hk]at this;simp at this
 ·rw[h.w.bd i v (by rw[aav U];exact hi) x]
  simp
end
end RM
namespace Ring
open PySem L2
def CC{p:Nat}{ts:List cJ}{g:aD p ts}{q m:Nat}(hm:m<2^ts.length):decide ((bT ((q&&&m:Nat):Int)).length%2=1)=g.N.par q m:=by
 rw[Gr (n:=ts.length) (acQ q hm)];unfold RM.Net.par;rw[RM.tD];have e:RM.cnt (λk=>(q&&&m).testBit k) ts.length=RM.cnt (λk=>q.testBit k&&m.testBit k) g.N.n:=RM.mC λk _=>by rw[Nat.testBit_and]
 rw[e]
def xorL(rs:List Nat):Nat:=rs.foldl (λm r=>m^^^r) 0
def DK(rs:List Nat):∀m,rs.foldl (λm r=>m^^^r) m=m^^^xorL rs:=by
 induction rs with
 | nil=>intro m;show m=m^^^0;simp
 | cons r rs I =>
   intro m;show rs.foldl (λm r=>m^^^r) (m^^^r)=m^^^rs.foldl (λm r=>m^^^r) (0^^^r)
   rw[I,I,aaS,aaR]
def xorL_cons(rs:List Nat)(r:Nat):xorL (r::rs)=r^^^xorL rs:=by
 show rs.foldl (λm r=>m^^^r) (0^^^r)=_
 rw[DK,aaS]
def Gu(l:List Nat){i:Nat}(h:i<=l.length):uX (aB l) (some (i:Int)) none=aB (l.drop i):=by
 unfold uX;rw[HT.Je,HT.FI,aU,ab2 h];unfold aB;rw[<-List.map_drop,<-List.map_take,List.take_of_length_le (by rw[acq];lia)]
end Ring
namespace L2
open PySem PySem.Spec PyProof.Rows
section
variable {κ:Type}[DecidableEq κ]
def cN(kvs:List (κ×V))(k:κ):Option V:=(kvs.find? λkv=>decide (kv.1=k)).map (·.2)
def putK(kvs:List (κ×V))(k:κ)(v:V):List (κ×V) :=
 if(kvs.any λkv=>decide (kv.1=k))=true then kvs.map (λkv=>if kv.1=k then(kv.1,v) else kv) else kvs++[(k,v)]
def bz(kvs:List (κ×V))(k:κ):List (κ×V):=kvs.filter λkv=>decide (kv.1≠k)
def tE{k:κ}:cN ([]:List (κ×V)) k=none:=rfl
def bZ{p:κ×V}{r:List (κ×V)}{k:κ}(e:p.1=k):cN (p::r) k=some p.2:=by simp[cN,abR,e]
def bQ{p:κ×V}{r:List (κ×V)}{k:κ}(e : ¬ p.1=k):cN (p::r) k=cN r k:=by simp[cN,abR,e]
def gM(k:κ):∀kvs:List (κ×V),(kvs.any λkv=>decide (kv.1=k))=(cN kvs k).isSome
 | []=>rfl
 | p::r=>by
   rw[aco]
   by_cases e:p.1=k
   ·simp only[bZ e,fG e,Bool.true_or,Option.isSome_some]
   ·rw[bQ e,iK e,Bool.false_or];exact gM k r
def za(k j:κ)(y:V):∀kvs:List (κ×V),cN (kvs.map λkv=>if kv.1=k then(kv.1,y) else kv) j=(cN kvs j).map λx=>if j=k then y else x
 | []=>rfl
 | p::r=>by
   have I:=za k j y r;rw[aaj]
   by_cases h:p.1=k
   ·rw[Z1 h]
    by_cases e:p.1=j
    ·rw[bZ (p:=(p.1,y)) e,bZ e,abC,Z1 (e.symm.trans h)]
    ·rw[bQ (p:=(p.1,y)) e,bQ e,I]
   ·rw[Z0 h]
    by_cases e:p.1=j
    ·rw[bZ (p:=p) e,bZ e,abC,Z0 (λz=>h (e.trans z))]
    ·rw[bQ (p:=p) e,bQ e,I]
def vR(k j:κ)(y:V):∀kvs:List (κ×V),cN kvs k=none->cN (kvs++[(k,y)]) j=if j=k then some y else cN kvs j
 | [],_=>by
   by_cases e:k=j
   ·rw[Z1 e.symm];exact bZ (p:=(k,y)) e
   ·rw[Z0 (λz=>e z.symm)];exact bQ (p:=(k,y)) e
 | p::r,hn=>by
   rw[List.cons_append];have hk : ¬ p.1=k:=λz=>by rw[bZ z]at hn;cases hn
   rw[bQ hk]at hn;have I:=vR k j y r hn
   by_cases e:p.1=j
   ·rw[bZ e,bZ e,Z0 (λz=>hk (e.trans z))]
   ·rw[bQ e,bQ e,I]
def Gv(kvs:List (κ×V))(k j:κ)(y:V):cN (putK kvs k y) j=if j=k then some y else cN kvs j:=by
 unfold putK
 by_cases a:(kvs.any λkv=>decide (kv.1=k))=true
 ·rw[Z1 a,za];rw[gM]at a
  by_cases e:j=k
  ·obtain⟨x,hx⟩:=Option.isSome_iff_exists.mp a;rw[Z1 e,e,hx,abC,Z1 rfl]
  ·rw[Z0 e];cases cN kvs j with
   | none=>rfl
   | some x=>rw[abC,Z0 e]
 ·rw[Z0 a];refine vR k j y kvs ?_;rw[gM]at a;cases q:cN kvs k with
  | none=>rfl
  | some x=>rw[q]at a;exact(a rfl).elim
def qV(kvs:List (κ×V))(k:κ)(v:V):(putK kvs k v).length<=kvs.length+1:=by
 unfold putK
 split
 ·rw[ZZ];lia
 ·rw[Z7,aaA,abA];lia
def tF{kvs:List (κ×V)}{k:κ}(v:V)(h:cN kvs k=none):putK kvs k v=kvs++[(k,v)]:=by
 unfold putK;rw[gM,h];exact Z0 (by decide)
def j8.pP{o:Option V}{u:Option Value}(r:j8 o u):o.isSome=u.isSome:=by
 cases o with
 | none=>cases u with
   | none=>rfl
   | some _=>exact(show False from r).elim
 | some _=>cases u with
   | none=>exact(show False from r).elim
   | some _=>rfl
def j8.getD{o:Option V}{u:Option Value}{d:V}{d' : Value}(r:j8 o u)(rd:RelV d d'):RelV (o.getD d) (u.getD d'):=by
 cases o with
 | none=>cases u with
   | none=>exact rd
   | some _=>exact(show False from r).elim
 | some _=>cases u with
   | none=>exact(show False from r).elim
   | some _=>exact r
def KV.val{kvs:List (κ×V)}{vs:List (κ×Value)}(r:KV kvs vs)(k:κ):j8 (cN kvs k) (valueAt vs k):=by
 unfold KV at r
 induction r with
 | nil=>exact True.intro
 | @cons p q ps qs h t ih =>
   obtain⟨h1,h2⟩:=h
   by_cases e:p.1=k
   ·have e' : q.1=k:=h1.symm.trans e;have b:valueAt (q::qs) k=some q.2:=by simp[valueAt,abR,e']
    rw[bZ e,b];exact h2
   ·have e' : ¬ q.1=k:=λz=>e (h1.trans z)
    have b:valueAt (q::qs) k=valueAt qs k:=by simp[valueAt,abR,e']
    rw[bQ e,b];exact ih
def KV.any{kvs:List (κ×V)}{vs:List (κ×Value)}(r:KV kvs vs)(k:κ):(kvs.any λkv=>decide (kv.1=k))=vs.any λkv=>decide (kv.1=k):=by
 unfold KV at r
 induction r with
 | nil=>rfl
 | cons h t I=>rw[aco,aco,I,h.1]
def KV.repl{kvs:List (κ×V)}{vs:List (κ×Value)}(r:KV kvs vs)(k:κ){y:V}{u:Value}(ry:RelV y u):
 KV (kvs.map λkv=>if kv.1=k then(kv.1,y) else kv) (vs.map λkv=>if kv.1=k then(kv.1,u) else kv):=by
 unfold KV at r ⊢
 induction r with
 | nil=>exact .nil
 | @cons p q ps qs h t ih =>
   rw[aaj,aaj];refine .cons ?_ ih;obtain⟨h1,h2⟩:=h
   by_cases e:p.1=k
   ·rw[Z1 e,Z1 (h1.symm.trans e)];exact⟨h1,ry⟩
   ·rw[Z0 e,Z0 (λz=>e (h1.trans z))];exact⟨h1,h2⟩
def KV.put{kvs:List (κ×V)}{vs:List (κ×Value)}(r:KV kvs vs)(k:κ){y:V}{u:Value}(ry:RelV y u):KV (putK kvs k y) (stored vs k u):=by
 unfold putK stored;rw[r.any k]
 by_cases e:(vs.any λkv=>decide (kv.1=k))=true
 ·rw[Z1 e,Z1 e];exact r.repl k ry
 ·rw[Z0 e,Z0 e];exact Paired.snoc r ⟨rfl,ry⟩
def KV.drop{kvs:List (κ×V)}{vs:List (κ×Value)}(r:KV kvs vs)(k:κ):KV (bz kvs k) (without vs k):=by
 unfold KV at r ⊢;unfold bz without
 induction r with
 | nil=>exact .nil
 | @cons p q ps qs h t ih =>
   obtain⟨h1,h2⟩:=h;rw[aay,aay]
   by_cases e:p.1=k
   ·have a : ¬ decide (p.1≠k)=true:=by simp[e]
    have b : ¬ decide (q.1≠k)=true:=by simp[h1.symm.trans e]
    rw[Z0 a,Z0 b];exact ih
   ·have e' : ¬ q.1=k:=λz=>e (h1.trans z)
    have a:decide (p.1≠k)=true:=by simp[e]
    have b:decide (q.1≠k)=true:=by simp[e']
    rw[Z1 a,Z1 b];exact .cons ⟨h1,h2⟩ ih
def KV.keys{kvs:List (κ×V)}{vs:List (κ×Value)}(r:KV kvs vs):kvs.map (·.1)=vs.map (·.1):=by
 unfold KV at r
 induction r with
 | nil=>rfl
 | cons h t I=>rw[aaj,aaj,I,h.1]
def KV.length{kvs:List (κ×V)}{vs:List (κ×Value)}(r:KV kvs vs):kvs.length=vs.length:=Paired.length r
def zb(kvs:List (κ×V))(k:κ):(bz kvs k).length<=kvs.length:=aaP _ _
end
def vS{P:Program}{w:World}{k:Key}{u:Value}(r:RelV (kV k) u):(b7 P w).is k u=true:=by
 cases k with
 | inl i=>obtain⟨t,e⟩:=(show ∃t,u=Value.int i t from r);subst e;exact yv P w i t
 | inr x=>obtain⟨t,e⟩:=(show ∃t,u=Value.str x t from r);subst e;exact yw P w x t
def vU{P:Program}{w:World}:∀{ks:List Key} {us:List Value},Vals (ks.map kV) us->ItemsAre (b7 P w) ks us
 | [],_,r=>by rw[List.map_nil]at r;cases r;exact .nil
 | k::ks,_,r=>by
   rw[aaj]at r;cases r with
   | cons h t=>exact .cons (vS h) (vU t)
abbrev KT(H:Hp):List (List Key×V)->List (List Key×Addr×Value)->Prop:=Paired λp q=>p.1=q.1/\H q.2.1=some (.tup (p.1.map kV))/\RelV p.2 q.2.2
def KT.val{H:Hp}{kvs:List (List Key×V)}{xs:List (List Key×Addr×Value)}(r:KT H kvs xs)(k:List Key):j8 (cN kvs k) ((atKey xs k).map (·.2)):=by
 induction r with
 | nil=>exact True.intro
 | @cons p q ps qs h t ih =>
   obtain⟨h1,_,h2⟩:=h
   by_cases e:p.1=k
   ·have e' : q.1=k:=h1.symm.trans e;have b:atKey (q::qs) k=some q.2:=by simp[atKey,abR,e']
    rw[bZ e,b];exact h2
   ·have e' : ¬ q.1=k:=λz=>e (h1.trans z)
    have b:atKey (q::qs) k=atKey qs k:=by simp[atKey,abR,e']
    rw[bQ e,b];exact ih
def KT.repl{H:Hp}{kvs:List (List Key×V)}{xs:List (List Key×Addr×Value)}(r:KT H kvs xs)(k:List Key){y:V}{u:Value}(ry:RelV y u):
 KT H (kvs.map λkv=>if kv.1=k then(kv.1,y) else kv) (xs.map (putAt k u)):=by
 induction r with
 | nil=>exact .nil
 | @cons p q ps qs h t ih =>
   rw[aaj,aaj];refine .cons ?_ ih;obtain⟨h1,h2,I⟩:=h;unfold putAt
   by_cases e:p.1=k
   ·rw[Z1 e,Z1 (h1.symm.trans e)];exact⟨h1,h2,ry⟩
   ·rw[Z0 e,Z0 (λz=>e (h1.trans z))];exact⟨h1,h2,I⟩
def KT.put{H:Hp}{kvs:List (List Key×V)}{xs:List (List Key×Addr×Value)}(r:KT H kvs xs)(k:List Key){b:Addr}{y:V}{u:Value}(hb:H b=some (.tup (k.map kV)))(ry:RelV y u):
 KT H (putK kvs k y) (storedH xs k b u):=by
 have e:(kvs.any λkv=>decide (kv.1=k))=(atKey xs k).isSome:=by
  rw[gM,(r.val k).pP,Option.isSome_map]
 unfold putK storedH;rw[e]
 by_cases q:(atKey xs k).isSome=true
 ·rw[Z1 q,Z1 q];exact r.repl k ry
 ·rw[Z0 q,Z0 q];exact Paired.snoc r ⟨rfl,hb,ry⟩
def KT.keeps{H H' : Hp}{kvs:List (List Key×V)}{xs:List (List Key×Addr×Value)}(r:KT H kvs xs)(ht:∀b ys,H b=some (.tup ys)->H' b=some (.tup ys)):KT H' kvs xs :=
 Paired.w4 r λ_ _ z=>⟨z.1,ht _ _ z.2.1,z.2.2⟩
section
variable {P:Program}{w:World}{H:Hp}{h:Heap}{a:Addr}
def K2{u:HO}(ok:lG P w H h)(e:Rd H a u):bC P w H h a u:=e.ok ok
def vV{kvs:List (Key×V)}(ok:lG P w H h)(e:Rd H a (.dK kvs)):kvs.length<=sizeLine/\(a==sysModules)=false/\∃vs,KV kvs vs/\h.DictOf (b7 P w) a vs :=
 show bC P w H h a (.dK kvs) from K2 ok e
def Gw{kvs:List (Key×V)}(ok:lG P w H h)(e:H a=some (.dK kvs)):kvs.length<=sizeLine/\(a==sysModules)=false/\∃vs,KV kvs vs/\h.DictOf (b7 P w) a vs:=vV ok (.inl e)
def nv{ks:List Key}(ok:lG P w H h)(e:H a=some (.tup (ks.map kV))):(tupleKind (b7 P w)).is h ks a:=by
 obtain⟨_,I,r,o,h1,h2,n,O⟩:=(show bC P w H h a (.tup (ks.map kV)) from ok a _ e)
 exact⟨o,I.toArray,n,h1,h2,O,by simpa using vU r⟩
def vW{kvs:List (List Key×V)}(ok:lG P w H h)(e:Rd H a (.dT kvs)):kvs.length<=sizeLine/\(a==sysModules)=false/\
 ∃xs,KT H kvs xs/\h.DictOfH (tupleKind (b7 P w)) a xs:=by
 obtain⟨z,y,xs,r,o,es,ep,h1,h2,I,O,U⟩:=(show bC P w H h a (.dT kvs) from K2 ok e)
 refine⟨z,y,xs,r,o,es,ep,h1,h2,I,O,λx hx=>?_,U⟩
 have all:∀{l:List (List Key×V)} {m:List (List Key×Addr×Value)},KT H l m->∀x∈m,(tupleKind (b7 P w)).is h x.1 x.2.1:=by
  intro l m q
  induction q with
  | nil=>intro x hx;exact nomatch hx
  | @cons p q ps qs hq t ih =>
    intro x hx;rcases aaa.mp hx with e|hx
    ·subst e;exact nv ok (by rw[<-hq.1];exact hq.2.1)
    ·exact ih x hx
 exact all r x hx
def Gx{kvs:List (List Key×V)}(ok:lG P w H h)(e:H a=some (.dT kvs)):kvs.length<=sizeLine/\(a==sysModules)=false/\
 ∃xs,KT H kvs xs/\h.DictOfH (tupleKind (b7 P w)) a xs:=vW ok (.inl e)
end
def tG(H:Hp)(a:Addr)(y:V)(r:Option V):Prop :=
 (∃kvs k,Rd H a (.dK kvs)/\y=kV k/\r=cN kvs k)\/∃kvs k b,Rd H a (.dT kvs)/\y = .ref b/\H b=some (.tup (k.map kV))/\r=cN kvs k
def xC(H:Hp)(a:Addr)(y v:V)(H' : Hp):Prop :=
 (∃kvs k,H a=some (.dK kvs)/\y=kV k/\kvs.length<sizeLine/\H' = upd H a (.dK (putK kvs k v)))\/
 ∃kvs k b,H a=some (.dT kvs)/\y = .ref b/\H b=some (.tup (k.map kV))/\kvs.length<sizeLine/\H' = upd H a (.dT (putK kvs k v))
def tG.k{H:Hp}{a:Addr}{kvs:List (Key×V)}{k:Key}(e:H a=some (.dK kvs)):tG H a (kV k) (cN kvs k):=.inl ⟨kvs,k,.inl e,rfl,rfl⟩
def xC.k{H:Hp}{a:Addr}{kvs:List (Key×V)}{k:Key}{v:V}(e:H a=some (.dK kvs))(hl:kvs.length<sizeLine):xC H a (kV k) v (upd H a (.dK (putK kvs k v))):=.inl ⟨kvs,k,e,rfl,hl,rfl⟩
def xC.t{H:Hp}{a b:Addr}{kvs:List (List Key×V)}{k:List Key}{v:V}(e:H a=some (.dT kvs))(eb:H b=some (.tup (k.map kV)))(hl:kvs.length<sizeLine):
 xC H a (.ref b) v (upd H a (.dT (putK kvs k v))):=.inr ⟨kvs,k,b,e,rfl,eb,hl,rfl⟩
section
variable {X:Cx}{pq:aS}{σ:St}{H:Hp}{s:Shared}{a:Addr}{y v:V}{u r:Value}{o:Option V}{A:Around}{E:cP}
def Inv.big(I:Inv X pq σ H s):sysModules<s.heap.objs.size:=by
 have h:mainGlobals<s.heap.objs.size:=(I.mod.glob.keeps I.bk).lt;exact Nat.lt_trans (by decide) h
def DL{Q:cP}(hu:A.units+1<cLine)(I:Inv X pq σ H s)(g:tG H a y (some v))(ry:RelV y u)(h:∀O s',Inv X pq σ H s'->RelV v O->Q O s'):
 wpAny (model X.prog X.w) A (getItem (.ref a) u) Q E s:=by
 rcases g with⟨kvs,k,e,U,l⟩|⟨kvs,k,b,e,U,Z,l⟩
 ·subst U;obtain⟨z,hd,vs,rel,Y⟩:=vV I.hok e;obtain⟨O,hw,rw'⟩:=j8.some_of (v:=v) (o:=valueAt vs k) (by rw[l];exact rel.val k)
  exact wpAny_getItem_of (vS ry) Y.mapOf hw (h O _ (I.tok _) rw')
 ·subst U;cases(show u=Value.ref b from ry)
  obtain⟨z,hd,xs,rel,Y⟩:=vW I.hok e;obtain⟨O,hw,rw'⟩:=j8.some_of (v:=v) (o:=(atKey xs k).map (·.2)) (by rw[l];exact rel.val k)
  obtain⟨p,hp,E4⟩:=uT.mp hw;refine wpAny_getItem_heap (tupleKind_room_in1 hu) (nv I.hok Z) Y hp ?_;rw[E4];exact h O _ (I.tok _) rw'
def JD{Q:cP}(hu:A.units+1<cLine)(I:Inv X pq σ H s)(g:tG H a y o)(ry:RelV y u)(h:∀s',Inv X pq σ H s'->Q (.bool (!o.isSome)) s'):
 wpAny (model X.prog X.w) A (compareOp .NotIn u (.ref a)) Q E s:=by
 rcases g with⟨kvs,k,e,O,l⟩|⟨kvs,k,b,e,O,Y,l⟩
 ·subst O;obtain⟨z,hd,vs,rel,U⟩:=vV I.hok e;refine wpAny_notIn_of (vS ry) hd U.mapOf ?_;rw[<-(rel.val k).pP,<-l];exact h _ (I.tok _)
 ·subst O;cases(show u=Value.ref b from ry)
  obtain⟨z,hd,xs,rel,U⟩:=vW I.hok e;refine wpAny_notIn_heap (tupleKind_room_in1 hu) (nv I.hok Y) hd U ?_;have q:=(rel.val k).pP;rw[Option.isSome_map]at q;rw[<-q,<-l];exact h _ (I.tok _)
def oE{h' : Heap}{t' : Nat}{ob:HO}(I:Inv X pq σ H s)(mu:N1 (H a))(hs:Heap.SameBut a s.heap h')(he:∃q,h'.get? a=some q)(new:bC X.prog X.w (upd H a ob) h' a ob):
 Inv X pq σ (upd H a ob) { s with heap:=h',toks:=t'} :=
 I.write (x:=a) (e:=a) mu (.inl rfl) (λb q hb z=>(hs.2 b hb).trans z) he new
def Gy{P:Program}{w:World}{H' : Hp}{h' : Heap}{kvs:List (Key×V)}{vs:List (Key×Value)}(z:kvs.length<=sizeLine)(hd:(a==sysModules)=false)(rel:KV kvs vs)(dd:h'.DictOf (b7 P w) a vs):
 bC P w H' h' a (.dK kvs):=⟨z,hd,vs,rel,dd⟩
def DM{H' : Hp}{Q:Unit->Shared->Prop}(hu:A.units+1<cLine)(I:Inv X pq σ H s)(g:xC H a y v H')(ry:RelV y u)(rv:RelV v r)(h:∀s',Inv X pq σ H' s'->Q () s'):
 wpAny (model X.prog X.w) A (setItem (.ref a) u r) Q E s:=by
 rcases g with⟨kvs,k,e,Y,l,Z⟩|⟨kvs,k,b,e,Y,eb,l,Z⟩
 ·subst Y Z;obtain⟨z,hd,vs,rel,dd⟩:=Gw I.hok e;have hz:vs.length<=sizeLine:=by rw[<-rel.length];exact z
  have hl:(putK kvs k v).length<=sizeLine:=by have:=qV kvs k v;lia
  refine wpAny_setItem_pairs (hsz:=hz) (vS ry) dd λh' O hs=>h _ ?_
  have he:∃q,h'.get? a=some q:=let⟨q,_,_,U,_⟩:=O;⟨q,U⟩;exact oE I (by rw[e];exact True.intro) hs he (Gy hl hd (rel.put k rv) O)
 ·subst Y Z;cases(show u=Value.ref b from ry)
  obtain⟨z,hd,xs,rel,dd⟩:=Gx I.hok e;have hz:xs.length<=sizeLine:=by rw[<-Paired.length rel];exact z
  have hl:(putK kvs k v).length<=sizeLine:=by have:=qV kvs k v;lia
  refine wpAny_setItem_heap (hsz:=hz) (tupleKind_room_in1 hu) (nv I.hok eb) dd λh' O hs=>h _ ?_
  obtain⟨q,es,ep,U,h2,h3,h4,_,h5⟩:=O;refine oE I (by rw[e];exact True.intro) hs ⟨q,U⟩ ⟨hl,hd,_,(rel.put k eb rv).keeps λc ys ec=>?_,q,es,ep,U,h2,h3,h4,h5⟩
  rw[ae (aE ec e (λz=>nomatch z))]
  exact ec
end
section
variable {X:Cx}{pq:aS}{σ:St}{H:Hp}{s:Shared}{a:Addr}{kvs:List (Key×V)}{k:Key}{u:Value}{A:Around}{E:cP}
def O4{v:V}{more:List Value}{Q:cP}(I:Inv X pq σ H s)(e:H a=some (.dK kvs))(ry:RelV (kV k) u)(l:cN kvs k=some v)(hm:more=[]\/∃x,more=[x])
 (h:∀O s',Inv X pq σ (upd H a (.dK (bz kvs k))) s'->RelV v O->Q O s'):wpAny (model X.prog X.w) A (call (.builtin "dict.pop") (.ref a::u::more)) Q E s:=by
 obtain⟨z,hd,vs,rel,U⟩:=Gw I.hok e;obtain⟨O,hw,rw'⟩:=j8.some_of (v:=v) (o:=valueAt vs k) (by rw[<-l];exact rel.val k)
 have Z:(keyPart u).isSome=true:=by
  cases k with
  | inl i=>obtain⟨t,q⟩:=(show ∃t,u=Value.int i t from ry);subst q;rfl
  | inr x=>obtain⟨t,q⟩:=(show ∃t,u=Value.str x t from ry);subst q;rfl
 have ha:argsOk "dict.pop" ⟨.ref a::u::more,[]⟩:=by
  rcases hm with q|⟨x,q⟩
  ·subst q;exact PySem.F.args_dict_pop_2 _ _
  ·subst q;exact PySem.F.args_dict_pop_3 _ _ _
 refine call_meetsIn abW U.typeIs PySem.F.entry_dict_pop ha (meets_dict_pop_there (b7 X.prog X.w) a (vS ry) more hm Z)
  ⟨vs,O,U,by rw[<-rel.length];exact z,hw,λh' Y hs=>h O _ ?_ rw'⟩
 have he:∃q,h'.get? a=some q:=let⟨q,_,_,hq,_⟩:=Y;⟨q,hq⟩;exact oE I (by rw[e];exact True.intro) hs he (Gy (aat (zb kvs k) z) hd (rel.drop k) Y)
end
def O5(i:Expr):Prop:=∀I O,subscripted i false I O=operate [I,O] (getItem I O)
def JE{prog:Program}{w:World}{A:Around}{E:cP}{s:Shared}{env:Env}{value slice:Expr}{pos:Pos}{T id:String}{Q:cP}
 (hl:typeLookup (.type T) "__getitem__"=pure (some (.builtin id))) (hs:O5 slice)
 (h:wpAny (model prog w) A (eval value env) (λo U=>wpAny (model prog w) A (eval slice env) (λi I=>I.TypeIs o T/\wpAny (model prog w) A (getItem o i) Q E I) E U) E s) :
 wpAny (model prog w) A (eval (.Subscript value slice pos) env) Q E s:=by
 refine Subscript_ (aar h (λo U h₁=>aar h₁ (λi I O=>?_) λ_ _ x=>x) λ_ _ x=>x)
 obtain⟨Y,O⟩:=O;unfold subscriptTail;refine aQ ?_;rw[getitemInPython_of_ne Y.not_modules];refine aQ (wpAny_specialOf Y hl ?_);have fin:wpAny (model prog w) A (subscripted slice false o i) (λr Z=>wpAny (model prog w) A (letTemporaryGo value o r >>= λ_=>pure r) Q E Z) E I:=by
  rw[hs o i];exact wpAny_operating (aar O (λr Z h₃=>aQ (wpAny_letTemporaryGo (Z5 h₃))) λ_ _ x=>x)
 first
  | exact Z5 (aQ fin)
  | exact aQ (Z5 (aQ fin))
  | exact aQ fin
def zc{X:Cx}{pq:aS}{σ:St}{H:Hp}{s:Shared}{a:Addr}{y:V}{o:Option V}(I:Inv X pq σ H s)(g:tG H a y o):s.TypeIs (.ref a) "dict":=by
 rcases g with⟨kvs,k,e,_,_⟩|⟨kvs,k,b,e,_,_,_⟩
 ·obtain⟨_,_,vs,_,O⟩:=vV I.hok e;exact O.typeIs
 ·obtain⟨_,_,xs,_,O⟩:=vW I.hok e;exact O.typeIs
def O6(td ty:TE):TE:=λσ H Q=>td σ H λx H1=>ty σ H1 λy H2=>∃a v,x = .ref a/\tG H2 a y (some v)/\Q v H2
def JF(ty td:TE):TE:=λσ H Q=>ty σ H λy H1=>td σ H1 λx H2=>∃a o,x = .ref a/\tG H2 a y o/\Q (.bl (!o.isSome)) H2
def O7(td ty tv:TE):TS:=λD σ H=>tv σ H λv H1=>td σ H1 λx H2=>ty σ H2 λy H3=>∃a H4,x = .ref a/\xC H3 a y v H4/\D.nx σ H4
section
variable {X:Cx}{o i e value:Expr}{pos pos' tpos:Pos}{td ty tv:TE}
def CD(hu:X.A.units+1<cLine)(ho:PE X o td)(hi:PE X i ty)(hs:O5 i):PE X (.Subscript o i pos) (O6 td ty):=by
 intro pq s σ H Q I h;refine JE PySem.F.slot_dict_getitem.lookup hs (cM (ho pq s σ H _ I h) λu s1 ⟨x,H1,Y,rx,Z⟩=>cM (hi pq s1 σ H1 _ Y Z) λiv s2 ⟨y,H2,U,ry,a,v,ex,g,q2⟩=>?_)
 subst ex;obtain rfl:u=Value.ref a:=rx;exact⟨zc U g,DL hu U g ry λw' s3 I3 O=>⟨v,H2,I3,O,q2⟩⟩
def DN(hu:X.A.units+1<cLine)(hi:PE X i ty)(ho:PE X o td):PC X .NotIn i o (JF ty td):=by
 intro pq s σ H Q I h;refine cM (hi pq s σ H _ I h) λiv s1 ⟨y,H1,O,U,Y⟩=>cM (ho pq s1 σ H1 _ O Y) λu s2 ⟨x,H2,Z,rx,a,ov,ex,g,q2⟩=>?_
 subst ex;obtain rfl:u=Value.ref a:=rx;exact JD hu Z g U λs3 I3=>⟨.bl (!ov.isSome),H2,I3,rfl,q2⟩
def xD(hu:X.A.units+1<cLine)(ho:PE X o td)(hi:PE X i ty)(hv:PE X value tv)(hs:swapsWith value (some (.Subscript o i pos')) pos.line X.env=pure false):
 PS X (.Assign [.Subscript o i pos'] value pos) (O7 td ty tv):=by
 intro pq s σ H D I h;refine wpAny_Assign_Subscript (cM (hv pq s σ H _ I h) λr s1 ⟨v,H1,O,U,Y⟩=>cM (ho pq s1 σ H1 _ O Y) λu s2 ⟨x,H2,Z,rx,q2⟩=>cM (hi pq s2 σ H2 _ Z q2) λiv s3 ⟨y,H3,I3,ry,a,H4,ex,g,q3⟩=>?_) hs
 subst ex;obtain rfl:u=Value.ref a:=rx;exact DM hu I3 g ry U λs4 I4=>⟨σ,H4,I4,q3⟩
end
def GA{P:Program}{w:World}{H:Hp}(h:Heap)(hb:sysModules<h.objs.size):bC P w H (h.push { cls:=.type "dict",data:=.dict #[]}) h.objs.size (.dK []) :=
 ⟨aaB _,beq_eq_false_iff_ne.mpr (aaq (aak hb)),[],.nil,Heap.DictOf.new h⟩
def GB{P:Program}{w:World}{H:Hp}(h:Heap)(hb:sysModules<h.objs.size):bC P w H (h.push { cls:=.type "dict",data:=.dict #[]}) h.objs.size (.dT []) :=
 ⟨aaB _,beq_eq_false_iff_ne.mpr (aaq (aak hb)),[],.nil,_,#[],0,aag _ rfl,⟨rfl,rfl,rfl⟩,rfl,rfl,acd⟩
def Mu:TE:=λ_ H Q=>∀p,H p=none->Q (.ref p) (upd H p (.dK []))
section
variable {X:Cx}{pos:Pos}
def GC:PE X (.Dict [] [] pos) Mu:=λpq s σ H Q I h =>
 wpAny_Dict_empty ⟨.ref s.heap.objs.size,_,I.laid (a:=s.heap.objs.size) (o:=.dK []) (t':=s.toks) (λ_ _ q=>Z2 _ q) (Z3 _) (GA s.heap I.big),rfl,h _ (I.hok.fresh (Z3 _))⟩
end
structure M1(X:Cx)(o:Expr)(m:Str)(apos:Pos)(e:Expr)(cpos:Pos):Prop where
 base:attributeBase o m X.env (eval o X.env)=eval o X.env
 few:((backTo cpos (starEach [e] X.env)).all (λx=>!x.1)&&(backToKw cpos (keywordEach [] X.env)).all (λx=>x.1.isSome)
  && decide (([e]:List Expr).length+([]:List Keyword).length+(if([]:List Keyword).isEmpty then 0 else 1)<30))=true
 line:(apos.endLine==cpos.line)=true
 trees:backTo cpos (starEach [e] X.env)=[(false,eval e X.env)]
structure M2(X:Cx)(o:Expr)(m:Str)(apos:Pos)(e f:Expr)(cpos:Pos):Prop where
 base:attributeBase o m X.env (eval o X.env)=eval o X.env
 few:((backTo cpos (starEach [e,f] X.env)).all (λx=>!x.1)&&(backToKw cpos (keywordEach [] X.env)).all (λx=>x.1.isSome)
  && decide (([e,f]:List Expr).length+([]:List Keyword).length+(if([]:List Keyword).isEmpty then 0 else 1)<30))=true
 line:(apos.endLine==cpos.line)=true
 trees:backTo cpos (starEach [e,f] X.env)=[(false,eval e X.env),(false,eval f X.env)]
def QI(H:Hp)(a:Addr):Prop:=(∃kvs,Rd H a (.dK kvs))\/∃kvs,Rd H a (.dT kvs)
def Bf{X:Cx}{pq:aS}{σ:St}{H:Hp}{s:Shared}{a:Addr}(I:Inv X pq σ H s)(d:QI H a):
 s.TypeIs (.ref a) "dict"/\(∀b,Value.ref a = .ref b->∃ob,s.heap.get? b=some ob/\ob.dict=none)/\(a==sysModules)=false:=by
 rcases d with⟨kvs,e⟩|⟨kvs,e⟩
 ·obtain⟨_,hd,vs,_,O⟩:=vV I.hok e;refine⟨O.typeIs,λb q=>?_,hd⟩
  cases q;obtain⟨ob,_,_,h1,h2,_⟩:=O;exact⟨ob,h1,h2.2.1⟩
 ·obtain⟨_,hd,xs,_,O⟩:=vW I.hok e;refine⟨O.typeIs,λb q=>?_,hd⟩
  cases q;obtain⟨ob,_,_,h1,h2,_⟩:=O;exact⟨ob,h1,h2.2.1⟩
section
variable {X:Cx}{pq:aS}{σ:St}{H:Hp}{s:Shared}{a:Addr}{y d:V}{u r:Value}{o:Option V}{A:Around}{E:cP}
def Mv{Q:cP}(hu:A.units+1<cLine)(I:Inv X pq σ H s)(g:tG H a y o)(ry:RelV y u)(rd:RelV d r)(h:∀Y s',Inv X pq σ H s'->RelV (o.getD d) Y->Q Y s'):
 wpAny (model X.prog X.w) A (call (.builtin "dict.get") [.ref a,u,r]) Q E s:=by
 rcases g with⟨kvs,k,e,U,l⟩|⟨kvs,k,b,e,U,Z,l⟩
 ·subst U;obtain⟨z,hd,vs,rel,O⟩:=vV I.hok e;refine call_meetsIn acy O.typeIs PySem.F.entry_dict_get (PySem.F.args_dict_get_3 _ _ _) (meets_dict_get_default (b7 X.prog X.w) a (vS ry) hd r) ⟨_,O.mapOf,h _ _ (I.tok _) ?_⟩;rw[l];exact(rel.val k).getD rd
 ·subst U;cases(show u=Value.ref b from ry)
  obtain⟨z,hd,xs,rel,O⟩:=vW I.hok e;refine call_meetsIn acy O.typeIs PySem.F.entry_dict_get (PySem.F.args_dict_get_3 _ _ _) (meetsH_dict_get_default (tupleKind (b7 X.prog X.w)) a b hd r) ⟨tupleKind_room_in1 hu,k,xs,nv I.hok Z,O,h _ _ (I.tok _) ?_⟩;rw[l];exact(rel.val k).getD rd
end
def Mw(td ty tx:TE):TE:=λσ H Q=>td σ H λx H1=>∃a,x = .ref a/\QI H1 a/\ty σ H1 λy H2=>tx σ H2 λz H3=>∃o,tG H3 a y o/\Q (o.getD z) H3
def Mx(td ty:TE):TE:=λσ H Q=>td σ H λx H1=>∃a,x = .ref a/\QI H1 a/\ty σ H1 λy H2=>∃kvs k v,H2 a=some (.dK kvs)/\y=kV k/\cN kvs k=some v/\Q v (upd H2 a (.dK (bz kvs k)))
section
variable {X:Cx}{o e f:Expr}{apos cpos:Pos}{td ty tx:TE}
def GD(hu:X.A.units+1<cLine)(ho:PE X o td)(he:PE X e ty)(hf:PE X f tx)(m:M2 X o "get" apos e f cpos):PE X (.Call (.Attribute o "get" apos) [e,f] [] cpos) (Mw td ty tx):=by
 intro pq s σ H Q I h;refine wpAny_Call_method m.base m.few m.line ach acy PySem.F.type_dict_get (cM (ho pq s σ H _ I h) λu s1 ⟨x,H1,U,rx,a,ex,d,Y⟩=>?_)
 subst ex;obtain rfl:u=Value.ref a:=rx;obtain⟨t1,t2,_⟩:=Bf U d;refine⟨t1,t2,?_⟩;rw[m.trees];refine Calls.callWith_builtin rfl (Calls.evalArgs_plain (Calls.spliced_cons (cM (he pq s1 σ H1 _ U Y) λiv s2 ⟨y,H2,Z,ry,q2⟩ =>
  Calls.spliced_cons (cM (hf pq s2 σ H2 _ Z q2) λfv s3 ⟨z,H3,I3,rz,ov,g,q3⟩=>Calls.spliced_nil ?_))))
 exact Mv hu I3 g ry rz λw' s4 I4 O=>⟨_,H3,I4,O,q3⟩
def zd(ho:PE X o td)(he:PE X e ty)(m:M1 X o "pop" apos e cpos):PE X (.Call (.Attribute o "pop" apos) [e] [] cpos) (Mx td ty):=by
 intro pq s σ H Q I h;refine wpAny_Call_method m.base m.few m.line ach abW PySem.F.type_dict_pop (cM (ho pq s σ H _ I h) λu s1 ⟨x,H1,U,rx,a,ex,d,Y⟩=>?_)
 subst ex;obtain rfl:u=Value.ref a:=rx;obtain⟨t1,t2,_⟩:=Bf U d;refine⟨t1,t2,?_⟩;rw[m.trees];refine Calls.callWith_builtin rfl (Calls.evalArgs_plain (Calls.spliced_cons (cM (he pq s1 σ H1 _ U Y) λiv s2 ⟨y,H2,Z,ry,kvs,k,v,ea,ey,l,q2⟩=>Calls.spliced_nil ?_)))
 subst ey;exact O4 Z ea ry l (.inl rfl) λw' s3 I3 O=>⟨v,_,I3,O,q2⟩
end
section
variable {κ:Type}[DecidableEq κ]
def GF{kvs:List (κ×V)}{k:κ}(h:cN kvs k=none): ¬ k∈kvs.map (·.1):=by
 intro m;obtain⟨p,I,e⟩:=aai.mp m;have q:(kvs.any λkv=>decide (kv.1=k))=true:=acY.mpr ⟨p,I,fG e⟩
 rw[gM,h]at q;exact absurd q (by simp)
def JG{kvs:List (κ×V)}{k:κ}{v:V}(h:cN kvs k=some v):k∈kvs.map (·.1):=by
 have q:(kvs.any λkv=>decide (kv.1=k))=true:=by
  rw[gM,h]
  all_goals rfl
 obtain⟨p,I,e⟩:=acY.mp q;exact aai.mpr ⟨p,I,sC e⟩
def CF:∀{l:List κ} {k:κ},l.Nodup->¬ k∈l->(l++[k]).Nodup
 | [],k,_,_=>by simp
 | a::r,k,h,hk=>by
   obtain⟨h1,h2⟩:=aaI.mp h;show(a::(r++[k])).Nodup;refine aaI.mpr ⟨λm=>?_,CF h2 λm=>hk (aaa.mpr (Or.inr m))⟩
   rcases aau.mp m with q|q
   ·exact h1 q
   ·exact hk (aaa.mpr (Or.inl (aam.mp q).symm))
def JH{kvs:List (κ×V)}{k:κ}(v:V)(hn:(kvs.map (·.1)).Nodup)(h:cN kvs k=none):((putK kvs k v).map (·.1)).Nodup:=by
 rw[tF v h,aaw];exact CF hn (GF h)
def vX{p:κ×V}{r:List (κ×V)}{k:κ}(e:p.1=k):bz (p::r) k=bz r k:=by
 unfold bz;rw[aay,Z0 (by simp[e])]
def vY{p:κ×V}{r:List (κ×V)}{k:κ}(e : ¬ p.1=k):bz (p::r) k=p::bz r k:=by
 unfold bz;rw[aay,Z1 (by simp[e])]
def vZ{kvs:List (κ×V)}{k:κ}{p:κ×V}(h:p∈bz kvs k):p∈kvs:=(aao.mp h).1
def tH:∀{kvs:List (κ×V)} {k:κ},(kvs.map (·.1)).Nodup->((bz kvs k).map (·.1)).Nodup
 | [],_,_=>acd
 | p::r,k,h=>by
   have h:(p.1::r.map (·.1)).Nodup:=h;obtain⟨h1,h2⟩:=aaI.mp h
   by_cases e:p.1=k
   ·rw[vX e];exact tH h2
   ·rw[vY e];show(p.1::(bz r k).map (·.1)).Nodup;refine aaI.mpr ⟨λm=>h1 ?_,tH h2⟩
    obtain⟨q,I,eq⟩:=aai.mp m;exact aai.mpr ⟨q,vZ I,eq⟩
end
def JI{P:Program}{w:World}{n:Int}{v:Value}(h:(b7 P w).is (Sum.inl n) v=true):∃t,v=Value.int n t:=by
 have h:qQ (Sum.inl n) v=true:=h;have h:Value.isInt n v=true:=by simpa[qQ]using h
 cases v<;>simp[Value.isInt]at h
 exact⟨_,by rw[h]⟩
def wc{P:Program}{w:World}:∀{us:List Value} {ns:List Int} {vs:List (Key×Value)},vs.map (·.1)=ns.map Sum.inl->us.length=vs.length->(∀(j:Nat) (v:Value),us[j]?=some v->∃k x,vs[j]?=some (k,x)/\(b7 P w).is k v=true)->IntsAre us ns
 | [],[],_,_,_,_=>.nil
 | [],n::ns,[],e,_,_=>by simp at e
 | [],n::ns,p::r,_,hl,_=>by simp at hl
 | u::us,ns,[],_,hl,_=>by simp at hl
 | u::us,[],p::r,e,_,_=>by simp at e
 | u::us,n::ns,p::r,e,hl,h=>by
   rw[aaj,aaj]at e;obtain⟨I,O⟩:=List.cons.inj e;obtain⟨k,x,hx,hk⟩:=h 0 u rfl;cases hx;rw[show k=Sum.inl n from I]at hk
   obtain⟨t,rfl⟩:=JI hk;exact .cons n t (wc O (by simpa using hl) λj v hj=>h (j+1) v hj)
section
variable {prog:Program}{w:World}{A:Around}{E:cP}{s:Shared}{T:String}{r d:Addr}{n:Nat}{P:Nat->Value->Prop}{OK:Heap->Prop}
def ze{R:List Value->Shared->Prop}(K:PySem.W.KdlSrc prog w T r d n P OK)(hh:A.handled=none)(hok:OK s.heap)(hn:n<=sizeLine)
 (h:∀(h' : Heap) (tk:Nat) (acc:Array Value),(∀b o,s.heap.get? b=some o->h'.get? b=some o)->s.heap.objs.size<h'.objs.size->ItemsOf P acc n->R acc.toList { s with heap:=h',toks:=tk}) :
 wpAny (model prog w) A (collect (.ref r)) R E s:=by
 have Y:=K.there _ hok;unfold collect;refine aQ (wpAny_runValue (codeAny_builtin PySem.F.entry_proto_collect ?_));rw[Around.under_plainId PySem.F.plain_proto_collect _];show wpAny _ A.in1 (newList [] >>= λl=>again (.builtin "list.__iadd__" ⟨[l,.ref r],[]⟩)) _ _ s
 refine aQ (wpAny_newObj_type ?_);refine Z5 ⟨plainId_quiet PySem.F.plain_list_iadd _,codeAny_builtin PySem.F.entry_list_iadd ?_⟩;rw[Around.under_plainId PySem.F.plain_list_iadd _];have WU:(s.heap.push { cls:=.type "list",data:=.seq ([]:List Value).toArray}).get? s.heap.objs.size=some { cls:=.type "list",data:=.seq #[]}:=aag _ rfl;show wpAny _ A.in1 (Builtin.List.listExtendWith (.ref s.heap.objs.size) (.ref r) (.ref s.heap.objs.size)) _ _ _;have key:=PySem.W.kdl_extend (A:=A) (s:={ s with heap:=s.heap.push { cls:=.type "list",data:=.seq ([]:List Value).toArray}})
  (R:=λ(q:Result) (s' : Shared)=>∃(h' : Heap) (tk:Nat) (I : Array Value) (Z : Nat),q = .ok (.ret (.ref s.heap.objs.size))/\s' = { s with heap:=h',toks:=tk}/\
   (∀b o,s.heap.get? b=some o->h'.get? b=some o)/\h'.get? s.heap.objs.size=some { cls:=.type "list",dict:=none,data:=.seq I Z,slots:=#[]}/\ItemsOf P I n)
  K hh (K.keep _ _ hok λb _ o e=>Z2 _ e) s.heap.objs.size (abi Y.1) (abi Y.2) (.ref s.heap.objs.size) 0 WU
  (λh' tk I Z hk U O=>⟨h',tk,I,Z,rfl,rfl,λb o e=>hk b o (aak (aab e)) (Z2 _ e),U,O⟩) hn
 refine aar key (λfin s' x=>?_) λe s' x=>?_
 ·cases fin with
  | done f =>
    obtain⟨h',tk,I,Z,e,rfl,hk,U,O⟩:=x;cases e;show wpAny _ A (load s.heap.objs.size >>= _) _ _ _;refine aQ (wpAny_load U ?_);exact Z5 (h h' tk I hk (aab U) O)
  | again c₁ =>
    refine⟨x.1,codeAny_mono x.2 λq s₂ y=>?_⟩
    obtain⟨h',tk,I,Z,rfl,rfl,hk,U,O⟩:=y;show wpAny _ A (load s.heap.objs.size >>= _) _ _ _;refine aQ (wpAny_load U ?_);exact Z5 (h h' tk I hk (aab U) O)
 ·obtain⟨_,_,_,_,e',_⟩:=x;cases e'
end
section
variable {X:Cx}
def JJ(hc:X.calm=true):jx X (.builtin "sorted") (λxs H Q=>∃(p:Addr) (kvs:List (Key×V)) (ns:List Int),xs=[.ref p]/\H p=some (.dK kvs)/\kvs.map (·.1)=ns.map Sum.inl/\kvs.length<64/\
 ∀(l:Addr) (O : List Int),H l=none->O.Perm ns->O.Pairwise (·<=·)->Q (.ref l) (upd H l (.lst (O.map V.int)))):=by
 intro pq s σ H xs us Q I r h;obtain⟨p,kvs,ns,rfl,hp,Z,hn,q⟩:=h;obtain⟨u,rfl,rx⟩:=vals1 r;cases rx;obtain⟨z,hd,vs,rel,dd⟩:=Gw I.hok hp;obtain⟨ep,hat⟩:=dd.dictAt;have hlen:vs.length=kvs.length:=rel.length.symm;refine Calls.call_function_entry kind_sorted plain_sorted entry_sorted (args_sorted1 _) ?_;unfold Builtin.«sorted»;refine aQ (m:=checkCount "sorted" 1 1 _) (Z5 ?_);refine aQ (ze (A:=X.A.in1) (PySem.W.kdl_dict (knd:=b7 X.prog X.w) (kvs:=vs) (ep:=ep) hd) (I.ok.hd hc) hat (by rw[sizeLine_eq,hlen];lia) λh1 tk acc hk Sg U=>?_)
 have hl:acc.toList.length=vs.length:=by rw[abt];exact U.1
 have hI:IntsAre acc.toList ns:=wc (rel.keys.symm.trans Z) hl λj v e=>by
  obtain⟨k,x,h1,h2⟩:=U.2 j v (by rw[<-abB];exact e)
  exact⟨k,x,h1,h2⟩
 refine aQ (wpAny_newList ?_ (by rw[hl,hlen,sizeLine_eq];lia))
 have C9:(h1.push (seqObj "list" acc.toList.toArray 0)).get? h1.objs.size=some (seqObj "list" acc.toList.toArray 0):=aag _ rfl;refine aQ (aaG (wpAny_call_entry slot_list_sort ⟨_,C9,rfl⟩ entry_list_sort (list_sort_tree C9 hI (by lia) λout O a1 a2 a3=>⟨_,rfl,?_⟩) (args_list_sort _)))
 refine Z5 ⟨_,rfl,?_⟩;have ab:s.heap.objs.size<=h1.objs.size:=aaZ Sg;obtain⟨e,he⟩:=sortedHeap_at (out:=out) C9;have ar:H h1.objs.size=none:=I.hok.fresh ab;refine⟨.ref h1.objs.size,_,I.laid (t':=tk) (λb o hb=>?_) ab ?_,rfl,q _ O ar a2 a3⟩
 ·have ag:=hk b o hb;have Y:=aab ag;rw[sortedHeap_old (aak Y) (by rw[size_push'];exact abh Y),Heap.get?_push_ne _ _ _ (aak Y)]
  exact ag
 ·refine⟨?_,out.toList,e,yP a1,?_⟩
  ·rw[ZZ,a2.length_eq];have hx:=aas List.length Z;rw[ZZ,ZZ]at hx;exact aaZ (cf (by lia))
  ·have:out.toList.toArray=out:=by simp
   rw[this];exact he
def cZ(K:bH){e:Expr}{f:Str}{pos:Pos}{ta:TE}(he:PE X e ta)(hb:attributeBase e f X.env (eval e X.env)=eval e X.env:=by rfl)(hK:X.K=K:=by rfl):PE X (.Attribute e f pos) (Oo K ta f):=by
 subst hK;exact LP he hb
def JK{body:List Stmt}{h0:ExceptHandler}{hs:List ExceptHandler}{pos:Pos}{tb:TS}(hb:uU { X with xe:=λ_ _=>False} body tb):PS X (.Try body (h0::hs) [] [] pos) tb:=by
 intro pq s σ H D I h;refine wpAny_Try_except ?_;have U : Inv { X with xe:=λ_ _=>False} pq σ H s:=I.OV (A':=X.A) (cm:=X.calm) (QB:=X.pn) rfl I.ok.hd λp O=>O
 have back:∀{σ' H' s'},Inv { X with xe:=λ_ _=>False} pq σ' H' s'->Inv X pq σ' H' s':=λ{σ' H' s'} J=>J.OV (A':=X.A) (cm:=X.calm) (QB:=X.pn) (Ud:=X.xe) rfl J.ok.hd λp O=>O
 refine aar (hb pq s σ H D U h) (λf s1 q=>?_) λ_ _ z=>z.elim
 cases f with
 | next =>
   obtain⟨σ',H',J,q⟩:=q;exact wpAny_execs_nil ⟨σ',H',back J,q⟩
 | brk =>
   obtain⟨σ',H',J,q⟩:=q;exact⟨σ',H',back J,q⟩
 | cont =>
   obtain⟨σ',H',J,q⟩:=q;exact⟨σ',H',back J,q⟩
 | ret u =>
   obtain⟨v,σ',H',J,r,q⟩:=q;exact⟨v,σ',H',back J,r,q⟩
end
end L2
namespace Ring
open PySem L2
abbrev bN:=List (Nat×cJ)
inductive gO where
 | put (n:Nat)
 | drop (n:Nat) (t:cJ)
structure cz(p f:Nat)(m:bN):Prop where
 asc:(m.map (·.1)).Pairwise (· < ·)
 below:∀e∈m,e.1<f
 good:∀e∈m,iF (p:Int) e.2
 few:m.length<=24
def without(n:Nat)(m:bN):bN:=m.filter λe=>decide (e.1≠n)
inductive Chain(p:Nat):List (Nat×bN)->List gO->Prop
 | nil:Chain p [(0,[])] []
 | put {f:Nat} {m:bN} {hs:List (Nat×bN)} {ds:List gO} {t:cJ}:Chain p ((f,m)::hs) ds->iF (p:Int) t->m.length<24->Chain p ((f+1,m++[(f,t)])::(f,m)::hs) (.put f::ds)
 | drop {f:Nat} {m:bN} {hs:List (Nat×bN)} {ds:List gO} {n:Nat} {t:cJ}:Chain p ((f,m)::hs) ds->(n,t)∈m->Chain p ((f,without n m)::(f,m)::hs) (.drop n t::ds)
section
variable {p f n:Nat}{m m' : bN}{hs:List (Nat×bN)}{ds:List gO}{t:cJ}
def cz.nil:cz p 0 []:=⟨List.Pairwise.nil,(λ_ h=>nomatch h),(λ_ h=>nomatch h),aaB _⟩
def cz.put(h:cz p f m)(g:iF (p:Int) t)(hl:m.length<24):cz p (f+1) (m++[(f,t)]):=by
 refine⟨?_,λe he=>?_,λe he=>?_,by rw[Z7];simp;lia⟩
 ·rw[aaw,List.pairwise_append];refine⟨h.asc,by simp,λx hx y I=>?_⟩
  obtain⟨e,he,rfl⟩:=aai.mp hx;have:y=f:=by simpa using I
  rw[this];exact h.below e he
 ·rcases aau.mp he with he|he
  ·exact abh (h.below e he)
  ·cases aam.mp he;exact abb _
 ·rcases aau.mp he with he|he
  ·exact h.good e he
  ·cases aam.mp he;exact g
def qW{e:Nat×cJ}(h:e∈without n m):e∈m:=(aao.mp h).1
def cz.drop(h:cz p f m)(n:Nat):cz p f (without n m) :=
 ⟨h.asc.sublist (List.Sublist.map _ List.filter_sublist),λe he=>h.below e (qW he),λe he=>h.good e (qW he),aat (aaP _ _) h.few⟩
def Chain.ok': ∀{hs:List (Nat×bN)} {ds:List gO},Chain p hs ds->∀f m hs',hs=(f,m)::hs'->cz p f m
 | _,_,.nil,f,m,hs',e=>by cases e;exact cz.nil
 | _,_,.put c g hl,f,m,hs',e=>by cases e;exact(c.ok' _ _ _ rfl).put g hl
 | _,_,.drop c hm,f,m,hs',e=>by cases e;exact(c.ok' _ _ _ rfl).drop _
def Chain.ok(c:Chain p ((f,m)::hs) ds):cz p f m:=c.ok' _ _ _ rfl
def Chain.len:∀{hs:List (Nat×bN)} {ds:List gO},Chain p hs ds->hs.length=ds.length+1
 | _,_,.nil=>rfl
 | _,_,.put c _ _=>aas (· + 1) c.len
 | _,_,.drop c _=>aas (· + 1) c.len
def cz.yo(h:cz p f m)(p1:1<=p)(p2:p<=10):aD p (m.map (·.2)):=⟨p1,p2,by rw[ZZ];exact h.few,λt ht=>by
 obtain⟨e,he,rfl⟩:=aai.mp ht;exact h.good e he⟩
def cz.nodup(h:cz p f m):(m.map (·.1)).Nodup:=h.asc.imp λh=>aak h
def cz.fresh(h:cz p f m): ¬ f∈m.map (·.1):=λhm=>by
 obtain⟨e,he,q⟩:=aai.mp hm;have:=h.below e he
 lia
def kQ:∀{m:bN},¬ n∈m.map (·.1)->without n m=m:=λ{m} h=>by
 unfold without;rw[List.filter_eq_self];intro e he;refine fG λz=>h ?_
 rw[<-z];exact aa8 he
def zf(h : ¬ n∈m.map (·.1)):without n (m++[(n,t)])=m:=by
 have e:=kQ h;unfold without at e ⊢;rw[ab5,e];simp
def perm_back:∀{m:bN},(m.map (·.1)).Nodup->(n,t)∈m->(without n m++[(n,t)]).Perm m
 | [],_,h=>nomatch h
 | e::r,hn,h=>by
   obtain⟨h1,h2⟩:=aaI.mp (show(e.1::r.map (·.1)).Nodup from hn)
   by_cases he:e.1=n
   ·have hr:without n (e::r)=r:=by
     have q:=kQ (n:=n) (m:=r) (he▸h1);unfold without at q ⊢;rw[aay,Z0 (by simp[he]),q]
    have I:e=(n,t):=by
     rcases aaa.mp h with z|z
     ·exact z.symm
     ·exact absurd (aa8 (f:=(·.1)) z) (he▸h1)
    rw[hr,I];exact List.perm_append_singleton _ _
   ·have hr:without n (e::r)=e::without n r:=by
     unfold without;rw[aay,Z1 (by simp[he])]
    rw[hr];refine List.Perm.cons _ (perm_back h2 ?_);rcases aaa.mp h with z|z
    ·exact absurd (by rw[<-z]) he
    ·exact z
end
abbrev Ent:=Nat×Addr×cJ
def xE(e:Ent):Key×V:=(Sum.inl ((e.1:Nat):Int),.ref e.2.1)
def JL(e:Ent):Nat×cJ:=(e.1,e.2.2)
def kN(n:Nat):Key:=Sum.inl ((n:Nat):Int)
def Bg{a b:Nat}(h:kN a=kN b):a=b:=by
 have:=Sum.inl.inj h
 lia
def cT(H:Hp)(a:Addr)(m:bN):Prop:=∃es:List Ent,H a=some (.dK (es.map xE))/\(es.map JL).Perm m/\∀e∈es,H e.2.1=some (.tup (kO e.2.2))
section
variable {H H' : Hp}{a b:Addr}{p f n:Nat}{m m' : bN}{es:List Ent}{t:cJ}
def cT.keep(h:cT H a m)(ts:bJ H H')(ha:H' a=H a):cT H' a m:=by
 obtain⟨es,h1,h2,I⟩:=h;exact⟨es,by rw[ha];exact h1,h2,λe he=>ts _ _ (I e he)⟩
def cT.same(h:cT H a m)(s:aq H H'):cT H' a m:=by
 obtain⟨es,h1,h2,I⟩:=h;exact⟨es,s _ _ h1,h2,λe he=>s _ _ (I e he)⟩
def oF(hp:(es.map JL).Perm m):(es.map (·.1)).Perm (m.map (·.1)):=by
 have q:=hp.map (·.1);rw[abk]at q;exact q
def Bh:∀{es:List Ent},(es.map (·.1)).Nodup->∀e∈es,cN (es.map xE) (kN e.1)=some (.ref e.2.1)
 | [],_,_,h=>nomatch h
 | x::r,hn,e,h=>by
   obtain⟨h1,h2⟩:=aaI.mp (show(x.1::r.map (·.1)).Nodup from hn)
   rw[aaj];rcases aaa.mp h with z|z
   ·subst z;exact bZ rfl
   ·rw[bQ (show ¬(xE x).1=kN e.1 from λq=>h1 (by rw[Bg (a:=x.1) q];exact aa8 z))]
    exact Bh h2 e z
def CG:∀{es:List Ent},¬ n∈es.map (·.1)->cN (es.map xE) (kN n)=none
 | [],_=>rfl
 | x::r,h=>by
   rw[aaj,bQ (show ¬(xE x).1=kN n from λq=>h (by rw[<-Bg (a:=x.1) q];exact aad))]
   exact CG λz=>h (m9 _ z)
def CH(n:Nat):∀es:List Ent,bz (es.map xE) (kN n)=(es.filter λe=>decide (e.1≠n)).map xE
 | []=>rfl
 | x::r=>by
   have I:=CH n r;unfold bz at I ⊢;rw[aaj,aay,aay,I]
   by_cases h:x.1=n
   ·rw[Z0 (by simp[xE,kN,h]),Z0 (by simp[h])]
   ·rw[Z1 (fG (show(xE x).1≠kN n from λq=>h (Bg (a:=x.1) q))),Z1 (by simp[h])]
    rfl
def DO(hp:(es.map JL).Perm m):((es.filter λe=>decide (e.1≠n)).map JL).Perm (without n m):=by
 have q:=hp.filter λe=>decide (e.1≠n)
 rw[List.filter_map]at q;exact q
def cT.sorted(h:cT H a m)(ok:cz p f m):∃kvs ns,H a=some (.dK kvs)/\kvs.map (·.1)=ns.map Sum.inl/\kvs.length<64/\
 ∀I : List Int,I.Perm ns->I.Pairwise (·<=·)->I.map V.int=aB (m.map (·.1)):=by
 obtain⟨es,h1,h2,Y⟩:=h;refine⟨_,es.map λe=>((e.1:Nat):Int),h1,?_,?_,λI O hs=>?_⟩
 ·rw[abk,abk];rfl
 ·have q:=h2.length_eq;rw[ZZ]at q;rw[ZZ];have:=ok.few
  lia
 ·have U:I = (m.map (·.1)).map λx=>((x:Nat):Int):=by
   refine List.Perm.eq_of_pairwise (λx y _ _ h1 h2=>Int.le_antisymm h1 h2) hs ?_ (O.trans ?_)
   ·rw[aa7];exact ok.asc.imp λh=>by lia
   ·have q:=(oF h2).map λx=>((x:Nat):Int)
    rw[abk]at q;exact q
  rw[U,abk];rfl
def cT.get(h:cT H a m)(ok:cz p f m)(hm:(n,t)∈m):∃kvs b,H a=some (.dK kvs)/\cN kvs (kN n)=some (.ref b)/\H b=some (.tup (kO t)):=by
 obtain⟨es,h1,h2,I⟩:=h;obtain⟨e,he,q⟩:=aai.mp (h2.mem_iff.mpr hm);have O:e.1=n:=aas (·.1) q;have U:e.2.2=t:=aas (·.2) q;refine⟨_,e.2.1,h1,?_,by rw[<-U];exact I e he⟩
 rw[<-O];exact Bh ((oF h2).nodup_iff.mpr ok.nodup) e he
def cT.len(h:cT H a m):∃kvs,H a=some (.dK kvs)/\kvs.length=m.length:=by
 obtain⟨es,h1,h2,I⟩:=h;refine⟨_,h1,?_⟩;rw[ZZ,<-h2.length_eq,ZZ]
def cT.put(h:cT H a m)(hn : ¬ n∈m.map (·.1))(hb:H b=some (.tup (kO t))):∃kvs,H a=some (.dK kvs)/\kvs.length=m.length/\
 ∀H' m',bJ H H'->H' a=some (.dK (putK kvs (kN n) (.ref b)))->(m++[(n,t)]).Perm m'->cT H' a m':=by
 obtain⟨es,h1,h2,I⟩:=h;refine⟨_,h1,by rw[ZZ,<-h2.length_eq,ZZ],λH' m' ts ha O=>⟨es++[(n,b,t)],?_,?_,λe he=>?_⟩⟩
 ·rw[ha,tF _ (CG λz=>hn ((oF h2).mem_iff.mp z)),aaw]
  rfl
 ·rw[aaw];exact(h2.append_right _).trans O
 ·rcases aau.mp he with he|he
  ·exact ts _ _ (I e he)
  ·cases aam.mp he;exact ts _ _ hb
def cT.pop(h:cT H a m)(ok:cz p f m)(hm:(n,t)∈m):∃kvs b,H a=some (.dK kvs)/\cN kvs (kN n)=some (.ref b)/\H b=some (.tup (kO t))/\
 ∀H',bJ H H'->H' a=some (.dK (bz kvs (kN n)))->cT H' a (without n m):=by
 obtain⟨es,h1,h2,I⟩:=h;obtain⟨e,he,q⟩:=aai.mp (h2.mem_iff.mpr hm);have O:e.1=n:=aas (·.1) q;have U:e.2.2=t:=aas (·.2) q;refine⟨_,e.2.1,h1,?_,by rw[<-U];exact I e he,λH' ts ha=>⟨_,ha.trans (by rw[CH]),DO h2,λe he=>ts _ _ (I e (aao.mp he).1)⟩⟩
 rw[<-O];exact Bh ((oF h2).nodup_iff.mpr ok.nodup) e he
end
def tI(H:Hp)(y:V):gO->Prop
 | .put n=>∃b,y = .ref b/\H b=some (.tup [.int (n:Int),.dH])
 | .drop n t=>∃b c,y = .ref b/\H b=some (.tup [.int (n:Int),.ref c])/\H c=some (.tup (kO t))
def tI.tups{H H' : Hp}(ts:bJ H H'){y:V}:∀{d:gO},tI H y d->tI H' y d
 | .put _,⟨b,e,h⟩=>⟨b,e,ts _ _ h⟩
 | .drop _ _,⟨b,c,e,h,g⟩=>⟨b,c,e,ts _ _ h,ts _ _ g⟩
def Bj{α β:Type}{R:α->β->Prop}:∀{xs:List α} {ys:List β} {y:β},Paired R xs (ys++[y])->∃I x,xs=I++[x]/\Paired R I ys/\R x y
 | _,[],_,.cons h .nil=>⟨[],_,rfl,.nil,h⟩
 | _,_::_,_,.cons h r=>by
   obtain⟨I,x,e,h1,h2⟩:=Bj r;exact⟨_::I,x,by rw[e];rfl,.cons h h1,h2⟩
def iG(n:Nat)(d:Addr)(f:Nat)(q:Addr):List (Str×V):=[("points",.int (n:Int)),("standing_ties",.ref d),("next_name",.int (f:Int)),("done",.ref q)]
def K3: ¬(("points":Str)="standing_ties"):=by decide +kernel
def GG: ¬(("points":Str)="next_name"):=by decide +kernel
def K4: ¬(("points":Str)="done"):=by decide +kernel
def ne_sn: ¬(("standing_ties":Str)="next_name"):=by decide +kernel
def K5: ¬(("standing_ties":Str)="done"):=by decide +kernel
def K6: ¬(("next_name":Str)="done"):=by decide +kernel
def jB{g f:Str}{x v:V}{r:List (Str×V)}(h : ¬ g=f):cA f v ((g,x)::r)=(g,x)::cA f v r:=Z0 h
def JM{f:Str}{x v:V}{r:List (Str×V)}:cA f v ((f,x)::r)=(f,v)::r:=Z1 rfl
def iQ(n:Nat)(d:Addr)(f:Nat)(q:Addr):cA "done" (.ref q) (cA "next_name" (.int (f:Int)) (cA "standing_ties" (.ref d) (cA "points" (.int (n:Int)) [])))=iG n d f q:=by
 have I:cA "points" (.int (n:Int)) []=[(("points":Str),V.int (n:Int))]:=rfl;rw[I,jB K3];rw[show cA "standing_ties" (.ref d) []=[(("standing_ties":Str),V.ref d)] from rfl,jB GG,jB ne_sn]
 rw[show cA "next_name" (.int (f:Int)) []=[(("next_name":Str),V.int (f:Int))] from rfl,jB K4,jB K5,jB K6]
 rfl
def we(n:Nat)(d:Addr)(f g:Nat)(q:Addr):cA "next_name" (.int (g:Int)) (iG n d f q)=iG n d g q:=by
 unfold iG;rw[jB GG,jB ne_sn,JM]
section
variable {n f:Nat}{d q:Addr}
def wg:(iG n d f q).lookup ("points":Str)=some (.int (n:Int)):=by
 rw[<-iQ,aZ,Z0 K4,aZ,Z0 GG,aZ,Z0 K3,aZ,Z1 rfl]
def kR:(iG n d f q).lookup ("standing_ties":Str)=some (.ref d):=by
 rw[<-iQ,aZ,Z0 K5,aZ,Z0 ne_sn,aZ,Z1 rfl]
def JN:(iG n d f q).lookup ("next_name":Str)=some (.int (f:Int)):=by
 rw[<-iQ,aZ,Z0 K6,aZ,Z1 rfl]
def oG:(iG n d f q).lookup ("done":Str)=some (.ref q):=by
 rw[<-iQ,aZ,Z1 rfl]
def gP{m:Str}(h1 : ¬ m="points")(h2 : ¬ m="standing_ties")(h3 : ¬ m="next_name")(h4 : ¬ m="done"):(iG n d f q).lookup m=none:=by
 rw[<-iQ,aZ,Z0 h4,aZ,Z0 h3,aZ,Z0 h2,aZ,Z0 h1];rfl
end
def none_of{H H' : Hp}{p d:Addr}(k:∀b o,H b=some o->b≠p->H' b=some o)(h:H' d=none)(n:d≠p):H d=none:=by
 cases e:H d with
 | none=>rfl
 | some o =>
   rw[k d o e n]at h;cases h
structure fO(C:Addr)(H:Hp)(p d q:Addr)(n:Nat)(hs:List (Nat×bN))(ds:List gO):Prop where
 ch:Chain n hs ds
 p1:1<=n
 p2:n<=10
 ob:∃dx f m hs',hs=(f,m)::hs'/\H p=some (.ins C dx (iG n d f q))/\cT H d m
 dn:∃ys,H q=some (.lst ys)/\Paired (tI H) ys ds.reverse
structure Kept(H H' : Hp)(p d q:Addr):Prop where
 tups:bJ H H'
 rest:∀b o,H b=some o->b≠p->b≠d->b≠q->H' b=some o
def Kept.trans{H H1 H2:Hp}{p d q:Addr}(a:Kept H H1 p d q)(b:Kept H1 H2 p d q):Kept H H2 p d q:=⟨a.tups.trans b.tups,λc o e h1 h2 I=>b.rest c o (a.rest c o e h1 h2 I) h1 h2 I⟩
def fO.same{C:Addr}{H H' : Hp}{p d q:Addr}{n:Nat}{hs:List (Nat×bN)}{ds:List gO}(h:fO C H p d q n hs ds)(s:aq H H'):fO C H' p d q n hs ds:=by
 obtain⟨dx,f,m,hs',e,h1,h2⟩:=h.ob;obtain⟨ys,h3,h4⟩:=h.dn;exact⟨h.ch,h.p1,h.p2,⟨dx,f,m,hs',e,s _ _ h1,h2.same s⟩,ys,s _ _ h3,Paired.imp' (λ_ _ z=>z.tups s.tups) h4⟩
section
variable {C p d q L:Addr}{H H' H2:Hp}{n:Nat}{hs:List (Nat×bN)}{ds:List gO}{xs ys:List V}{x:V}{r:Nat×bN}
def fO.list(S:fO C H p d q n hs ds)(hL:H L=some (.lst xs))(nq:L≠q):fO C (upd H L (.lst ys)) p d q n hs ds:=by
 obtain⟨dx,f,m,hs',e,h1,h2⟩:=S.ob;obtain⟨zs,h3,h4⟩:=S.dn;obtain⟨kvs,h5,_⟩:=h2.len;have t:bJ H (upd H L (.lst ys)):=bJ.put hL;refine⟨S.ch,S.p1,S.p2,⟨dx,f,m,hs',e,?_,h2.keep t ?_⟩,zs,?_,Paired.imp' (λ_ _ z=>z.tups t) h4⟩
 ·rw[ae (aE h1 hL (by intro z;cases z))]
  exact h1
 ·rw[ae (aE h5 hL (by intro z;cases z))]
 ·rw[ae (aaq nq)];exact h3
end
end Ring
namespace L2
open PySem PySem.Spec PyProof.Rows
section
variable {X:Cx}
def My:R2:=λx y H Q=>∃a b xs ys,x = .ref a/\y = .ref b/\H a=some (.tup xs)/\H b=some (.tup ys)/\xs.length+ys.length<=sizeLine/\∀p H',aq H H'->H' p=some (.tup (xs++ys))->Q (.ref p) H'
def O8:lq X (binaryOp .Add) My:=by
 intro pq s σ H x y v u Q I rx O h;obtain⟨a,b,xs,ys,rfl,rfl,ha,hb,hz,q⟩:=h
 by_cases hx:xs=[]
 ·subst hx;cases rx;cases O;obtain⟨U,Y,p1,_⟩:=I.tuple (bf.of ha);obtain⟨its2,r2,p2,_⟩:=I.tuple (bf.of hb);obtain⟨⟨cls,dd,data,sl⟩,ho,hc,n,hd⟩:=id p1;obtain⟨⟨Jc,dd2,data2,sl2⟩,ho2,hc2,n2,hd2⟩:=id p2;simp only at hc hd hc2 hd2;subst hc hd hc2 hd2;cases Y;exact concat_meets ⟨_,ho,rfl⟩ ⟨_,ho2,rfl⟩ noFill_tuple_add seq_tuple_add acm acf (ab4 _ _)
   (tuple_addW0 a b _ its2.toArray n n2 dd dd2 sl sl2 rfl) ⟨ho,ho2,⟨.ref b,H,I,rfl,q b H (aq.refl _) hb⟩⟩
 ·exact Jh pq s σ H _ _ _ _ Q I rx O ⟨a,b,xs,ys,rfl,rfl,bf.of ha,bf.of hb,hx,hz,λz=>q a H (aq.refl _) (by rw[z,abq];exact ha),λz p Z=>q p _ (aq.new Z) af⟩
end
def DQ{K:bH}{a:Addr}{xs:List V}{g:TG}{tb:TS}{D:Ends}{σ:St}{H:Hp}(Pv:Nat->St->Hp->Prop)(h0:Pv 0 σ H)(hl:∀i σ H,i<=xs.length->Pv i σ H->bf K H a xs)
 (hs:∀i x T σ H,xs[i]?=some x->Pv i σ H->H T=none->g (.ref T) σ (upd H T (.tup [.int (i:Int),x])) λσ2 H2=>tb { D with nx:=Pv (i+1),ct:=Pv (i+1),bk:=D.nx} σ2 H2) (hd:∀σ H,Pv xs.length σ H->D.nx σ H) :
 ∃W:Nat->Nat->St->Hp->Prop,(∃m,W 0 m σ H)/\∀i m σ H,W i m σ H->
   ((DH K a).stop i H/\D.nx σ H)\/((DH K a).go i H/\∃N:St->Hp->Prop,(∀σ' H',N σ' H'->∃m',m'<m/\W (i+1) m' σ' H')/\∀x H',(DH K a).IG i H x H'->g x σ H' λσ2 H2=>tb { D with nx:=N,ct:=N,bk:=D.nx} σ2 H2):=by
 refine⟨λi m σ H=>m=xs.length-i/\i<=xs.length/\Pv i σ H,⟨xs.length,by simp,aaB _,h0⟩,?_⟩
 rintro i m σ H ⟨rfl,hi,p⟩;have q:=hl i σ H hi p
 by_cases I:i<xs.length
 ·refine .inr ⟨⟨xs,xs[i],q,by simp[I]⟩,Pv (i+1),λσ' H' O=>⟨xs.length-(i+1),by lia,rfl,I,O⟩,λv H' y=>?_⟩
  obtain⟨T,x,rfl,U,rfl,Y⟩:=y;exact hs i x T σ _ (Y xs q) p U
 ·have e:i=xs.length:=by lia
  subst e;exact .inl ⟨⟨xs,q,rfl⟩,hd σ H p⟩
end L2
namespace Ring
open PySem L2
def oV:Option Int->V
 | none=>.dH
 | some i=>.int i
abbrev Pr:=Option Int×Option Int
def sel(q:Pr)(u:Bool):Option Int:=if u=true then q.2 else q.1
def JO(R:List Pr)(i:Nat):Pr:=R.getD i (none,none)
def jc(H:Hp)(x:V)(q:Pr):Prop:=∃b,x = .ref b/\H b=some (.tup [oV q.1,oV q.2])
def RowW(H:Hp)(x:V)(R:List Pr):Prop:=∃b ys,x = .ref b/\H b=some (.tup ys)/\Paired (jc H) ys R
def lQ(H:Hp)(b:Addr)(W:List (List Pr)):Prop:=∃ys,H b=some (.tup ys)/\Paired (RowW H) ys W
def jc.same{H H' : Hp}(s:aq H H'){x:V}{q:Pr}(h:jc H x q):jc H' x q:=let⟨b,e,z⟩:=h;⟨b,e,s _ _ z⟩
def RowW.same{H H' : Hp}(s:aq H H'){x:V}{R:List Pr}(h:RowW H x R):RowW H' x R:=let⟨b,ys,e,z,pr⟩:=h;⟨b,ys,e,s _ _ z,Paired.imp' (λ_ _ z=>z.same s) pr⟩
def lQ.same{H H' : Hp}(s:aq H H'){b:Addr}{W:List (List Pr)}(h:lQ H b W):lQ H' b W:=let⟨ys,z,pr⟩:=h;⟨ys,s _ _ z,Paired.imp' (λ_ _ z=>z.same s) pr⟩
def jc.tups{H H' : Hp}(s:bJ H H'){x:V}{q:Pr}(h:jc H x q):jc H' x q:=let⟨b,e,z⟩:=h;⟨b,e,s _ _ z⟩
def RowW.tups{H H' : Hp}(s:bJ H H'){x:V}{R:List Pr}(h:RowW H x R):RowW H' x R:=let⟨b,ys,e,z,pr⟩:=h;⟨b,ys,e,s _ _ z,Paired.imp' (λ_ _ z=>z.tups s) pr⟩
end Ring
namespace RM
variable {N:Net}{m t0:Nat}
def Net.QJ(N:Net)(t v:Nat):Nat:=if N.a t=v then N.b t else N.a t
def Net.pQ(N:Net)(left v:Nat):List Nat:=(List.range N.n).filter λt=>left.testBit t&&(decide (N.a t=v) || decide (N.b t=v))
def jd{left v t:Nat}:t∈N.pQ left v↔t<N.n/\left.testBit t=true/\(N.a t=v\/N.b t=v):=by
 unfold Net.pQ;rw[aao,aan,aaT,Bool.or_eq_true,decide_eq_true_eq,decide_eq_true_eq]
inductive Wk(N:Net)(m t0:Nat):List (Nat×Int)->Nat->Nat->Prop
 | start:Wk N m t0 [(t0,1)] (N.b t0) (m^^^2^t0)
 | next {acc:List (Nat×Int)} {v left t:Nat} (h:Wk N m t0 acc v left) (h0:left≠0) (ht:(N.pQ left v)[0]?=some t):Wk N m t0 (acc++[(t,if N.a t=v then 1 else -1)]) (N.QJ t v) (left^^^2^t)
def zg{t v:Nat}(h:N.a t=v\/N.b t=v):(N.a t=v/\N.b t=N.QJ t v)\/(N.b t=v/\N.a t=N.QJ t v):=by
 unfold Net.QJ
 by_cases e:N.a t=v
 ·rw[Z1 e];exact .inl ⟨e,rfl⟩
 ·rw[Z0 e];rcases h with h|h
  ·exact absurd h e
  ·exact .inr ⟨h,rfl⟩
def GH{pre ks:List Nat}{v left:Nat}(h:Way N m pre v ks left)(hz:∀k,m.testBit k=true->k∈ks):left=0:=by
 apply aaE;intro k;rw[h.oB,aa3];cases hb:m.testBit k with
 | false=>rfl
 | true=>rw[fG (hz k hb)];rfl
def wk{pre ks:List Nat}{v left:Nat}(r:N.Ring m)(h:Way N m pre v ks left)(h0:left≠0):v∉pre:=λI=>by
 obtain⟨i,hi⟩:=aaF I;obtain⟨q0,qe,_,qs⟩:=h.closes hi;rcases r.2.2 _ qs qe with z|z
 ·exact q0 z
 ·refine h0 (GH h λk hk=>?_)
  rw[<-z,Ring.jA]at hk;exact acI (sC hk)
def Mz(hm:m<2^N.n)(r:N.Ring m)(hb:m.testBit t0=true){acc:List (Nat×Int)}{v left:Nat}(h:Wk N m t0 acc v left):∃pre,Way N m pre v (acc.map (·.1)) left/\pre[0]?=some (N.a t0):=by
 induction h with
 | start =>
   refine⟨[N.a t0],?_,rfl⟩;exact(Way.start hm r.2.1 hb).go (by simp) hb (.inl ⟨rfl,rfl⟩)
 | next h h0 ht ih =>
   obtain⟨pre,w,p0⟩:=ih;have I:=jd.mp (j7 ht);refine⟨_,by rw[aaw];exact w.go (wk r w h0) I.2.1 (zg I.2.2),?_⟩
   rw[aav (by have:=(ju.mp p0).1;exact this)]
   exact p0
def O9(hm:m<2^N.n)(r:N.Ring m)(hb:m.testBit t0=true){acc:List (Nat×Int)}{v left:Nat}(h:Wk N m t0 acc v left)(h0:left≠0):∃t,(N.pQ left v)[0]?=some t:=by
 obtain⟨pre,w,_⟩:=Mz hm r hb h;obtain⟨t,h1,h2⟩:=w.on (wk r w h0);have ht:t<N.n:=cY w.JC h1;have I:t∈N.pQ left v:=jd.mpr ⟨ht,h1,h2⟩;cases e:N.pQ left v with
 | nil=>rw[e]at I;cases I
 | cons x l=>exact⟨x,rfl⟩
def zh{left t n:Nat}(ht:t<n)(hb:left.testBit t=true):cnt (λj=>left.testBit j) n=cnt (λj=>(left^^^2^t).testBit j) n+1 :=
 sY (h:=t) hb ht λx _=>by
  rw[Z8,aal]
  by_cases e:x=t
  ·subst e;simp[hb]
  ·rw[iK e,iK (λz=>e z.symm)]
   simp
def xF(hm:m<2^N.n)(hb:m.testBit t0=true){acc:List (Nat×Int)}{v left:Nat}(h:Wk N m t0 acc v left):acc.length+cnt (λj=>left.testBit j) N.n=cnt (λj=>m.testBit j) N.n:=by
 induction h with
 | start =>
   have:=zh (cY hm hb) hb;show 1+_=_
   lia
 | next h h0 ht ih =>
   have I:=jd.mp (j7 ht);have:=zh I.1 I.2.1;rw[Z7,aaL]
   lia
variable {N:Net}{m t0:Nat}
def JP(hb:m.testBit t0=true){acc:List (Nat×Int)}{v left:Nat}(h:Wk N m t0 acc v left):∀k,left.testBit k=(m.testBit k && !decide (k∈acc.map (·.1))):=by
 induction h with
 | start =>
   intro k;rw[Z8,aal]
   by_cases e:t0=k
   ·subst e;simp[hb]
   ·have e' : ¬ k=t0:=λz=>e z.symm
    simp[e,e']
 | @next acc v left t h h0 ht ih =>
   intro k;have O:=jd.mp (j7 ht);have I:=O.2.1;rw[ih t]at I;rw[Z8,aal,ih k,aaw]
   by_cases e:t=k
   ·subst e;rw[I];simp
   ·have e' : ¬ k=t:=λz=>e z.symm
    have U:(k∈acc.map (·.1)++[(t,if N.a t=v then(1:Int) else -1)].map (·.1))↔k∈acc.map (·.1):=by simp[e']
    rw[show decide (k∈acc.map (·.1)++[(t,if N.a t=v then(1:Int) else -1)].map (·.1))=decide (k∈acc.map (·.1)) from aaY.mpr U]
    simp[e]
def Bk(hm:m<2^N.n)(hb:m.testBit t0=true){acc:List (Nat×Int)}{v left:Nat}(h:Wk N m t0 acc v left):left<2^N.n:=cK λk hk=>by
 rw[JP hb h k,aaT]at hk;exact cY hm hk.1
def GI{left n:Nat}(hl:left<2^n):cnt (λj=>left.testBit j) n=0↔left=0:=by
 constructor
 ·intro h;apply aap;intro h0;obtain⟨j,hj⟩:=abS h0;have:=CA (f:=λj=>left.testBit j) hj (cY hl hj)
  lia
 ·rintro rfl;rw[pN];refine(yV λk _=>?_).trans (Cz n)
  rw[Z0 (by rw[aa3];simp)]
def JQ(hm:m<2^N.n)(hb:m.testBit t0=true){acc:List (Nat×Int)}{v left:Nat}(h:Wk N m t0 acc v left):acc.length=cnt (λj=>m.testBit j) N.n↔left=0:=by
 have:=xF hm hb h;rw[<-GI (Bk hm hb h)]
 lia
end RM
namespace Ring
open PySem L2
def GJ{H:Hp}{xs:List V}{p:Nat}{ts:List cJ}{g:aD p ts}{k:Nat}(h3:Paired (TupAt H) xs ts)(hk:k<ts.length):∃c,xs[k]?=some (.ref c)/\H c=some (.tup [.int ((g.N.a k:Nat):Int),.int ((g.N.b k:Nat):Int),.int (bj ts k).2.2]):=by
 have I:k<xs.length:=by rw[h3.length];exact hk
 obtain⟨t,ht,c,hc,O⟩:=Paired.sS h3 (i:=k) (x:=xs[k]) (by simp[I])
 have U:t=bj ts k:=by
  have z:=vN hk;rw[ht]at z;exact Option.some.inj z
 refine⟨c,by rw[<-hc];simp[I],?_⟩
 rw[O,<-Gj hk,<-Gk hk,U];rfl
end Ring
namespace RM
variable {N:Net}{row WV:Nat->Int}
def DR{m t0:Nat}(hm:m<2^N.n)(r:N.Ring m)(hb:m.testBit t0=true):∃acc v,Wk N m t0 acc v 0:=by
 have key:∀(k:Nat) (acc:List (Nat×Int)) (v left:Nat),Wk N m t0 acc v left->cnt (λj=>left.testBit j) N.n=k->∃acc v,Wk N m t0 acc v 0:=by
  intro k
  induction k with
  | zero =>
    intro acc v left h e;have I:=xF hm hb h;rw[e]at I;have h0:=(JQ hm hb h).mp I;subst h0;exact⟨acc,v,h⟩
  | succ k O =>
    intro acc v left h e
    by_cases h0:left=0
    ·subst h0;exact⟨acc,v,h⟩
    ·obtain⟨t,ht⟩:=O9 hm r hb h h0;have h':=Wk.next h h0 ht;have l1:=xF hm hb h;have U:=xF hm hb h';rw[Z7]at U;refine O _ _ _ h' ?_;have Y:[((t:Nat),(if N.a t=v then(1:Int) else -1))].length=1:=rfl
     lia
 exact key _ _ _ _ .start rfl
variable {N' : Net}
end RM
namespace L2
open PySem PySem.Spec PyProof.Rows PySem.W
def vc(n:Nat){α:Type}(R:α->Prop):KasT α->Prop
 | .ret a=>R a
 | .ask i j k=>i<n/\j<n/\∀b,vc n R (k b)
def vc.bind{n:Nat}{α β:Type}{R:α->Prop}{R' : β->Prop}{f:α->KasT β}:∀{t:KasT α},vc n R t->(∀a,R a->vc n R' (f a))->vc n R' (t.bind f)
 | .ret a,h,g=>by
   rw[KasT.bind.eq_1];exact g a h
 | .ask i j k,h,g=>by
   rw[KasT.bind.eq_2];exact⟨h.1,h.2.1,λb=>vc.bind (h.2.2 b) g⟩
def cU(n:Nat)(p:Array Nat):Prop:=p.toList.Perm (List.range n)
def cU.at{n:Nat}{p:Array Nat}(h:cU n p)(hn:0<n)(x:Nat):p.getD x 0<n:=by
 unfold Array.getD
 split
 ·rename_i hx
  have:p[x]∈p.toList:=by simp
  exact aan.mp (h.mem_iff.mp this)
 ·exact hn
def DS{n:Nat}{p:Array Nat}(h:cU n p)(i j:Nat):cU n (p.swapIfInBounds i j):=by
 unfold Array.swapIfInBounds
 split
 ·split
  ·exact(Array.perm_iff_toList_perm.mp (Array.swap_perm _ _)).trans h
  ·exact h
 ·exact h
def pR{n:Nat}(f g:Nat->Nat):∀(l:List Nat) {p:Array Nat},cU n p->cU n (l.foldl (λa k=>a.swapIfInBounds (f k) (g k)) p)
 | [],_,h=>h
 | k::l,_,h=>pR f g l (DS h (f k) (g k))
def lR{n:Nat}{p:Array Nat}(h:cU n p)(i j:Nat):cU n (kas_rev p i j):=pR _ _ _ h
def GK{n:Nat}{p:Array Nat}(h:cU n p)(i j:Nat):cU n (bubble p i j):=pR _ _ _ h
def Bl{n:Nat}{p:Array Nat}(h:cU n p)(hn:0<n):∀f x,vc n (λ_=>True) (kas_asc p f x)
 | 0,x=>by
   rw[kas_asc.eq_1];trivial
 | f+1,x=>by
   rw[kas_asc.eq_2];refine⟨h.at hn _,h.at hn _,λb=>?_⟩
   cases b with
   | true=>trivial
   | false=>exact Bl h hn f (x+1)
def sf{n:Nat}(hn:0<n):∀f {p:Array Nat} (x q:Nat),cU n p->vc n (λr:Array Nat×Nat×Nat=>cU n r.1) (kas_desc f p x q)
 | 0,p,x,q,h=>by
   rw[kas_desc.eq_1];exact h
 | f+1,p,x,q,h=>by
   rw[kas_desc.eq_2];refine⟨h.at hn _,h.at hn _,λb=>?_⟩
   cases b with
   | true =>
     show vc n _ (if q > 0 then _ else _)
     by_cases I:q > 0
     ·rw[Z1 I];exact sf hn f _ _ (lR h _ _)
     ·rw[Z0 I];exact sf hn f _ _ h
   | false =>
     refine⟨h.at hn _,h.at hn _,λb=>?_⟩
     cases b with
     | true=>exact h
     | false=>exact sf hn f _ _ h
def CI{n:Nat}(hn:0<n){p:Array Nat}(h:cU n p)(x r:Nat):vc n (λr:Nat×Array Nat=>cU n r.2) (kas_tail3 x r p) :=
 vc.bind (Bl (lR h _ _) hn _ _) λ_ _=>lR h _ _
def CJ{n:Nat}(hn:0<n){p:Array Nat}(h:cU n p)(x r:Nat):vc n (λr:Nat×Array Nat=>cU n r.2) (kas_descPart x r p):=by
 refine vc.bind (sf hn _ _ _ h) λy I=>?_
 by_cases O:y.2.2 > 0
 ·rw[Z1 O];exact CI hn (lR I _ _) _ _
 ·rw[Z0 O];exact CI hn I _ _
def GL{n:Nat}(hn:0<n){p:Array Nat}(h:cU n p)(r:Nat):vc n (λr:Nat×Array Nat=>cU n r.2) (kas_count r p):=by
 refine vc.bind (Bl h hn _ _) λy _=>?_
 by_cases h1:(y==r)=true
 ·rw[Z1 h1];exact h
 ·rw[Z0 h1]
  by_cases h2:y > 1
  ·rw[Z1 h2];refine⟨h.at hn _,h.at hn _,λb=>?_⟩
   cases b with
   | true=>exact h
   | false=>exact CJ hn (lR h _ _) _ _
  ·rw[Z0 h2];exact CJ hn h _ _
def tJ{n:Nat}(hn:0<n){p:Array Nat}(h:cU n p)(k:Nat):∀f x y,vc n (λ_=>True) (kas_place p k f x y)
 | 0,x,y=>by
   rw[kas_place.eq_1];trivial
 | f+1,x,y=>by
   rw[kas_place.eq_2]
   by_cases hx:x ≥ y
   ·rw[Z1 hx];trivial
   ·rw[Z0 hx];refine⟨h.at hn _,h.at hn _,λb=>?_⟩
    cases b with
    | true=>exact tJ hn h k f _ _
    | false=>exact tJ hn h k f _ _
def GN{n:Nat}(hn:0<n):∀f {p:Array Nat} (x:Nat),cU n p->vc n (cU n) (kas_bin f p x)
 | 0,p,x,h=>by
   rw[kas_bin.eq_1];exact h
 | f+1,p,x,h=>by
   rw[kas_bin.eq_2];exact vc.bind (tJ hn h _ _ _ _) λl _=>GN hn f _ (GK h _ _)
def JR{n:Nat}(hn:0<n):vc n (cU n) (kas_sort n):=by
 unfold kas_sort;have h0:cU n (List.range n).toArray:=by unfold cU;simp
 refine vc.bind (GL hn h0 n) λr hr=>?_
 by_cases hx:r.1<n
 ·rw[Z1 hx];exact GN hn _ _ hr
 ·rw[Z0 hx];exact hr
def K7(h:Heap)(v:Value):Prop:=∃(a:Addr) (o:Obj) (x y:Int) (t u:Tok) (k:Nat),v = .ref a/\h.get? a=some o/\o.cls = .type "tuple"/\o.data = .seq #[.int x t,.int y u] k
def DT{prog:Program}{w:World}{A:Around}{E:cP}{s:Shared}{vs:List Value}{Q:SortKind->Shared->Prop}(hn:0<vs.length)(I:∀v∈vs,K7 s.heap v)(q:Q (tuples' true) s):wpAny (model prog w) A (keyKind' vs.toArray) Q E s:=by
 obtain⟨fs,hl,hf,hk⟩:∃fs:List Value,fs.length=vs.length/\(∀v∈fs,∃x t,v=Value.int x t)/\KatTups s.heap vs fs:=by
  clear q hn
  induction vs with
  | nil=>exact⟨[],rfl,λv I=>(by cases I),by rw[KatTups.eq_1];trivial⟩
  | cons v vs U =>
    obtain⟨fs,h1,h2,Y⟩:=U λv O=>I v (m9 _ O)
    obtain⟨a,o,x,y,t,u,k,e,Z,hc,hd⟩:=I v aad;refine⟨.int x t::fs,by simp[h1],λv' O=>?_,?_⟩
    ·rcases aaa.mp O with rfl|O
     ·exact⟨x,t,rfl⟩
     ·exact h2 v' O
    ·rw[KatTups.eq_2];exact⟨⟨a,o,_,k,e,Z,hc,hd,rfl⟩,Y⟩
 refine kat_kind (T:=.type "int") hk (by lia) (λv I=>?_) (by decide) q
 obtain⟨x,t,rfl⟩:=hf v I;intro A Q E s _ q;exact Z5 q
end L2
namespace RM
variable {N:Net}
inductive Sp(B:List Nat):Nat->Prop
 | zero:Sp B 0
 | add {x b:Nat} (h:Sp B x) (hb:b∈B):Sp B (x^^^b)
section
variable {B C:List Nat}{x y b:Nat}
def Sp.mem(h:b∈B):Sp B b:=by
 have:=Sp.add .zero h;rw[aaS]at this;exact this
def Sp.xor(h:Sp B x)(h' : Sp B y):Sp B (x^^^y):=by
 induction h' with
 | zero=>rw[aaW];exact h
 | add _ hb ih=>rw[<-aaR];exact .add ih hb
def Sp.mono(h:Sp B x)(hc:∀b∈B,Sp C b):Sp C x:=by
 induction h with
 | zero=>exact .zero
 | add _ hb ih=>exact ih.xor (hc _ hb)
def kj(x b:Nat):x^^^b^^^b=x:=by rw[aaR,abj,aaW]
def Sp.lS:Sp (b::B) x↔Sp B x\/Sp B (x^^^b):=by
 constructor
 ·intro h
  induction h with
  | zero=>exact .inl .zero
  | add h hc I =>
    rename_i x c
    rcases aaa.mp hc with e|e
    ·subst e;rcases I with I|I
     ·exact .inr (by rw[kj];exact I)
     ·exact .inl I
    ·rcases I with I|I
     ·exact .inl (.add I e)
     ·exact .inr (by rw[aaR,ac0 c,<-aaR];exact .add I e)
 ·rintro(h|h)
  ·exact h.mono λc hc=>.mem (m9 _ hc)
  ·have h2:Sp (b::B) (x^^^b):=h.mono λc hc=>.mem (m9 _ hc)
   have:=h2.add (b:=b) aad;rw[kj]at this;exact this
def Sp.off{t:Nat}(h:Sp B x)(hz:∀b∈B,b.testBit t=false):x.testBit t=false:=by
 induction h with
 | zero=>exact aa3 t
 | add _ hb ih=>rw[Z8,ih,hz _ hb];rfl
def Sp.lt{n:Nat}(h:Sp B x)(hz:∀b∈B,b<2^n):x<2^n:=by
 induction h with
 | zero=>exact aa2 n
 | add _ hb ih=>exact aaM ih (hz _ hb)
end
inductive K8:List (Nat×Nat)->Prop
 | nil:K8 []
 | cons {t r:Nat} {rest:List (Nat×Nat)} (h:K8 rest) (hr:r.testBit t=true) (hz:∀q∈rest,q.2.testBit t=false):K8 ((t,r)::rest)
def zj(rows:List (Nat×Nat))(x:Nat):Nat:=rows.foldl (λx q=>if x.testBit q.1=true then x^^^q.2 else x) x
section
variable {rows:List (Nat×Nat)}{x t:Nat}
def CK(rows:List (Nat×Nat)):∀x,Sp (rows.map (·.2)) (x^^^zj rows x):=by
 induction rows with
 | nil=>intro x;show Sp [] (x^^^x);rw[abj];exact .zero
 | cons q rest I =>
   intro x;show Sp (q.2::rest.map (·.2)) (x^^^zj rest (if x.testBit q.1=true then x^^^q.2 else x))
   have h:=I (if x.testBit q.1=true then x^^^q.2 else x)
   by_cases e:x.testBit q.1=true
   ·rw[Z1 e]at h ⊢;refine Sp.lS.mpr (.inr ?_);rw[aaR,ac0 _ q.2,<-aaR];exact h
   ·rw[Z0 e]at h ⊢;exact Sp.lS.mpr (.inl h)
def DU(hz:∀q∈rows,q.2.testBit t=false):∀{x},x.testBit t=false->(zj rows x).testBit t=false:=by
 induction rows with
 | nil=>intro x h;exact h
 | cons q rest I =>
   intro x h;have h2:(if x.testBit q.1=true then x^^^q.2 else x).testBit t=false:=by
    by_cases e:x.testBit q.1=true
    ·rw[Z1 e,Z8,h,hz q aad];rfl
    ·rw[Z0 e];exact h
   exact I (λq' O=>hz q' (m9 _ O)) h2
def wm(h:K8 rows):∀x,∀q∈rows,(zj rows x).testBit q.1=false:=by
 induction h with
 | nil=>intro x q I;cases I
 | cons h hr hz O =>
   rename_i t r rest
   intro x q I;show(zj rest (if x.testBit t=true then x^^^r else x)).testBit q.1=false
   rcases aaa.mp I with e|e
   ·subst e;refine DU hz ?_
    by_cases e:x.testBit t=true
    ·rw[Z1 e,Z8,e,hr];rfl
    ·rw[Z0 e];exact acV.mpr e
   ·exact O _ q e
def GO(h:K8 rows):∀{x},Sp (rows.map (·.2)) x->(∀q∈rows,x.testBit q.1=false)->x=0:=by
 induction h with
 | nil=>intro x hs _;cases hs with
   | zero=>rfl
   | add _ hb=>cases hb
 | cons h hr hz O =>
   rename_i t r rest
   intro x hs hx;have off:∀y,Sp (rest.map (·.2)) y->y.testBit t=false:=λy U=>U.off λb hb=>by
    obtain⟨q,I,rfl⟩:=aai.mp hb;exact hz q I
   rcases Sp.lS.mp hs with hs|hs
   ·exact O hs λq I=>hx q (m9 _ I)
   ·exfalso
    have h1:=off _ hs;have h2:=hx (t,r) aad;rw[Z8]at h1;have h2:x.testBit t=false:=h2;rw[h2,hr]at h1;cases h1
def DV(h:K8 rows)(x:Nat):zj rows x=0↔Sp (rows.map (·.2)) x:=by
 have hs:=CK rows x
 constructor
 ·intro e;rw[e,aaW]at hs;exact hs
 ·intro hx;refine GO h ?_ (wm h x);have:=hx.xor hs;rw[<-aaR,abj,aaS]at this;exact this
end
open Classical in
open Classical in
def JS{x:Nat}(h:x≠0):x.testBit x.log2=true:=Nat.testBit_log2 h
open Ring (xorL xorL_cons maskOf)
variable {N:Net}
def DW:N.aM.Nodup:=acH _ abu
def wq{c:Nat}(hc:c<N.n)(hf:N.fZ c=false):N.Ring (N.ring c):=by
 refine⟨λz=>?_,kh hc,λq O ev=>?_⟩
 ·have h:=sX hf;rw[z]at h;simp at h
 ·have U:q<2^N.n:=cK λk hk=>cY (oz hc) (O k hk)
  cases qc:q.testBit c with
  | true =>
    refine .inr (Gh U (oz hc) ev (kh hc) λd hd I=>?_)
    rw[kP hf I]
    by_cases e:c=d
    ·subst e;simp[qc]
    ·rw[iK e];cases qd:q.testBit d with
     | false=>rfl
     | true =>
       have:=O d qd;rw[kP hf I,iK e]at this;cases this
  | false =>
    refine .inl (fM (λk hk=>?_) ev)
    rcases lO (O k hk) with e|e
    ·subst e;rw[qc]at hk;cases hk
    ·exact e
def lsum(L:Nat->Int)(f:Nat->Bool):Nat->Int
 | 0=>0
 | n+1=>lsum L f n+(if f n=true then L n else 0)
section
variable {L:Nat->Int}
def ny{f g:Nat->Bool}:∀{n:Nat},(∀k,k<n->f k=g k)->lsum L f n=lsum L g n
 | 0,_=>rfl
 | n+1,h=>by
   unfold lsum;rw[ny λk hk=>h k (by lia),h n (by lia)]
def pU{f:Nat->Bool}:∀{n:Nat},(∀k,k<n->f k=false)->lsum L f n=0
 | 0,_=>rfl
 | n+1,h=>by
   unfold lsum;rw[pU λk hk=>h k (by lia),h n (by lia)]
   simp
def zk{f:Nat->Bool}{a:Nat}:∀{n:Nat},a<n->(∀k,k<n->f k=decide (k=a))->lsum L f n=L a
 | 0,h,_=>by lia
 | n+1,ha,h=>by
   unfold lsum
   by_cases e:a=n
   ·subst e;rw[pU λk hk=>by rw[h k (by lia)];exact iK (by lia),h a (by lia),fG rfl]
    simp
   ·rw[zk (show a<n by lia) λk hk=>h k (by lia),h n (by lia),iK (by lia)]
    simp
def pV{f g:Nat->Bool}:∀{n:Nat},(∀k,k<n->0<=L k)->(∀k,k<n->f k=true->g k=true)->lsum L f n<=lsum L g n
 | 0,_,_=>abd _
 | n+1,hL,h=>by
   unfold lsum;have I:=pV (n:=n) (λk hk=>hL k (by lia)) λk hk=>h k (by lia)
   have h0:=hL n (by lia)
   have hn:=h n (by lia)
   cases hf:f n with
   | false=>cases g n<;>simp<;>lia
   | true=>rw[hn hf];simp;lia
def zl{f g:Nat->Bool}:∀{n:Nat},(∀k,k<n->0<=L k)->lsum L (λk=>f k^^g k) n<=lsum L f n+lsum L g n
 | 0,_=>abd _
 | n+1,hL=>by
   unfold lsum;have I:=zl (f:=f) (g:=g) (n:=n) λk hk=>hL k (by lia)
   have h0:=hL n (by lia)
   cases f n<;>cases g n<;>simp<;>lia
def tK{f g:Nat->Bool}:∀{n:Nat},(∀k,k<n->f k=true->g k=false)->lsum L (λk=>f k^^g k) n=lsum L f n+lsum L g n
 | 0,_=>rfl
 | n+1,h=>by
   unfold lsum;rw[tK (f:=f) (g:=g) (n:=n) λk hk=>h k (by lia)]
   have hn:=h n (by lia)
   cases hf:f n with
   | false=>cases g n<;>simp<;>lia
   | true=>rw[hn hf];simp;lia
def tM{k n:Nat}(h:k<n):lsum L (λj=>(2^k).testBit j) n=L k:=zk h λj _=>by
 rw[aal];exact aaY.mpr eq_comm
end
def nA{m n k:Nat}(h:m<2^n)(hb:m.testBit k=true):k<n:=by
 apply aap;intro hk;rw[aaH (aaf h (abe (by decide) (by lia)))]at hb
 cases hb
def cd(x:Nat)(s:Bool):Nat:=2*x+s.toNat
def Jn(N:Net)(k v w:Nat):Prop:=(N.a k=v/\N.b k=w)\/(N.b k=v/\N.a k=w)
def Jn.lt{N:Net}{k v w:Nat}(hk:k<N.n)(h:Jn N k v w):w<N.p:=by
 rcases h with⟨_,rfl⟩|⟨_,rfl⟩
 ·exact N.bl k hk
 ·exact N.al k hk
inductive Wl(N:Net)(L:Nat->Int)(m u:Nat):List Nat->Nat->Bool->Int->Nat->Prop
 | nil:Wl N L m u [] u false 0 0
 | go {pre:List Nat} {v w k e:Nat} {s:Bool} {z:Int} (h:Wl N L m u pre v s z e) (hk:k<N.n) (hj:Jn N k v w):Wl N L m u (pre++[cd v s]) w (s^^m.testBit k) (z+L k) (e^^^2^k)
def Wy(N:Net)(L:Nat->Int)(m u x:Nat)(s:Bool)(z:Int):Prop:=∃pre e,Wl N L m u pre x s z e
section
variable {N:Net}{L:Nat->Int}{m u:Nat}
def oH(hL:∀k,k<N.n->0<=L k)(hu:u<N.p){pre:List Nat}{v e:Nat}{s:Bool}{z:Int}(h:Wl N L m u pre v s z e):
 v<N.p/\e<2^N.n/\(∀x,N.bd e x=(decide (u=x)^^decide (v=x)))/\N.par e m=s/\lsum L (λk=>e.testBit k) N.n<=z/\0<=z:=by
 induction h with
 | nil =>
   refine⟨hu,aa2 _,λx=>?_,ki m,?_,abd _⟩
   ·rw[om];cases decide (u=x)<;>rfl
   ·rw[pU λk _=>aa3 k]
    exact abd _
 | @go pre v w k e s z h hk hj ih =>
   obtain⟨Y,I,O,U,Z,i6⟩:=ih;have h0:=hL k hk;refine⟨hj.lt hk,aaM I (aa4 (by decide) hk),λx=>?_,?_,?_,by lia⟩
   ·rw[jS,O,sV hk];unfold Net.inc;rcases hj with⟨rfl,rfl⟩|⟨rfl,rfl⟩
    ·cases decide (u=x)<;>cases decide (N.a k=x)<;>cases decide (N.b k=x)<;>rfl
    ·cases decide (u=x)<;>cases decide (N.a k=x)<;>cases decide (N.b k=x)<;>rfl
   ·rw[mE,U,CB hk]
   ·have:=zl (L:=L) (f:=λj=>e.testBit j) (g:=λj=>(2^k).testBit j) hL
    rw[tM hk]at this;rw[ny (g:=λj=>e.testBit j^^(2^k).testBit j) λj _=>Z8 ..]
    lia
def GP(N:Net)(L:Nat->Int)(m u x:Nat)(s:Bool):Option Int->Prop
 | none=>∀z,¬ Wy N L m u x s z
 | some d=>Wy N L m u x s d/\∀z,Wy N L m u x s z->d<=z
def oJ(hL:∀k,k<N.n->0<=L k)(m:Nat){r:Nat}(hr:N.Ring r)(hm:r<2^N.n):∃x,x<N.p/\Wy N L m x x (N.par r m) (lsum L (λk=>r.testBit k) N.n):=by
 obtain⟨t0,hb⟩:∃t0,r.testBit t0=true:=by
  apply aap;intro h;exact hr.1 (aaE λi=>by
   rw[aa3];cases e:r.testBit i with
   | false=>rfl
   | true=>exact absurd ⟨i,e⟩ h)
 have U:t0<N.n:=nA hm hb;obtain⟨acc,v,w⟩:=DR hm hr hb;have key:∀{acc v left},Wk N r t0 acc v left->(∀k,left.testBit k=true->r.testBit k=true)/\∃pre s,Wl N L m (N.a t0) pre v s (lsum L (λk=>(r^^^left).testBit k) N.n) (r^^^left):=by
  intro acc v left w
  induction w with
  | start =>
    have e:r^^^(r^^^2^t0)=2^t0:=by rw[<-aaR,abj,aaS]
    refine⟨λk hk=>?_,[]++[cd (N.a t0) false],false^^m.testBit t0,?_⟩
    ·rw[Z8,aal]at hk
     by_cases e:t0=k
     ·rw[<-e];exact hb
     ·rw[iK e,abf]at hk;exact hk
    ·rw[e,tM U];have:=Wl.go (m:=m) (L:=L) (.nil (u:=N.a t0)) U (.inl ⟨rfl,rfl⟩)
     rwa [aby,aaS]at this
  | @next acc v left t w h0 ht ih =>
    obtain⟨sub,pre,s,wl⟩:=ih;have I:=jd.mp (j7 ht);have O:=sub t I.2.1;have Y:=nA hm O;refine⟨λk hk=>?_,pre++[cd v s],s^^m.testBit t,?_⟩
    ·rw[Z8,aal]at hk
     by_cases e:t=k
     ·rw[<-e];exact O
     ·rw[iK e,abf]at hk;exact sub k hk
    ·have e:r^^^(left^^^2^t)=r^^^left^^^2^t:=by rw[aaR]
     have hs:lsum L (λk=>(r^^^left^^^2^t).testBit k) N.n=lsum L (λk=>(r^^^left).testBit k) N.n+L t:=by
      rw[ny (g:=λj=>(r^^^left).testBit j^^(2^t).testBit j) λj _=>Z8 ..,tK,tM Y]
      intro k _ hk;rw[aal];refine iK λe=>?_
      subst e;rw[Z8,O,I.2.1]at hk;cases hk
     rw[e,hs];exact wl.go Y (zg I.2.2)
 obtain⟨_,pre,s,wl⟩:=key w;rw[aaW]at wl;have f:=oH hL (N.al t0 U) wl;have Z:N.a t0=v:=by
  have:=f.2.2.1 v;rw[hr.2.1 v f.1,fG (rfl:v=v)]at this;cases h:decide (N.a t0=v) with
  | true=>exact sC h
  | false=>rw[h]at this;cases this
 refine⟨N.a t0,N.al t0 U,pre,r,?_⟩;have hs:=f.2.2.2.1;rw[hs];rw[<-Z]at wl;exact wl
def Bm{m:Nat}:∀(c e:Nat),cnt (λk=>e.testBit k) N.n=c->e<2^N.n->N.dU e->N.par e m=true->∃r,N.Ring r/\(∀k,r.testBit k=true->e.testBit k=true)/\N.par r m=true:=by
 intro c
 induction c using Nat.strongRecOn with
 | _ c ih =>
   intro e hc he ev hp
   by_cases hr:N.Ring e
   ·exact⟨e,hr,λ_ h=>h,hp⟩
   have h0:e≠0:=λz=>by rw[z,ki]at hp;cases hp
   obtain⟨q,I,Y,q0,Z⟩:∃q,(∀k,q.testBit k=true->e.testBit k=true)/\N.dU q/\q≠0/\q≠e:=by
    apply aap;intro h;refine hr ⟨h0,ev,λq I Y=>?_⟩
    apply aap;intro h2;exact h ⟨q,I,Y,λz=>h2 (.inl z),λz=>h2 (.inr z)⟩
   have small:∀q,(∀k,q.testBit k=true->e.testBit k=true)->q≠e->cnt (λk=>q.testBit k) N.n<c:=by
    intro q I Z;have h1:=Mr (f:=λk=>q.testBit k) (g:=λk=>e.testBit k) (n:=N.n) λk _ h=>I k h
    have h2:cnt (λk=>q.testBit k) N.n≠cnt (λk=>e.testBit k) N.n:=λh=>Z (aaE λk=>by
     by_cases hk:k<N.n
     ·have:=Gq (f:=λk=>q.testBit k) (g:=λk=>e.testBit k) (λk _ h=>I k h) h k hk
      cases O:e.testBit k with
      | true=>exact this O
      | false=>cases h4:q.testBit k with
        | false=>rfl
        | true=>rw[I k h4]at O;cases O
     ·cases O:e.testBit k with
      | true=>exact absurd (nA he O) hk
      | false=>cases h4:q.testBit k with
        | false=>rfl
        | true=>rw[I k h4]at O;cases O)
    lia
   have lt:∀q,(∀k,q.testBit k=true->e.testBit k=true)->q<2^N.n:=λq I=>cK λk hk=>nA he (I k hk)
   have ab:∀k,(e^^^q).testBit k=true->e.testBit k=true:=λk hk=>by
    rw[Z8]at hk;cases O:e.testBit k with
    | true=>rfl
    | false =>
      cases h4:q.testBit k with
      | false=>rw[O,h4]at hk;cases hk
      | true=>rw[I k h4]at O;cases O
   have fin:∀q,(∀k,q.testBit k=true->e.testBit k=true)->q≠e->N.dU q->N.par q m=true->∃r,N.Ring r/\(∀k,r.testBit k=true->e.testBit k=true)/\N.par r m=true:=by
    intro q I Z Y U;obtain⟨r,h1,h2,O⟩:=ih _ (small q I Z) q rfl (lt q I) Y U;exact⟨r,h1,λk hk=>I k (h2 k hk),O⟩
   cases U:N.par q m with
   | true=>exact fin q I Z Y U
   | false =>
     refine fin (e^^^q) ab (λz=>q0 ?_) (dU.xor ev Y) (by rw[mE,hp,U];rfl)
     have:e^^^(e^^^q)=e^^^e:=by rw[z]
     rwa [<-aaR,abj,aaS]at this
end
end RM
namespace Ring
open PySem L2
def aW(ts:List cJ)(k:Nat):Int:=(bj ts k).2.2
def wu(ts:List cJ)(f:Nat->Bool):∀n,DE ts f n=RM.lsum (aW ts) f n
 | 0=>rfl
 | n+1=>by
   show DE ts f n+_=RM.lsum (aW ts) f n+_;rw[wu ts f n];rfl
def nB{ts:List cJ}{m:Nat}(hm:m<2^ts.length):lenOf ts m=RM.lsum (aW ts) (λk=>m.testBit k) ts.length:=by
 rw[DF hm,wu]
def wA{p:Nat}{ts:List cJ}(g:aD p ts):∀k,k<g.N.n->0<=aW ts k:=λk hk=>by
 have:=(g.rC _ (dW hk)).l0;unfold aW
 lia
structure Bo(H0:Hp)(D:Addr)(es:List Addr)(F:Nat->Bool->Option Int)(H:Hp):Prop where
 same:aq H0 H
 nd:es.Nodup
 ne:D∉es
 fr:∀b∈es,H0 b=none
 Dn:H0 D=none
 lst:H D=some (.lst (es.map V.ref))
 at_:∀i b,es[i]?=some b->H b=some (.lst [oV (F i false),oV (F i true)])
def Bo.go{H0 H H' : Hp}{D:Addr}{es:List Addr}{F:Nat->Bool->Option Int}(h:Bo H0 D es F H)(s:aq H H'):Bo H0 D es F H' :=
 ⟨h.same.trans s,h.nd,h.ne,h.fr,h.Dn,s _ _ h.lst,λi b e=>s _ _ (h.at_ i b e)⟩
def Bo.off{H0 H:Hp}{D L:Addr}{es:List Addr}{F:Nat->Bool->Option Int}(h:Bo H0 D es F H)(hL:H L=none):L∉es:=λz=>by
 obtain⟨j,hj⟩:=aaF z;have:=h.at_ j L hj;rw[hL]at this;cases this
def zm(H0:Hp)(D:Addr)(i:Nat)(acc:List V)(H:Hp):Prop:=∃es,acc=es.map V.ref/\es.length=i/\Bo H0 D es (λ_ _=>none) H
def zm.start{H0:Hp}{D:Addr}(hD:H0 D=none):zm H0 D 0 [] (upd H0 D (.lst [])) :=
 ⟨[],rfl,rfl,aq.new hD,acd,abJ,λ_ h=>(abJ h).elim,hD,af,λi b e=>by cases e⟩
def zm.len{H0 H:Hp}{D:Addr}{i:Nat}{acc:List V}(h:zm H0 D i acc H):H D=some (.lst acc)/\acc.length<=i:=by
 obtain⟨es,rfl,e,r⟩:=h;exact⟨r.lst,by rw[ZZ];lia⟩
def zm.next{H0 H:Hp}{D b:Addr}{i:Nat}{acc:List V}(h:zm H0 D i acc H)(hb:H b=none):upd H b (.lst [.dH,.dH]) D=some (.lst acc)/\zm H0 D (i+1) (acc++[.ref b]) (upd (upd H b (.lst [.dH,.dH])) D (.lst (acc++[.ref b]))):=by
 obtain⟨es,rfl,e,r⟩:=h;have O:D≠b:=λz=>by
  have:=r.lst;rw[z,hb]at this;cases this
 have U:b∉es:=r.off hb;have I:H0 b=none:=r.same.free hb;refine⟨by rw[ae O];exact r.lst,es++[b],by simp,by simp[e],(r.same.put I).put r.Dn,?_,?_,λc hc=>?_,r.Dn,by rw[af];simp,λj c hc=>?_⟩
 ·exact acU.mpr ⟨r.nd,by simp,λx hx y Z=>by rw[aam.mp Z];exact λz=>U (z▸hx)⟩
 ·intro hm;rcases aau.mp hm with z|z
  ·exact r.ne z
  ·exact O (aam.mp z)
 ·rcases aau.mp hc with z|z
  ·exact r.fr c z
  ·rw[aam.mp z];exact I
 ·have Ol:c≠D:=λz=>by
   subst z;rcases aau.mp (j7 hc) with z|z
   ·exact r.ne z
   ·exact O (aam.mp z)
  rw[ae Ol]
  by_cases Y:c=b
  ·rw[Y,af];rfl
  ·rw[ae Y]
   by_cases hj:j<es.length
   ·rw[aav hj]at hc;exact r.at_ j c hc
   ·rw[aaC (by lia)]at hc
    have:=j7 hc;exact absurd (aam.mp this) Y
def lA(F:Nat->Bool->Option Int)(p:Nat):List Pr:=(List.range p).map λi=>(F i false,F i true)
def MB{F:Nat->Bool->Option Int}{p x:Nat}(h:x<p)(s:Bool):sel (JO (lA F p) x) s=F x s:=by
 unfold JO lA;rw[Z6,Z9,acN h];cases s<;>rfl
def GQ(F:Nat->Bool->Option Int)(i:Nat):lA F (i+1)=lA F i++[(F i false,F i true)]:=by
 unfold lA;rw[abD,aaw];rfl
def CL(F:Nat->Bool->Option Int)(i:Nat):(lA F i).length=i:=by
 unfold lA;rw[ZZ,aax]
variable {p:Nat}{ts:List cJ}{g:aD p ts}{m:Nat}{W:List (List Pr)}
def Pb(p:Nat)(ts:List cJ)(g:aD p ts)(m:Nat)(W:List (List Pr)):Prop:=∀i,i<p->∀x s,x<p->RM.GP g.N (aW ts) m i x s (sel (JO (W.getD i []) x) s)
end Ring
namespace RM
open Ring (maskOf mask_bit mask_lt)
def gQ{a b:Nat}(h:a^^^b=0):a=b:=by
 have:=aas (λy=>y^^^b) h
 simp only[aaS]at this
 rwa [aaR,abj,aaW]at this
def comb:List Nat->Nat->Nat
 | [],_=>0
 | b::B,z=>(if z.testBit 0=true then b else 0)^^^comb B (z/2)
def GR(a b c d:Nat):(a^^^b)^^^(c^^^d)=(a^^^c)^^^(b^^^d):=aaE λi=>by
 simp only[Z8];cases a.testBit i<;>cases b.testBit i<;>cases c.testBit i<;>cases d.testBit i<;>rfl
def GS(z y:Nat):(z^^^y)/2=z/2^^^y/2:=aaE λi=>by
 rw[Z8,<-abK,<-abK,<-abK,Z8]
def je:∀(B:List Nat) (z y:Nat),comb B (z^^^y)=comb B z^^^comb B y
 | [],_,_=>by simp[comb]
 | b::B,z,y=>by
   unfold comb;rw[GS,je B,Z8,GR]
   congr 1
   cases z.testBit 0<;>cases y.testBit 0<;>simp
def ko:∀(B:List Nat),comb B 0=0
 | []=>rfl
 | b::B=>by
   unfold comb;rw[aa3,show 0/2=0 from rfl,ko B]
   simp
def GU(i:Nat):2^(i+1)/2=2^i:=by
 rw[abr,Nat.mul_div_cancel _ (by decide)]
def tN:∀{B:List Nat} {i b:Nat},B[i]?=some b->comb B (2^i)=b
 | [],i,b,h=>by simp at h
 | b'::B,0,b,h=>by
   have:b' = b:=by simpa using h
   subst this;unfold comb;rw[show(2^0:Nat).testBit 0=true from rfl,Z1 rfl,show(2^0:Nat)/2=0 from rfl,ko,aaW]
 | b'::B,i+1,b,h=>by
   unfold comb;have h0:(2^(i+1)).testBit 0=false:=by rw[aal];simp
   rw[h0,Z0 (by decide),aaS,GU]
   exact tN (B:=B) h
def gb:∀(B:List Nat) (b z:Nat),comb (B++[b]) z=comb B z^^^(if z.testBit B.length=true then b else 0)
 | [],b,z=>by
   show(if z.testBit 0=true then b else 0)^^^0=0^^^_
   rw[aaW,aaS];rfl
 | b'::B,b,z=>by
   show(if z.testBit 0=true then b' else 0)^^^comb (B++[b]) (z/2)=((if z.testBit 0=true then b' else 0)^^^comb B (z/2))^^^_
   rw[gb B b (z/2),aaR,<-abK];rfl
def pW:∀(B:List Nat) {z:Nat},(∀i,i<B.length->z.testBit i=false)->comb B z=0
 | [],_,_=>rfl
 | b::B,z,h=>by
   unfold comb;rw[h 0 (by simp),Z0 (by decide),aaS]
   exact pW B λi hi=>by rw[<-abK];exact h (i+1) (by simp;lia)
def jC(B:List Nat):∀z,Sp B (comb B z):=by
 induction B with
 | nil=>intro z;exact .zero
 | cons b B I =>
   intro z;have h:Sp (b::B) (comb B (z/2)):=(I (z/2)).mono λc hc=>.mem (m9 _ hc)
   unfold comb;rw[ac0]
   by_cases e:z.testBit 0=true
   ·rw[Z1 e];exact h.add aad
   ·rw[Z0 e,aaW];exact h
def sj{B:List Nat}{x:Nat}(h:Sp B x):∃z,z<2^B.length/\comb B z=x:=by
 induction h with
 | zero=>exact⟨0,aa2 _,ko B⟩
 | add h hb ih =>
   obtain⟨z,hz,e⟩:=ih;obtain⟨i,hi⟩:=aaF hb;have I:=(ju.mp hi).1;exact⟨z^^^2^i,aaM hz (aa4 (by decide) I),by rw[je,e,tN hi]⟩
def uR(B:List Nat):Prop:=∀z,z<2^B.length->comb B z=0->z=0
def JT(B:List Nat):Prop:=∀i b,B[i]?=some b->¬ Sp (B.take i) b
def oM{B:List Nat}{b:Nat}:uR (B++[b])↔uR B/\¬ Sp B b:=by
 have I:(B++[b]).length=B.length+1:=by simp
 constructor
 ·intro h;refine⟨λz hz e=>h z ?_ ?_,λhs=>?_⟩
  ·rw[I,abr];lia
  ·rw[gb,e,aaH hz];simp
  ·obtain⟨y,U,e⟩:=sj hs;have O:2^B.length<2^(B.length+1):=aa4 (by decide) (by lia)
   have:=h (y^^^2^B.length) (by rw[I];exact aaM (by lia) O) (by
    have h1:(y^^^2^B.length).testBit B.length=true:=by
     rw[Z8,aaH U,ab7];rfl
    have h2:comb B (2^B.length)=0:=pW B λi hi=>by
     rw[aal];exact iK (by lia)
    rw[gb,h1,Z1 rfl,je,h2,e,aaW,abj])
   have Y:(y^^^2^B.length).testBit B.length=false:=by rw[this,aa3]
   rw[Z8,aaH U,ab7]at Y;cases Y
 ·rintro⟨h,hs⟩ z hz e;rw[gb]at e
  by_cases hb:z.testBit B.length=true
  ·rw[Z1 hb]at e;have Z:comb B z=b:=by
    have:=aas (λy=>y^^^b) e
    simp only[kj,aaS]at this;exact this
   exact absurd (Z▸jC B z) hs
  ·rw[Z0 hb,aaW]at e;refine h z ?_ e;refine cK λk hk=>?_
   have:=cY hz hk;rw[I]at this;have:k≠B.length:=λe=>hb (e▸hk)
   lia
def DX{B:List Nat}{b:Nat}:JT (B++[b])↔JT B/\¬ Sp B b:=by
 constructor
 ·intro h;refine⟨λi c hc=>?_,?_⟩
  ·have hi:=(ju.mp hc).1;have:=h i c (by rw[aav hi];exact hc)
   rwa [acK (aaZ hi)]at this
  ·have:=h B.length b (by simp)
   rwa [List.take_left' rfl]at this
 ·rintro⟨h,hs⟩ i c hc
  by_cases hi:i<B.length
  ·rw[aav hi]at hc;rw[acK (aaZ hi)];exact h i c hc
  ·have I:=(ju.mp hc).1;have e:i=B.length:=by simp at I;lia
   subst e;rw[aaC (Z3 _),ab6]at hc;have:b=c:=by simpa using hc
   subst this;rw[List.take_left' rfl];exact hs
def take_snoc{B:List Nat}{i b:Nat}(h:B[i]?=some b):B.take (i+1)=B.take i++[b]:=by
 rw[aaK,h];rfl
def CM(B:List Nat):uR B↔JT B:=by
 have key:∀n,n<=B.length->(uR (B.take n)↔JT (B.take n)):=by
  intro n
  induction n with
  | zero=>exact λ_=>⟨λ_ i b h=>by simp at h,λ_ z hz _=>by simp at hz;exact hz⟩
  | succ n I =>
    intro hn;have hb:B[n]?=some B[n]:=Z4 hn;rw[take_snoc hb,oM,DX,I (by lia)]
 have:=key B.length (Z3 _)
 rwa [aaV]at this
def tO(B:List Nat)(h:uR B){z y:Nat}(hz:z<2^B.length)(hy:y<2^B.length)(e:comb B z=comb B y):z=y:=by
 have:=h (z^^^y) (aaM hz hy) (by rw[je,e,abj])
 exact gQ this
section
variable {N:Net}
def wB{B:List Nat}(h:∀b∈B,N.dU b/\b<2^N.n)(z:Nat):N.dU (comb B z)/\comb B z<2^N.n:=by
 have hs:=jC B z;refine⟨?_,hs.lt λb hb=>(h b hb).2⟩
 generalize comb B z=x at hs
 induction hs with
 | zero=>exact dU.zero
 | add _ hb ih=>exact dU.xor ih (h _ hb).1
def CN{f:Nat->Nat}{a b:Nat}(hf:∀z,z<2^a->f z<2^b)(inj:∀z y,z<2^a->y<2^a->f z=f y->z=y):a<=b:=by
 have nd:((List.range (2^a)).map f).Nodup:=by
  refine aa7.mpr ?_;refine aa0 (λ{z y} hz O I e=>?_) abu
  exact I (inj z y (aan.mp hz) (aan.mp O) e)
 have:=Gn nd λx hx=>by
  obtain⟨z,hz,rfl⟩:=aai.mp hx;exact hf z (aan.mp hz)
 rw[ZZ,aax]at this;exact(Nat.pow_le_pow_iff_right (by decide)).mp this
def meets(ks:List Nat)(m:Nat):Nat:=maskOf (λi=>m.testBit (ks.getD i 0)) ks.length
def GV(ks:List Nat)(m:Nat):meets ks m<2^ks.length:=mask_lt _ _
def DY{ks:List Nat}{m i k:Nat}(h:ks[i]?=some k):(meets ks m).testBit i=m.testBit k:=by
 unfold meets;rw[mask_bit,Z6,h,fG (ju.mp h).1];rfl
def Bp{B:List Nat}(hi:uR B)(h:∀b∈B,N.dU b/\b<2^N.n):B.length<=N.aM.length:=by
 refine CN (f:=λz=>meets N.aM (comb B z)) (λz _=>GV _ _) λz y hz O e=>tO B hi hz O ?_
 have h1:=wB h z;have h2:=wB h y;refine gQ (fM (N:=N) (λk hk=>?_) (dU.xor h1.1 h2.1))
 have I:=cY (aaM h1.2 h2.2) hk;refine⟨I,?_⟩;cases hf:N.fZ k with
 | true=>rfl
 | false =>
   obtain⟨j,hj⟩:=aaF (cX.mpr ⟨I,hf⟩);have e:meets N.aM (comb B z)=meets N.aM (comb B y):=e;have:=aas (λx=>x.testBit j) e
   simp only[DY hj]at this;rw[Z8,this,Bool.xor_self]at hk;cases hk
structure Base(N:Net)(rs:List Nat):Prop where
 len:rs.length=N.aM.length
 ring:∀r∈rs,N.Ring r/\r<2^N.n
 ind:uR rs
end
abbrev Row3:=Nat×Nat×Nat
def two(q:Row3):Nat×Nat:=(q.1,q.2.1)
def kq(rows:List Row3)(x u:Nat):Nat×Nat:=rows.foldl (λs q=>if s.1.testBit q.1=true then(s.1^^^q.2.1,s.2^^^q.2.2) else s) (x,u)
def pX(q:Row3)(rows:List Row3)(x u:Nat):kq (q::rows) x u=if x.testBit q.1=true then kq rows (x^^^q.2.1) (u^^^q.2.2) else kq rows x u:=by
 unfold kq;rw[List.foldl_cons]
 by_cases h:x.testBit q.1=true
 ·rw[Z1 h,Z1 h]
 ·rw[Z0 h,Z0 h]
def lT:∀(rows:List Row3) (x u:Nat),(kq rows x u).1=zj (rows.map two) x
 | [],_,_=>rfl
 | q::rows,x,u=>by
   rw[pX];show _=zj (rows.map two) (if x.testBit q.1=true then x^^^q.2.1 else x)
   by_cases h:x.testBit q.1=true
   ·rw[Z1 h,Z1 h];exact lT rows _ _
   ·rw[Z0 h,Z0 h];exact lT rows _ _
def MC(rows:List Row3)(a:Row3):List Row3:=a::rows.map λq=>if q.2.1.testBit a.1=true then(q.1,q.2.1^^^a.2.1,q.2.2^^^a.2.2) else q
structure Rw(B:List Nat)(rows:List Row3):Prop where
 own:∀q∈rows,q.2.1.testBit q.1=true
 DZ:rows.Pairwise λq q'=>q'.2.1.testBit q.1=false/\q.2.1.testBit q'.1=false
 K9:∀q∈rows,q.2.2<2^B.length/\comb B q.2.2=q.2.1
 span:∀b∈B,Sp (rows.map λq=>q.2.1) b
 le:rows.length<=B.length
 len:rows.length=B.length↔uR B
section
variable {B:List Nat}{rows:List Row3}
def Rw.start:Rw [] []:=⟨(λq I=>nomatch I),.nil,(λq I=>nomatch I),(λb hb=>nomatch hb),Z3 _,⟨λ_ z hz _=>by simp at hz;exact hz,λ_=>rfl⟩⟩
def MD(own:∀q∈rows,q.2.1.testBit q.1=true)(DZ:rows.Pairwise λq q'=>q'.2.1.testBit q.1=false/\q.2.1.testBit q'.1=false):K8 (rows.map two):=by
 induction rows with
 | nil=>exact .nil
 | cons q rows I =>
   obtain⟨h1,h2⟩:=ab8.mp DZ;refine .cons (I (λq' O=>own q' (m9 _ O)) h2) (own q aad) λx hx=>?_
   obtain⟨q',U,rfl⟩:=aai.mp hx;exact(h1 q' U).1
def Rw.NH(h:Rw B rows):K8 (rows.map two):=MD h.own h.DZ
def map_two(rows:List Row3):(rows.map two).map (λq=>q.2)=rows.map λq=>q.2.1:=by
 rw[abk];rfl
def Rw.pY(h:Rw B rows)(x u:Nat):(kq rows x u).1=0↔Sp B x:=by
 rw[lT,DV h.NH,map_two]
 constructor
 ·intro hs;refine hs.mono λb hb=>?_
  obtain⟨q,I,rfl⟩:=aai.mp hb;rw[<-(h.K9 q I).2];exact jC B _
 ·exact λhs=>hs.mono h.span
def Rw.GW(h:Rw B rows)(x u:Nat):∀q∈rows,(kq rows x u).1.testBit q.1=false:=λq I=>by
 rw[lT];exact wm h.NH x (two q) (aai.mpr ⟨q,I,rfl⟩)
def wC(hc:∀q∈rows,q.2.2<2^B.length/\comb B q.2.2=q.2.1):∀(x u:Nat),u<2^B.length->(kq rows x u).2<2^B.length/\comb B (kq rows x u).2=comb B u^^^(x^^^(kq rows x u).1):=by
 induction rows with
 | nil=>intro x u I;exact⟨I,by show _=_^^^(x^^^x);rw[abj,aaW];rfl⟩
 | cons q rows O =>
   intro x u I;have U:=hc q aad;have O:=O λq' Y=>hc q' (m9 _ Y)
   rw[pX]
   by_cases h:x.testBit q.1=true
   ·rw[Z1 h];obtain⟨Z,i2⟩:=O (x^^^q.2.1) (u^^^q.2.2) (aaM I U.1);refine⟨Z,?_⟩;rw[i2,je,U.2];refine aaE λi=>?_
    simp only[Z8];generalize (kq rows (x^^^q.2.1) (u^^^q.2.2)).1.testBit i=y;cases(comb B u).testBit i<;>cases q.2.1.testBit i<;>cases x.testBit i<;>cases y<;>rfl
   ·rw[Z0 h];exact O x u I
def ME(h:Rw B rows){x:Nat}(hx:∀b∈B,b<2^x):∀q∈rows,q.2.1<2^x:=λq I=>by
 rw[<-(h.K9 q I).2];exact(jC B _).lt hx
def tP{z:Nat}(b:Nat)(hz:z<2^B.length):comb (B++[b]) z=comb B z:=by
 rw[gb,aaH hz];simp
def Rw.skip{b:Nat}(h:Rw B rows)(hs:Sp B b):Rw (B++[b]) rows:=by
 have O:(B++[b]).length=B.length+1:=by simp
 refine⟨h.own,h.DZ,λq I=>⟨?_,?_⟩,λc hc=>?_,?_,?_⟩
 ·have:=(h.K9 q I).1;rw[O,abr]
  lia
 ·rw[tP b (h.K9 q I).1];exact(h.K9 q I).2
 ·rcases aau.mp hc with hc|hc
  ·exact h.span c hc
  ·have e:c=b:=by simpa using hc
   rw[e];exact hs.mono h.span
 ·have:=h.le
  lia
 ·rw[oM];have:=h.le;exact⟨λe=>by lia,λz=>absurd hs z.2⟩
def Rw.put{b:Nat}(h:Rw B rows)(h0:(kq rows b 0).1≠0):Rw (B++[b]) (MC rows ((kq rows b 0).1.log2,(kq rows b 0).1,(kq rows b 0).2^^^2^B.length)):=by
 have Z:(B++[b]).length=B.length+1:=by simp
 have ab : ¬ Sp B b:=λz=>h0 ((h.pY b 0).mpr z)
 have off:=h.GW b 0;obtain⟨c1,Y⟩:=wC h.K9 b 0 (aa2 _);rw[ko,aaS]at Y;have Aw:Sp (rows.map λq=>q.2.1) (b^^^(kq rows b 0).1):=by
  rw[lT];have:=CK (rows.map two) b
  rwa [map_two]at this
 generalize kq rows b 0=lu at *;obtain⟨l,u⟩:=lu;have h0:l≠0:=h0;have top:=JS h0;have c1:u<2^B.length:=c1;have Y:comb B u=b^^^l:=Y;have off:∀q∈rows,l.testBit q.1=false:=off;have Aw:Sp (rows.map λq=>q.2.1) (b^^^l):=Aw
 show Rw (B++[b]) (MC rows (l.log2,l,u^^^2^B.length));generalize l.log2=t at top;have p2:2^B.length<2^(B++[b]).length:=by rw[Z];exact aa4 (by decide) (by lia)
 have hc:comb (B++[b]) (u^^^2^B.length)=l:=by
  have h1:(u^^^2^B.length).testBit B.length=true:=by
   rw[Z8,aaH c1,ab7];rfl
  have h2:comb B (2^B.length)=0:=pW B λi hi=>by
   rw[aal];exact iK (by lia)
  rw[gb,h1,Z1 rfl,je,h2,Y,aaW];refine aaE λi=>?_
  simp only[Z8];cases b.testBit i<;>cases l.testBit i<;>rfl
 unfold MC;refine⟨λq O=>?_,ab8.mpr ⟨λq O=>?_,?_⟩,λq O=>?_,λc hc=>?_,?_,?_⟩
 ·rcases aaa.mp O with e|O
  ·rw[e];exact top
  ·obtain⟨I,U,rfl⟩:=aai.mp O
   by_cases e:I.2.1.testBit t=true
   ·rw[Z1 e];show(I.2.1^^^l).testBit I.1=true;rw[Z8,h.own I U,off I U];rfl
   ·rw[Z0 e];exact h.own I U
 ·obtain⟨I,U,rfl⟩:=aai.mp O
  by_cases e:I.2.1.testBit t=true
  ·rw[Z1 e];refine⟨?_,off I U⟩;show(I.2.1^^^l).testBit t=false;rw[Z8,e,top];rfl
  ·rw[Z0 e];exact⟨acV.mpr e,off I U⟩
 ·refine aa7.mpr (aa0 (λ{q q'} O Dq hz=>?_) h.DZ)
  obtain⟨z1,z2⟩:=hz;have o1:=off q O;have o2:=off q' Dq;have fst:∀q:Row3,(if q.2.1.testBit t=true then(q.1,q.2.1^^^l,q.2.2^^^(u^^^2^B.length)) else q).1=q.1:=λq=>by
   split<;>rfl
  have snd:∀(q:Row3) (k:Nat),l.testBit k=false->(if q.2.1.testBit t=true then(q.1,q.2.1^^^l,q.2.2^^^(u^^^2^B.length)) else q).2.1.testBit k=q.2.1.testBit k:=λq k hk=>by
   split
   ·show(q.2.1^^^l).testBit k=_;rw[Z8,hk,abf]
   ·rfl
  refine⟨?_,?_⟩
  ·rw[snd q' _ (by rw[fst];exact o1),fst]
   exact z1
  ·rw[snd q _ (by rw[fst];exact o2),fst]
   exact z2
 ·rcases aaa.mp O with e|O
  ·rw[e];exact⟨aaM (by lia) p2,hc⟩
  ·obtain⟨I,U,rfl⟩:=aai.mp O;obtain⟨d1,d2⟩:=h.K9 I U
   by_cases e:I.2.1.testBit t=true
   ·rw[Z1 e];refine⟨aaM (by lia) (aaM (by lia) p2),?_⟩
    show comb (B++[b]) (I.2.2^^^(u^^^2^B.length))=I.2.1^^^l;rw[je,hc,tP b d1,d2]
   ·rw[Z0 e];exact⟨by lia,by rw[tP b d1,d2]⟩
 ·have Um:l∈(((t,l,u^^^2^B.length):Row3)::rows.map λq=>if q.2.1.testBit t=true then(q.1,q.2.1^^^l,q.2.2^^^(u^^^2^B.length)) else q).map λq=>q.2.1:=by
   rw[aaj];exact aad
  have old:∀x∈rows.map (λq=>q.2.1),Sp ((((t,l,u^^^2^B.length):Row3)::rows.map λq=>if q.2.1.testBit t=true then(q.1,q.2.1^^^l,q.2.2^^^(u^^^2^B.length)) else q).map λq=>q.2.1) x:=λx hx=>by
   obtain⟨I,U,rfl⟩:=aai.mp hx;have hm:(if I.2.1.testBit t=true then(I.1,I.2.1^^^l,I.2.2^^^(u^^^2^B.length)) else I).2.1∈(((t,l,u^^^2^B.length):Row3)::rows.map λq=>if q.2.1.testBit t=true then(q.1,q.2.1^^^l,q.2.2^^^(u^^^2^B.length)) else q).map λq=>q.2.1 :=
    aai.mpr ⟨_,m9 _ (aai.mpr ⟨I,U,rfl⟩),rfl⟩
   by_cases e:I.2.1.testBit t=true
   ·rw[Z1 e]at hm;have:=(Sp.mem hm).xor (Sp.mem Um)
    rwa [kj]at this
   ·rw[Z0 e]at hm;exact .mem hm
  rcases aau.mp hc with hc|hc
  ·exact(h.span c hc).mono old
  ·have e:c=b:=by simpa using hc
   rw[e];have:=(Aw.mono old).xor (Sp.mem Um)
   rwa [kj]at this
 ·rw[aaA,ZZ,Z];have:=h.le
  lia
 ·rw[aaA,ZZ,Z,oM];have:=h.len
  constructor
  ·exact λe=>⟨this.mp (by lia),ab⟩
  ·exact λe=>by have:=this.mpr e.1;lia
def rx(f:Row3->Bool):List Row3->Bool
 | []=>false
 | q::rows=>f q^^rx f rows
def zo{f g:Row3->Bool}:∀{rows:List Row3},(∀q∈rows,f q=g q)->rx f rows=rx g rows
 | [],_=>rfl
 | q::rows,h=>by
   unfold rx;rw[h q aad,zo λq' I=>h q' (m9 _ I)]
def wG(i:Nat):∀{rows:List Row3},(rows.Pairwise λq q'=>q'.2.1.testBit q.1=false/\q.2.1.testBit q'.1=false)->∀(x u:Nat),(kq rows x u).2.testBit i=(u.testBit i^^rx (λq=>x.testBit q.1&&q.2.2.testBit i) rows)
 | [],_,x,u=>by show u.testBit i=(u.testBit i^^false);rw[abf]
 | q::rows,DZ,x,u=>by
   obtain⟨h1,h2⟩:=ab8.mp DZ;have I:=wG i h2;rw[pX];unfold rx
   by_cases h:x.testBit q.1=true
   ·rw[Z1 h,I,h,abF,Z8,Bool.xor_assoc]
    congr 2
    exact zo λq' O=>by rw[Z8,(h1 q' O).2,abf]
   ·rw[Z0 h,I,acV.mpr h,acO,abH]
def gE(rows:List Row3)(i:Nat):List Nat:=(rows.filter λq=>q.2.2.testBit i).map λq=>q.1
def zp(own:∀q∈rows,q.2.1.testBit q.1=true)(DZ:rows.Pairwise λq q'=>q'.2.1.testBit q.1=false/\q.2.1.testBit q'.1=false)(i:Nat):(gE rows i).Nodup:=by
 unfold gE;refine aa7.mpr ((aa0 (λ{q q'} O I hz e=>?_) DZ).filter _)
 have:=own q' I;rw[<-e,hz.1]at this;cases this
def pZ(f:Nat->Bool)(n:Nat):∀{l:List Nat},l.Nodup->(∀k∈l,k<n)->bL (λk=>f k&&decide (k∈l)) n=l.foldr (λk acc=>f k^^acc) false
 | [],_,_=>iM λk _=>by simp
 | a::l,nd,h=>by
   obtain⟨I,O⟩:=aaI.mp nd;have U:=pZ f n O λk hk=>h k (m9 _ hk)
   have:bL (λk=>f k&&decide (k∈a::l)) n=bL (λk=>(f k&&decide (a=k))^^(f k&&decide (k∈l))) n:=bE λk _=>by
    by_cases e:a=k
    ·subst e;rw[fG aad,fG rfl,iK I,abX,abf]
    ·have:(k∈a::l)↔k∈l:=⟨λz=>(aaa.mp z).resolve_left λz=>e z.symm,m9 _⟩
     rw[iK e,abX,abH,aaY.mpr this]
   rw[this,i9,ja f (h a aad),U];rfl
def zq(f:Nat->Bool)(i:Nat):∀rows:List Row3,(gE rows i).foldr (λk acc=>f k^^acc) false=rx (λq=>f q.1&&q.2.2.testBit i) rows
 | []=>rfl
 | q::rows=>by
   have I:=zq f i rows;unfold gE at I ⊢;unfold rx;cases h:q.2.2.testBit i with
   | true =>
     rw[aay,Z1 h,aaj,List.foldr_cons,I,acT]
   | false =>
     rw[aay,Z0 (by rw[h];decide),I,abX,abH]
def Rw.marks{N:Net}(h:Rw B rows)(hi:uR B)(hb:∀b∈B,b<2^N.n){i j b:Nat}(hj:B[j]?=some b):N.par b (Ring.orM (gE rows i))=decide (i=j)/\∀k∈gE rows i,k<N.n:=by
 have lt:∀k∈gE rows i,k<N.n:=λk hk=>by
  obtain⟨q,I,rfl⟩:=aai.mp hk;have I:=(aao.mp I).1;exact cY (ME h hb q I) (h.own q I)
 refine⟨?_,lt⟩;have Y:N.par b (Ring.orM (gE rows i))=rx (λq=>b.testBit q.1&&q.2.2.testBit i) rows:=by
  rw[<-zq (λk=>b.testBit k),<-pZ (λk=>b.testBit k) N.n (zp h.own h.DZ i) lt]
  exact bE λk _=>by rw[Ring.jA]
 have hz:(kq rows b 0).1=0:=(h.pY b 0).mpr (.mem (j7 hj));obtain⟨Z,O⟩:=wC h.K9 b 0 (aa2 _);rw[ko,aaS,hz,aaW]at O
 replace O:=O.trans (tN hj).symm
 have Pc:=(ju.mp hj).1;have e2:=tO B hi Z (aa4 (by decide) Pc) O
 have U:=wG i h.DZ b 0;rw[e2,aa3,abH,aal]at U;rw[Y,<-U];exact aaY.mpr eq_comm
end
variable {N:Net}{S:Nat->Bool}
def jf{b:Nat}{B:List Nat}:uR (b::B)↔uR B/\¬ Sp B b:=by
 have dbl:∀z,(2*z).testBit 0=false:=λz=>by rw[ac1];exact iK (by lia)
 have I:∀z,(2*z+1).testBit 0=true:=λz=>by rw[ac1];exact fG (by lia)
 constructor
 ·intro h;refine⟨λz hz e=>?_,λhs=>?_⟩
  ·have:=h (2*z) (by rw[aaA,abr];lia) (by
    unfold comb;rw[dbl,Z0 (by decide),aaS,show 2*z/2=z by lia]
    exact e)
   lia
  ·obtain⟨y,U,e⟩:=sj hs;have:=h (2*y+1) (by rw[aaA,abr];lia) (by
    unfold comb;rw[I,Z1 rfl,show(2*y+1)/2=y by lia,e,abj])
   lia
 ·rintro⟨h,hs⟩ z hz e;unfold comb at e;rw[aaA,abr]at hz
  by_cases hb:z.testBit 0=true
  ·rw[Z1 hb]at e;have O:=gQ e;exact absurd (O▸jC B (z/2)) hs
  ·rw[Z0 hb,aaS]at e;have h0:=h (z/2) (by lia) e
   rw[ac1,acR]at hb
   lia
def JU{B C:List Nat}(h:B.Perm C)(x:Nat):Sp B x↔Sp C x :=
 ⟨λz=>z.mono λb hb=>.mem (h.mem_iff.mp hb),λz=>z.mono λb hb=>.mem (h.mem_iff.mpr hb)⟩
def GX{B C:List Nat}(h:B.Perm C):uR B↔uR C:=by
 induction h with
 | nil=>exact Iff.rfl
 | cons x h O=>rw[jf,jf,O,JU h]
 | swap x y l =>
   rw[jf,jf,jf,jf,Sp.lS,Sp.lS,ac0 y x]
   constructor
   ·rintro⟨⟨h1,h2⟩,I⟩;exact⟨⟨h1,λz=>I (.inl z)⟩,λz=>z.elim h2 λz=>I (.inr z)⟩
   ·rintro⟨⟨h1,h2⟩,I⟩;exact⟨⟨h1,λz=>I (.inl z)⟩,λz=>z.elim h2 λz=>I (.inr z)⟩
 | trans _ _ i1 i2=>exact i1.trans i2
def Base.perm{N:Net}{rs rs' : List Nat}(b:Base N rs)(h:rs'.Perm rs):Base N rs' :=
 ⟨by rw[h.length_eq];exact b.len,λr hr=>b.ring r (h.mem_iff.mp hr),(GX h).mpr b.ind⟩
end RM
namespace L2
open PySem PySem.Spec PyProof.Rows
def dM(q:Str)(pos:Pos):Array Value:=#[.str q 0,rawInt pos.line,rawInt pos.col]
def mV(pos:Pos)(c:Addr):Array Value:=#[rawInt pos.line,rawInt pos.col,.ref c]
def fc(H:Hp)(P c:Addr)(oc:Obj)(q:Str)(pos:Pos):Hp:=upd (upd H c (.lF oc (.own P))) P (.iL (dM q pos++mV pos c))
def given(H:Hp)(P c:Addr)(q:Str)(pos:Pos):Hp:=upd (upd H c (.own P)) P (.iL (dM q pos))
def CodeObj(oc:Obj)(q:Str):Prop:=∃vs t,oc.data = .fields vs/\vs[1]?=some (.str q t)
def CodeObj.rec{h:Heap}{c:Addr}{oc:Obj}{q:Str}(x:CodeObj oc q)(e:h.get? c=some oc):h.CodeRec (.ref c) q :=
 let⟨vs,t,e1,e2⟩:=x
 ⟨c,oc,vs,t,rfl,e,e1,e2⟩
def MF{P:Program}{w:World}{H:Hp}{h:Heap}{a:Addr}{q:Str}{pos:Pos}(x:bC P w H h a (.iL (dM q pos))):
 h.get? a=some (PySem.W.tabObj #[])\/∃c oc,h.get? a=some (PySem.W.tabObj (mV pos c))/\H c=some (.own a)/\h.get? c=some oc/\CodeObj oc q:=by
 obtain⟨ps,e,f⟩:=x;rcases f with⟨_,f|⟨c,I,O,c',oc,vs,U,hc,Y,hd,Z⟩⟩|⟨q',l,k,f,z⟩
 ·subst f;exact .inl e
 ·cases hc;subst I;exact .inr ⟨c,oc,e,O,Y,vs,U,hd,Z⟩
 ·have:=aas Array.size f;rw[Array.size_append,z]at this;exact absurd this (by simp[dM])
def GY{P:Program}{w:World}{H:Hp}{h:Heap}{a c:Addr}{q:Str}{pos:Pos}(x:bC P w H h a (.iL (dM q pos++mV pos c))):h.get? a=some (PySem.W.tabObj (mV pos c)):=by
 obtain⟨ps,e,f⟩:=x;rcases f with⟨f,_⟩|⟨q',l,k,f,z⟩
 ·rw[Array.size_append]at f;exact absurd f (by simp[dM,mV])
 ·have I:=aas (λa=>a.toList.drop 3) f
  simp only[Array.toList_append,dM,mV,List.cons_append,List.nil_append,List.drop_succ_cons,List.drop_zero]at I;have O:ps=mV pos c:=by
   apply Array.toList_inj.mp;exact I.symm
  rw[<-O];exact e
abbrev zu(X:Cx)(params:Arguments)(body:Expr)(scope:Scope)(c:Addr)(ctv:Value):FuncData :=
 PySem.W.kla_fn "<lambda>" (X.env.qual ++ "<lambda>") params body scope (cR X.env.cells scope.names []) ((X.mg "__name__").getD .none) (.ref c) ctv
abbrev dG(X:Cx)(params:Arguments)(body:Expr)(scope:Scope)(c:Addr)(ctv:Value):Obj :=
 { cls:=.type "function",data:=.func (zu X params body scope c ctv)}
section
variable {X:Cx}{pq:aS}{σ:St}{H H2:Hp}{s:Shared}{params:Arguments}{body:Expr}{scope:Scope}{pos:Pos}{own fq:List Str}{js:List Nat}{c P:Addr}
def zw{Q:cP}{E:cP}
 (I:Inv X pq σ H s) (T:dh X scope own fq js) (hcode:X.env.code = .ref c) (hK:PySem.W.codeHdIn X.K c P=true) (hP:H P=some (.iL (dM (X.env.qual ++ "<lambda>") pos)))
 (hdef:defaultsOf params X.env=([],[]))
 (h:∀f O oc ctv s',(H O = none\/H O = some (.own P))->O≠P->CodeObj oc (X.env.qual ++ "<lambda>")->Inv X ((f,dG X params body scope O ctv)::pq) σ (fc H P O oc (X.env.qual ++ "<lambda>") pos) s'->Q (.ref f) s') :
 wpAny (model X.prog X.w) X.A (eval (.Lambda params body scope pos) X.env) Q E s:=by
 have NI:=MF (show bC X.prog X.w H s.heap P (.iL (dM (X.env.qual ++ "<lambda>") pos)) from I.hok P _ hP)
 have C:PySem.W.CodeHd s.heap c P:=PySem.W.codeHd_of_K I.AD hK;have hg:=I.mod.glob.keeps I.bk;have Uo:∀b o,X.base.get? b=some o->b≠P:=λb o q z=>by
  have:=(I.bs b o q).2;rw[z,hP]at this;cases this
 have a5:mainGlobals≠P:=by
  obtain⟨o,es,ep,q,_⟩:=I.mod.glob;exact Uo _ o q
 have hb:s.heap.BuiltinsAt X.mg P:=by
  obtain⟨bm,ob,b1,b2,b3,b4,b5,b6⟩:=I.mod.bmain;refine⟨bm,ob,b1,b2,λz=>?_,Uo _ _ b3,I.bk _ _ b3,b4,b5,b6⟩
  obtain⟨o,es,ep,q,hd,_⟩:=I.mod.glob;rw[z,q]at b3;cases b3;rw[hd]at b6;cases b6
 have ar:=ni (fY I T);have fin:∀(f O : Addr) (oc:Obj) (ctv:Value) (h2:Heap) (tk:Nat),(H O = none\/H O = some (.own P))->O≠P->(H O = none->s.heap.objs.size<=O)->CodeObj oc (X.env.qual ++ "<lambda>")->(∀b o,b≠P->s.heap.get? b=some o->h2.get? b=some o)->
  h2.get? P=some (PySem.W.tabObj (mV pos O))->h2.get? O = some oc->s.heap.objs.size<=f->f≠O->h2.get? f=some (dG X params body scope O ctv)->
  Inv X ((f,dG X params body scope O ctv)::pq) σ (fc H P O oc (X.env.qual ++ "<lambda>") pos) { s with heap:=h2,toks:=tk}:=by
  intro f O oc ctv h2 tk hc zx aw ab hx QL U hf a6 WW;have nP:∀b,H b=none->b≠P:=λb n z=>by rw[z,hP]at n;cases n
  have JV:∀b u,H b=some u->(∀y,u≠.own y)->(∀qs,u≠.iL qs)->fc H P O oc (X.env.qual ++ "<lambda>") pos b=some u:=λb u e n1 n2=>by
   unfold fc;rw[ae (λz=>by rw[z,hP]at e;exact n2 _ (Option.some.inj e).symm),ae (λz=>by
    rw[z]at e;rcases hc with q|q
    ·rw[q]at e;cases e
    ·rw[q]at e;exact n1 _ (Option.some.inj e).symm)]
   exact e
  have MG:∀b,H b=none->(b<s.heap.objs.size\/b≠O)->fc H P O oc (X.env.qual ++ "<lambda>") pos b=none:=λb n hb=>by
   unfold fc;rw[ae (nP b n),ae (λz=>by
    rcases hb with q|q
    ·rw[z]at q n;exact absurd (aw n) (Nat.not_le.mpr q)
    ·exact q z)]
   exact n
  have un:Un X.fs [] H (fc H P O oc (X.env.qual ++ "<lambda>") pos) s.heap h2:=by
   refine⟨λb o q n _ _=>hx b o (nP b n) q,λb o q n _ _=>⟨o.slots,hx b o (nP b n) q⟩,λb o q n _=>MG b n (.inl (aab q)),λb o q _=>?_,λb xs q=>JV b _ q (by intro y z;cases z) (by intro y z;cases z),λb o u q=>JV b _ q (by intro y z;cases z) (by intro y z;cases z),λb ps q=>?_⟩
   ·by_cases hb:b=P
    ·exact⟨_,by rw[hb];exact QL⟩
    ·exact⟨o,hx b o hb q⟩
   ·by_cases hb:b=P
    ·subst hb;rw[hP]at q;cases q;exact⟨mV pos O,af⟩
    ·refine⟨#[],?_⟩;unfold fc;rw[ae hb,ae (λz=>by
      rw[z]at q;rcases hc with r|r<;>(rw[r]at q;cases q)),q]
     simp
  have hok:lG X.prog X.w (fc H P O oc (X.env.qual ++ "<lambda>") pos) h2:=λb u q=>by
   by_cases D0:b=P
   ·subst D0;unfold fc at q;rw[af]at q;cases q;exact⟨_,QL,.inr ⟨_,_,_,rfl,rfl⟩⟩
   ·by_cases ax:b=O
    ·subst ax;unfold fc at q;rw[ae D0,af]at q;cases q;exact⟨U,oc,U⟩
    ·have q' : H b=some u:=by
      unfold fc at q;rw[ae D0,ae ax]at q;exact q
     have ow:∀d,H d=some (.own b)->d≠P/\d≠O:=λd Y=>⟨aE Y hP (by intro z;cases z),λz=>by
      rw[z]at Y;rcases hc with r|r
      ·rw[r]at Y;cases Y
      ·rw[r]at Y;cases Y;exact D0 rfl⟩
     refine(I.hok b u q').stay (λd v hd Y=>hx d v ?_ Y) (λd Y=>?_) λd xs Y=>JV d _ Y (by intro y z;cases z) (by intro y z;cases z)
     ·rcases hd with rfl|hd
      ·exact D0
      ·exact(ow d hd).1
     ·unfold fc;rw[ae (ow d Y).1,ae (ow d Y).2];exact Y
  have J:=I.un (t':=tk) un hok;have WX:H f=none:=I.hok.fresh hf;refine J.fH λp hp=>?_
  rcases aaa.mp hp with rfl|hp
  ·exact⟨WW,MG _ WX (.inr a6),abi (aaf I.lt hf),I.N3 hf,λv z=>by cases z⟩
  ·exact J.pin p (iD _ hp)
 refine PySem.W.kla_eval hdef ?_;rcases NI with e|⟨O,oc,e,ho,U,ab⟩
 ·refine PySem.W.kla_makeFunction (mg:=X.mg) ar I.ok.glob hg hcode C e trivial rfl a5 hb λO ctv h' tk hx Z aT a3 a7=>?_
  obtain⟨c2,oc,vs,t,e2,U,hd,hv⟩:=a3;cases e2;have hf:s.heap.objs.size<=h'.objs.size:=aat Z (aaZ aT);have zx:O≠P:=abi (aaf (aab e) Z);exact h _ O oc ctv _ (.inl (I.hok.fresh Z)) zx ⟨vs,t,hd,hv⟩ (fin _ O oc ctv _ tk (.inl (I.hok.fresh Z)) zx (λ_=>Z) ⟨vs,t,hd,hv⟩ (λb o hb q=>Z2 _ (hx b o hb q)) (Z2 _ a7) (Z2 _ U) hf (abi aT) (aag _ rfl))
 ·have hf:codeAmong pos (mV pos O).toList=some (.ref O):=codeAmong_snoc [] trivial rfl;have tr:TriplesOk (mV pos O).toList:=TriplesOk_snoc pos.line pos.col (.ref O) [] trivial;refine PySem.W.kla_makeFunctionHit (mg:=X.mg) ar I.ok.glob hg hcode C e tr hf hb λctv h' tk hk a4=>?_
  have zx:O≠P:=aE ho hP (by intro z;cases z)
  have ag : ∀b o,s.heap.get? b=some o->(h'.push (dG X params body scope O ctv)).get? b=some o:=λb o q=>Z2 _ (hk b o q)
  exact h _ O oc ctv _ (.inr ho) zx ab (fin _ O oc ctv _ tk (.inr ho) zx (λz=>by rw[ho]at z;cases z) ab (λb o _ q=>ag b o q) (ag _ _ e) (ag _ _ U) a4 (abi (aaf (aab U) a4)) (aag _ rfl))
def zy{tQ:aS}{σ0:St}{s0:Shared}{q:Str}{oc:Obj}(I0:Inv X tQ σ0 H s0)(hP:H P=some (.iL (dM q pos)))(hc:H c=none\/H c=some (.own P))(zx:c≠P)(hoc:CodeObj oc q)
 (I:Inv X pq σ H2 s) (e1:H2 P=some (.iL (dM q pos++mV pos c))) (e2:H2 c=some (.lF oc (.own P))):Inv X pq σ (given H2 P c q pos) s:=by
 have QL:=GY (show bC X.prog X.w H2 s.heap P (.iL (dM q pos++mV pos c)) from I.hok P _ e1)
 obtain⟨U,_⟩:=(show bC X.prog X.w H2 s.heap c (.lF oc (.own P)) from I.hok c _ e2)
 have MG:∀b,H2 b=none->given H2 P c q pos b=none:=λb n=>by
  unfold given;rw[ae (λz=>by rw[z,e1]at n;cases n),ae (λz=>by rw[z,e2]at n;cases n)]
  exact n
 have Y:∀b u,b≠P->b≠c->H2 b=some u->given H2 P c q pos b=some u:=λb u n1 n2 e=>by
  unfold given;rw[ae n1,ae n2];exact e
 refine⟨I.ok,I.os,I.bare,⟨I.base.keep,I.base.slot,λb o z n hx=>MG b (I.base.free b o z n hx),I.base.there,λb xs z=>?_,λb o u z=>?_,λb ps z=>?_⟩,I.loc,I.cell,MG _ I.free,λx c' z=>MG _ (I.eF x c' z),λp hp=>?_,λb u z=>?_,I.len⟩
 ·have r:=I.base.tups b xs z;exact Y b _ (aE r e1 (by intro z;cases z)) (aE r e2 (by intro z;cases z)) r
 ·have r:=I.base.kG b o u z;refine Y b _ (aE r e1 (by intro z;cases z)) (λy=>?_) r
  have O:=I0.base.kG b o u z;rw[y]at O;rcases hc with hc|hc<;>(rw[hc]at O;cases O)
 ·by_cases hb:b=P
  ·subst hb;obtain⟨more,O⟩:=I0.base.lH b ps z;rw[hP]at O;exact⟨more,by unfold given;rw[af];exact O⟩
  ·obtain⟨more,r⟩:=I.base.lH b ps z;exact⟨more,Y b _ hb (aE r e2 (by intro z;cases z)) r⟩
 ·obtain⟨a1,a2,a3⟩:=I.pin p hp;exact⟨a1,MG _ a2,a3⟩
 ·by_cases D0:b=P
  ·subst D0;unfold given at z;rw[af]at z;cases z;refine⟨_,QL,.inl ⟨rfl,.inr ⟨c,rfl,?_,hoc.rec U⟩⟩⟩;unfold given;rw[ae zx,af]
  ·by_cases Z:b=c
   ·subst Z;unfold given at z;rw[ae D0,af]at z;cases z;exact⟨oc,U⟩
   ·have z' : H2 b=some u:=by
     unfold given at z;rw[ae D0,ae Z]at z;exact z
    refine(I.hok b u z').stay (λ_ _ _ r=>r) (λd r=>Y d _ (aE r e1 (by intro z;cases z)) (aE r e2 (by intro z;cases z)) r) λd xs r=>Y d _ (aE r e1 (by intro z;cases z)) (aE r e2 (by intro z;cases z)) r
def zz{q:Str}{oc:Obj}(hP:H P=some (.iL (dM q pos)))(hc:H c=none\/H c=some (.own P))(zx:c≠P)(S:aq (fc H P c oc q pos) H2):aq H (given H2 P c q pos):=λb u e=>by
 unfold given
 by_cases O:b=P
 ·subst O;rw[af,<-hP];exact e
 ·rw[ae O]
  by_cases I:b=c
  ·subst I;rw[af];rcases hc with hc|hc
   ·rw[hc]at e;cases e
   ·rw[<-hc];exact e
  ·rw[ae I];refine S b u ?_;unfold fc;rw[ae O,ae I];exact e
def sr{q:Str}{oc:Obj}{b:Addr}{u:HO}(hP:H P=some (.iL (dM q pos)))(hc:H c=none\/H c=some (.own P))(e:H b=some u)(n1:∀y,u≠.own y)(n2:∀I,u≠.iL I):fc H P c oc q pos b=some u:=by
 unfold fc;rw[ae (λz=>by rw[z,hP]at e;exact n2 _ (Option.some.inj e).symm),ae (λz=>by
  rw[z]at e;rcases hc with q|q
  ·rw[q]at e;cases e
  ·rw[q]at e;exact n1 _ (Option.some.inj e).symm)]
 exact e
def tR(X:Cx)(N:List Str)(scope:Scope)(f c:Addr)(A:Around)(s:Shared)(H:Hp):Cx where
 prog:=X.prog
 w:=X.w
 K:=X.K
 mg:=X.mg
 base:=X.base
 A:=A.deeper (PySem.W.envX (X.env.qual ++ "<lambda>") scope s.heap.objs.size f (.ref c) (cR X.env.cells scope.names []))
 N:=N
 s₀:=s
 H₀:=H
 env:=PySem.W.envX (X.env.qual ++ "<lambda>") scope s.heap.objs.size f (.ref c) (cR X.env.cells scope.names [])
 outer:=X.stack
 stack:=PySem.W.envX (X.env.qual ++ "<lambda>") scope s.heap.objs.size f (.ref c) (cR X.env.cells scope.names [])::X.stack
 ex:=[]
 fn:=λ_=>false
 calm:=X.calm
 pn:=[]
 xe:=λ_ _=>False
def JW{f:Addr}{A:Around}{x:Str}{v:V}{u:Value}{h1:Heap}{t1:Nat}(I:Inv X pq σ H s)(T:dh X scope [x] fq js)(hx:scope.names.lookup x=some .local)
 (hfr:A.frames=some X.stack) (hh:A.handled=X.A.handled) (r:RelV v u) (old:∀b o,s.heap.get? b=some o->h1.get? b=some o) (hn:h1.Ns s.heap.objs.size (λy=>[(x,u)].reverse.lookup y)) :
 Inv (tR X ([x]++fq) scope f c A s H) [] (some v::eJ σ js) H { s with heap:=h1,toks:=t1}:=by
 have cells:∀x c,(cR X.env.cells scope.names []).lookup x=some c->X.env.cells.lookup x=some c:=λx c h=>by
  rcases jy h with q|⟨q1,q2⟩
  ·cases q
  ·obtain⟨c',O⟩:=fY I T x .free q1 rfl;rw[O]at q2;rw[O];exact aas some q2
 refine⟨⟨I.ok.mod,T.kind,rfl,rfl,Z3 _,λx y c a b=>I.ok.inj x y c (cells x c a) (cells y c b),λy Y=>?_,λx c z _=>(nomatch z),λhc=>hh.trans (I.ok.hd hc),Around.frames_deeper hfr,.inr ⟨rfl,rfl⟩,λb hb=>absurd (show b∈([]:List Addr) from hb) (by simp),
  λb o e=>I.bs b o e,aat I.ok.IE I.sz,λb o _ hb=>absurd (show b∈([]:List Addr) from hb) (by simp),λb hb=>absurd (show b∈([]:List Addr) from hb) (by simp),I.stack,I.w5⟩,
  rfl,I.bare,Un.kept old,⟨_,hn,λi y v' U e2 e3=>?_⟩,λy c e=>?_,I.hok.fresh (Z3 _),λy c e=>I.eF y c (cells y c e),λp hp=>absurd (show p∈([]:aS) from hp) (by simp),I.hok.kept old,?_⟩
 ·have Y:scope.names.lookup y=some .cell\/scope.names.lookup y=some .free:=Y;rcases Y with Y|Y
  ·exact absurd rfl (T.xr _ (aaQ Y))
  ·exact iZ (.inl (aaQ Y))
 ·replace U:([x]++fq)[i]?=some y:=U
  cases i with
  | zero =>
    have U:x=y:=by simpa using U
    have e2:v=v':=by simpa using e2
    subst U e2;exact⟨u,r,.inl ⟨hx,by simp⟩⟩
  | succ i =>
    have U:fq[i]?=some y:=by simpa using U
    have e2:(eJ σ js)[i]?=some (some v'):=by simpa using e2
    obtain⟨j,hj,hσ⟩:=sQ e2;have hN:X.N[j]?=some y:=by
     have q:=aas (λl=>l[i]?) T.at_
     simp only[Z9,hj,U,abC]at q;exact Option.some.inj q
    have ab:=T.fr y (j7 U);have hm:=aaQ ab;have hk:=T.free (y,.free) hm rfl;obtain⟨m0,ag,E2⟩:=I.loc;obtain⟨u',r',l⟩:=E2 j y v' hN hσ (by rcases hk with k|k;exact .inr (.inl k);exact .inr (.inr k))
    refine⟨u',r',.inr ⟨.inr ab,?_⟩⟩;rcases l with⟨yn,_⟩|⟨_,c1,hc,Z⟩
    ·have yn:X.env.scope.names.lookup y=some .local:=yn;rcases hk with k|k<;>(rw[yn]at k;cases k)
    ·obtain⟨c',O⟩:=iZ (cells:=X.env.cells) (names:=scope.names) (cs:=[]) (x:=y) (.inl hm);have q:=cells y c' O;rw[hc]at q;cases q;exact⟨c1,O,Z.keeps old⟩
 ·obtain⟨v',q⟩:=I.cell y c (cells y c e);exact⟨v',q.keeps old⟩
 ·show _=([x]++fq).length;have q:=aas List.length T.at_;rw[ZZ,ZZ]at q;simp only[aaA,Z7,abA];unfold eJ;rw[ZZ]
  lia
def zA{f:Addr}{ctv:Value}{A:Around}{te:TE}{x:Str}{v:V}{u:Value}{Q:VK}{E:cP}(I:Inv X pq σ H s)(T:dh X scope [x] fq js)(hx:scope.names.lookup x=some .local)
 (hfr:A.frames=some X.stack) (hh:A.handled=X.A.handled) (hroom:A.depth<recursionLimit) (hp:(f,dG X params body scope c ctv)∈pq) (hcd:s.heap.CodeRec (.ref c) (X.env.qual ++ "<lambda>"))
 (hb:bindArgs (zu X params body scope c ctv) ⟨[u],[]⟩=pure [(x,u)]) (hco:scope.isCoroutine=false) (hgen:scope.isGenerator=false)
 (he:PE (tR X ([x]++fq) scope f c A s H) body te) (r:RelV v u) (h:te (some v::eJ σ js) H Q) :
 wpAny (model X.prog X.w) A (call (.ref f) [u]) (λu' s'=>∃O H',Inv X pq σ H' s'/\RelV O u'/\Q O H') E s:=by
 have hf:=I.pin _ (iD _ hp);refine wpAny_call (PySem.W.kla_callFunE hroom hf.1 rfl hco hgen rfl hcd ?_);rw[hb];refine Z5 (wpAny_newFunctionEnv (λy Y=>T.xr y Y) (by intro y Y;have:=aam.mp Y;subst this;exact hx) (λh₁ Z Pd=>⟨I.nolimit.fresh _ Pd,?_⟩) T.kind)
 show codeAny _ _ (.expr body (PySem.W.envX (X.env.qual ++ "<lambda>") scope s.heap.objs.size f (.ref c) (cR X.env.cells scope.names []))) _ _;have old:∀b o,s.heap.get? b=some o->h₁.get? b=some o:=λb o e=>Pd.extBut b o (aak (aab e)) (Z2 _ e)
 have J:=JW (f:=f) (c:=c) (A:=A) (t1:=s.toks+[(x,u)].length) I T hx hfr hh r old Z;refine PySem.W.kla_codeExpr (aar (he [] _ _ H Q J h) (λu' s' hq=>?_) λ_ _ z=>z.elim)
 obtain⟨O,H',U,r',q'⟩:=hq;exact⟨O,H',I.Fc (ch:=[]) U.os U.base U.hok U.bare (λb z=>absurd z (by simp)),r',q'⟩
end
end L2
namespace HT
def fP:∀a:List Int,lexLt a a=false
 | []=>rfl
 | x::xs=>by rw[fX,Z1 rfl];exact fP xs
def qX:∀{a b c:List Int},lexLt a b=true->lexLt b c=true->lexLt a c=true
 | [],[],_,h,_=>by rw[m3]at h;cases h
 | [],_::_,[],_,h=>by rw[fK]at h;cases h
 | [],_::_,_::_,_,_=>rfl
 | _::_,[],_,h,_=>by rw[fK]at h;cases h
 | _::_,_::_,[],_,h=>by rw[fK]at h;cases h
 | x::xs,y::ys,z::zs,h1,h2=>by
   rw[fX]at h1 h2 ⊢
   by_cases O:x=y
   ·rw[Z1 O]at h1
    by_cases I:y=z
    ·rw[Z1 I]at h2;rw[Z1 (O.trans I)];exact qX h1 h2
    ·rw[Z0 I]at h2;rw[Z0 (λq=>I (O.symm.trans q)),O]
     exact h2
   ·rw[Z0 O]at h1;have h1:=sC h1
    by_cases I:y=z
    ·subst I;rw[Z0 O];exact fG h1
    ·rw[Z0 I]at h2;have h2:=sC h2;rw[Z0 (by lia)]
     exact fG (by lia)
def tS{a b c:List Int}(h1:lexLt c b=false)(h2:lexLt a b=true):lexLt c a=false:=by
 cases q:lexLt c a with
 | false=>rfl
 | true=>rw[qX q h2]at h1;cases h1
end HT
namespace L2
open PySem PySem.Spec PyProof.Rows
def QM(h:Heap)(a:Addr)(es:Array DictEntry)(ep:Nat):Prop:=∃o,h.get? a=some o/\o.ExactDict/\o.data = .dict es ep
def QN(o:Obj)(a:Addr)(i n ep:Nat):Prop:=o.cls = .type "dict_keyiterator"/\o.data = .fields #[.ref a,.int i 0,.int n 0,.int ep 0]
section
variable {P:Program}{w:World}{A:Around}{E:cP}{s:Shared}{a it:Addr}{es:Array DictEntry}{ep i:Nat}{oi:Obj}
def GZ{Q:cP}(hs:(a==sysModules)=false)(g:QM s.heap a es ep)
 (q:Q (.ref s.heap.objs.size) { s with heap:=s.heap.push { cls:=.type "dict_keyiterator",data:=.fields #[.ref a,.int 0 0,.int es.size 0,.int ep 0]}}):wpAny (model P w) A (pyIter (.ref a)) Q E s:=by
 obtain⟨o,I,hc,hd⟩:=g;have O:s.TypeIs (.ref a) "dict":=⟨o,I,hc.1⟩;refine wpAny_pyIter_slot O PySem.F.slot_dict_iter (wpAny_call_entry PySem.F.slot_dict_iter O PySem.F.entry_dict_iter ?_ (PySem.F.args_dict_iter_1 _));unfold Builtin.«dict.__iter__» Builtin.Dict.dictSlotNone;refine aQ (aQ (wpAny_notOrdered_dict O ?_));show wpAny _ _ (pure (Value.ref a)) _ _ s;refine Z5 ?_;show wpAny _ _ (Builtin.Dict.showsAll a >>= _) _ _ s;unfold Builtin.Dict.showsAll;rw[hs];refine aQ (Z5 (aQ (wpAny_dictEntries I hd (aQ (wpAny_dictEpoch I hd ?_)))));exact aQ (wpAny_newObj_type (Z5 ⟨_,rfl,"dict_keyiterator",_,⟨_,aag _ rfl,rfl⟩,abG.lookup,q⟩))
def tT{Q:Option Value->Shared->Prop}(hi:s.heap.get? it=some oi)(g:QN oi a i es.size ep)(gd:QM s.heap a es ep)
 (q:match (es[i]?:Option DictEntry) with
  | some e=>∀h' O,h'.get? it=some O->QN O a (i+1) es.size ep->Heap.SameBut it s.heap h'->Q (some e.key) { s with heap:=h'}
  | none=>A.handled=none/\∀h',Heap.ExtBut it s.heap h'->Q none { s with heap:=h'}):wpAny (model P w) A (pyNext (.ref it)) Q E s:=by
 obtain⟨hc,hd⟩:=g;obtain⟨o,ho,hx,Uq⟩:=gd;have I:s.TypeIs (.ref it) "dict_keyiterator":=⟨oi,hi,hc⟩;unfold pyNext;refine aQ (wpAny_attempt (wpAny_callSpecial?_slot (name:=Str.ofString "__next__") I abG (wpAny_call_entry abG I PySem.F.entry_dict_keyiterator_next ?_ (PySem.F.args_dict_keyiterator_next_1 _))));refine aQ (Z5 (aQ (aQ ?_)))
 first | refine aQ (wpAny_typeNameOfWhole_keyiter I (Z5 ?_)) | refine aQ (wpAny_typeNameOf_keyiter I (Z5 ?_))
 refine aQ (wpAny_fieldsOf hi hd ?_);have U:Builtin.Dict_items.ownsTuple "dict_keyiterator"=false:=by decide
 simp only[U,aaX,if_false];show wpAny _ _ (if(Value.ref a==Value.none)=true then _ else _) _ _ s
 rw[Z0 (show ¬((Value.ref a==Value.none)=true) from aac)]
 refine aQ (Z5 (aQ (wpAny_dictEntries ho Uq ?_)));rw[Z0 (by simp)]
 refine aQ (Z5 (aQ (wpAny_dictEpoch ho Uq ?_)));rw[Z0 (by simp)]
 refine Z5 ?_;simp only[show ¬((i:Int)<0) from by lia,if_false,aah]
 cases hei:(es[i]?:Option DictEntry) with
 | some e =>
   rw[hei]at q;refine aQ ?_
   first | refine aQ (wpAny_typeNameOfWhole_keyiter I (Z5 ?_)) | refine aQ (wpAny_typeNameOf_keyiter I (Z5 ?_))
   refine aQ (wpAny_isOneOf_keyiter I ?_);show wpAny _ _ (setField (.ref it) 1 (rawInt ((i:Int)+1)) >>= _) _ _ s;refine aQ (wpAny_setField hi hd (by simp) ?_)
   have d1:=abQ hd (·.setIfInBounds 1 (rawInt ((i:Int)+1)));have g1:=abo (Obj.mapFields (·.setIfInBounds 1 (rawInt ((i:Int)+1)))) hi (abV d1);have Y:(Obj.mapFields (·.setIfInBounds 1 (rawInt ((i:Int)+1))) oi).cls = .type "dict_keyiterator":=(Obj.cls_mapFields ..).trans hc;refine aQ (aaG ?_);refine aQ (wpAny_isOneOf_keyiter (s:={ s with heap:=s.heap.update it (Obj.mapFields (·.setIfInBounds 1 (rawInt ((i:Int)+1))))}) ⟨_,g1,Y⟩ ?_)
   show wpAny _ _ (pure e.key) _ _ _;exact Z5 (Z5 ⟨_,rfl,Z5 (q _ _ g1 ⟨Y,by rw[d1];simp[rawInt]⟩ (aaJ ..))⟩)
 | none =>
   rw[hei]at q;obtain⟨hh,q⟩:=q;refine aQ ?_
   first | refine aQ (wpAny_typeNameOfWhole_keyiter I (Z5 ?_)) | refine aQ (wpAny_typeNameOf_keyiter I (Z5 ?_))
   show wpAny _ _ (setField (.ref it) 0 .none >>= _) _ _ s;refine aQ (wpAny_setField hi hd (by simp) ?_)
   show wpAny _ _ (newExc (.type "StopIteration") [] >>= _) _ _ _;refine aQ ?_;simp only[newExc,newTuple];refine aQ (wpAny_newObj_type (aQ (m:=firstArgMember _ _) (wpAny_of_eq (a:=Value.none) (by first | rfl | (simp only[firstArgMember];rfl)) (wpAny_newObj_type ?_ (by size_fits)))) (by size_fits))
   simp only[raiseNew];refine aQ (wpAny_handled ?_);rw[show A.in1.handled=none from hh]
   refine aQ (Z5 (wpAny_throw ?_));refine aQ (wpAny_isInstance (T:="StopIteration") (b:=true) ⟨_,aag _ rfl,rfl⟩ isSubtype_stop (Z5 ?_));exact q _ (((aaJ ..).extBut.push _).push _)
end
section
variable {X:Cx}{pq:aS}{σ:St}{H H2:Hp}{s:Shared}
def Inv.JX{a:Addr}{kvs:List (List Key×V)}{ob:Obj}(I:Inv X pq σ H s)(e:H a=some (.dT kvs))(ho:s.heap.get? a=some ob):Inv X pq σ (upd H a (.lF ob (.dT kvs))) s:=by
 have ne:∀b,H b=none->b≠a:=λb h z=>by rw[z,e]at h;cases h
 refine⟨I.ok,I.os,I.bare,⟨I.base.keep,I.base.slot,λb o q n hx=>?_,I.base.there,λb xs q=>?_,λb o u q=>?_,λb ps q=>?_⟩,I.loc,I.cell,?_,λx c q=>?_,λp O=>?_,λb u q=>?_,I.len⟩
 ·have z:=I.base.free b o q n hx;rw[ae (ne b z)];exact z
 ·have z:=I.base.tups b xs q;rw[ae (aE z e (by intro z;cases z))]
  exact z
 ·have z:=I.base.kG b o u q;rw[ae (aE z e (by intro z;cases z))]
  exact z
 ·obtain⟨more,z⟩:=I.base.lH b ps q;exact⟨more,by rw[ae (aE z e (by intro z;cases z))];exact z⟩
 ·rw[ae (ne _ I.free)];exact I.free
 ·rw[ae (ne _ (I.eF x c q))];exact I.eF x c q
 ·obtain⟨a1,a2,U⟩:=I.pin p O;exact⟨a1,by rw[ae (ne _ a2)];exact a2,U⟩
 ·by_cases hb:b=a
  ·subst hb;rw[af]at q;cases q;exact⟨ho,(I.hok b _ e).stay (λ_ _ _ q=>q) (λc q=>by rw[ae (aE q e (by intro z;cases z))];exact q) λc xs q=>by rw[ae (aE q e (by intro z;cases z))];exact q⟩
  ·rw[ae hb]at q;exact(I.hok b u q).stay (λ_ _ _ q=>q) (λc q=>by rw[ae (aE q e (by intro z;cases z))];exact q) λc xs q=>by rw[ae (aE q e (by intro z;cases z))];exact q
def Inv.Pe{tQ:aS}{σ0:St}{s0:Shared}{a:Addr}{kvs:List (List Key×V)}{ob:Obj}(I0:Inv X tQ σ0 H s0)(e0:H a=some (.dT kvs))(I:Inv X pq σ H2 s)(e:H2 a=some (.lF ob (.dT kvs))):
 Inv X pq σ (upd H2 a (.dT kvs)) s:=by
 have ne:∀b,H2 b=none->b≠a:=λb h z=>by rw[z,e]at h;cases h
 obtain⟨Z,hd⟩:=(show bC X.prog X.w H2 s.heap a (.lF ob (.dT kvs)) from I.hok a _ e)
 refine⟨I.ok,I.os,I.bare,⟨I.base.keep,I.base.slot,λb o q n hx=>?_,I.base.there,λb xs q=>?_,λb o u q=>?_,λb ps q=>?_⟩,I.loc,I.cell,?_,λx c q=>?_,λp U=>?_,λb u q=>?_,I.len⟩
 ·have z:=I.base.free b o q n hx;rw[ae (ne b z)];exact z
 ·have z:=I.base.tups b xs q;rw[ae (aE z e (by intro z;cases z))]
  exact z
 ·have z:=I.base.kG b o u q;rw[ae (λy=>by
   have O:=I0.base.kG b o u q;rw[y,e0]at O;cases O)]
  exact z
 ·obtain⟨more,z⟩:=I.base.lH b ps q;exact⟨more,by rw[ae (aE z e (by intro z;cases z))];exact z⟩
 ·rw[ae (ne _ I.free)];exact I.free
 ·rw[ae (ne _ (I.eF x c q))];exact I.eF x c q
 ·obtain⟨a1,a2,Y⟩:=I.pin p U;exact⟨a1,by rw[ae (ne _ a2)];exact a2,Y⟩
 ·by_cases hb:b=a
  ·subst hb;rw[af]at q;cases q;exact hd.stay (λ_ _ _ q=>q) (λc q=>by rw[ae (aE q e (by intro z;cases z))];exact q) λc xs q=>by rw[ae (aE q e (by intro z;cases z))];exact q
  ·rw[ae hb]at q;exact(I.hok b u q).stay (λ_ _ _ q=>q) (λc q=>by rw[ae (aE q e (by intro z;cases z))];exact q) λc xs q=>by rw[ae (aE q e (by intro z;cases z))];exact q
def Bq(X:Cx)(b:Addr):Prop:=X.s₀.heap.objs.size<=b/\b≠X.env.locals/\b∉X.fs/\(∀x c,X.env.cells.lookup x=some c->c≠b)/\∀p∈X.pn,p.1≠b
def Inv.G0(I:Inv X pq σ H s){b:Addr}(hb:s.heap.objs.size<=b):Bq X b :=
 let⟨_,f1,f2,_,f4,f5⟩:=I.De hb (I.hok.fresh hb)
 ⟨aat I.sz hb,f1,f2,f4,λp O=>f5 p (acE _ O)⟩
def Inv.jD{pa pb:aS}{b:Addr}{o:Obj}{h' : Heap}{t' : Nat}(I:Inv X pa σ H s)(hb:Bq X b)(hin:(b,o)∈pa)(k:∀c u,c≠b->s.heap.get? c=some u->h'.get? c=some u)
 (O:∀p∈pb,(p.1=b/\h'.get? b=some p.2/\∀v,p.2.data≠.cell v)\/(p∈pa/\p.1≠b)):Inv X pb σ H { s with heap:=h',toks:=t'}:=by
 obtain⟨b1,U,Y,Z,b5⟩:=hb;have n:=(I.pin (b,o) (iD _ hin)).2.1;have J:=(I.fH (LC:=pa.filter λp=>decide (p.1≠b)) λp O=>I.pin p (iD _ (aao.mp O).1)).turned (t':=t') k n U (.inr b1) Z (λp O=>by
  rcases aau.mp O with O|O
  ·exact b5 p O
  ·exact sC (aao.mp O).2)
 refine J.fH λp h=>?_
 rcases O p h with⟨e,g,d⟩|⟨m,ne⟩
 ·refine⟨by rw[e];exact g,by rw[e];exact n,by rw[e];exact U,by rw[e];exact Y,d⟩
 ·exact J.pin p (iD _ (aao.mpr ⟨m,fG ne⟩))
end
section
variable {X:Cx}{pq:aS}{σ:St}{H2:Hp}{params:Arguments}{body:Expr}{scope:Scope}{fq:List Str}{js:List Nat}{x:Str}{te:TE}{f c a It S:Addr}{oc ob:Obj}{ctv:Value}{q:Str}{kvs:List (List Key×V)}
 {es:Array DictEntry} {ep:Nat} {ka:Nat->Addr} {ks:Nat->List Int} {PZ:Addr} {R:Result->Shared->Prop}
structure Br(X:Cx)(σ:St)(H2:Hp)(params:Arguments)(body:Expr)(scope:Scope)(fq:List Str)(js:List Nat)(x:Str)(te:TE)(f c a It S:Addr)(oc ob:Obj)(ctv:Value)(kvs:List (List Key×V))(es:Array DictEntry)(ep:Nat)(ka:Nat->Addr)(ks:Nat->List Int)(PZ:Addr):Prop where
 T:dh X scope [x] fq js
 hx:scope.names.lookup x=some .local
 hh:X.A.handled=none
 dp:X.A.in1.depth<recursionLimit
 un:X.A.in1.units<cLine
 hb:∀u,bindArgs (zu X params body scope c ctv) ⟨[u],[]⟩=pure [(x,u)]
 co:scope.isCoroutine=false
 gen:scope.isGenerator=false
 he:∀s H,PE (tR X ([x]++fq) scope f c X.A.in1 s H) body te
 code:CodeObj oc (X.env.qual ++ "<lambda>")
 hc:H2 c=some (.lF oc (.own PZ))
 ha:H2 a=some (.lF ob (.dT kvs))
 hob:ob.ExactDict/\ob.data = .dict es ep
 key:∀(i:Nat) (e:DictEntry),(es[i]?:Option DictEntry)=some e->e.key = .ref (ka i)
 turn:∀i H3,i<es.size->aq H2 H3->te (some (.ref (ka i))::eJ σ js) H3 λv H4=>aq H3 H4/\∃d,v = .ref d/\bf X.K H4 d ((ks i).map V.int)
 oS:Bq X S
 oI:Bq X It
 SI:S≠It
 fS:f≠S
 fI:f≠It
def zB{pa:aS}{s:Shared}{H3:Hp}{i:Nat}{E:cP}(F:Br X σ H2 params body scope fq js x te f c a It S oc ob ctv kvs es ep ka ks PZ)(hi:i<es.size)(hs:aq H2 H3)(I:Inv X pa σ H3 s)
 (hf:(f,dG X params body scope c ctv)∈pa) :
 wpAny (model X.prog X.w) X.A.in1 (call (.ref f) [.ref (ka i)]) (λu s'=>∃d H4,u = .ref d/\Inv X pa σ H4 s'/\aq H2 H4/\aq H3 H4/\bf X.K H4 d ((ks i).map V.int)) E s:=by
 obtain⟨O,_⟩:=(show bC X.prog X.w H3 s.heap c (.lF oc (.own PZ)) from I.hok c _ (hs _ _ F.hc))
 refine aar (zA (v:=.ref (ka i)) I F.T F.hx I.ok.frames rfl F.dp hf (F.code.rec O) (F.hb _) F.co F.gen (F.he s H3) rfl (F.turn i H3 hi hs)) (λu s' ⟨v,H4,J,r,U,d,e,Y⟩=>?_) λ_ _ z=>z
 subst e;cases r;exact⟨d,H4,rfl,J,λb o z=>U _ _ (hs _ _ z),U,Y⟩
def G3{pa:aS}{s:Shared}{H3:Hp}{d d' : Addr}{ns ms:List Int}{A:Around}{E:cP}{Q:cP}(I:Inv X pa σ H3 s)(h1:bf X.K H3 d (ns.map V.int))(h2:bf X.K H3 d' (ms.map V.int))(hu:A.units<cLine)
 (q:Q (.bool (HT.lexLt ns ms)) s):wpAny (model X.prog X.w) A (richCompare .Lt (.ref d) (.ref d')) Q E s:=by
 obtain⟨O,U,p1,_⟩:=I.tuple h1;obtain⟨its2,r2,p2,_⟩:=I.tuple h2;exact(HT.AV p1 p2 (intsAre_of U) (intsAre_of r2) hu q:wpAny (model X.prog X.w) A (compareOp .Lt (.ref d) (.ref d')) Q E s)
abbrev mF(pq:aS)(S It f:Addr)(oS oI lo:Obj):aS:=(S,oS)::(It,oI)::(f,lo)::pq
def G4(F:Br X σ H2 params body scope fq js x te f c a It S oc ob ctv kvs es ep ka ks PZ)(pI:∀p∈pq,p.1≠It)(pS:∀p∈pq,p.1≠S)
 (hR:∀i s' H3,i<es.size->(∀j,j<es.size->HT.lexLt (ks j) (ks i)=false)->aq H2 H3->Inv X pq σ H3 s'->R (.ok (.ret (.ref (ka i)))) s') :
 ∀(r j i:Nat) (s:Shared) (H3:Hp) (d:Addr) (n:Nat) (oI:Obj),es.size-j=r->j<=es.size->i<j->aq H2 H3->Inv X (mF pq S It f (seqObj "list" #[.ref (ka i),.ref d] n) oI (dG X params body scope c ctv)) σ H3 s->QN oI a j es.size ep->
  bf X.K H3 d ((ks i).map V.int)->(∀Y,Y<j->HT.lexLt (ks Y) (ks i)=false)->codeAny (model X.prog X.w) X.A (.builtin "min.loop" ⟨[.ref It,.ref f,.ref S],[]⟩) R s:=by
 have U:(toString "min" ++ toString ".loop":String)="min.loop":=by decide
 intro r
 induction r with
 | zero =>
   intro j i s H3 d n oI hr hj aw hs I hk hd oN;have yp:j=es.size:=by lia
   have tU:=I.pin (S,_) (iD _ (.head _));have G5:=I.pin (It,oI) (iD _ (.tail _ (.head _)));obtain⟨hob,_⟩:=(show bC X.prog X.w H3 s.heap a (.lF ob (.dT kvs)) from I.hok a _ (hs _ _ F.ha))
   refine codeAny_builtin abl ?_;rw[Around.under_plainId aaD _];show wpAny _ X.A.in1 (seqItems? (.ref S) >>= _) _ _ _;refine aQ (wpAny_seqItems tU.1 rfl ?_);show wpAny _ X.A.in1 (tryCatch (pyNext (.ref It)) _ >>= _) _ _ _;refine aQ (abg (tT G5.1 hk ⟨ob,hob,F.hob⟩ ?_));rw[yp,Array.getElem?_eq_none (Z3 _)];refine⟨F.hh,λh' eb=>?_⟩
   have I1:=I.jD (t':=s.toks) (h':=h') (pb:=(S,seqObj "list" #[.ref (ka i),.ref d] n)::pq) F.oI (List.Mem.tail _ (.head _)) (λb u hb e=>eb b u hb e) (λp O=>by
    rcases aaa.mp O with rfl|O
    ·exact .inr ⟨.head _,F.SI⟩
    ·exact .inr ⟨.tail _ (.tail _ (.tail _ O)),pI p O⟩)
   have G6:=I1.pin (S,_) (iD _ (.head _));show wpAny _ X.A.in1 (updateSeq S (λ_=>#[]) >>= _) _ _ _
   refine aQ (wpAny_updateSeq G6.1 rfl (aQ (wpAny_letGo (Z5 ?_))));have s1:=aaJ h' S (Obj.mapSeq λ_=>(#[]:Array Value))
   exact hR i _ H3 (by lia) (λY ag=>oN Y (by lia)) hs (I1.jD (t':=s.toks) (pb:=pq) F.oS (.head _) (λb u hb e=>(s1.2 b hb).trans e) λp O=>.inr ⟨.tail _ O,pS p O⟩)
 | succ r ih =>
   intro j i s H3 d n oI hr hj aw hs I hk hd oN;have yp:j<es.size:=by lia
   have tU:=I.pin (S,_) (iD _ (.head _));have G5:=I.pin (It,oI) (iD _ (.tail _ (.head _)));obtain⟨hob,_⟩:=(show bC X.prog X.w H3 s.heap a (.lF ob (.dT kvs)) from I.hok a _ (hs _ _ F.ha))
   refine codeAny_builtin abl ?_;rw[Around.under_plainId aaD _];show wpAny _ X.A.in1 (seqItems? (.ref S) >>= _) _ _ _;refine aQ (wpAny_seqItems tU.1 rfl ?_);show wpAny _ X.A.in1 (tryCatch (pyNext (.ref It)) _ >>= _) _ _ _;refine aQ (abg (tT G5.1 hk ⟨ob,hob,F.hob⟩ ?_));have Z:(es[j]?:Option DictEntry)=some es[j]:=Array.getElem?_eq_getElem yp;rw[Z];intro h' E5 Si ab sb;have I1:=I.jD (t':=s.toks) (h':=h') (pb:=mF pq S It f (seqObj "list" #[.ref (ka i),.ref d] n) E5 (dG X params body scope c ctv)) F.oI (List.Mem.tail _ (.head _)) (λb u hb e=>(sb.2 b hb).trans e) (λp O=>by
    rcases aaa.mp O with rfl|O
    ·exact .inr ⟨.head _,F.SI⟩
    ·rcases aaa.mp O with rfl|O
     ·exact .inl ⟨rfl,Si,λv z=>by rw[ab.2]at z;cases z⟩
     ·rcases aaa.mp O with rfl|O
      ·exact .inr ⟨.tail _ (.tail _ (.head _)),F.fI⟩
      ·exact .inr ⟨.tail _ (.tail _ (.tail _ O)),pI p O⟩)
   rw[F.key j _ Z];show wpAny _ X.A.in1 (tryCatch (holding [.ref (ka j)] (call (.ref f) [.ref (ka j)])) _ >>= _) _ _ _;refine aQ (abg (aaG (aar (zB F yp hs I1 (List.Mem.tail _ (.tail _ (.head _)))) (λu s2 hu=>?_) λ_ _ z=>z)))
   obtain⟨d2,H4,rfl,I2,Ga,WY,hd2⟩:=hu;have ar:bf X.K H4 d ((ks i).map V.int):=WY.T7 hd;show wpAny _ X.A.in1 (tryCatch (holding [.ref (ka j),.ref d2] (richCompare .Lt (.ref d2) (.ref d) >>= _)) _ >>= _) _ _ _;refine aQ (abg (aaG (aQ (G3 I2 hd2 ar F.un ?_))));refine aQ (aaG (wpAny_truthy_bool (aQ (wpAny_letGo (Z5 ?_)))));have lU:=I2.pin (S,_) (iD _ (.head _));cases hl:HT.lexLt (ks j) (ks i) with
   | true =>
     have s1:=aaJ s2.heap S (Obj.mapSeq λ_=>(#[.ref (ka j),.ref d2]:Array Value))
     obtain⟨n2,ax⟩:∃n2,(s2.heap.update S (Obj.mapSeq λ_=>(#[.ref (ka j),.ref d2]:Array Value))).get? S=some (seqObj "list" #[.ref (ka j),.ref d2] n2):=⟨_,get?_update_seq lU.1 λ_=>#[.ref (ka j),.ref d2]⟩
     simp only[if_true];refine aQ (wpAny_updateSeq lU.1 rfl (aQ (wpAny_letGo ?_)));rw[U];have I3:=I2.jD (t':=s2.toks) (pb:=mF pq S It f (seqObj "list" #[.ref (ka j),.ref d2] n2) E5 (dG X params body scope c ctv)) F.oS (.head _) (λb u hb e=>(s1.2 b hb).trans e) (λp O=>by
      rcases aaa.mp O with rfl|O
      ·exact .inl ⟨rfl,ax,λv z=>by cases z⟩
      ·rcases aaa.mp O with rfl|O
       ·exact .inr ⟨.tail _ (.head _),F.SI.symm⟩
       ·rcases aaa.mp O with rfl|O
        ·exact .inr ⟨.tail _ (.tail _ (.head _)),F.fS⟩
        ·exact .inr ⟨.tail _ (.tail _ (.tail _ O)),pS p O⟩)
     refine Z5 ⟨plainId_quiet aaD _,ih (j+1) j _ H4 d2 n2 E5 (by lia) (by lia) (by lia) Ga I3 ab hd2 λY ag=>?_⟩
     by_cases e:Y = j
     ·rw[e];exact HT.fP _
     ·exact HT.tS (oN Y (by lia)) hl
   | false =>
     simp only[aaX,if_false];refine aQ (wpAny_letGo ?_);rw[U];refine Z5 ⟨plainId_quiet aaD _,ih (j+1) i _ H4 d n E5 (by lia) (by lia) (by lia) Ga I2 ab ar λY ag=>?_⟩
     by_cases e:Y = j
     ·rw[e];exact hl
     ·exact oN Y (by lia)
end
def boot_min:bootBuiltins "min"=some (.builtin "min"):=by kernel_rfl
def Pf(K:bH)(P:Addr)(q:Str)(lp:Pos)(ta:TA)(te:TE)(js:List Nat):TE:=λσ H Q=>ta σ H λvs H1=>∃a kvs,∃ks:Nat->List Int,vs=[.ref a]/\H1 a=some (.dT kvs)/\0<kvs.length/\H1 P=some (.iL (dM q lp))/\
 (∀ob H3,(∀b u,H1 b=some u->b≠a->(∀y,u≠.own y)->(∀I,u≠.iL I)->H3 b=some u)->H3 a=some (.lF ob (.dT kvs))->
  ∀(i:Nat) kv b,kvs[i]?=some kv->H3 b=some (.tup (kv.1.map kV))->te (some (.ref b)::eJ σ js) H3 λv H4=>aq H3 H4/\∃d,v = .ref d/\bf K H4 d ((ks i).map V.int))/\
 ∀(i:Nat) kv b H4,kvs[i]?=some kv->(∀j,j<kvs.length->HT.lexLt (ks j) (ks i)=false)->aq H1 H4->H4 b=some (.tup (kv.1.map kV))->Q (.ref b) H4
def p5{α β:Type}{R:α->β->Prop}:∀{I:List α} {O:List β},Paired R I O->∀{i:Nat} {a:α} {b:β},I[i]?=some a->O[i]?=some b->R a b
 | _,_,.nil,i,_,_,h,_=>by simp at h
 | _,_,.cons r t,0,_,_,h1,h2=>by
   simp at h1 h2;subst h1 h2;exact r
 | _,_,.cons r t,i+1,_,_,h1,h2=>p5 t (by simpa using h1) (by simpa using h2)
section
variable {X:Cx}{params:Arguments}{body e:Expr}{scope:Scope}{lp p pos kp:Pos}{fq:List Str}{js:List Nat}{x:Str}{ta:TA}{te:TE}{c0 P:Addr}{k:Nat}
def JY(hr:cW (k+2) X.A)(T:dh X scope [x] fq js)(hx:scope.names.lookup x=some .local)(hg:Gl X "min")(hm:X.mg "min"=none)(hcode:X.env.code = .ref c0)(hK:PySem.W.codeHdIn X.K c0 P=true)(ha:PA X [e] ta)
 (he:∀f c s H,cW k (tR X ([x]++fq) scope f c X.A.in1 s H).A->PE (tR X ([x]++fq) scope f c X.A.in1 s H) body te)
 (hb:∀c ctv u,bindArgs (zu X params body scope c ctv) ⟨[u],[]⟩=pure [(x,u)]:=by intro _ _ _;rfl) (hco:scope.isCoroutine=false:=by rfl) (hgen:scope.isGenerator=false:=by rfl)
 (hdef:defaultsOf params X.env=([],[]):=by rfl)
 (hs:backTo pos (starEach [e] X.env)=(false,eval e X.env)::backTo pos (starEach [] X.env):=by rfl) (hs2:(backTo pos (starEach [e] X.env)).any (·.1)=false:=by rfl) :
 PE X (.Call (.Name "min" p) [e] [⟨some (Str.ofString "key"),.Lambda params body scope lp,kp⟩] pos) (Pf X.K P (X.env.qual ++ "<lambda>") lp ta te js):=by
 intro pq s σ H Q I h;refine wpAny_Call_Name_kw (nc I hg hm boot_min (callWith_kw (cM (ha pos pq s σ H _ I h) λus s1 hq=>?_) hs hs2 rfl rfl))
 obtain⟨vs,H1,I1,r1,a,kvs,ks,rfl,a6,bb,hP,ag,MH⟩:=hq;obtain⟨u,rfl,rx⟩:=vals1 r1;cases rx;refine kws_cons (zw I1 T hcode hK hP hdef λf c oc ctv s2 hc zx ax J=>kws_nil ?_)
 show wpAny _ X.A (call (.builtin "min") [.ref a] [(Str.ofString "key",.ref f)]) _ _ s2;have Y:(toString "min" ++ toString ".loop":String)="min.loop":=by decide
 have U:=sr (oc:=oc) hP hc a6 (by intro y z;cases z) (by intro y z;cases z)
 obtain⟨hz,aT,xs,pr,ob,es,ep,ar,hex,Z,a3,bc⟩:=(show bC X.prog X.w (fc H1 P c oc (X.env.qual ++ "<lambda>") lp) s2.heap a (.dT kvs) from J.hok a _ U)
 have J2:=J.JX U ar;have a7:es.size=kvs.length:=by
  have:=aas List.length a3;rw[ZZ,<-pr.length]at this
  simpa using this
 have bo:xs.length=kvs.length:=pr.length.symm;have aw:∀i,i<kvs.length->∃kv y,kvs[i]?=some kv/\xs[i]?=some y/\fc H1 P c oc (X.env.qual ++ "<lambda>") lp y.2.1=some (.tup (kv.1.map kV)):=λi hi=>by
  have e1:kvs[i]?=some kvs[i]:=Z4 hi;have e2:xs[i]?=some (xs[i]'(by lia)):=Z4 _
  exact⟨_,_,e1,e2,(p5 pr e1 e2).2.1⟩
 have MI:fc H1 P c oc (X.env.qual ++ "<lambda>") lp P=some (.iL (dM (X.env.qual ++ "<lambda>") lp++mV lp c)):=af;have JZ:fc H1 P c oc (X.env.qual ++ "<lambda>") lp c=some (.lF oc (.own P)):=by unfold fc;rw[ae zx,af]
 have ca:c≠a:=aE JZ U (by intro z;cases z)
 have pa:P≠a:=aE MI U (by intro z;cases z)
 generalize Jm:upd (fc H1 P c oc (X.env.qual ++ "<lambda>") lp) a (.lF ob (.dT kvs))=H2 at J2;have at2:∀b u,b≠a->fc H1 P c oc (X.env.qual ++ "<lambda>") lp b=some u->H2 b=some u:=λb u n e=>by rw[<-Jm,ae n];exact e
 have a2:H2 a=some (.lF ob (.dT kvs)):=by rw[<-Jm,af]
 let ka:Nat->Addr:=λi=>((xs[i]?).map (·.2.1)).getD 0
 have MJ:∀{i:Nat} {y:List Key×Addr×Value},xs[i]?=some y->ka i=y.2.1:=λ{i y} e=>by show((xs[i]?).map (·.2.1)).getD 0=_;rw[e];rfl
 refine kmk_tree PySem.F.kind_min PySem.F.plain_min PySem.F.entry_min (kmk_min_key _ _) ?_;show wpAny _ X.A.in1 (Builtin.Builtins.bindParams "min" ["key","default"] 0 ⟨[],[(Str.ofString "key",.ref f)]⟩ >>= _) _ _ s2;refine aQ (wpAny_of_eq (show Builtin.Builtins.bindParams "min" ["key","default"] 0 ⟨[],[(Str.ofString "key",.ref f)]⟩=pure [some (.ref f),none] from rfl) ?_)
 refine aQ (Z5 (aQ (GZ aT ⟨ob,ar,hex,Z⟩ (aQ (wpAny_newList ?_ (aaB _))))));rw[Y];refine Z5 ⟨plainId_quiet aaD _,?_⟩;generalize MK:({ cls:=.type "dict_keyiterator",data:=.fields #[.ref a,.int 0 0,.int es.size 0,.int ep 0]}:Obj)=oI;have Ur:QN oI a 0 es.size ep:=by rw[<-MK];exact⟨rfl,rfl⟩
 have hS:(s2.heap.push oI).objs.size=s2.heap.objs.size+1:=size_push' ..;have a4:∀b o,s2.heap.get? b=some o->((s2.heap.push oI).push (seqObj "list" #[] 0)).get? b=some o:=λb o e=>Z2 _ (Z2 _ e)
 have gI:((s2.heap.push oI).push (seqObj "list" #[] 0)).get? s2.heap.objs.size=some oI:=Z2 _ (aag _ (by rw[<-MK];rfl))
 have gS:((s2.heap.push oI).push (seqObj "list" #[] 0)).get? (s2.heap.push oI).objs.size=some (seqObj "list" #[] 0):=aag _ rfl;have J0:∀p∈(f,dG X params body scope c ctv)::pq,p.1<s2.heap.objs.size:=λp O=>aab (J2.pin p (iD _ O)).1
 have La:=J2.G0 (Z3 s2.heap.objs.size);have oS:=J2.G0 (b:=(s2.heap.push oI).objs.size) (by rw[hS];exact abv _)
 have F:Br X σ H2 params body scope fq js x te f c a s2.heap.objs.size (s2.heap.push oI).objs.size oc ob ctv kvs es ep ka ks P:=by
  refine⟨T,hx,hr.hd,(hr.in1).depth,(hr.in1).AR,λu=>hb c ctv u,hco,hgen,λs H=>he f c s H ((hr.in1).deeper _),ax,at2 c _ ca JZ,a2,⟨hex,Z⟩,λi e hi=>?_,λi H3 hi Ax=>?_,oS,La,by rw[hS];exact acZ _,?_,aak (J0 _ (.head _))⟩
  ·have a8 : i<kvs.length:=by rw[<-a7];exact(abm.mp hi).1
   obtain⟨kv,y,e1,e2,_⟩:=aw i a8;have e3:=aas (λl=>l[i]?) a3
   simp only[Z9,e2,abC,abB]at e3;rw[hi]at e3;have e4:=Option.some.inj e3;rw[e4,MJ e2];rfl
  ·obtain⟨kv,y,e1,e2,e3⟩:=aw i (by lia)
   refine ag ob H3 (λb u eb nb n1 n2=>Ax _ _ (at2 b u nb (sr hP hc eb n1 n2))) (Ax _ _ a2) i kv (ka i) e1 ?_
   rw[MJ e2];exact Ax _ _ (at2 _ _ (aE e3 U (by intro z;cases z)) e3)
  ·rw[hS];exact aak (abh (J0 _ (.head _)))
 have pI:∀p∈pq,p.1≠s2.heap.objs.size:=λp O=>aak (J0 p (.tail _ O))
 have pS:∀p∈pq,p.1≠(s2.heap.push oI).objs.size:=λp O=>by rw[hS];exact aak (abh (J0 p (.tail _ O)))
 have J3:Inv X (mF pq (s2.heap.push oI).objs.size s2.heap.objs.size f (seqObj "list" #[] 0) oI (dG X params body scope c ctv)) σ H2 { s2 with heap:=(s2.heap.push oI).push (seqObj "list" #[] 0)}:=by
  have K:=J2.kept (t':=s2.toks) a4;refine K.fH λp O=>?_
  rcases aaa.mp O with rfl|O
  ·exact⟨gS,J2.hok.fresh (by rw[hS];exact abv _),oS.2.1,oS.2.2.1,λv z=>by cases z⟩
  ·rcases aaa.mp O with rfl|O
   ·exact⟨gI,J2.hok.fresh (Z3 _),La.2.1,La.2.2.1,λv z=>by rw[Ur.2]at z;cases z⟩
   ·exact K.pin p (iD _ O)
 have h0:0<es.size:=by lia
 have ab:(es[0]?:Option DictEntry)=some es[0]:=Array.getElem?_eq_getElem h0;have tU:=J3.pin ((s2.heap.push oI).objs.size,seqObj "list" #[] 0) (iD _ (.head _));have G5:=J3.pin (s2.heap.objs.size,oI) (iD _ (.tail _ (.head _)));refine codeAny_builtin abl ?_;rw[Around.under_plainId aaD _];show wpAny _ X.A.in1 (seqItems? (.ref _) >>= _) _ _ _;refine aQ (wpAny_seqItems tU.1 rfl ?_);show wpAny _ X.A.in1 (tryCatch (pyNext (.ref s2.heap.objs.size)) _ >>= _) _ _ _;refine aQ (abg (tT G5.1 Ur ⟨ob,a4 _ _ ar,hex,Z⟩ ?_));rw[ab];intro h' E5 Si a5 sb;have I4:=J3.jD (t':=s2.toks) (h':=h') (pb:=mF pq (s2.heap.push oI).objs.size s2.heap.objs.size f (seqObj "list" #[] 0) E5 (dG X params body scope c ctv)) F.oI (List.Mem.tail _ (.head _)) (λb u hb e=>(sb.2 b hb).trans e) (λp O=>by
  rcases aaa.mp O with rfl|O
  ·exact .inr ⟨.head _,F.SI⟩
  ·rcases aaa.mp O with rfl|O
   ·exact .inl ⟨rfl,Si,λv z=>by rw[a5.2]at z;cases z⟩
   ·rcases aaa.mp O with rfl|O
    ·exact .inr ⟨.tail _ (.tail _ (.head _)),F.fI⟩
    ·exact .inr ⟨.tail _ (.tail _ (.tail _ O)),pI p O⟩)
 rw[F.key 0 _ ab];show wpAny _ X.A.in1 (tryCatch (holding [.ref (ka 0)] (call (.ref f) [.ref (ka 0)])) _ >>= _) _ _ _;refine aQ (abg (aaG (aar (zB F h0 (aq.refl _) I4 (List.Mem.tail _ (.tail _ (.head _)))) (λu s3 hu=>?_) λ_ _ z=>z)))
 obtain⟨d2,H4,rfl,I5,Ga,_,hd2⟩:=hu;have lU:=I5.pin ((s2.heap.push oI).objs.size,_) (iD _ (.head _));have a9:=aaJ s3.heap (s2.heap.push oI).objs.size (Obj.mapSeq λ_=>(#[.ref (ka 0),.ref d2]:Array Value))
 obtain⟨n2,ba⟩:∃n2,(s3.heap.update (s2.heap.push oI).objs.size (Obj.mapSeq λ_=>(#[.ref (ka 0),.ref d2]:Array Value))).get? (s2.heap.push oI).objs.size=some (seqObj "list" #[.ref (ka 0),.ref d2] n2):=⟨_,get?_update_seq lU.1 λ_=>#[.ref (ka 0),.ref d2]⟩
 show wpAny _ X.A.in1 (updateSeq (s2.heap.push oI).objs.size (λ_=>#[.ref (ka 0),.ref d2]) >>= _) _ _ _
 refine aQ (wpAny_updateSeq lU.1 rfl ?_);rw[Y];have I6:=I5.jD (t':=s3.toks) (pb:=mF pq (s2.heap.push oI).objs.size s2.heap.objs.size f (seqObj "list" #[.ref (ka 0),.ref d2] n2) E5 (dG X params body scope c ctv)) F.oS (.head _) (λb u hb e=>(a9.2 b hb).trans e) (λp O=>by
  rcases aaa.mp O with rfl|O
  ·exact .inl ⟨rfl,ba,λv z=>by cases z⟩
  ·rcases aaa.mp O with rfl|O
   ·exact .inr ⟨.tail _ (.head _),F.SI.symm⟩
   ·rcases aaa.mp O with rfl|O
    ·exact .inr ⟨.tail _ (.tail _ (.head _)),F.fS⟩
    ·exact .inr ⟨.tail _ (.tail _ (.tail _ O)),pS p O⟩)
 refine Z5 ⟨plainId_quiet aaD _,G4 F pI pS (λi s' H3 hi best Ax I7=>?_) _ 1 0 _ H4 d2 n2 E5 rfl h0 (abb _) Ga I6 a5 hd2 λj hj=>?_⟩
 ·obtain⟨kv,y,e1,e2,e3⟩:=aw i (by lia)
  have i3:=Ax _ _ a2;have I8:=Inv.Pe J U I7 i3;have p3:upd H3 a (.dT kvs) P=some (.iL (dM (X.env.qual ++ "<lambda>") lp++mV lp c)):=by rw[ae pa];exact Ax _ _ (at2 _ _ pa MI)
  have c3:upd H3 a (.dT kvs) c=some (.lF oc (.own P)):=by rw[ae ca];exact Ax _ _ (at2 _ _ ca JZ)
  have I9:=zy I1 hP hc zx ax I8 p3 c3;have ya:y.2.1≠a:=aE e3 U (by intro z;cases z)
  have y3:upd H3 a (.dT kvs) y.2.1=some (.tup (kv.1.map kV)):=by rw[ae ya];exact Ax _ _ (at2 _ _ ya e3)
  refine⟨.ref (ka i),_,I9,rfl,MH i kv (ka i) _ e1 (λj hj=>best j (by lia)) (zz hP hc zx (oc:=oc) λb u eb=>?_) ?_⟩
  ·by_cases hb:b=a
   ·subst hb;rw[U]at eb;rw[af];exact eb
   ·rw[ae hb];exact Ax _ _ (at2 _ _ hb eb)
  ·rw[MJ e2];unfold given;rw[ae (aE y3 p3 (by intro z;cases z)),ae (aE y3 c3 (by intro z;cases z))]
   exact y3
 ·have e:j=0:=by lia
  rw[e];exact HT.fP _
end
section
variable {P:Program}{w:World}{A:Around}{E:cP}{s:Shared}{a:Addr}{es:Array DictEntry}{ep:Nat}
def ML(hd:(a==sysModules)=false):MeetsIn P w (Builtin.«dict.__len__» ⟨[.ref a],[]⟩) (λ_ R s=>∃es ep,QM s.heap a es ep/\R (.ok (.ret (.int es.size s.toks))) { s with toks:=s.toks+1}) :=
 .of_wp λA R s ⟨es,ep,⟨o,O,_,I⟩,h⟩=>by
  show wpAny _ _ (dictSize a >>= _) _ _ s;unfold dictSize;refine aQ (aQ (wpAny_dictEntries O I (Z5 ?_)));show wpAny _ _ (Builtin.Dict.pendingCount a >>= _) _ _ s;refine aQ (wpAny_pendingCount_other hd (wpAny_ret_mkInt ?_));rw[Nat.add_zero];exact h
def D3{Q:cP}(hd:(a==sysModules)=false)(g:QM s.heap a es ep)(hfit:(es.size:Int)<2^63)(h:Q (.int es.size (s.toks+1)) { s with toks:=s.toks+1+1}):
 wpAny (model P w) A (call (.builtin "len") [.ref a]) Q E s:=by
 have I:s.TypeIs (.ref a) "dict":=let⟨o,ho,hc,_⟩:=g;⟨o,ho,hc.1⟩;refine Calls.call_function_entry kind_len plain_len entry_len (args_len1 _) ?_;unfold Builtin.«len»;refine aQ (m:=oneArg "len" _) (Z5 ?_);refine aQ (m:=callSpecial? (.ref a) (Str.ofString "__len__")) (wpAny_callSpecial?_slot (name:=Str.ofString "__len__") I PySem.F.slot_dict_len
  (call_meetsIn PySem.F.slot_dict_len I PySem.F.entry_dict_len (PySem.F.args_dict_len_1 _) (ML hd) ⟨es,ep,g,?_⟩))
 show wpAny _ _ _ _ _ { s with toks:=s.toks+1}
 refine aQ (aaG (Z5 (aQ (wpAny_letGo ?_))));show wpAny _ _ (if((es.size:Nat):Int)<0 then _ else _) _ _ _
 rw[Z0 (by lia)]
 show wpAny _ _ (if((es.size:Nat):Int) ≥ 2^63 then _ else _) _ _ _
 rw[Z0 (by lia)]
 exact aQ (wpAny_mkInt (Z5 ⟨_,rfl,h⟩))
end
def erase_filter{K α:Type}[DecidableEq K]{k:K}{p:α}:∀{xs:List (K×α)} {j:Nat},(xs.map (·.1)).Nodup->xs[j]?=some (k,p)->xs.eraseIdx j=xs.filter λx=>decide (x.1≠k)
 | [],j,_,h=>by simp at h
 | x::r,0,nd,h=>by
   simp at h;subst h;rw[aaj,aaI]at nd;rw[List.eraseIdx_cons_zero,aay,Z0 (by simp)]
   refine(List.filter_eq_self.mpr λy I=>?_).symm
   have z:y.1≠k:=λz=>nd.1 (aai.mpr ⟨y,I,z⟩)
   simp[z]
 | x::r,j+1,nd,h=>by
   rw[aaj,aaI]at nd;have h:r[j]?=some (k,p):=by simpa using h
   have hx:x.1≠k:=λz=>nd.1 (by rw[z];exact aa8 (f:=(·.1)) (j7 h))
   rw[abN,aay,Z1 (fG hx),erase_filter nd.2 h]
def m5{α β:Type}(f:α->β):∀(l:List α) (i:Nat),(l.map f).eraseIdx i=(l.eraseIdx i).map f
 | [],_=>rfl
 | _::_,0=>rfl
 | x::r,i+1=>by rw[aaj,abN,abN,aaj,m5 f r i]
def KT.drop{H:Hp}{kvs:List (List Key×V)}{xs:List (List Key×Addr×Value)}(r:KT H kvs xs)(k:List Key):KT H (bz kvs k) (xs.filter λx=>decide (x.1≠k)):=by
 unfold bz
 induction r with
 | nil=>exact .nil
 | @cons p q ps qs h t ih =>
   rw[aay,aay]
   by_cases e:p.1=k
   ·rw[Z0 (by simp[e]),Z0 (by simp[h.1.symm.trans e])];exact ih
   ·have e' : ¬ q.1=k:=λz=>e (h.1.trans z)
    rw[Z1 (by simp[e]),Z1 (by simp[e'])];exact .cons h ih
section
variable {P:Program}{w:World}{A:Around}{E:cP}{s:Shared}{K:Type}[DecidableEq K]{knd:HeapKind P w K}{d b:Addr}{xs:List (K×Addr×Value)}{k:K}{j:Nat}{p:Addr×Value}
def MM{Q:Option DictEntry->Shared->Prop}(hu:knd.room A)(hkey:knd.is s.heap k b)(hm:s.heap.DictOfH knd d xs)(hj:xs[j]?=some (k,p))(hsz:xs.length<=sizeLine)
 (h:∀e h' o' I C7,e.val=p.2->h'.get? d=some o'->o'.ExactDict->o'.data = .dict I C7->I.toList=(xs.eraseIdx j).map (entryOfKey knd)->Heap.SameBut d s.heap h'->Q (some e) { s with heap:=h',toks:=s.toks+knd.draws k}) :
 wpAny (model P w) A (Builtin.Dict.takeOut d (.ref b)) Q E s:=by
 obtain⟨o,es,ep,O,hc,hd,he,U,hn⟩:=hm;unfold Builtin.Dict.takeOut
 try with_reducible refine aaG ?_
 refine aQ (knd.pyHash hu hkey (aQ (wpAny_dictFind_heap (s:={ s with toks:=s.toks+knd.draws k}) hu hkey O hd he U hn (λY=>absurd hj (Y j p)) λj' p' Z=>?_)))
 have WZ:j' = j:=idxH_unique hn Z hj;subst WZ;refine aQ (wpAny_dictEntries (s:={ s with toks:=s.toks+knd.draws k}) O hd ?_)
 rw[entry_at he j',hj];refine aQ (wpAny_updateDictKeys (hz:=by have e:=size_of_entries he;lia) (s:={ s with toks:=s.toks+knd.draws k}) O hd (Z5 (h _ _ _ _ (ep+1) rfl (abo _ O (Obj.isFreed_of_dict (Obj.data_mapDictKeys hd _))) (hc.mapDictKeys _) (Obj.data_mapDictKeys hd _) ?_ (aaJ ..))))
 rw[<-m5,<-he];obtain⟨l⟩:=es;simp
def Pg{Q:cP}(hu:knd.room A.in1)(hkey:knd.is s.heap k b)(hm:s.heap.DictOfH knd d xs)(hj:xs[j]?=some (k,p))(hsz:xs.length<=sizeLine)
 (h:∀h' o' I O,h'.get? d=some o'->o'.ExactDict->o'.data = .dict I O->I.toList=(xs.eraseIdx j).map (entryOfKey knd)->Heap.SameBut d s.heap h'->Q p.2 { s with heap:=h',toks:=s.toks+knd.draws k}) :
 wpAny (model P w) A (call (.builtin "dict.pop") [.ref d,.ref b]) Q E s:=by
 have Z:=hm.typeIs;refine wpAny_call_entry abW Z PySem.F.entry_dict_pop ?_ (PySem.F.args_dict_pop_2 _ _);unfold Builtin.«dict.pop» Builtin.Dict.keyAndDefault;refine aQ (aQ (wpAny_notOrdered_dict Z ?_));show wpAny _ _ (pure (d,Value.ref b,(none:Option Value))) _ _ s;refine Z5 ?_;obtain⟨o,es,ep,ho,hc,hd,he,ab,hn⟩:=id hm;have U:es.isEmpty=false:=by
  have e:=size_of_entries he;have hl:=(ju.mp hj).1;rw[Array.isEmpty_eq_false_iff_exists_mem];exact⟨es[j]'(by lia),Array.getElem_mem _⟩
 have Y:(keyPart (Value.ref b)).isSome=false:=rfl;simp only[Y,aaX,if_false];refine aQ (wpAny_dictEntries ho hd (aQ (Z5 ?_)));rw[U];simp only[aaX,if_false];refine aQ (MM hu hkey hm hj hsz λe h' o' I O e1 e2 e3 e4 e5 e6=>?_)
 simp only[Option.isNone_some,aaX,if_false];refine aQ (wpAny_letGo (Z5 ⟨e.val,rfl,?_⟩));rw[e1];exact h h' o' I O e2 e3 e4 e5 e6
end
section
variable {X:Cx}{pq:aS}{σ:St}{H:Hp}{s:Shared}
def Sj:jx X (.builtin "len") (λxs H Q=>∃a kvs,xs=[.ref a]/\Rd H a (.dT kvs)/\Q (.int kvs.length) H):=by
 intro pq s σ H xs us Q I r h;obtain⟨a,kvs,rfl,e,q⟩:=h;obtain⟨u,rfl,rx⟩:=vals1 r;cases rx;obtain⟨z,hsys,ys,pr,ob,es,ep,hgo,hex,hdat,hes,hnd⟩:=(show bC X.prog X.w H s.heap a (.dT kvs) from e.ok I.hok)
 have O:es.size=kvs.length:=by
  have:=aas List.length hes;rw[ZZ,<-pr.length]at this
  simpa using this
 refine D3 hsys ⟨ob,hgo,hex,hdat⟩ (by rw[O];rw[sizeLine_eq]at z;lia) ?_
 rw[O];exact⟨.int kvs.length,H,I.tok _,⟨_,rfl⟩,q⟩
def MN(td ty:TE):TE:=λσ H Q=>td σ H λx H1=>∃a,x = .ref a/\QI H1 a/\ty σ H1 λy H2=>∃kvs k b v,H2 a=some (.dT kvs)/\y = .ref b/\H2 b=some (.tup (k.map kV))/\cN kvs k=some v/\Q v (upd H2 a (.dT (bz kvs k)))
def MO{A:Around}{E:cP}{a b:Addr}{kvs:List (List Key×V)}{k:List Key}{v:V}{Q:cP}(hu:A.units+1<cLine)(I:Inv X pq σ H s)(e:H a=some (.dT kvs))(eb:H b=some (.tup (k.map kV)))(l:cN kvs k=some v)
 (h:∀U s',Inv X pq σ (upd H a (.dT (bz kvs k))) s'->RelV v U->Q U s'):wpAny (model X.prog X.w) A (call (.builtin "dict.pop") [.ref a,.ref b]) Q E s:=by
 obtain⟨z,hd,xs,rel,dd⟩:=Gx I.hok e;have hv:=rel.val k;rw[l]at hv;obtain⟨U,hw,rw'⟩:=j8.some_of hv;obtain⟨p,zC,E4⟩:=uT.mp hw;obtain⟨j,hj⟩:∃j,xs[j]?=some (k,p):=by
  unfold atKey at zC;obtain⟨y,Ph,W0⟩:=uT.mp zC;have hk:=List.find?_some Ph;have hm:=List.mem_of_find?_eq_some Ph;obtain⟨j,hj⟩:=aaF hm;have Y : y.1=k:=sC hk;exact⟨j,by rw[hj,<-Y,<-W0]⟩
 have O:(xs.map (·.1)).Nodup:=let⟨_,_,_,_,_,_,_,_,hn⟩:=dd;hn;refine Pg (tupleKind_room_in1 hu) (nv I.hok eb) dd hj (by rw[<-rel.length];exact z) λh' o' Z C7 g1 g2 g3 g4 sb=>?_
 rw[E4];refine h U _ ?_ rw';have ab:∀b ys,H b=some (.tup ys)->upd H a (.dT (bz kvs k)) b=some (.tup ys):=λb ys q=>by rw[ae (aE q e (by intro z;cases z))];exact q
 rw[erase_filter O hj]at g4;refine oE I (by rw[e];exact True.intro) sb ⟨o',g1⟩ ⟨aat (zb kvs k) z,hd,_,(rel.drop k).keeps ab,o',Z,C7,g1,g2,g3,g4,?_⟩
 exact O.sublist (List.filter_sublist.map _)
variable {o e:Expr}{apos cpos:Pos}{td ty:TE}
def G7(hu:X.A.units+1<cLine)(ho:PE X o td)(he:PE X e ty)(m:M1 X o "pop" apos e cpos):PE X (.Call (.Attribute o "pop" apos) [e] [] cpos) (MN td ty):=by
 intro pq s σ H Q I h;refine wpAny_Call_method m.base m.few m.line ach abW PySem.F.type_dict_pop (cM (ho pq s σ H _ I h) λu s1 ⟨x,H1,U,rx,a,ex,d,Y⟩=>?_)
 subst ex;obtain rfl:u=Value.ref a:=rx;obtain⟨t1,t2,_⟩:=Bf U d;refine⟨t1,t2,?_⟩;rw[m.trees];refine Calls.callWith_builtin rfl (Calls.evalArgs_plain (Calls.spliced_cons (cM (he pq s1 σ H1 _ U Y) λZ s2 ⟨y,H2,I2,ry,kvs,k,b,v,ea,ey,eb,l,q2⟩=>Calls.spliced_nil ?_)))
 subst ey;obtain rfl:Z=Value.ref b:=ry;exact MO hu I2 ea eb l λw' s3 I3 O=>⟨v,_,I3,O,q2⟩
def MP(tk tv:TE):TE:=λσ H Q=>∀p,H p=none->tk σ (upd H p (.dT [])) λy H1=>tv σ H1 λv H2=>∃b k,y = .ref b/\H2 b=some (.tup (k.map kV))/\H2 p=some (.dT [])/\Q (.ref p) (upd H2 p (.dT [(k,v)]))
end
section
variable {X:Cx}{k v:Expr}{pos:Pos}{tk tv:TE}
def G8(hu:X.A.units+1<cLine)(hk:PE X k tk)(hv:PE X v tv):PE X (.Dict [some k] [v] pos) (MP tk tv):=by
 intro pq s σ H Q I q;have hn:=I.hok.fresh (Z3 s.heap.objs.size);have I1:=I.laid (a:=s.heap.objs.size) (o:=.dT []) (h':=s.heap.push { cls:=.type "dict",data:=.dict #[]}) (t':=s.toks) (λ_ _ q=>Z2 _ q) (Z3 _) (GB s.heap I.big)
 rw[arm_eval_Dict,zip_pairTrees [some k] [v] X.env pos rfl rfl,dictDisplay_pairs (pairTrees [some k] [v] X.env pos) (by intro z;cases z) (show 1<17 by decide)]
 refine aQ (wpAny_standAt (aQ ?_));unfold subDict;refine aQ (wpAny_alloc (aQ (aaG ?_)));rw[Z1 (show(pairTrees [some k] [v] X.env pos).length<=15 from(show 1<=15 by decide))]
 refine aQ (pairTrees_cons_walk (cM (hk pq _ σ _ _ I1 (q _ hn)) λu s1 ⟨y,H1,I2,ry,q1⟩=>cM (hv pq s1 σ H1 _ I2 q1) λu2 s2 ⟨O,H2,U,rv,b,ks,ey,Y,ep,q2⟩=>pairTrees_nil_walk ?_))
 subst ey;obtain rfl:u=Value.ref b:=ry;obtain⟨z,hd,xs,rel,dd⟩:=Gx U.hok ep;cases rel;refine aaG (aQ ?_);rw[List.forIn_cons];refine aQ (aQ (wpAny_dictSet_heap (hsz:=aaB _) (show X.A.units<cLine from Nat.lt_of_succ_lt hu) (nv U.hok Y) dd λh' Gz hs=>Z5 ?_))
 show wpAny _ _ (forIn [] PUnit.unit _) _ _ _;rw[List.forIn_nil];refine Z5 (Z5 (Z5 (Z5 ?_)));obtain⟨o',Z,C7,g1,g2,g3,g4,g5,g6⟩:=Gz;have hb:upd H2 s.heap.objs.size (.dT [(ks,O)]) b=some (.tup (ks.map kV)):=by
  rw[ae (aE Y ep (by intro z;cases z))]
  exact Y
 have new:bC X.prog X.w (upd H2 s.heap.objs.size (.dT [(ks,O)])) h' s.heap.objs.size (.dT [(ks,O)]):=⟨(show 1<=sizeLine by decide),hd,[(ks,b,u2)],.cons ⟨rfl,hb,rv⟩ .nil,o',Z,C7,g1,g2,g3,g4,g6⟩
 exact⟨.ref s.heap.objs.size,_,oE U (by rw[ep];exact True.intro) hs ⟨o',g1⟩ new,rfl,q2⟩
end
end L2
namespace HT
open PySem PyProof.Rows
def J7(a b c d:Int):Bool:=if a=c then(if b=d then true else decide (b<=d)) else decide (a<=c)
def xG(a b c d:Int):J7 a b c d=true↔a<c\/(a=c/\b<=d):=by
 unfold J7
 by_cases h:a=c
 ·rw[Z1 h]
  by_cases h2:b=d
  ·rw[Z1 h2];simp[h,h2]
  ·rw[Z0 h2];simp only[decide_eq_true_eq];lia
 ·rw[Z0 h];simp only[decide_eq_true_eq];lia
def G9(A:Around)(s:Shared)(a:Int)(t:Tok)(c:Int)(u:Tok)(prog:Program)(w:World)(E:cP)(Q:cP)(h:Q (.bool (decide (a<=c))) s):
 wpAny (model prog w) A (richCompare .LtE (.int a t) (.int c u)) Q E s :=
 (PyProof.Rows.le_int h:wpAny (model prog w) A (compareOp .LtE (.int a t) (.int c u)) Q E s)
section
open PySem.SeqAt
open PySem.AutoSeq1 (wpAny_loadPart')
open PySem.MeetsSeq PySem.MeetsSeq2 PySem.MeetsSeq3
def D5(l b:Addr)(items items2:Array Value)(n n2:Nat)(dd dd2:Option Addr)(sl sl2:Array (Option Value))(x1 y1 x2 y2:Int)(t1 u1 t2 u2:Tok)(hi:items.toList=[.int x1 t1,.int y1 u1])(hj:items2.toList=[.int x2 t2,.int y2 u2]):
 Meets (Builtin.«tuple.__le__» ⟨[.ref l,.ref b],[]⟩)
  (λ_ R s=>s.heap.get? l=some { cls:=.type "tuple",dict:=dd,data:=.seq items n,slots:=sl}/\s.heap.get? b=some { cls:=.type "tuple",dict:=dd2,data:=.seq items2 n2,slots:=sl2}/\
   R (.ok (.ret (.bool (J7 x1 y1 x2 y2)))) s) :=
 .of_wp λprog w A R s h=>by
  obtain⟨I,g,d,tk,os⟩:=s;obtain⟨hl,hb,h⟩:=h;have f2:=AutoSeq1.sub_tuple_tuple;have z1:items.size=2:=by rw[<-abt,hi];rfl
  have z2:items2.size=2:=by rw[<-abt,hj];rfl
  wp_walk using wpAny_loadPart' hl,wpAny_loadPart' hb,wpAny_forIn_list _ (λrest b s'=>b.1=none/\s' = ⟨I,g,d,tk,os⟩/\
   ((rest=[((Value.int x1 t1:Value),(Value.int x2 t2:Value)),(.int y1 u1,.int y2 u2)]/\R (.ok (.ret (.bool (J7 x1 y1 x2 y2)))) ⟨I,g,d,tk,os⟩)\/
    (rest=[((Value.int y1 u1:Value),(Value.int y2 u2:Value))]/\R (.ok (.ret (.bool (if y1=y2 then true else decide (y1<=y2))))) ⟨I,g,d,tk,os⟩)\/(rest=[]/\R (.ok (.ret (.bool true))) ⟨I,g,d,tk,os⟩))) _
  case turn =>
   rintro⟨y,x⟩ rest b s' ⟨U,rfl,hh⟩;obtain⟨a,c,t,u,Z,Y,hx,O,hN⟩:∃(a c:Int) (t u:Tok) (Z:Bool),y = .int a t/\x = .int c u/\R (.ok (.ret (.bool (if a=c then Z else decide (a<=c))))) ⟨I,g,d,tk,os⟩/\
    (R (.ok (.ret (.bool Z))) ⟨I,g,d,tk,os⟩->(rest=[((Value.int y1 u1:Value),(Value.int y2 u2:Value))]/\R (.ok (.ret (.bool (if y1=y2 then true else decide (y1<=y2))))) ⟨I,g,d,tk,os⟩)\/(rest=[]/\R (.ok (.ret (.bool true))) ⟨I,g,d,tk,os⟩)):=by
    rcases hh with⟨hz,O⟩|⟨hz,O⟩|⟨hz,_⟩
    ·injection hz with ha hr
     obtain⟨Y,hx⟩:=Prod.mk.inj ha;exact⟨x1,x2,t1,t2,_,Y,hx,O,λSk=>.inl ⟨hr,Sk⟩⟩
    ·injection hz with ha hr
     obtain⟨Y,hx⟩:=Prod.mk.inj ha;exact⟨y1,y2,u1,u2,true,Y,hx,O,λSk=>.inr ⟨hr,Sk⟩⟩
    ·cases hz
   subst Y hx;obtain⟨e,he,FH⟩:=yE A.in1 ⟨I,g,d,tk,os⟩ a t c u;refine wpAny_bind (he prog w _ _ ?_);cases e with
   | true =>
     rw[Z1 (FH.mp rfl)]at O
     wp_walk
     exact⟨rfl,rfl,.inr (hN O)⟩
   | false =>
     rw[Z0 (λq=>absurd (FH.mpr q) aac)]at O
     have Nx:=G9 A.in1 ⟨I,g,d,tk,os⟩ a t c u prog w
     wp_walk using Nx
     exact⟨_,rfl,by simpa using O⟩
  case fin =>
   rintro⟨b1,b2⟩ s' ⟨U,rfl,hh⟩;simp only at U;subst U;rcases hh with⟨hz,_⟩|⟨hz,_⟩|⟨_,O⟩
   ·cases hz
   ·cases hz
   ·wp_walk
    refine⟨_,rfl,?_⟩
    simpa[Builtin.Tuple.tupleCompareSizes,z1,z2]using O
  case h =>
   refine⟨rfl,rfl,.inl ⟨?_,h⟩⟩;rw[hi,hj];rfl
end
section
variable {prog:Program}{w:World}{A:Around}{E:cP}{s:Shared}
def Hf{l b:Addr}{items items2:Array Value}{x1 y1 x2 y2:Int}{Q:cP}(hl:IsTup s.heap l items)(hb:IsTup s.heap b items2)(hi:IntsAre items.toList [x1,y1])(hj:IntsAre items2.toList [x2,y2])
 (hu:A.units<cLine) (h:Q (.bool (J7 x1 y1 x2 y2)) s):wpAny (model prog w) A (compareOp .LtE (.ref l) (.ref b)) Q E s:=by
 obtain⟨⟨cls,O,data,sl⟩,I,hc,n,hd⟩:=id hl;obtain⟨⟨Jc,dd2,data2,sl2⟩,ho2,hc2,n2,hd2⟩:=id hb;simp only at hc hd hc2 hd2;subst hc hd hc2 hd2;have two:∀{vs:List Value} {a c:Int},IntsAre vs [a,c]->∃t u,vs=[.int a t,.int c u]:=λ{vs a c} q=>by
  cases q with
  | cons n t r=>cases r with
    | cons n' U Y=>cases Y;exact⟨t,U,rfl⟩
 obtain⟨t1,Z,e1⟩:=two hi;obtain⟨t2,u2,e2⟩:=two hj;exact richCompare_meets_room (op:=.LtE) ⟨_,I,rfl⟩ ⟨_,ho2,rfl⟩ PySem.F.slot_tuple_le PySem.F.entry_tuple_le (PySem.F.args_tuple_le_2 _ _) (D5 l b items items2 n n2 O dd2 sl sl2 x1 y1 x2 y2 t1 Z t2 u2 e1 e2)
  ⟨I,ho2,show Value.bool (J7 x1 y1 x2 y2)≠Value.notImplemented/\Q (.bool (J7 x1 y1 x2 y2)) s from⟨(λx=>nomatch x),h⟩⟩ hu
end
end HT
namespace L2
open PySem PySem.Spec PyProof.Rows
section
variable {X:Cx}
def Sl(K:bH):R2:=λx y H Q=>∃a b I O U Y,x = .ref a/\y = .ref b/\bf K H a [.int I,.int O]/\bf K H b [.int U,.int Y]/\Q (.bl (HT.J7 I O U Y)) H
def MQ(hu:X.A.units<cLine):lq X (compareOp .LtE) (Sl X.K):=by
 intro pq s σ H x y v u Q I rx ry h;obtain⟨a,b,O,U,Y,Z,rfl,rfl,ha,hb,q⟩:=h;cases rx;cases ry;obtain⟨its,r1,p1,_⟩:=I.tuple ha;obtain⟨its2,r2,p2,_⟩:=I.tuple hb;exact HT.Hf p1 p2 (intsAre_of (ns:=[O,U]) r1) (intsAre_of (ns:=[Y,Z]) r2) hu ⟨.bl (HT.J7 O U Y Z),H,I,rfl,q⟩
end
abbrev rD:=List (Addr×Str×Pos)
structure TabsOk(K:bH)(h:Heap)(tb:rD):Prop where
 nd:(tb.map (·.1)).Nodup
 mt:∀p∈tb,h.get? p.1=some (PySem.W.tabObj #[])
 code:∀p∈tb,∃c,PySem.W.CodeHd h c p.1
 out:∀p∈tb,K.lookup p.1=none
def TabsAt(tb:rD)(H:Hp):Prop:=∀p∈tb,H p.1=some (.iL (dM p.2.1 p.2.2))
def zD(tb:rD):Hp:=λb=>(tb.find? λp=>p.1==b).map λp=>.iL (dM p.2.1 p.2.2)
def mG{tb:rD}{b:Addr}{u:HO}(e:zD tb b=some u):∃p∈tb,p.1=b/\u = .iL (dM p.2.1 p.2.2):=by
 unfold zD at e;obtain⟨p,h1,h2⟩:=uT.mp e;have I:(p.1==b)=true:=List.find?_some (p:=λp:Addr×Str×Pos=>p.1==b) h1
 exact⟨p,List.mem_of_find?_eq_some h1,eq_of_beq I,h2.symm⟩
def xH:∀{tb:rD},(tb.map (·.1)).Nodup->TabsAt tb (zD tb)
 | [],_=>λp I=>nomatch I
 | q::r,nd=>λp I=>by
   rw[aaj,aaI]at nd;rcases aaa.mp I with rfl|I
   ·unfold zD;rw[List.find?_cons_of_pos (by simp)];rfl
   ·have ne:(q.1==p.1)=false:=beq_eq_false_iff_ne.mpr λz=>nd.1 (by rw[z];exact aa8 I)
    unfold zD;rw[List.find?_cons_of_neg (by rw[ne];exact aac)]
    exact xH nd.2 p I
def D6{P:Program}{w:World}{K:bH}{mg mb:lE}{CX:EZ}{k:Nat}{fa a:Addr}{fd:FuncData}{x:Str}{sp:Sp}{s₁:Shared}{vs:List Value}{ns:List Int}{tb:rD}
 (KX:K.In s₁.heap) (TB:TabsOk K s₁.heap tb) (hns:s₁.heap.Ns mainGlobals mg) (hb:s₁.heap.Ns builtinsNs mb) (W2:∀x:Str,x≠"__name__"->mb x=bootBuiltins x) (hlim:s₁.heap.NoLimit)
 (hbm:∃bm ob,mg "__builtins__"=some (.ref bm)/\bm≠builtinsNs/\s₁.heap.get? bm=some ob/\ob.cls = .type "module"/\ob.dict=some builtinsNs/\ob.data = .plain) (hg:s₁.gens = #[])
 (ha:s₁.heap.get? a=some { cls:=.type "list",data:=.seq vs.toArray}) (hi:IntsAre vs ns) (hl:ns.length<=sizeLine) (hr:cW k callerA)
 (F:∀base:Heap,K.In base->base.Ns mainGlobals mg->fF P w K mg base CX k fa fd [x] sp) (hbind:∀(s:Shared) (u:Value),BindsTo s fd ⟨[u],[]⟩ [(x,u)])
 (Aw:∀H:Hp,TabsAt tb H->aV K H a (ns.map V.int)->sp [.ref a] H (λv _=>v = .bl true) λ_ _ _=>False)
 (Sm:∀H e s',CX [] H s₁ (λ_ _ _=>False) e s'->False) :
 codeAny (model P w) callerA (.call (.ref fa) ⟨[.ref a],[]⟩) (λr s'=>r = .ok (.ret (.bool true))/\OldK s₁.heap s'.heap/\s'.os=s₁.os/\AllBare s'.gens) s₁:=by
 have rv:=vJ hi;have Sn:=hi.length;have aT:∀p∈tb,p.1≠a:=λp I z=>by
  have:=TB.mt p I;rw[z,ha]at this;cases this
 let fz:HO:=.lF { cls:=.type "list",data:=.seq vs.toArray} (.lst (ns.map V.int))
 have core:∀H:Hp,aV K H a (ns.map V.int)->TabsAt tb H->lG P w H s₁.heap->(∀b u,H b=some u->(b=a/\K.lookup a=none/\u=fz)\/∃p∈tb,p.1=b/\u = .iL (dM p.2.1 p.2.2))->
  codeAny (model P w) callerA (.call (.ref fa) ⟨[.ref a],[]⟩) (λr s'=>r = .ok (.ret (.bool true))/\OldK s₁.heap s'.heap/\s'.os=s₁.os/\AllBare s'.gens) s₁:=by
  intro H hS hT hok hA;have free:∀{b:Addr} {o:Obj},s₁.heap.get? b=some o->(∀xs n,o.data≠.seq xs n)->(∀xs,o.data≠.fields xs)->H b=none:=λ{b o} e n1 n2=>by
   cases q:H b with
   | none=>rfl
   | some u =>
     rcases hA b u q with⟨z,_⟩|⟨p,I,z,_⟩
     ·rw[z,ha]at e;cases e;exact absurd rfl (n1 _ _)
     ·rw[<-z,TB.mt p I]at e;cases e;exact absurd rfl (n2 _)
  have Z:∀{b:Addr} {m:lE},s₁.heap.Ns b m->(yx s₁.heap H).Ns b m:=λ{b m} ⟨o,es,ep,e,d,r⟩=>⟨o,es,ep,sD e (free e (by intro _ _ z;rw[d]at z;cases z) (by intro _ z;rw[d]at z;cases z)),d,r⟩
  have Us:K.In (yx s₁.heap H):=λb o e=>sD (KX b o e) (by
   cases q:H b with
   | none=>rfl
   | some u =>
     rcases hA b u q with⟨z,n,_⟩|⟨p,I,z,_⟩
     ·rw[z,n]at e;cases e
     ·rw[<-z,TB.out p I]at e;cases e)
  have hM:Mod K mg (yx s₁.heap H):=⟨Us,Z hns,⟨mb,Z hb,W2⟩,(let⟨mc,h1,h2⟩:=hlim;⟨mc,Z h1,h2⟩),
   let⟨bm,ob,b1,b2,b3,b4,b5,b6⟩:=hbm;⟨bm,ob,b1,b2,sD b3 (free b3 (by intro _ _ z;rw[b6]at z;cases z) (by intro _ z;rw[b6]at z;cases z)),b4,b5,b6⟩⟩
  have e0:AS P w K mg (yx s₁.heap H) callerA [] s₁ H:=⟨rfl,hM,λb o e=>IP e,abU (C5 _ _),trivial,λb hb=>absurd (show b∈([]:List Addr) from hb) (by simp),hok,.of_eq hg⟩
  refine codeAny_mono ((F _ Us (Z hns)).run callerA [] s₁ H ⟨[.ref a],[]⟩ [.ref a] [.ref a] _ _ hr e0 (hbind s₁ (.ref a)) (.cons rfl .nil) (Aw H hT hS)) λr s' h=>?_
  cases r with
  | error e=>exact(Sm H e s' h).elim
  | ok fl =>
    cases fl with
    | next=>exact False.elim h
    | brk=>exact False.elim h
    | cont=>exact False.elim h
    | ret u =>
      obtain⟨v,H',os,bare,un,Pj,r',q⟩:=h;have q' : v = .bl true:=q;subst q';obtain rfl:u=Value.bool true:=r';have all:∀b o,s₁.heap.get? b=some o->s'.heap.get? b=some o\/∃p∈tb,p.1=b/\∃ps,s'.heap.get? b=some (PySem.W.tabObj ps):=λb o e=>by
       cases q:H b with
       | none=>exact .inl (un.keep b o e q (by intro z;exact absurd (show b∈([]:List Addr) from z) (by simp)) (by simp))
       | some u =>
         rcases hA b u q with⟨z,_,U⟩|⟨p,I,z,U⟩
         ·rw[U]at q;obtain⟨Y,_⟩:=hok b _ q;obtain⟨O,_⟩:=Pj b _ (un.kG b _ _ q);rw[e]at Y;cases Y;exact .inl O
         ·rw[U]at q;obtain⟨more,q2⟩:=un.lH b _ q;obtain⟨ps,O,_⟩:=Pj b _ q2;exact .inr ⟨p,I,z,ps,O⟩
      refine⟨rfl,⟨λb o e=>?_,λb o e=>?_⟩,os,bare⟩
      ·rcases all b o e with z|⟨p,I,z,ps,O⟩
       ·exact .inl z
       ·obtain⟨c,hc⟩:=TB.code p I;have Y:=TB.mt p I;subst z;rw[e]at Y;cases Y;exact .inr (.inl ⟨(hc.tab e).isCodeTable,rfl,#[],ps,rfl,by rw[O,Array.empty_append]⟩)
      ·rcases all b o e with z|⟨p,I,z,ps,O⟩
       ·exact⟨o,z⟩
       ·exact⟨_,O⟩
 have tok:∀{H:Hp} {b:Addr} {p},p∈tb->p.1=b->bC P w H s₁.heap b (.iL (dM p.2.1 p.2.2)):=λ{H b p} I z=>⟨#[],by rw[<-z];exact TB.mt p I,.inl ⟨rfl,.inl rfl⟩⟩
 cases hk:K.lookup a with
 | some o =>
   have e:=KX a o hk;rw[ha]at e;cases e;refine core (zD tb) (.inr ⟨_,vs.toArray,_,hk,rfl,rfl,rfl,by rw[aae,Sn];exact hl,by simpa using rv⟩) (xH TB.nd) (λb u e=>?_) λb u e=>.inr (mG e)
   obtain⟨p,I,z,rfl⟩:=mG e;exact tok I z
 | none =>
   refine core (λb=>if b=a then some fz else zD tb b) (.inl (.inr ⟨{ cls:=.type "list",data:=.seq vs.toArray},Z1 rfl⟩)) (λp I=>?_) (λb u e=>?_) λb u e=>?_
   ·show(if p.1=a then some fz else zD tb p.1)=_
    rw[Z0 (aT p I)];exact xH TB.nd p I
   ·by_cases hb:b=a
    ·have z:=(Z1 hb).symm.trans e;cases z;subst hb;exact⟨ha,by rw[ZZ];exact hl,vs,_,rv,ha⟩
    ·have z:=(Z0 hb).symm.trans e;obtain⟨p,I,U,rfl⟩:=mG z;exact tok I U
   ·by_cases hb:b=a
    ·have z:=(Z1 hb).symm.trans e;exact .inl ⟨hb,hk,(Option.some.inj z).symm⟩
    ·exact .inr (mG ((Z0 hb).symm.trans e))
def Hg{l:PySem.W.OpenLaw}{n k:Nat}{q:Program}{loose:List Str}{XP:(Str->Option Value)->Heap->Prop}{YP:World->Heap->Prop}{d:DefRec}{K:Params->bH}{CX:World->EZ}{sp:World->rD->Sp}{x:Str}{ts:List Addr}
 (hn:l.most=some n) (hn2:n<=sizeLine) (KR:d.params.defaults=[]) (hr:cW k callerA)
 (hY:∀(w:World) (h:Heap),YP w h->(K w.params).In h/\∀P∈ts,h.get? P=some (PySem.W.tabObj #[]))
 (F:∀(w:World) (mg:lE) (fa:Addr) (h:Heap),(K w.params).In h->h.Ns mainGlobals mg->mg d.name=some (.ref fa)->
  ∃(fd:FuncData) (tb:rD),((tb.map (·.1)).Nodup/\PySem.W.noTabs (K w.params)=true/\∀p∈tb,p.1∈ts/\∃c,PySem.W.codeHdIn (K w.params) c p.1=true)/\(∀(s:Shared) (u:Value),BindsTo s fd ⟨[u],[]⟩ [(x,u)])/\
   ∀base:Heap,(K w.params).In base->base.Ns mainGlobals mg->fF l.prog w (K w.params) mg base (CX w) k fa fd [x] (sp w tb))
 (Aw:∀(w:World) (H:Hp) (a:Addr) (ns:List Int) (tb:rD),ns.length<=n->TabsAt tb H->aV (K w.params) H a (ns.map V.int)->sp w tb [.ref a] H (λv _=>v = .bl true) λ_ _ _=>False)
 (Sm:∀(w:World) (H:Hp) (s:Shared) (e:Value) (s' : Shared),CX w [] H s (λ_ _ _=>False) e s'->False) :
 PySem.W.WalkO q loose XP YP l.row.toRowW d [] (λf vs=>PySem.call f vs):=by
 refine Att.yI hn KR λw s₀ s₁ mg mb fa o pm cd doc a vs ns G Y ho hd ag ab I hints hlen hg=>?_
 obtain⟨Z,O⟩:=hY w _ Y;obtain⟨fd,tb,⟨nd,nt,ht⟩,hb,hF⟩:=F w mg fa _ Z G.T.g ab;have TB:TabsOk (K w.params) s₁.heap tb:=⟨nd,λp U=>O _ (ht p U).1,λp U=>let⟨_,c,e⟩:=ht p U;⟨c,PySem.W.codeHd_of_K Z e⟩,λp U=>by
  cases e:(K w.params).lookup p.1 with
  | none=>rfl
  | some ob =>
    have e1:=Z _ _ e;rw[O _ (ht p U).1]at e1;cases e1;have z:=acr.mp nt (p.1,PySem.W.tabObj #[]) (PySem.W.mem_of_lookupK e);exact absurd (show false=true from z) aac⟩
 exact D6 Z TB G.T.g G.T.b G.T.builtins G.T.nolimit G.T.bmain hg I hints (aat hlen hn2) hr hF hb (λH hT hS=>Aw w H a ns tb hlen hT hS) λH e s'=>Sm w H s₁ e s'
def mW(f:Str):Str:=f ++ ".<locals>." ++ "<lambda>"
structure Bs(K:bH)(x qual:Str)(st:Stmt)(f:Addr)(fd:FuncData)(c0 P:Addr):Prop where
 ex:∃(oc:Value) (od:Option Addr) (kV doc pm:Value) (an:Option Addr) (ct:Value) (osl:Array (Option Value)),
  fd=PySem.W.fnOf x qual (dI st) (bV st) (aj st) .none kV doc pm an (.ref c0) ct/\K.lookup f=some ⟨oc,od,.func fd,osl⟩/\PySem.W.codeIn K (.ref c0) qual=true
 kp:PySem.W.keepIn K (.ref f)=true
 hd:PySem.W.codeHdIn K c0 P=true
section
variable {P:Program}{w:World}{K:bH}{mg:lE}{base:Heap}{x qual:Str}{st:Stmt}{f c0 p0:Addr}{fd:FuncData}
def Bs.ok{N ps:List Str}{k:Nat}{sp:Sp}(F:Bs K x qual st f fd c0 p0)(S:aC N ps (aj st))(len:∀vs H Q E,sp vs H Q E->vs.length=ps.length)
 (hbody:∀(A:Around) (outer:List Env) (s:Shared) (H:Hp) (vs:List V) (Q:VK) (E:XK),cW k (A.deeper (envOfC qual (aj st) s.heap.objs.size f (.ref c0)))->sp vs H Q E->
  ∃t,uU (rq sO P w K mg base N qual (aj st) f (.ref c0) A outer s H E).Av (bV st) t/\t { nx:=λ_ H'=>Q .dH H',rt:=Q} (start N vs) H):fF P w K mg base sO (k+1) f fd ps sp:=by
 obtain⟨oc,od,kV,doc,pm,an,ct,osl,rfl,O,I⟩:=F.ex;refine FF O I S len λA outer s H vs Q E hr U=>?_
 obtain⟨t,h,q⟩:=hbody A outer s H vs Q E hr U;exact⟨t,h.Av,q⟩
def Bs.binds{ps:List Str}(F:Bs K x qual st f fd c0 p0)
 (h:∀(kV doc pm:Value) (an:Option Addr) (cdv ct:Value) (us:List Value),us.length=ps.length->bindArgs (PySem.W.fnOf x qual (dI st) (bV st) (aj st) .none kV doc pm an cdv ct) ⟨us,[]⟩=pure (ps.zip us)):Binds K fd ps []:=by
 obtain⟨oc,od,kV,doc,pm,an,ct,osl,rfl,O,I⟩:=F.ex;exact .all (h kV doc pm an (.ref c0) ct)
def J8{oc:Value}{od an:Option Addr}{osl:Array (Option Value)}{kV doc pm ct:Value}(l:K.lookup f=some ⟨oc,od,.func (PySem.W.fnOf x qual (dI st) (bV st) (aj st) .none kV doc pm an (.ref c0) ct),osl⟩)
 (c:PySem.W.codeIn K (.ref c0) qual=true) (k:PySem.W.keepIn K (.ref f)=true) (hd:PySem.W.codeHdIn K c0 p0=true):Bs K x qual st f (PySem.W.fnOf x qual (dI st) (bV st) (aj st) .none kV doc pm an (.ref c0) ct) c0 p0 :=
 ⟨⟨oc,od,kV,doc,pm,an,ct,osl,rfl,l,c⟩,k,hd⟩
end
end L2
namespace RM
abbrev OW:=Nat->Bool->Option (Int×Nat)
def jg(F:OW)(x:Nat)(s:Bool)(d:Int×Nat):OW:=λy t=>if y=x/\t=s then some d else F y t
def xJ(F:OW)(x:Nat)(s:Bool):OW:=λy t=>if y=x/\t=s then none else F y t
def bO(F:OW)(x:Nat)(s:Bool)(d:Int×Nat):jg F x s d x s=some d:=Z1 ⟨rfl,rfl⟩
def bq{F:OW}{x y:Nat}{s t:Bool}{d:Int×Nat}(h : ¬(y=x/\t=s)):jg F x s d y t=F y t:=Z0 h
def su(F:OW)(x:Nat)(s:Bool):xJ F x s x s=none:=Z1 ⟨rfl,rfl⟩
def mH{F:OW}{x y:Nat}{s t:Bool}(h : ¬(y=x/\t=s)):xJ F x s y t=F y t:=Z0 h
def Wz(N:Net)(L:Nat->Int)(m u v:Nat)(s:Bool)(z:Int)(e:Nat):Prop:=∃pre,Wl N L m u pre v s z e
structure Dj(N:Net)(L:Nat->Int)(m u:Nat)(F W:OW)(now:Option (Nat×Bool))(done:Nat->Nat->Prop):Prop where
 fw:∀x s d,F x s=some d->Wz N L m u x s d.1 d.2
 ww:∀x s d,W x s=some d->Wz N L m u x s d.1 d.2
 dj:∀x s d,W x s=some d->F x s=none
 le:∀x s d y t d',F x s=some d->W y t=some d'->d.1<=d'.1
 mx:∀x s d y t d',now=some (x,s)->F x s=some d->F y t=some d'->d'.1<=d.1
 cl:∀x s d k y,F x s=some d->k<N.n->Jn N k x y->(now=some (x,s)->done k y)->∃d',(F y (s^^m.testBit k)=some d'\/W y (s^^m.testBit k)=some d')/\d'.1<=d.1+L k
 st:∃d,(F u false=some d\/W u false=some d)/\d.1<=0
section
variable {N:Net}{L:Nat->Int}{m u:Nat}{F W:OW}
def Dj.start:Dj N L m u (λ_ _=>none) (jg (λ_ _=>none) u false (0,0)) none (λ_ _=>False):=by
 refine⟨λ_ _ _ h=>(nomatch h),λx s d h=>?_,λ_ _ _ _=>rfl,λ_ _ _ _ _ _ h=>(nomatch h),λ_ _ _ _ _ _ h=>(nomatch h),λ_ _ _ _ _ h=>(nomatch h),⟨(0,0),.inr (bO _ _ _ _),abd _⟩⟩
 by_cases e:x=u/\s=false
 ·obtain⟨rfl,rfl⟩:=e;rw[bO]at h;cases h;exact⟨[],.nil⟩
 ·rw[bq e]at h;cases h
def Dj.pop(h:Dj N L m u F W none (λ_ _=>False)){x:Nat}{s:Bool}{d:Int×Nat}(e:W x s=some d)(hmin:∀y t d',W y t=some d'->d.1<=d'.1):Dj N L m u (jg F x s d) (xJ W x s) (some (x,s)) (λ_ _=>False):=by
 have hF:=h.dj x s d e;have of:∀y t d',jg F x s d y t=some d'->(y=x/\t=s/\d' = d)\/F y t=some d':=λy t d' q=>by
  by_cases z:y=x/\t=s
  ·obtain⟨rfl,rfl⟩:=z;rw[bO]at q;exact .inl ⟨rfl,rfl,(Option.some.inj q).symm⟩
  ·rw[bq z]at q;exact .inr q
 have U:∀y t d',xJ W x s y t=some d'->¬(y=x/\t=s)/\W y t=some d':=λy t d' q=>by
  by_cases z:y=x/\t=s
  ·obtain⟨rfl,rfl⟩:=z;rw[su]at q;cases q
  ·rw[mH z]at q;exact⟨z,q⟩
 have moved:∀y t d',F y t=some d'\/W y t=some d'->jg F x s d y t=some d'\/xJ W x s y t=some d':=λy t d' q=>by
  by_cases z:y=x/\t=s
  ·obtain⟨rfl,rfl⟩:=z;rcases q with q|q
   ·rw[hF]at q;cases q
   ·rw[e]at q;cases q;exact .inl (bO _ _ _ _)
  ·rw[bq z,mH z];exact q
 refine⟨λy t d' q=>?_,λy t d' q=>h.ww y t d' (U y t d' q).2,λy t d' q=>?_,λy t d' O Y d2 q I=>?_,λy t d' O Y d2 hn q I=>?_,λy t d' k O q hk hj hd=>?_,?_⟩
 ·rcases of y t d' q with⟨rfl,rfl,rfl⟩|q
  ·exact h.ww _ _ _ e
  ·exact h.fw y t d' q
 ·obtain⟨z,q⟩:=U y t d' q;rw[bq z];exact h.dj y t d' q
 ·obtain⟨_,I⟩:=U O Y d2 I;rcases of y t d' q with⟨_,_,rfl⟩|q
  ·exact hmin _ _ _ I
  ·exact h.le _ _ _ _ _ _ q I
 ·cases hn;rw[bO]at q;cases q;rcases of O Y d2 I with⟨_,_,rfl⟩|I
  ·exact abd _
  ·exact h.le _ _ _ _ _ _ I e
 ·rcases of y t d' q with⟨rfl,rfl,rfl⟩|q
  ·exact(hd rfl).elim
  ·obtain⟨d2,I,Z⟩:=h.cl y t d' k O q hk hj (λz=>nomatch z)
   exact⟨d2,moved _ _ _ I,Z⟩
 ·obtain⟨d2,I,Z⟩:=h.st;exact⟨d2,moved _ _ _ I,Z⟩
def Dj.put{done:Nat->Nat->Prop}{x:Nat}{s:Bool}(h:Dj N L m u F W (some (x,s)) done){d:Int×Nat}{k y:Nat}(e:F x s=some d)(hk:k<N.n)(hL:0<=L k)(hj:Jn N k x y)(hF:F y (s^^m.testBit k)=none)
 (hW:∀d',W y (s^^m.testBit k)=some d'->d.1+L k<=d'.1):Dj N L m u F (jg W y (s^^m.testBit k) (d.1+L k,d.2^^^2^k)) (some (x,s)) (λZ y'=>done Z y'\/(Z = k/\y' = y)):=by
 have O:∀v t d',jg W y (s^^m.testBit k) (d.1+L k,d.2^^^2^k) v t=some d'->(v=y/\t=(s^^m.testBit k)/\d' = (d.1+L k,d.2^^^2^k))\/W v t=some d':=λv t d' q=>by
  by_cases z:v=y/\t=(s^^m.testBit k)
  ·obtain⟨rfl,rfl⟩:=z;rw[bO]at q;exact .inl ⟨rfl,rfl,(Option.some.inj q).symm⟩
  ·rw[bq z]at q;exact .inr q
 have moved:∀v t d',F v t=some d'\/W v t=some d'->∃d2,(F v t=some d2\/jg W y (s^^m.testBit k) (d.1+L k,d.2^^^2^k) v t=some d2)/\d2.1<=d'.1:=λv t d' q=>by
  rcases q with q|q
  ·exact⟨d',.inl q,abd _⟩
  ·by_cases z:v=y/\t=(s^^m.testBit k)
   ·obtain⟨rfl,rfl⟩:=z;exact⟨_,.inr (bO _ _ _ _),hW d' q⟩
   ·exact⟨d',.inr (by rw[bq z];exact q),abd _⟩
 refine⟨h.fw,λv t d' q=>?_,λv t d' q=>?_,λv t d' v2 t2 d2 q I=>?_,h.mx,λv t d' k2 y2 q U MR hd=>?_,?_⟩
 ·rcases O v t d' q with⟨rfl,rfl,rfl⟩|q
  ·obtain⟨pre,w⟩:=h.fw x s d e;exact⟨_,w.go hk hj⟩
  ·exact h.ww v t d' q
 ·rcases O v t d' q with⟨rfl,rfl,rfl⟩|q
  ·exact hF
  ·exact h.dj v t d' q
 ·rcases O v2 t2 d2 I with⟨rfl,rfl,rfl⟩|I
  ·have:=h.mx x s d v t d' rfl e q;show d'.1<=d.1+L k
   lia
  ·exact h.le _ _ _ _ _ _ q I
 ·by_cases hd2:some (x,s)=some (v,t)->done k2 y2
  ·obtain⟨d2,I,Y⟩:=h.cl v t d' k2 y2 q U MR hd2;obtain⟨d3,q3,l3⟩:=moved _ _ _ I;exact⟨d3,q3,Int.le_trans l3 Y⟩
  ·have hn:some (x,s)=some (v,t):=aap λz=>hd2 λz2=>absurd z2 z
   rcases hd hn with z|⟨rfl,rfl⟩
   ·exact absurd (λ_=>z) hd2
   ·cases hn;rw[e]at q;cases q;exact⟨_,.inr (bO _ _ _ _),abd _⟩
 ·obtain⟨d2,I,Y⟩:=h.st;obtain⟨d3,q3,l3⟩:=moved _ _ _ I;exact⟨d3,q3,Int.le_trans l3 Y⟩
def Dj.skip{done:Nat->Nat->Prop}{x:Nat}{s:Bool}(h:Dj N L m u F W (some (x,s)) done){d d2:Int×Nat}{k y:Nat}(e:F x s=some d)(hL:0<=L k)(I:F y (s^^m.testBit k)=some d2\/(W y (s^^m.testBit k)=some d2/\d2.1<=d.1+L k)):
 Dj N L m u F W (some (x,s)) (λU Y=>done U Y\/(U = k/\Y = y)):=by
 refine⟨h.fw,h.ww,h.dj,h.le,h.mx,λv t d' Z y2 q O MR hd=>?_,h.st⟩
 by_cases hd2:some (x,s)=some (v,t)->done Z y2
 ·exact h.cl v t d' Z y2 q O MR hd2
 ·have hn:some (x,s)=some (v,t):=aap λz=>hd2 λz2=>absurd z2 z
  rcases hd hn with z|⟨rfl,rfl⟩
  ·exact absurd (λ_=>z) hd2
  ·cases hn;rw[e]at q;cases q;rcases I with I|⟨I,l2⟩
   ·have:=h.mx x s d _ _ d2 rfl e I;exact⟨d2,.inl I,by lia⟩
   ·exact⟨d2,.inr I,l2⟩
def Dj.all{done:Nat->Nat->Prop}{x:Nat}{s:Bool}(h:Dj N L m u F W (some (x,s)) done)(ha:∀k y,k<N.n->Jn N k x y->done k y):Dj N L m u F W none (λ_ _=>False) :=
 ⟨h.fw,h.ww,h.dj,h.le,λ_ _ _ _ _ _ z=>(nomatch z),λv t d k y q hk hj _=>h.cl v t d k y q hk hj λz=>by cases z;exact ha k y hk hj,h.st⟩
def Dj.best(h:Dj N L m u F W none (λ_ _=>False))(hW:∀x s,W x s=none)(x:Nat)(s:Bool):GP N L m u x s ((F x s).map (·.1)):=by
 have low:∀{pre:List Nat} {v e:Nat} {t:Bool} {z:Int},Wl N L m u pre v t z e->∃d,F v t=some d/\d.1<=z:=λ{pre v e t z} w=>by
  induction w with
  | nil =>
    obtain⟨d,q,l⟩:=h.st;rcases q with q|q
    ·exact⟨d,q,l⟩
    ·rw[hW]at q;cases q
  | @go pre v w k e s z _ hk hj ih =>
    obtain⟨d,q,l⟩:=ih;obtain⟨d2,I,O⟩:=h.cl _ _ d k _ q hk hj (λz=>nomatch z)
    rcases I with I|I
    ·exact⟨d2,I,by lia⟩
    ·rw[hW]at I;cases I
 cases q:F x s with
 | none =>
   intro z ⟨_,_,w⟩;obtain⟨d,I,_⟩:=low w;rw[q]at I;cases I
 | some d =>
   obtain⟨pre,w⟩:=h.fw x s d q;refine⟨⟨_,_,w⟩,λz ⟨_,_,U⟩=>?_⟩
   obtain⟨d2,I,O⟩:=low U;rw[q]at I;cases I;exact O
end
end RM
namespace L2
open PySem Ring
abbrev ky(x:Nat)(s:Bool):List Key:=[.inl (x:Int),.inl (s.toNat:Int)]
def Bt{x y:Nat}{s t:Bool}(h:ky x s=ky y t):x=y/\s=t:=by
 injection h with h1 h2
 injection h2 with h2 _
 injection h1 with h1
 injection h2 with h2
 refine⟨by lia,?_⟩
 cases s<;>cases t<;>first | rfl | (simp at h2)
def wV(H:Hp):Option (Int×Nat)->V->Prop
 | none,v=>v = .dH
 | some d,v=>∃c,v = .ref c/\H c=some (.tup [.int d.1,.int (d.2:Int)])
def wV.tups{H H' : Hp}{o:Option (Int×Nat)}{v:V}(h:wV H o v)(s:bJ H H'):wV H' o v:=by
 cases o with
 | none=>exact h
 | some d=>obtain⟨c,e,q⟩:=h;exact⟨c,e,s _ _ q⟩
structure tV(p:Nat)(H0:Hp)(D wd:Addr)(es:List Addr)(kvs:List (List Key×V))(F W:RM.OW)(H:Hp):Prop where
 same:aq H0 H
 nd:es.Nodup
 ne:D∉es
 fr:∀b∈es,H0 b=none
 Dn:H0 D=none
 wn:H0 wd=none
 wD:wd≠D
 wE:wd∉es
 lst:H D=some (.lst (es.map V.ref))
 at_:∀i b,es[i]?=some b->∃v0 v1,H b=some (.lst [v0,v1])/\wV H (F i false) v0/\wV H (F i true) v1
 dt:H wd=some (.dT kvs)
 kn:(kvs.map (·.1)).Nodup
 keys:∀kv∈kvs,∃x s,x<p/\kv.1=ky x s
 out:∀x s d,W x s=some d->x<p
 val:∀x s,(W x s=none/\cN kvs (ky x s)=none)\/∃d c,W x s=some d/\cN kvs (ky x s)=some (.ref c)/\H c=some (.tup [.int d.1,.int (d.2:Int)])
section
variable {p:Nat}{H0 H H' : Hp}{D wd:Addr}{es:List Addr}{kvs:List (List Key×V)}{F W:RM.OW}
def tV.go(h:tV p H0 D wd es kvs F W H)(s:aq H H'):tV p H0 D wd es kvs F W H' :=
 ⟨h.same.trans s,h.nd,h.ne,h.fr,h.Dn,h.wn,h.wD,h.wE,s _ _ h.lst,λi b e=>let⟨v0,v1,a,b1,c⟩:=h.at_ i b e;⟨v0,v1,s _ _ a,b1.tups s.tups,c.tups s.tups⟩,s _ _ h.dt,h.kn,h.keys,h.out,
  λx t=>(h.val x t).imp (λz=>z) λ⟨d,c,a,b,e⟩=>⟨d,c,a,b,s _ _ e⟩⟩
def tV.len(h:tV p H0 D wd es kvs F W H):kvs.length<=2*p:=by
 have hn:=h.kn;have hk:=h.keys
 let code:List Key->Nat:=λk=>match k with | [.inl x,.inl s]=>2*x.toNat+s.toNat | _=>0
 have inj:∀a∈kvs.map (·.1),∀b∈kvs.map (·.1),code a=code b->a=b:=λa ha b hb e=>by
  obtain⟨u,I,rfl⟩:=aai.mp ha;obtain⟨v,hv,rfl⟩:=aai.mp hb;obtain⟨x,s,_,ex⟩:=hk u I;obtain⟨y,t,_,ey⟩:=hk v hv;rw[ex,ey]at e ⊢;have e:2*((x:Int)).toNat+((s.toNat:Int)).toNat=2*((y:Int)).toNat+((t.toNat:Int)).toNat:=e;rw[aah,aah,aah,aah]at e;have hs:s.toNat<2:=by cases s<;>decide
  have ht:t.toNat<2:=by cases t<;>decide
  have O:x=y:=by lia
  have U:s.toNat=t.toNat:=by lia
  have Y:s=t:=by cases s<;>cases t<;>first | rfl | (simp at U)
  rw[O,Y]
 have nd:((kvs.map (·.1)).map code).Nodup:=by
  revert inj
  generalize kvs.map (·.1)=l at hn;intro inj
  induction hn with
  | nil=>exact acd
  | @cons a l h1 h2 ih =>
    rw[aaj,aaI];refine⟨λhm=>?_,ih λa ha b hb e=>inj a (m9 _ ha) b (m9 _ hb) e⟩
    obtain⟨b,hb,e⟩:=aai.mp hm;exact h1 b hb (inj a aad b (m9 _ hb) e.symm)
 have sub:∀c∈(kvs.map (·.1)).map code,c∈List.range (2*p):=λc hc=>by
  obtain⟨a,ha,rfl⟩:=aai.mp hc;obtain⟨u,I,rfl⟩:=aai.mp ha;obtain⟨x,s,hx,ex⟩:=hk u I;rw[ex,aan];show 2*((x:Int)).toNat+((s.toNat:Int)).toNat<2*p;rw[aah,aah];have hs:s.toNat<2:=by cases s<;>decide
  lia
 have:=nd.length_le_of_subset sub
 simpa using this
def tV.row(h:tV p H0 D wd es kvs F W H){i:Nat}(hi:i<es.length):∃b v0 v1,(es.map V.ref)[i]?=some (.ref b)/\es[i]?=some b/\H b=some (.lst [v0,v1])/\wV H (F i false) v0/\wV H (F i true) v1:=by
 have e:es[i]?=some es[i]:=Z4 hi;obtain⟨v0,v1,a,b,c⟩:=h.at_ i _ e;exact⟨es[i],v0,v1,by rw[Z9,e];rfl,e,a,b,c⟩
def p7{κ:Type}[DecidableEq κ](k j:κ):∀kvs:List (κ×V),cN (bz kvs k) j=if j=k then none else cN kvs j
 | []=>by rw[show bz ([]:List (κ×V)) k=[] from rfl,tE];split<;>rfl
 | q::r=>by
   by_cases e:q.1=k
   ·rw[vX e,p7 k j r]
    by_cases I:j=k
    ·rw[Z1 I,Z1 I]
    ·rw[Z0 I,Z0 I,bQ (λz=>I (z.symm.trans e))]
   ·rw[vY e]
    by_cases O:q.1=j
    ·rw[bZ O,Z0 (λz=>e (O.trans z)),bZ O]
    ·rw[bQ O,p7 k j r,bQ O]
def tV.take(h:tV p H0 D wd es kvs F W H){x:Nat}{s:Bool}{d:Int×Nat}{b c:Addr}{v0 v1:V}(e:W x s=some d)(hc:H c=some (.tup [.int d.1,.int (d.2:Int)]))(hb:es[x]?=some b)(hv:H b=some (.lst [v0,v1])):
 tV p H0 D wd es (bz kvs (ky x s)) (RM.jg F x s d) (RM.xJ W x s) (upd (upd H wd (.dT (bz kvs (ky x s)))) b (.lst (([v0,v1]:List V).set s.toNat (.ref c)))):=by
 have hm:=j7 hb;have bw:b≠wd:=λz=>h.wE (z▸hm)
 have bD:D≠b:=λz=>h.ne (z▸hm)
 have tp:bJ H (upd (upd H wd (.dT (bz kvs (ky x s)))) b (.lst (([v0,v1]:List V).set s.toNat (.ref c)))):=λa ys q=>by
  rw[ae (aE q hv (by intro z;cases z)),ae (aE q h.dt (by intro z;cases z))]
  exact q
 refine⟨(h.same.put h.wn).put (h.fr b hm),h.nd,h.ne,h.fr,h.Dn,h.wn,h.wD,h.wE,by rw[ae bD,ae (aaq h.wD)];exact h.lst,λi b' I=>?_,by rw[ae (aaq bw),af],tH h.kn,λkv ab=>h.keys kv (vZ ab),λy t d' q=>?_,λy t=>?_⟩
 ·by_cases Z:i=x
  ·subst Z;rw[hb]at I;cases I;obtain⟨w0,w1,O,U,Y⟩:=h.at_ _ _ hb;rw[hv]at O;cases O;cases s with
   | false=>exact⟨.ref c,v1,af,by rw[RM.bO];exact⟨c,rfl,tp _ _ hc⟩,by rw[RM.bq (λz=>by cases z.2)];exact Y.tups tp⟩
   | true=>exact⟨v0,.ref c,af,by rw[RM.bq (λz=>by cases z.2)];exact U.tups tp,by rw[RM.bO];exact⟨c,rfl,tp _ _ hc⟩⟩
  ·have bb:b'≠b:=λz=>by
    subst z;obtain⟨h1,h2⟩:=ju.mp I;obtain⟨h3,h4⟩:=ju.mp hb;exact Z ((acp h.nd).mp (h2.trans h4.symm))
   obtain⟨w0,w1,O,U,Y⟩:=h.at_ _ _ I;exact⟨w0,w1,by rw[ae bb,ae (show b'≠wd from λz=>h.wE (z▸j7 I))];exact O,by rw[RM.bq (λz=>Z z.1)];exact U.tups tp,by rw[RM.bq (λz=>Z z.1)];exact Y.tups tp⟩
 ·by_cases z:y=x/\t=s
  ·obtain⟨rfl,rfl⟩:=z;rw[RM.su]at q;cases q
  ·rw[RM.mH z]at q;exact h.out y t d' q
 ·rw[p7]
  by_cases z:y=x/\t=s
  ·obtain⟨rfl,rfl⟩:=z;exact .inl ⟨RM.su _ _ _,Z1 rfl⟩
  ·rw[RM.mH z,Z0 (λq=>z (Bt q))]
   rcases h.val y t with q|⟨d',c',O,U,Y⟩
   ·exact .inl q
   ·exact .inr ⟨d',c',O,U,tp _ _ Y⟩
def tV.wait(h:tV p H0 D wd es kvs F W H){x:Nat}{s:Bool}{d:Int×Nat}{c:Addr}(hx:x<p)(hc:H c=some (.tup [.int d.1,.int (d.2:Int)])):
 tV p H0 D wd es (putK kvs (ky x s) (.ref c)) F (RM.jg W x s d) (upd H wd (.dT (putK kvs (ky x s) (.ref c)))):=by
 have tp:bJ H (upd H wd (.dT (putK kvs (ky x s) (.ref c)))):=λa ys q=>by
  rw[ae (aE q h.dt (by intro z;cases z))]
  exact q
 have Lb:(∀kv∈putK kvs (ky x s) (.ref c),∃x s,x<p/\kv.1=ky x s)/\((putK kvs (ky x s) (.ref c)).map (·.1)).Nodup:=by
  cases q:cN kvs (ky x s) with
  | none =>
    refine⟨λkv I=>?_,JH _ h.kn q⟩
    rw[tF _ q]at I;rcases aau.mp I with z|z
    ·exact h.keys kv z
    ·rw[aam.mp z];exact⟨x,s,hx,rfl⟩
  | some v =>
    have O:(kvs.any λkv=>decide (kv.1=ky x s))=true:=by rw[gM,q];rfl
    have e:putK kvs (ky x s) (.ref c)=kvs.map λkv=>if kv.1=ky x s then(kv.1,.ref c) else kv:=by unfold putK;rw[Z1 O]
    have ek:(putK kvs (ky x s) (.ref c)).map (·.1)=kvs.map (·.1):=by
     rw[e,abk];refine List.map_congr_left λkv _=>?_
     show(if kv.1=ky x s then(kv.1,V.ref c) else kv).1=kv.1
     split<;>rfl
    refine⟨λkv I=>?_,by rw[ek];exact h.kn⟩
    have hm:kv.1∈kvs.map (·.1):=by rw[<-ek];exact aa8 I
    obtain⟨Ut,h1,h2⟩:=aai.mp hm;rw[<-h2];exact h.keys Ut h1
 refine⟨h.same.put h.wn,h.nd,h.ne,h.fr,h.Dn,h.wn,h.wD,h.wE,by rw[ae (aaq h.wD)];exact h.lst,λi b hb=>?_,af,Lb.2,Lb.1,λy t d' q=>?_,λy t=>?_⟩
 ·obtain⟨w0,w1,U,Y,Z⟩:=h.at_ _ _ hb;exact⟨w0,w1,by rw[ae (show b≠wd from λz=>h.wE (z▸j7 hb))];exact U,Y.tups tp,Z.tups tp⟩
 ·by_cases z:y=x/\t=s
  ·rw[z.1];exact hx
  ·rw[RM.bq z]at q;exact h.out y t d' q
 ·rw[Gv]
  by_cases z:y=x/\t=s
  ·obtain⟨rfl,rfl⟩:=z;exact .inr ⟨d,c,RM.bO _ _ _ _,Z1 rfl,tp _ _ hc⟩
  ·rw[RM.bq z,Z0 (λq=>z (Bt q))]
   rcases h.val y t with q|⟨d',c',U,Y,Z⟩
   ·exact .inl q
   ·exact .inr ⟨d',c',U,Y,tp _ _ Z⟩
end
abbrev jh(m:Nat)(H:Hp)(c:Addr)(kw:Nat×Nat):Prop:=H c=some (.tup [.int (kw.1:Int),.int (kw.2:Int),.int ((m.testBit kw.1).toNat:Int)])
structure D7(m:Nat)(H0:Hp)(D:Addr)(es:List Addr)(S:Nat->List (Nat×Nat))(H:Hp):Prop where
 same:aq H0 H
 nd:es.Nodup
 ne:D∉es
 fr:∀b∈es,H0 b=none
 Dn:H0 D=none
 lst:H D=some (.lst (es.map V.ref))
 at_:∀i b,es[i]?=some b->∃cs,H b=some (.lst (cs.map V.ref))/\Paired (jh m H) cs (S i)
section
variable {m:Nat}{H0 H H' : Hp}{D b:Addr}{es:List Addr}{S:Nat->List (Nat×Nat)}{i:Nat}
def D7.go(h:D7 m H0 D es S H)(s:aq H H'):D7 m H0 D es S H' :=
 ⟨h.same.trans s,h.nd,h.ne,h.fr,h.Dn,s _ _ h.lst,λi b e=>let⟨cs,a,q⟩:=h.at_ i b e;⟨cs,s _ _ a,Paired.w4 q λ_ _ z=>s _ _ z⟩⟩
def tW(S:Nat->List (Nat×Nat))(x:Nat)(kw:Nat×Nat):Nat->List (Nat×Nat):=λi=>if i=x then S i++[kw] else S i
def D7.get(h:D7 m H0 D es S H)(hi:i<es.length):∃b cs,(es.map V.ref)[i]?=some (.ref b)/\es[i]?=some b/\H b=some (.lst (cs.map V.ref))/\Paired (jh m H) cs (S i):=by
 have e:es[i]?=some es[i]:=Z4 hi;obtain⟨cs,a,q⟩:=h.at_ i _ e;exact⟨es[i],cs,by rw[Z9,e];rfl,e,a,q⟩
def D7.put(h:D7 m H0 D es S H){cs:List Addr}{c:Addr}{kw:Nat×Nat}(hb:es[i]?=some b)(hcs:H b=some (.lst (cs.map V.ref)))(q:Paired (jh m H) cs (S i))(hc:jh m H c kw):
 D7 m H0 D es (tW S i kw) (upd H b (.lst (cs.map V.ref++[.ref c]))):=by
 have hm:=j7 hb;have U:D≠b:=λz=>h.ne (z▸hm)
 have tp:∀c kw,jh m H c kw->jh m (upd H b (.lst (cs.map V.ref++[.ref c]))) c kw:=λc kw z=>by
  show upd H b _ c=_;rw[ae (aE z hcs (by intro z;cases z))]
  exact z
 have O : ∀x kw,jh m H x kw->jh m (upd H b (.lst (cs.map V.ref++[.ref c]))) x kw:=λx kw z=>by
  show upd H b _ x=_;rw[ae (aE z hcs (by intro z;cases z))]
  exact z
 refine⟨h.same.put (h.fr b hm),h.nd,h.ne,h.fr,h.Dn,by rw[ae U];exact h.lst,λj Z I=>?_⟩
 by_cases e:j=i
 ·subst e;rw[hb]at I;cases I;refine⟨cs++[c],by rw[af];simp,?_⟩
  unfold tW;rw[Z1 rfl];exact Paired.snoc (Paired.w4 q λ_ _ z=>O _ _ z) (O _ _ hc)
 ·have bb:Z≠b:=λz=>by
   subst z;obtain⟨h1,h2⟩:=ju.mp I;obtain⟨h3,h4⟩:=ju.mp hb;exact e ((acp h.nd).mp (h2.trans h4.symm))
  obtain⟨Y,q1,q2⟩:=h.at_ j Z I;refine⟨Y,by rw[ae bb];exact q1,?_⟩
  unfold tW;rw[Z0 e];exact Paired.w4 q2 λ_ _ z=>O _ _ z
def D7.off(h:D7 m H0 D es S H){L:Addr}(hL:H L=none):L∉es:=λz=>by
 obtain⟨j,hj⟩:=aaF z;obtain⟨_,q,_⟩:=h.at_ j L hj;rw[hL]at q;cases q
def Lc(m:Nat)(H0:Hp)(D:Addr)(i:Nat)(acc:List V)(H:Hp):Prop:=∃es,acc=es.map V.ref/\es.length=i/\D7 m H0 D es (λ_=>[]) H
def Lc.start(hD:H0 D=none):Lc m H0 D 0 [] (upd H0 D (.lst [])) :=
 ⟨[],rfl,rfl,aq.new hD,acd,abJ,λ_ h=>(abJ h).elim,hD,af,λi b e=>by cases e⟩
def Lc.len{acc:List V}(h:Lc m H0 D i acc H):H D=some (.lst acc)/\acc.length<=i:=by
 obtain⟨es,rfl,e,r⟩:=h;exact⟨r.lst,by rw[ZZ];lia⟩
def Lc.next{acc:List V}(h:Lc m H0 D i acc H)(hb:H b=none):upd H b (.lst []) D=some (.lst acc)/\Lc m H0 D (i+1) (acc++[.ref b]) (upd (upd H b (.lst [])) D (.lst (acc++[.ref b]))):=by
 obtain⟨es,rfl,e,r⟩:=h;have O:D≠b:=λz=>by
  have:=r.lst;rw[z,hb]at this;cases this
 have U:b∉es:=r.off hb;have I:H0 b=none:=r.same.free hb;refine⟨by rw[ae O];exact r.lst,es++[b],by simp,by simp[e],(r.same.put I).put r.Dn,?_,?_,λc hc=>?_,r.Dn,by rw[af];simp,λj c hc=>?_⟩
 ·exact acU.mpr ⟨r.nd,by simp,λx hx y Z=>by rw[aam.mp Z];exact λz=>U (z▸hx)⟩
 ·intro hm;rcases aau.mp hm with z|z
  ·exact r.ne z
  ·exact O (aam.mp z)
 ·rcases aau.mp hc with z|z
  ·exact r.fr c z
  ·rw[aam.mp z];exact I
 ·have Ol:c≠D:=λz=>by
   subst z;rcases aau.mp (j7 hc) with z|z
   ·exact r.ne z
   ·exact O (aam.mp z)
  refine⟨[],?_,.nil⟩;rw[ae Ol]
  by_cases Y:c=b
  ·rw[Y,af];rfl
  ·rw[ae Y]
   by_cases hj:j<es.length
   ·rw[aav hj]at hc;obtain⟨cs,q1,q2⟩:=r.at_ j c hc;cases q2;exact q1
   ·rw[aaC (by lia)]at hc
    have:=j7 hc;exact absurd (aam.mp this) Y
end
structure Ld(N:RM.Net)(k:Nat)(S:Nat->List (Nat×Nat)):Prop where
 mem:∀i kw,kw∈S i↔(kw.1<k/\RM.Jn N kw.1 i kw.2)
 len:∀i,(S i).length<=2*k
def Ld.start{N:RM.Net}:Ld N 0 (λ_=>[]):=⟨λi kw=>⟨λh=>(nomatch h),λh=>absurd h.1 (aa9 _)⟩,λ_=>aaB _⟩
def Ld.next{N:RM.Net}{k:Nat}{S:Nat->List (Nat×Nat)}(h:Ld N k S):Ld N (k+1) (tW (tW S (N.a k) (k,N.b k)) (N.b k) (k,N.a k)):=by
 refine⟨λi kw=>?_,λi=>?_⟩
 ·have one:∀(S:Nat->List (Nat×Nat)) (x:Nat) (q:Nat×Nat),kw∈tW S x q i↔kw∈S i\/(i=x/\kw=q):=λS x q=>by
   unfold tW
   by_cases e:i=x
   ·rw[Z1 e,aau,aam];simp[e]
   ·rw[Z0 e];simp[e]
  rw[one,one,h.mem];obtain⟨O,w⟩:=kw
  constructor
  ·rintro((⟨h1,h2⟩|⟨rfl,h2⟩) | ⟨rfl,h2⟩)
   ·exact⟨abh h1,h2⟩
   ·cases h2;exact⟨abb _,.inl ⟨rfl,rfl⟩⟩
   ·cases h2;exact⟨abb _,.inr ⟨rfl,rfl⟩⟩
  ·rintro⟨h1,h2⟩
   by_cases e:O<k
   ·exact .inl (.inl ⟨e,h2⟩)
   ·have e:O = k:=by have:O<k+1:=h1;lia
    subst e;rcases h2 with⟨U,I⟩|⟨U,I⟩
    ·exact .inl (.inr ⟨U.symm,by have I:N.b O = w:=I;rw[I]⟩)
    ·exact .inr ⟨U.symm,by have I:N.a O = w:=I;rw[I]⟩
 ·have one:∀(S:Nat->List (Nat×Nat)) (x:Nat) (q:Nat×Nat),(tW S x q i).length<=(S i).length+1:=λS x q=>by
   unfold tW
   split
   ·simp
   ·lia
  have h1:=one (tW S (N.a k) (k,N.b k)) (N.b k) (k,N.a k);have h2:=one S (N.a k) (k,N.b k);have U:=h.len i
  lia
end L2
namespace RM
def left(F:OW):Nat->Nat
 | 0=>0
 | p+1=>left F p+(if(F p false).isNone then 1 else 0)+(if(F p true).isNone then 1 else 0)
def wH{F G:OW}:∀{p:Nat},(∀x,x<p->∀s,F x s=G x s)->left F p=left G p
 | 0,_=>rfl
 | p+1,h=>by
   unfold left;rw[wH λx hx=>h x (by lia),h p (by lia),h p (by lia)]
def zE{F:OW}{x:Nat}{s:Bool}{d:Int×Nat}(hn:F x s=none):∀{p:Nat},x<p->left (jg F x s d) p<left F p
 | 0,h=>absurd h (aa9 _)
 | p+1,h=>by
   unfold left
   by_cases e:x=p
   ·subst e;rw[wH (F:=jg F x s d) (G:=F) λy I t=>bq λz=>by lia]
    cases s with
    | false=>rw[bO,bq (λz=>by cases z.2),hn];simp
    | true=>rw[bO,bq (λz=>by cases z.2),hn];simp
   ·have O:=zE (F:=F) (x:=x) (s:=s) (d:=d) hn (p:=p) (by lia)
    rw[bq (λz=>e z.1.symm),bq (λz=>e z.1.symm)]
    lia
end RM
namespace L2
open PySem Ring
def QS(W:RM.OW)(k:List Key):List Int:=match k with
 | [.inl x,.inl s]=>(match W x.toNat (decide (s=1)) with | some d=>[d.1,(d.2:Int)] | none=>[])
 | _=>[]
def Hh{W:RM.OW}{x:Nat}{s:Bool}{d:Int×Nat}(h:W x s=some d):QS W (ky x s)=[d.1,(d.2:Int)]:=by
 have e:(decide (((s.toNat:Nat):Int)=1))=s:=by cases s<;>rfl
 show(match W ((x:Int)).toNat (decide (((s.toNat:Nat):Int)=1)) with | some d=>[d.1,(d.2:Int)] | none=>[])=_
 rw[aah,e,h]
def Hi(W:RM.OW)(kvs:List (List Key×V))(i:Nat):List Int:=QS W ((kvs[i]?.map (·.1)).getD [])
def xK{a b c d:Int}(h:HT.lexLt [a,b] [c,d]=false):c<=a:=by
 rw[HT.fX]at h
 by_cases e:a=c
 ·lia
 ·rw[Z0 e]at h;have:=of_decide_eq_false h
  lia
def wI{κ:Type}[DecidableEq κ]:∀{kvs:List (κ×V)} {k:κ} {v:V},(kvs.map (·.1)).Nodup->(k,v)∈kvs->cN kvs k=some v
 | [],_,_,_,h=>nomatch h
 | q::r,k,v,nd,h=>by
   rw[aaj,aaI]at nd;rcases aaa.mp h with e|h
   ·subst e;exact bZ rfl
   ·have ne : ¬ q.1=k:=λz=>nd.1 (by rw[z];exact aa8 (f:=(·.1)) h)
    rw[bQ ne];exact wI nd.2 h
def tV.entry{p:Nat}{H0 H:Hp}{D wd:Addr}{es:List Addr}{kvs:List (List Key×V)}{F W:RM.OW}(h:tV p H0 D wd es kvs F W H){i:Nat}{kv:List Key×V}(e:kvs[i]?=some kv):
 ∃x s d c,x<p/\kv.1=ky x s/\W x s=some d/\cN kvs (ky x s)=some (.ref c)/\kv.2 = .ref c/\H c=some (.tup [.int d.1,.int (d.2:Int)])/\Hi W kvs i=[d.1,(d.2:Int)]:=by
 have hm:=j7 e;obtain⟨x,s,hx,I⟩:=h.keys kv hm;have O:cN kvs (ky x s)=some kv.2:=wI h.kn (by rw[<-I];exact hm)
 rcases h.val x s with⟨_,z⟩|⟨d,c,h1,h2,U⟩
 ·rw[O]at z;cases z
 ·rw[O]at h2;refine⟨x,s,d,c,hx,I,h1,O.trans h2,Option.some.inj h2,U,?_⟩;unfold Hi;rw[e];show QS W kv.1=_;rw[I];exact Hh h1
def tV.find{p:Nat}{H0 H:Hp}{D wd:Addr}{es:List Addr}{kvs:List (List Key×V)}{F W:RM.OW}(h:tV p H0 D wd es kvs F W H){x:Nat}{s:Bool}{d:Int×Nat}(e:W x s=some d):∃(i:Nat) (kv:List Key×V),kvs[i]?=some kv/\kv.1=ky x s/\Hi W kvs i=[d.1,(d.2:Int)]:=by
 rcases h.val x s with⟨z,_⟩|⟨d',c,h1,h2,U⟩
 ·rw[e]at z;cases z
 ·have hm:=JG h2;obtain⟨kv,I,O⟩:=aai.mp hm;obtain⟨i,hi⟩:=aaF I;refine⟨i,kv,hi,O,?_⟩;unfold Hi;rw[hi];show QS W kv.1=_;rw[O];exact Hh e
def tV.start{p:Nat}{H0 H:Hp}{D wd c:Addr}{es:List Addr}{u:Nat}(f:Bo H0 D es (λ_ _=>none) H)(hu:u<p)(hw:H wd=some (.dT []))(h0:H0 wd=none)(hc:H c=some (.tup [.int 0,.int 0])):
 tV p H0 D wd es [(ky u false,.ref c)] (λ_ _=>none) (RM.jg (λ_ _=>none) u false (0,0)) (upd H wd (.dT [(ky u false,.ref c)])):=by
 have wD:wd≠D:=λz=>by rw[z,f.lst]at hw;cases hw
 have wE:wd∉es:=λz=>by
  obtain⟨j,hj⟩:=aaF z;have:=f.at_ j wd hj;rw[hw]at this;cases this
 refine⟨f.same.put h0,f.nd,f.ne,f.fr,f.Dn,h0,wD,wE,by rw[ae (aaq wD)];exact f.lst,λi b hb=>?_,af,by simp,λkv I=>?_,λx s d e=>?_,λx s=>?_⟩
 ·have nb:b≠wd:=λz=>wE (z▸j7 hb)
  exact⟨.dH,.dH,by rw[ae nb];exact f.at_ i b hb,rfl,rfl⟩
 ·rw[aam.mp I];exact⟨u,false,hu,rfl⟩
 ·by_cases z:x=u/\s=false
  ·rw[z.1];exact hu
  ·rw[RM.bq z]at e;cases e
 ·by_cases z:x=u/\s=false
  ·obtain⟨rfl,rfl⟩:=z;exact .inr ⟨(0,0),c,RM.bO _ _ _ _,bZ rfl,by rw[ae (aE hc hw (by intro z;cases z))];exact hc⟩
  ·refine .inl ⟨RM.bq z,?_⟩;rw[bQ (λq=>z ?_),tE]
   obtain⟨O,U⟩:=Bt q;exact⟨O.symm,U.symm⟩
open PySem PySem.Spec PyProof.Rows
section
variable {P:Program}{w:World}{A:Around}{E:cP}{s:Shared}
def Hj{l:Addr}{u0 u1:Value}{Q:List Value->Shared->Prop}(hh:A.handled=none)(hl:s.heap.IsList l #[u0,u1])
 (hQ:∀h' tk,(∀b o,s.heap.get? b=some o->h'.get? b=some o)->Q [u0,u1] { s with heap:=h',toks:=tk}):wpAny (model P w) A (unpackItems (.ref l) 2 none) Q E s:=by
 obtain⟨ol,O,I,nl,U⟩:=id hl;have hT:s.TypeIs (.ref l) "list":=⟨ol,O,I⟩;have Y:l≠s.heap.objs.size:=aak (aab O);unfold unpackItems;refine aQ ?_;unfold notIterableAtAll;refine aQ (wpAny_specialOf hT PySem.F.slot_list_iter.lookup (Z5 ?_));simp only[aaX,if_false];refine aQ (aaG (wpAny_pyIter_list hl ?_));have W:=Walks.list (prog:=P) (w:=w) (A:=A) hh s.heap.objs.size l Y #[u0,u1];generalize Z:s.heap.push { cls:=.type "list_iterator",data:=.fields #[.ref l,.int 0 0]}=g0;have W3:∀b o,s.heap.get? b=some o->g0.get? b=some o:=λb o e=>by rw[<-Z];exact Z2 _ e
 have W4:g0.IsListIter s.heap.objs.size l 0:=by rw[<-Z];exact⟨_,aag _ rfl,rfl,rfl⟩
 have W5:g0.IsList l #[u0,u1]:=by rw[<-Z];exact⟨ol,Z2 _ O,I,nl,U⟩
 have nI:∀b o,s.heap.get? b=some o->b∉[s.heap.objs.size]:=λb o e z=>aak (aab e) (aam.mp z)
 refine aQ (aaG ?_);show wpAny _ _ (pyNext (.ref s.heap.objs.size) >>= _) _ _ _;refine aQ (W.item 0 _ _ _ (by simp) ⟨W4,W5⟩ λv1 h1 ZE ab ag k1=>?_)
 obtain rfl:u0=v1:=by simpa using ab
 refine aQ (aaG ?_);show wpAny _ _ (pyNext (.ref s.heap.objs.size) >>= _) _ _ _;refine aQ (W.item 1 _ _ _ (by simp) ag λv2 h2 ZF ar aw k2=>?_)
 obtain rfl:u1=v2:=by simpa using ar
 refine aQ (aaG ?_);show wpAny _ _ (pure []) _ _ _;refine Z5 (Z5 (Z5 ?_));rw[Z0 (by simp)]
 refine aQ (aaG (W.done _ _ _ aw λh3 W6 k3=>?_))
 simp only[Option.isSome_none,aaX,if_false];exact Z5 (hQ h3 W6 λb o e=>k3 b o (nI b o e) (k2 b o (nI b o e) (k1 b o (nI b o e) (W3 b o e))))
def Hl{env:Env}{elts:List Expr}{x1}{pos:Pos}{l:Addr}{u0 u1:Value}{Q:Unit->Shared->Prop}(hh:A.handled=none)(hl:s.heap.IsList l #[u0,u1])
 (hn:(assignEach elts env).length=2) (hstar:(assignEach elts env).findIdx? (·.1)=none)
 (h:∀h' tk,(∀b o,s.heap.get? b=some o->h'.get? b=some o)->wpAny (model P w) A (assignInOrder ((assignEach elts env).map (·.2)) [u0,u1]) Q E { s with heap:=h',toks:=tk}) :
 wpAny (model P w) A (assign (.Tuple elts x1 pos) env (.ref l)) Q E s:=by
 rw[arm_assign_Tuple];refine aQ (wpAny_standAt ?_);unfold unpack;rw[hn,hstar];exact aQ (aaG (Hj hh hl h))
end
section
variable {X:Cx}{es:List Expr}{pos:Pos}
def Pn(K:bH)(t:IF):TG:=λv σ H Q=>∃a x y,v = .ref a/\aV K H a [x,y]/\t [x,y] σ H Q
def So(K:bH){k:Nat}{t:IF}(hc:X.calm=true)(h:Nt X es t)
 (hn:(assignEach es X.env).length=2:=by rfl) (hst:(assignEach es X.env).findIdx? (·.1)=none:=by rfl) (hK:X.K=K:=by rfl):PG X (.Tuple es k pos) (Pn K t):=by
 subst hK;intro pq s σ H v u Q I r hw;obtain⟨a,x,y,U,Y,hw⟩:=hw;subst U;cases r;obtain⟨its,rv,ht,hz⟩:=I.list Y;cases rv with
 | cons Z rr=>cases rr with
   | cons r2 O =>
     cases O;refine Hl (I.ok.hd hc) ht.isList hn hst λh' tk hx=>?_
     exact h pq _ σ H [x,y] _ Q (I.kept (t':=tk) hx) (.cons Z (.cons r2 .nil)) hw
end
end L2
namespace RM
section
variable {N:Net}{L:Nat->Int}{m u:Nat}
def qY{f g:Nat->Bool}:∀{n:Nat},(∀k,k<n->0<L k)->(∀k,k<n->f k=true->g k=true)->∀k,k<n->f k=false->g k=true->lsum L f n<lsum L g n
 | 0,_,_,k,hk,_,_=>absurd hk (aa9 _)
 | n+1,hL,h,k,hk,hf,hg=>by
   unfold lsum;have hn:=h n (by lia)
   have h0:=hL n (by lia)
   by_cases e:k=n
   ·subst e;have:=pV (L:=L) (f:=f) (g:=g) (n:=k) (λj hj=>abY (hL j (by lia))) λj hj=>h j (by lia)
    rw[hf,hg];simp only[aaX,if_false,if_true]
    lia
   ·have I:=qY (n:=n) (λj hj=>hL j (by lia)) (λj hj=>h j (by lia)) k (by lia) hf hg
    cases hfn:f n with
    | false=>cases g n<;>simp<;>lia
    | true=>rw[hn hfn];simp;lia
def Bu(hL:∀k,k<N.n->0<L k)(hu:u<N.p){z:Int}{e:Nat}(h:Wz N L m u u true z e)(hmin:∀x z',x<N.p->Wy N L m x x true z'->z<=z'):
 N.Ring e/\e<2^N.n/\N.par e m=true/\lsum L (λk=>e.testBit k) N.n=z:=by
 have I:∀k,k<N.n->0<=L k:=λk hk=>abY (hL k hk)
 obtain⟨pre,h⟩:=h;obtain⟨_,h2,h3,h4,h5,_⟩:=oH I hu h;obtain⟨r,r1,r2,r3⟩:=Bm _ e rfl h2 (λx _=>by rw[h3,Bool.xor_self]) h4
 have O:r<2^N.n:=cK λk hk=>nA h2 (r2 k hk)
 obtain⟨x,hx,hw⟩:=oJ I m r1 O;rw[r3]at hw;have hz:=hmin x _ hx hw;have hle:=pV (L:=L) (f:=λk=>r.testBit k) (g:=λk=>e.testBit k) I λk _ hk=>r2 k hk
 have U:e=r:=aaE λk=>by
  cases hr:r.testBit k with
  | true=>exact r2 k hr
  | false =>
    cases he:e.testBit k with
    | false=>rfl
    | true =>
      have:=qY (L:=L) (f:=λk=>r.testBit k) (g:=λk=>e.testBit k) hL (λk _ hk=>r2 k hk) k (nA h2 he) hr he
      lia
 rw[U];exact⟨r1,O,r3,by lia⟩
def Ho(hL:∀k,k<N.n->0<=L k)(hno:∀x z',x<N.p->¬ Wy N L m x x true z'){r:Nat}(hr:N.Ring r)(hm:r<2^N.n):N.par r m=false:=by
 cases hp:N.par r m with
 | false=>rfl
 | true =>
   obtain⟨x,hx,hw⟩:=oJ hL m hr hm;rw[hp]at hw;exact absurd hw (hno x _ hx)
end
end RM
namespace L2
open PySem PySem.Spec PyProof.Rows
section
variable {X:Cx}{pq:aS}{σ:St}{H:Hp}{l It S:Addr}{cs:List Addr}{ks:Nat->List Int}{R:Result->Shared->Prop}
def kT{pa:aS}{s:Shared}(I:Inv X pa σ H s)(hl:aV X.K H l (cs.map V.ref)):s.heap.IsList l (cs.map Value.ref).toArray:=by
 obtain⟨O,U,p,hz⟩:=I.list hl;have e:O=cs.map Value.ref:=by
  clear hl p hz
  induction cs generalizing O with
  | nil=>cases U;rfl
  | cons c r Y =>
    rw[aaj]at U;cases U with
    | cons h t=>cases h;rw[Y _ t];rfl
 rw[e]at p;exact p.isList
def D8(hh:X.A.handled=none)(un:X.A.in1.units<cLine)(hl:aV X.K H l (cs.map V.ref))(hk:∀(i:Nat) c,cs[i]?=some c->bf X.K H c ((ks i).map V.int))(oS:Bq X S)(oI:Bq X It)(SI:S≠It)(lI:l≠It)
 (pI:∀p∈pq,p.1≠It) (pS:∀p∈pq,p.1≠S)
 (hR:∀(i:Nat) c s',cs[i]?=some c->(∀j,j<cs.length->HT.lexLt (ks j) (ks i)=false)->Inv X pq σ H s'->R (.ok (.ret (.ref c))) s') :
 ∀(r j i:Nat) (c:Addr) (s:Shared) (n:Nat) (E5:Obj),cs.length-j=r->j<=cs.length->i<j->cs[i]?=some c->Inv X ((S,seqObj "list" #[.ref c,.ref c] n)::(It,E5)::pq) σ H s->s.heap.IsListIter It l j->
  (∀Z,Z<j->HT.lexLt (ks Z) (ks i)=false)->codeAny (model X.prog X.w) X.A (.builtin "min.loop" ⟨[.ref It,.none,.ref S],[]⟩) R s:=by
 have U:(toString "min" ++ toString ".loop":String)="min.loop":=by decide
 have W:=Walks.list (prog:=X.prog) (w:=X.w) (A:=X.A.in1) hh It l lI (cs.map Value.ref).toArray;have ag:(cs.map Value.ref).toArray.size=cs.length:=by simp
 intro r
 induction r with
 | zero =>
   intro j i c s n E5 hr hj aT hc I hit oN;have yp:j=cs.length:=by lia
   have tU:=I.pin (S,_) (iD _ (.head _));refine codeAny_builtin abl ?_;rw[Around.under_plainId aaD _];show wpAny _ X.A.in1 (seqItems? (.ref S) >>= _) _ _ _;refine aQ (wpAny_seqItems tU.1 rfl ?_);show wpAny _ X.A.in1 (tryCatch (pyNext (.ref It)) _ >>= _) _ _ _;refine aQ (abg (W.done _ _ _ ⟨by rw[ag,<-yp];exact hit,kT I hl⟩ λh' Y ab=>?_))
   have I1:=I.jD (t':=Y) (h':=h') (pb:=(S,seqObj "list" #[.ref c,.ref c] n)::pq) oI (List.Mem.tail _ (.head _)) (λb u hb e=>ab b u (by simpa using hb) e) (λp O=>by
    rcases aaa.mp O with rfl|O
    ·exact .inr ⟨.head _,SI⟩
    ·exact .inr ⟨.tail _ (.tail _ O),pI p O⟩)
   have G6:=I1.pin (S,_) (iD _ (.head _));show wpAny _ X.A.in1 (updateSeq S (λ_=>#[]) >>= _) _ _ _
   refine aQ (wpAny_updateSeq G6.1 rfl (aQ (wpAny_letGo (Z5 ?_))));have s1:=aaJ h' S (Obj.mapSeq λ_=>(#[]:Array Value))
   exact hR i c _ hc (λZ ar=>oN Z (by lia)) (I1.jD (t':=Y) (pb:=pq) oS (.head _) (λb u hb e=>(s1.2 b hb).trans e) λp O=>.inr ⟨.tail _ O,pS p O⟩)
 | succ r ih =>
   intro j i c s n E5 hr hj aT hc I hit oN;have yp:j<cs.length:=by lia
   have tU:=I.pin (S,_) (iD _ (.head _));refine codeAny_builtin abl ?_;rw[Around.under_plainId aaD _];show wpAny _ X.A.in1 (seqItems? (.ref S) >>= _) _ _ _;refine aQ (wpAny_seqItems tU.1 rfl ?_);show wpAny _ X.A.in1 (tryCatch (pyNext (.ref It)) _ >>= _) _ _ _;refine aQ (abg (W.item j _ _ _ (by rw[ag];exact yp) ⟨hit,kT I hl⟩ λv h' Y hv aw ab=>?_))
   have NJ:cs[j]?=some cs[j]:=Z4 yp;obtain rfl:v = .ref cs[j]:=by
    have:(cs.map Value.ref)[j]?=some v:=by simpa using hv
    rw[Z9,NJ]at this;exact(Option.some.inj this).symm
   obtain⟨IK,Hq,a3,ax⟩:=id aw.1;have I1:=I.jD (t':=Y) (h':=h') (pb:=(S,seqObj "list" #[.ref c,.ref c] n)::(It,IK)::pq) oI (List.Mem.tail _ (.head _)) (λb u hb e=>ab b u (by simpa using hb) e) (λp O=>by
    rcases aaa.mp O with rfl|O
    ·exact .inr ⟨.head _,SI⟩
    ·rcases aaa.mp O with rfl|O
     ·exact .inl ⟨rfl,Hq,λv z=>by rw[ax]at z;cases z⟩
     ·exact .inr ⟨.tail _ (.tail _ O),pI p O⟩)
   have lU:=I1.pin (S,_) (iD _ (.head _));show wpAny _ X.A.in1 (tryCatch (holding [.ref cs[j],.ref cs[j]] (richCompare .Lt (.ref cs[j]) (.ref c) >>= _)) _ >>= _) _ _ _;refine aQ (abg (aaG (aQ (G3 I1 (hk j _ NJ) (hk i c hc) un ?_))));refine aQ (aaG (wpAny_truthy_bool (aQ (wpAny_letGo (Z5 ?_)))));cases hlt:HT.lexLt (ks j) (ks i) with
   | true =>
     have s1:=aaJ h' S (Obj.mapSeq λ_=>(#[.ref cs[j],.ref cs[j]]:Array Value))
     obtain⟨n2,a4⟩:∃n2,(h'.update S (Obj.mapSeq λ_=>(#[.ref cs[j],.ref cs[j]]:Array Value))).get? S=some (seqObj "list" #[.ref cs[j],.ref cs[j]] n2):=⟨_,get?_update_seq lU.1 λ_=>#[.ref cs[j],.ref cs[j]]⟩
     simp only[if_true];refine aQ (wpAny_updateSeq lU.1 rfl (aQ (wpAny_letGo ?_)));rw[U];have I3:=I1.jD (t':=Y) (pb:=(S,seqObj "list" #[.ref cs[j],.ref cs[j]] n2)::(It,IK)::pq) oS (.head _) (λb u hb e=>(s1.2 b hb).trans e) (λp O=>by
      rcases aaa.mp O with rfl|O
      ·exact .inl ⟨rfl,a4,λv z=>by cases z⟩
      ·rcases aaa.mp O with rfl|O
       ·exact .inr ⟨.tail _ (.head _),SI.symm⟩
       ·exact .inr ⟨.tail _ (.tail _ O),pS p O⟩)
     refine Z5 ⟨plainId_quiet aaD _,ih (j+1) j cs[j] _ n2 IK (by lia) (by lia) (by lia) NJ I3 ⟨IK,(s1.2 It SI.symm).trans Hq,a3,ax⟩ λZ ar=>?_⟩
     by_cases e:Z = j
     ·rw[e];exact HT.fP _
     ·exact HT.tS (oN Z (by lia)) hlt
   | false =>
     simp only[aaX,if_false];refine aQ (wpAny_letGo ?_);rw[U];refine Z5 ⟨plainId_quiet aaD _,ih (j+1) i c _ n IK (by lia) (by lia) (by lia) hc I1 aw.1 λZ ar=>?_⟩
     by_cases e:Z = j
     ·rw[e];exact hlt
     ·exact oN Z (by lia)
def Sq(hr:X.A.handled=none)(un:X.A.in1.units<cLine):jx X (.builtin "min") (λxs H Q=>∃(l:Addr) (cs:List Addr) (ks:Nat->List Int),xs=[.ref l]/\aV X.K H l (cs.map V.ref)/\0<cs.length/\(∀(i:Nat) c,cs[i]?=some c->bf X.K H c ((ks i).map V.int))/\
 ∀(i:Nat) c,cs[i]?=some c->(∀j,j<cs.length->HT.lexLt (ks j) (ks i)=false)->Q (.ref c) H):=by
 intro pq s σ H xs us Q I r h;obtain⟨l,cs,ks,rfl,hl,Y,hk,q⟩:=h;obtain⟨u,rfl,rx⟩:=vals1 r;cases rx;have U:(toString "min" ++ toString ".loop":String)="min.loop":=by decide
 have Z:=kT I hl;obtain⟨ol,Pk,_⟩:=id Z;have W9:l<s.heap.objs.size:=aab Pk;refine call_function_tree PySem.F.kind_min PySem.F.plain_min PySem.F.entry_min (PySem.F.args_min1 _) ?_;show wpAny _ X.A.in1 (Builtin.Builtins.bindParams "min" ["key","default"] 0 ⟨[],[]⟩ >>= _) _ _ s;refine aQ (wpAny_of_eq (show Builtin.Builtins.bindParams "min" ["key","default"] 0 ⟨[],[]⟩=pure [none,none] from rfl) ?_)
 refine aQ (Z5 (aQ (wpAny_pyIter_list Z (aQ (wpAny_newList ?_ (aaB _))))));rw[U];refine Z5 ⟨plainId_quiet aaD _,?_⟩;generalize MK:({ cls:=.type "list_iterator",data:=.fields #[.ref l,.int 0 0]}:Obj)=oI;have hS:(s.heap.push oI).objs.size=s.heap.objs.size+1:=size_push' ..;have ar:∀b o,s.heap.get? b=some o->((s.heap.push oI).push (seqObj "list" #[] 0)).get? b=some o:=λb o e=>Z2 _ (Z2 _ e)
 have gI:((s.heap.push oI).push (seqObj "list" #[] 0)).get? s.heap.objs.size=some oI:=Z2 _ (aag _ (by rw[<-MK];rfl))
 have gS:((s.heap.push oI).push (seqObj "list" #[] 0)).get? (s.heap.push oI).objs.size=some (seqObj "list" #[] 0):=aag _ rfl;have J0:∀p∈pq,p.1<s.heap.objs.size:=λp O=>aab (I.pin p (iD _ O)).1
 have La:=I.G0 (Z3 s.heap.objs.size);have oS:=I.G0 (b:=(s.heap.push oI).objs.size) (by rw[hS];exact abv _)
 have SI:(s.heap.push oI).objs.size≠s.heap.objs.size:=by rw[hS];exact acZ _
 have lI:l≠s.heap.objs.size:=aak W9;have pI:∀p∈pq,p.1≠s.heap.objs.size:=λp O=>aak (J0 p O)
 have pS:∀p∈pq,p.1≠(s.heap.push oI).objs.size:=λp O=>by rw[hS];exact aak (abh (J0 p O))
 have J:Inv X (((s.heap.push oI).objs.size,seqObj "list" #[] 0)::(s.heap.objs.size,oI)::pq) σ H { s with heap:=(s.heap.push oI).push (seqObj "list" #[] 0)}:=by
  have K:=I.kept (t':=s.toks) ar;refine K.fH λp O=>?_
  rcases aaa.mp O with rfl|O
  ·exact⟨gS,I.hok.fresh (by rw[hS];exact abv _),oS.2.1,oS.2.2.1,λv z=>by cases z⟩
  ·rcases aaa.mp O with rfl|O
   ·exact⟨gI,I.hok.fresh (Z3 _),La.2.1,La.2.2.1,λv z=>by rw[<-MK]at z;cases z⟩
   ·exact K.pin p (iD _ O)
 have W:=Walks.list (prog:=X.prog) (w:=X.w) (A:=X.A.in1) hr s.heap.objs.size l lI (cs.map Value.ref).toArray;have tU:=J.pin ((s.heap.push oI).objs.size,seqObj "list" #[] 0) (iD _ (.head _));refine codeAny_builtin abl ?_;rw[Around.under_plainId aaD _];show wpAny _ X.A.in1 (seqItems? (.ref _) >>= _) _ _ _;refine aQ (wpAny_seqItems tU.1 rfl ?_);show wpAny _ X.A.in1 (tryCatch (pyNext (.ref s.heap.objs.size)) _ >>= _) _ _ _;refine aQ (abg (W.item 0 _ _ _ (by simpa using Y) ⟨⟨oI,gI,by rw[<-MK],by rw[<-MK];rfl⟩,kT J hl⟩ λv h' ab hv aw ax=>?_))
 have NJ:cs[0]?=some cs[0]:=Z4 Y;obtain rfl:v = .ref cs[0]:=by
  have:(cs.map Value.ref)[0]?=some v:=by simpa using hv
  rw[Z9,NJ]at this;exact(Option.some.inj this).symm
 obtain⟨IK,Hq,aT,ag⟩:=id aw.1;have I1:=J.jD (t':=ab) (h':=h') (pb:=((s.heap.push oI).objs.size,seqObj "list" #[] 0)::(s.heap.objs.size,IK)::pq) La (List.Mem.tail _ (.head _)) (λb u hb e=>ax b u (by simpa using hb) e) (λp O=>by
  rcases aaa.mp O with rfl|O
  ·exact .inr ⟨.head _,SI⟩
  ·rcases aaa.mp O with rfl|O
   ·exact .inl ⟨rfl,Hq,λv z=>by rw[ag]at z;cases z⟩
   ·exact .inr ⟨.tail _ (.tail _ O),pI p O⟩)
 have lU:=I1.pin ((s.heap.push oI).objs.size,_) (iD _ (.head _));have s1:=aaJ h' (s.heap.push oI).objs.size (Obj.mapSeq λ_=>(#[.ref cs[0],.ref cs[0]]:Array Value))
 obtain⟨n2,a3⟩:∃n2,(h'.update (s.heap.push oI).objs.size (Obj.mapSeq λ_=>(#[.ref cs[0],.ref cs[0]]:Array Value))).get? (s.heap.push oI).objs.size=some (seqObj "list" #[.ref cs[0],.ref cs[0]] n2):=⟨_,get?_update_seq lU.1 λ_=>#[.ref cs[0],.ref cs[0]]⟩
 show wpAny _ X.A.in1 (updateSeq (s.heap.push oI).objs.size (λ_=>#[.ref cs[0],.ref cs[0]]) >>= _) _ _ _
 refine aQ (wpAny_updateSeq lU.1 rfl ?_);rw[U];have I3:=I1.jD (t':=ab) (pb:=((s.heap.push oI).objs.size,seqObj "list" #[.ref cs[0],.ref cs[0]] n2)::(s.heap.objs.size,IK)::pq) oS (.head _) (λb u hb e=>(s1.2 b hb).trans e) (λp O=>by
  rcases aaa.mp O with rfl|O
  ·exact .inl ⟨rfl,a3,λv z=>by cases z⟩
  ·rcases aaa.mp O with rfl|O
   ·exact .inr ⟨.tail _ (.head _),SI.symm⟩
   ·exact .inr ⟨.tail _ (.tail _ O),pS p O⟩)
 refine Z5 ⟨plainId_quiet aaD _,D8 hr un hl hk oS La SI lI pI pS (λi c s' hc best I7=>⟨.ref c,H,I7,rfl,q i c hc best⟩) _ 1 0 cs[0] _ n2 IK rfl Y (abb _) NJ I3 ⟨IK,(s1.2 _ SI.symm).trans Hq,aT,ag⟩ λj hj=>?_⟩
 have e:j=0:=by lia
 rw[e];exact HT.fP _
end
end L2
namespace RM
def lx(a b:Int×Nat):Prop:=a.1<b.1\/(a.1=b.1/\a.2<=b.2)
def lx.anti{a b:Int×Nat}(h1:lx a b)(h2:lx b a):a=b:=by
 obtain⟨a1,a2⟩:=a;obtain⟨b1,b2⟩:=b;unfold lx at h1 h2;simp only at h1 h2;have I:a1=b1:=by lia
 have O:a2=b2:=by lia
 rw[I,O]
def stp(L:Nat->Int)(d:Int×Nat)(k:Nat):Int×Nat:=(d.1+L k,d.2^^^2^k)
structure Fx(N:Net)(L:Nat->Int)(m u:Nat)(F:OW):Prop where
 st:F u false=some (0,0)
 cx:∀x s d k y,F x s=some d->k<N.n->Jn N k x y->∃d',F y (s^^m.testBit k)=some d'/\lx d' (stp L d k)
 Xa:∀y t d,F y t=some d->(y=u/\t=false/\d=(0,0))\/∃x s d0 k,F x s=some d0/\k<N.n/\Jn N k x y/\t=(s^^m.testBit k)/\d=stp L d0 k
 nn:∀y t d,F y t=some d->0<=d.1
section
variable {N:Net}{L:Nat->Int}{m u:Nat}{F G:OW}
def Fx.part(hL:∀k,k<N.n->0<L k)(f:Fx N L m u F)(g:Fx N L m u G):∀(n:Nat),(∀y t d,d.1<(n:Int)->(F y t=some d↔G y t=some d)):=by
 intro n
 induction n with
 | zero =>
   intro y t d hd;have hd:d.1<0:=hd;exact⟨λh=>absurd (f.nn y t d h) (by lia),λh=>absurd (g.nn y t d h) (by lia)⟩
 | succ n I =>
   have one:∀{F G:OW},Fx N L m u F->Fx N L m u G->(∀y t d,d.1<(n:Int)->(F y t=some d↔G y t=some d))->∀y t d,d.1<((n+1:Nat):Int)->F y t=some d->∃d',G y t=some d'/\lx d' d:=λ{F G} f g I y t d hd h=>by
    rcases f.Xa y t d h with⟨rfl,rfl,rfl⟩|⟨x,s,d0,k,h0,hk,hj,rfl,rfl⟩
    ·exact⟨_,g.st,.inr ⟨rfl,Z3 _⟩⟩
    ·have ZG:=hL k hk;have O:d0.1<(n:Int):=by
      have hd:d0.1+L k<((n+1:Nat):Int):=hd
      lia
     exact g.cx x s d0 k y ((I x s d0 O).mp h0) hk hj
   have both:∀{F G:OW},Fx N L m u F->Fx N L m u G->(∀y t d,d.1<(n:Int)->(F y t=some d↔G y t=some d))->∀y t d,d.1<((n+1:Nat):Int)->F y t=some d->G y t=some d:=λ{F G} f g I y t d hd h=>by
    obtain⟨d',h',Y⟩:=one f g I y t d hd h;have U : d'.1<((n+1:Nat):Int):=by
     rcases Y with z|z<;>lia
    obtain⟨d2,h2,Z⟩:=one g f (λy t d hd=>(I y t d hd).symm) y t d' U h'
    rw[h]at h2;cases h2;rw[Y.anti Z]at h';exact h'
   intro y t d hd;exact⟨both f g I y t d hd,both g f (λy t d hd=>(I y t d hd).symm) y t d hd⟩
def Fx.uniq(hL:∀k,k<N.n->0<L k)(f:Fx N L m u F)(g:Fx N L m u G):F=G:=by
 have go:∀{F G:OW},Fx N L m u F->Fx N L m u G->∀y t d,F y t=some d->G y t=some d:=λ{F G} f g y t d h=>by
  have hn:=f.nn y t d h;exact(Fx.part hL f g (d.1.toNat+1) y t d (by lia)).mp h
 funext y t
 cases h:F y t with
 | some d=>exact(go f g y t d h).symm
 | none =>
   cases h' : G y t with
   | none=>rfl
   | some d=>rw[go g f y t d h']at h;cases h
end
def Po(N:Net)(L:Nat->Int)(m u:Nat)(F:OW)(y:Nat)(t:Bool)(d:Int×Nat):Prop:=(y=u/\t=false/\d=(0,0))\/∃x s d0 k,F x s=some d0/\k<N.n/\Jn N k x y/\t=(s^^m.testBit k)/\d=stp L d0 k
structure Dx(N:Net)(L:Nat->Int)(m u:Nat)(F W:OW)(now:Option (Nat×Bool))(done:Nat->Nat->Prop):Prop where
 dj:Dj N L m u F W now done
 cx:∀x s d k y,F x s=some d->k<N.n->Jn N k x y->(now=some (x,s)->done k y)->∃d',(F y (s^^m.testBit k)=some d'\/W y (s^^m.testBit k)=some d')/\lx d' (stp L d k)
 fo:∀y t d,F y t=some d->Po N L m u F y t d
 wo:∀y t d,W y t=some d->Po N L m u F y t d
 s0:F u false=some (0,0)\/W u false=some (0,0)
section
variable {N:Net}{L:Nat->Int}{m u:Nat}{F W:OW}
def Po.grow{y x:Nat}{t s:Bool}{d e:Int×Nat}(h:Po N L m u F y t d)(hF:F x s=none):Po N L m u (jg F x s e) y t d:=by
 rcases h with h|⟨I,s',d0,k,h0,r⟩
 ·exact .inl h
 ·refine .inr ⟨I,s',d0,k,?_,r⟩;rw[bq (λz=>by rw[z.1,z.2,hF]at h0;cases h0)]
  exact h0
def Dx.start:Dx N L m u (λ_ _=>none) (jg (λ_ _=>none) u false (0,0)) none (λ_ _=>False):=by
 refine⟨.start,λ_ _ _ _ _ h=>(nomatch h),λ_ _ _ h=>(nomatch h),λy t d h=>?_,.inr (bO _ _ _ _)⟩
 by_cases e:y=u/\t=false
 ·obtain⟨rfl,rfl⟩:=e;rw[bO]at h;exact .inl ⟨rfl,rfl,(Option.some.inj h).symm⟩
 ·rw[bq e]at h;cases h
def Dx.pop(h:Dx N L m u F W none (λ_ _=>False)){x:Nat}{s:Bool}{d:Int×Nat}(e:W x s=some d)(hmin:∀y t d',W y t=some d'->d.1<=d'.1):Dx N L m u (jg F x s d) (xJ W x s) (some (x,s)) (λ_ _=>False):=by
 have I:=h.dj.dj x s d e;have moved:∀y t d',F y t=some d'\/W y t=some d'->jg F x s d y t=some d'\/xJ W x s y t=some d':=λy t d' q=>by
  by_cases z:y=x/\t=s
  ·obtain⟨rfl,rfl⟩:=z;rcases q with q|q
   ·rw[I]at q;cases q
   ·rw[e]at q;cases q;exact .inl (bO _ _ _ _)
  ·rw[bq z,mH z];exact q
 refine⟨h.dj.pop e hmin,λy t d' k O q hk hj hd=>?_,λy t d' q=>?_,λy t d' q=>?_,moved _ _ _ h.s0⟩
 ·by_cases z:y=x/\t=s
  ·obtain⟨rfl,rfl⟩:=z;exact(hd rfl).elim
  ·rw[bq z]at q;obtain⟨d2,U,Y⟩:=h.cx y t d' k O q hk hj (λz=>nomatch z)
   exact⟨d2,moved _ _ _ U,Y⟩
 ·by_cases z:y=x/\t=s
  ·obtain⟨rfl,rfl⟩:=z;rw[bO]at q;cases q;exact(h.wo _ _ _ e).grow I
  ·rw[bq z]at q;exact(h.fo y t d' q).grow I
 ·by_cases z:y=x/\t=s
  ·obtain⟨rfl,rfl⟩:=z;rw[su]at q;cases q
  ·rw[mH z]at q;exact(h.wo y t d' q).grow I
def lx.trans{a b c:Int×Nat}(h1:lx a b)(h2:lx b c):lx a c:=by
 unfold lx at *
 lia
def Dx.put{done:Nat->Nat->Prop}{x:Nat}{s:Bool}(h:Dx N L m u F W (some (x,s)) done){d:Int×Nat}{k y:Nat}(e:F x s=some d)(h0:0<=d.1)(hk:k<N.n)(hL:0<L k)(hj:Jn N k x y)(hF:F y (s^^m.testBit k)=none)
 (hW:∀d',W y (s^^m.testBit k)=some d'->lx (stp L d k) d'):Dx N L m u F (jg W y (s^^m.testBit k) (stp L d k)) (some (x,s)) (λU Y=>done U Y\/(U = k/\Y = y)):=by
 have moved:∀v t d',F v t=some d'\/W v t=some d'->∃d2,(F v t=some d2\/jg W y (s^^m.testBit k) (stp L d k) v t=some d2)/\lx d2 d':=λv t d' q=>by
  rcases q with q|q
  ·exact⟨d',.inl q,.inr ⟨rfl,Z3 _⟩⟩
  ·by_cases z:v=y/\t=(s^^m.testBit k)
   ·obtain⟨rfl,rfl⟩:=z;exact⟨_,.inr (bO _ _ _ _),hW d' q⟩
   ·exact⟨d',.inr (by rw[bq z];exact q),.inr ⟨rfl,Z3 _⟩⟩
 refine⟨h.dj.put e hk (abY hL) hj hF λd' q=>?_,λv t d' Z y2 q I MR hd=>?_,h.fo,λv t d' q=>?_,?_⟩
 ·have:=hW d' q;unfold lx stp at this;simp only at this
  lia
 ·by_cases hd2:some (x,s)=some (v,t)->done Z y2
  ·obtain⟨d2,q2,l2⟩:=h.cx v t d' Z y2 q I MR hd2;obtain⟨d3,q3,l3⟩:=moved _ _ _ q2;exact⟨d3,q3,l3.trans l2⟩
  ·have hn:some (x,s)=some (v,t):=aap λz=>hd2 λO=>absurd O z
   rcases hd hn with z|⟨rfl,rfl⟩
   ·exact absurd (λ_=>z) hd2
   ·cases hn;rw[e]at q;cases q;exact⟨_,.inr (bO _ _ _ _),.inr ⟨rfl,Z3 _⟩⟩
 ·by_cases z:v=y/\t=(s^^m.testBit k)
  ·obtain⟨rfl,rfl⟩:=z;rw[bO]at q;cases q;exact .inr ⟨x,s,d,k,e,hk,hj,rfl,rfl⟩
  ·rw[bq z]at q;exact h.wo v t d' q
 ·rcases h.s0 with q|q
  ·exact .inl q
  ·right
   rw[bq (λz=>?_)]
   ·exact q
   ·obtain⟨z1,O⟩:=z;have q':=q;rw[z1,O]at q';have:=hW _ q';unfold lx stp at this;simp only at this
    lia
def Dx.skip{done:Nat->Nat->Prop}{x:Nat}{s:Bool}(h:Dx N L m u F W (some (x,s)) done){d d2:Int×Nat}{k y:Nat}(e:F x s=some d)(hL:0<L k)(I:F y (s^^m.testBit k)=some d2\/(W y (s^^m.testBit k)=some d2/\lx d2 (stp L d k))):
 Dx N L m u F W (some (x,s)) (λZ y'=>done Z y'\/(Z = k/\y' = y)):=by
 have q3:F y (s^^m.testBit k)=some d2\/(W y (s^^m.testBit k)=some d2/\d2.1<=d.1+L k):=by
  rcases I with I|⟨I,O⟩
  ·exact .inl I
  ·refine .inr ⟨I,?_⟩;unfold lx stp at O;simp only at O
   lia
 refine⟨h.dj.skip e (abY hL) q3,λv t d' U y2 q Y MR hd=>?_,h.fo,h.wo,h.s0⟩
 by_cases hd2:some (x,s)=some (v,t)->done U y2
 ·exact h.cx v t d' U y2 q Y MR hd2
 ·have hn:some (x,s)=some (v,t):=aap λz=>hd2 λz2=>absurd z2 z
  rcases hd hn with z|⟨rfl,rfl⟩
  ·exact absurd (λ_=>z) hd2
  ·cases hn;rw[e]at q;cases q;rcases I with I|⟨I,O⟩
   ·have:=h.dj.mx x s d _ _ d2 rfl e I;refine⟨d2,.inl I,.inl ?_⟩;show d2.1<d.1+L U
    lia
   ·exact⟨d2,.inr I,O⟩
def Dx.all{done:Nat->Nat->Prop}{x:Nat}{s:Bool}(h:Dx N L m u F W (some (x,s)) done)(ha:∀k y,k<N.n->Jn N k x y->done k y):Dx N L m u F W none (λ_ _=>False) :=
 ⟨h.dj.all ha,λv t d k y q hk hj _=>h.cx v t d k y q hk hj λz=>by cases z;exact ha k y hk hj,h.fo,h.wo,h.s0⟩
def Dj.less{now:Option (Nat×Bool)}{done done' : Nat->Nat->Prop}(h:Dj N L m u F W now done)(hd:∀k y,done' k y->done k y):Dj N L m u F W now done' :=
 ⟨h.fw,h.ww,h.dj,h.le,h.mx,λv t d k y q hk hj z=>h.cl v t d k y q hk hj λI=>hd _ _ (z I),h.st⟩
def Dx.less{now:Option (Nat×Bool)}{done done' : Nat->Nat->Prop}(h:Dx N L m u F W now done)(hd:∀k y,done' k y->done k y):Dx N L m u F W now done' :=
 ⟨h.dj.less hd,λv t d k y q hk hj z=>h.cx v t d k y q hk hj λI=>hd _ _ (z I),h.fo,h.wo,h.s0⟩
def Dx.fin(hL:∀k,k<N.n->0<L k)(hu:u<N.p)(h:Dx N L m u F W none (λ_ _=>False))(hW:∀x s,W x s=none):Fx N L m u F:=by
 refine⟨?_,λx s d k y e hk hj=>?_,h.fo,λy t d e=>?_⟩
 ·rcases h.s0 with q|q
  ·exact q
  ·rw[hW]at q;cases q
 ·obtain⟨d',q,l⟩:=h.cx x s d k y e hk hj (λz=>nomatch z)
  rcases q with q|q
  ·exact⟨d',q,l⟩
  ·rw[hW]at q;cases q
 ·obtain⟨pre,w⟩:=h.dj.fw y t d e;exact(oH (λk hk=>abY (hL k hk)) hu w).2.2.2.2.2
end
section
variable {N:Net}{L:Nat->Int}{m:Nat}
def Lo(N:Net)(L:Nat->Int)(m:Nat)(z:Int)(e:Nat):Prop:=∃I:Nat->OW,(∀i,i<N.p->Fx N L m i (I i))/\(∃i,i<N.p/\I i i true=some (z,e))/\∀j d,j<N.p->I j j true=some d->lx (z,e) d
def Lo.uniq(hL:∀k,k<N.n->0<L k){z z' : Int}{e e' : Nat}(h:Lo N L m z e)(h' : Lo N L m z' e'):z=z'/\e=e':=by
 obtain⟨F,f1,⟨i,hi,f2⟩,f3⟩:=h;obtain⟨G,g1,⟨j,hj,g2⟩,g3⟩:=h';have I:F j=G j:=Fx.uniq hL (f1 j hj) (g1 j hj);have O:F i=G i:=Fx.uniq hL (f1 i hi) (g1 i hi);have:=(f3 j (z',e') hj (by rw[I];exact g2)).anti (g3 i (z,e) hi (by rw[<-O];exact f2))
 exact⟨aas Prod.fst this,aas Prod.snd this⟩
structure tX(N:Net)(L:Nat->Int)(m:Nat)(z:Int)(e:Nat):Prop where
 ring:N.Ring e
 lt:e<2^N.n
 par:N.par e m=true
 len:lsum L (λk=>e.testBit k) N.n=z
 way:∃x,x<N.p/\Wy N L m x x true z
 min:∀x z',x<N.p->Wy N L m x x true z'->z<=z'
def tX.least(hL:∀k,k<N.n->0<=L k){z:Int}{e r:Nat}(h:tX N L m z e)(hr:N.Ring r)(lr:r<2^N.n)(pr:N.par r m=true):z<=lsum L (λk=>r.testBit k) N.n:=by
 obtain⟨x,hx,hw⟩:=oJ hL m hr lr;rw[pr]at hw;exact h.min x _ hx hw
end
end RM
namespace L2
open PySem PySem.Spec PyProof.Rows PySem.W
def SRun(r:Nat->Int){α:Type}:KasT α->α
 | .ret a=>a
 | .ask i j k=>SRun r (k (decide (r i<r j)))
section
variable {r:Nat->Int}
def iR{α β:Type}{f:α->KasT β}:∀(t:KasT α),SRun r (t.bind f)=SRun r (f (SRun r t))
 | .ret a=>by rw[KasT.bind.eq_1];rfl
 | .ask i j k=>by
   rw[KasT.bind.eq_2];exact iR (k _)
def CO{n:Nat}{α:Type}{R:α->Prop}{cmp:Nat->Nat->(Bool->Shared->Prop)->Shared->Prop}{Q:α->Shared->Prop}{s:Shared}(hc:∀i j C,i<n->j<n->C (decide (r i<r j)) s->cmp i j C s):∀{t:KasT α},vc n R t->(R (SRun r t)->Q (SRun r t) s)->KasT.kasWp cmp t Q s
 | .ret a,h,q=>q h
 | .ask i j k,h,q=>hc i j _ h.1 h.2.1 (CO hc (h.2.2 _) q)
def Kr(r:Nat->Int)(p:Array Nat)(i:Nat):Int:=r (p.getD i 0)
def tY(p:Array Nat)(i:Nat):Kr r p i=r ((p[i]?).getD 0):=by
 unfold Kr;rw[Array.getD_eq_getD_getElem?]
def xM{p:Array Nat}{i j:Nat}(hj:j<=p.size)(k:Nat):Kr r (kas_rev p i j) k=if i<=k/\k<j then Kr r p (i+j-1-k) else Kr r p k:=by
 have e:=getElem?_mirror_all (i:=i) hj k;unfold kas_rev;rw[tY,e]
 split
 ·rw[tY]
 ·rw[tY]
def Hr{p:Array Nat}{src d:Nat}(hs:src<p.size)(hd:d<=src)(k:Nat):Kr r (bubble p src d) k=if k=src-d then Kr r p src else if src-d<k/\k<=src then Kr r p (k-1) else Kr r p k:=by
 have e:=getElem?_bubble hs d hd k;rw[tY,e]
 split
 ·rw[tY]
 ·split
  ·rw[tY]
  ·rw[tY]
def lV(p:Array Nat)(i j:Nat):(kas_rev p i j).size=p.size:=mirror_size _ _ _ _
def Up(r:Nat->Int)(p:Array Nat)(n:Nat):Prop:=∀i,1<=i->i<n->Kr r p (i-1)<=Kr r p i
def Up.le{p:Array Nat}{n:Nat}(h:Up r p n):∀{i j:Nat},i<=j->j<n->Kr r p i<=Kr r p j:=by
 intro i j I;obtain⟨d,rfl⟩:=acg I;clear I
 induction d with
 | zero=>intro _;exact abd _
 | succ d O =>
   intro hj;have h1:=O (by lia)
   have h2:=h (i+(d+1)) (by lia) hj
   rw[show i+(d+1)-1=i+d by lia]at h2
   lia
def Bv{p:Array Nat}:∀(f n:Nat),1<=n->Up r p n->n<=SRun r (kas_asc p f n)/\SRun r (kas_asc p f n)<=n+f/\Up r p (SRun r (kas_asc p f n))/\(SRun r (kas_asc p f n)<n+f->Kr r p (SRun r (kas_asc p f n))<Kr r p (SRun r (kas_asc p f n)-1))
 | 0,n,_,h=>by
   rw[kas_asc.eq_1];exact⟨Z3 n,Z3 n,h,λz=>absurd z (aa5 n)⟩
 | f+1,n,h1,h=>by
   rw[kas_asc.eq_2];show n<=SRun r (if decide (Kr r p n<Kr r p (n-1))=true then _ else _)/\SRun r (if decide (Kr r p n<Kr r p (n-1))=true then _ else _)<=_/\Up r p (SRun r (if decide (Kr r p n<Kr r p (n-1))=true then _ else _))/\_
   by_cases c:Kr r p n<Kr r p (n-1)
   ·show n<=SRun r (if decide (Kr r p n<Kr r p (n-1))=true then _ else _)/\SRun r (if decide (Kr r p n<Kr r p (n-1))=true then _ else _)<=_/\Up r p (SRun r (if decide (Kr r p n<Kr r p (n-1))=true then _ else _))/\(SRun r (if decide (Kr r p n<Kr r p (n-1))=true then _ else _)<_->Kr r p (SRun r (if decide (Kr r p n<Kr r p (n-1))=true then _ else _))<Kr r p (SRun r (if decide (Kr r p n<Kr r p (n-1))=true then _ else _)-1))
    rw[Z1 (fG c)];exact⟨Z3 n,abI _ _,h,λ_=>c⟩
   ·show n<=SRun r (if decide (Kr r p n<Kr r p (n-1))=true then _ else _)/\SRun r (if decide (Kr r p n<Kr r p (n-1))=true then _ else _)<=_/\Up r p (SRun r (if decide (Kr r p n<Kr r p (n-1))=true then _ else _))/\(SRun r (if decide (Kr r p n<Kr r p (n-1))=true then _ else _)<_->Kr r p (SRun r (if decide (Kr r p n<Kr r p (n-1))=true then _ else _))<Kr r p (SRun r (if decide (Kr r p n<Kr r p (n-1))=true then _ else _)-1))
    rw[Z0 (by simpa using c)]
    have I:=Bv (p:=p) f (n+1) (by lia) (λi hi hn=>by
     by_cases e:i=n
     ·rw[e];lia
     ·exact h i hi (by lia))
    refine⟨by lia,by lia,I.2.2.1,λz=>I.2.2.2 (by lia)⟩
def Down(r:Nat->Int)(p:Array Nat)(n q:Nat):Prop:=(∀i,1<=i->i<n->Kr r p i<=Kr r p (i-1))/\q+1<=n/\∀i,n-(q+1)<=i->i<n->Kr r p i=Kr r p (n-1)
def Down.rev{p:Array Nat}{n q:Nat}(h:Down r p n q)(hn:n<=p.size)(k:Nat):Kr r (kas_rev p (n-(q+1)) n) k=Kr r p k:=by
 rw[xM hn]
 split
 ·rename_i hk
  rw[h.2.2 _ (by lia) (by have:=h.2.1;lia),h.2.2 k hk.1 hk.2]
 ·rfl
def mJ:∀(f:Nat) {p:Array Nat} {n q:Nat},n+f<=p.size->Down r p n q->
 (SRun r (kas_desc f p n q)).1.size=p.size/\n<=(SRun r (kas_desc f p n q)).2.1/\(SRun r (kas_desc f p n q)).2.1<=n+f/\Down r (SRun r (kas_desc f p n q)).1 (SRun r (kas_desc f p n q)).2.1 (SRun r (kas_desc f p n q)).2.2
 | 0,p,n,q,_,h=>by
   rw[kas_desc.eq_1];exact⟨rfl,Z3 n,Z3 n,h⟩
 | f+1,p,n,q,hs,h=>by
   rw[kas_desc.eq_2];obtain⟨h1,h2,h3⟩:=id h
   by_cases c:Kr r p n<Kr r p (n-1)
   ·have dn:∀Y : Array Nat,(∀k,Kr r Y k=Kr r p k)->Down r Y (n+1) 0:=λY e=>by
     refine⟨λi hi hn=>?_,by lia,λi hi hn=>by rw[show i=n+1-1 by lia]⟩
     rw[e,e]
     by_cases z:i=n
     ·rw[z];lia
     ·exact h1 i hi (by lia)
    have Z:∀(I O:KasT (Array Nat×Nat×Nat)),SRun r (KasT.ask (p.getD n 0) (p.getD (n-1) 0) λc=>if c=true then I else O)=SRun r I:=λI O=>by
     show SRun r (if decide (Kr r p n<Kr r p (n-1))=true then I else O)=_
     rw[Z1 (fG c)]
    rw[Z]
    by_cases hq:q > 0
    ·rw[Z1 hq];have U:=mJ f (p:=kas_rev p (n-(q+1)) n) (n:=n+1) (q:=0) (by rw[lV];lia) (dn _ (h.rev (by lia)))
     rw[lV]at U;exact⟨U.1,by lia,by lia,U.2.2.2⟩
    ·rw[Z0 hq];have U:=mJ f (p:=p) (n:=n+1) (q:=0) (by lia) (dn _ λ_=>rfl)
     exact⟨U.1,by lia,by lia,U.2.2.2⟩
   ·have Z:∀(I O:KasT (Array Nat×Nat×Nat)),SRun r (KasT.ask (p.getD n 0) (p.getD (n-1) 0) λc=>if c=true then I else O)=SRun r O:=λI O=>by
     show SRun r (if decide (Kr r p n<Kr r p (n-1))=true then I else O)=_
     rw[Z0 (by simpa using c)]
    rw[Z]
    by_cases d:Kr r p (n-1)<Kr r p n
    ·have e1:∀(I O:KasT (Array Nat×Nat×Nat)),SRun r (KasT.ask (p.getD (n-1) 0) (p.getD n 0) λc=>if c=true then I else O)=SRun r I:=λI O=>by
      show SRun r (if decide (Kr r p (n-1)<Kr r p n)=true then I else O)=_
      rw[Z1 (fG d)]
     rw[e1];exact⟨rfl,Z3 n,abI _ _,h⟩
    ·have e1:∀(I O:KasT (Array Nat×Nat×Nat)),SRun r (KasT.ask (p.getD (n-1) 0) (p.getD n 0) λc=>if c=true then I else O)=SRun r O:=λI O=>by
      show SRun r (if decide (Kr r p (n-1)<Kr r p n)=true then I else O)=_
      rw[Z0 (by simpa using d)]
     rw[e1];have U:=mJ f (p:=p) (n:=n+1) (q:=q+1) (by lia) ⟨λi hi hn=>by
      by_cases z:i=n
      ·rw[z];lia
      ·exact h1 i hi (by lia),by lia,λi hi hn=>by
      rw[show n+1-1=n by lia]
      by_cases z:i=n
      ·rw[z]
      ·have:=h3 i (by lia) (by lia)
       lia⟩
     exact⟨U.1,by lia,by lia,U.2.2.2⟩
def zF(r:Nat->Int)(n:Nat)(x:Nat×Array Nat):Prop:=x.2.size=n/\1<=x.1/\x.1<=n/\Up r x.2 x.1
def zG{n nrem:Nat}{p:Array Nat}{q:Nat}(h:Down r p n q)(hn:1<=n)(hle:n<=nrem)(hs:p.size=nrem):zF r nrem (SRun r (kas_tail3 n nrem p)):=by
 have up:Up r (kas_rev p 0 n) n:=λi hi I=>by
  rw[xM (by lia),xM (by lia),Z1 (by lia),Z1 (by lia)]
  have:=h.1 (0+n-1-(i-1)) (by lia) (by lia)
  rw[show 0+n-1-(i-1)-1=0+n-1-i by lia]at this
  exact this
 have a:=Bv (nrem-n) n hn up;unfold kas_tail3;rw[iR];exact⟨by show(kas_rev p 0 n).size=nrem;rw[lV,hs],by show 1<=SRun r _;lia,by show SRun r _<=nrem;lia,a.2.2.1⟩
def Down.congr{p p' : Array Nat}{n q:Nat}(h:Down r p n q)(e:∀k,Kr r p' k=Kr r p k):Down r p' n q:=⟨λi h1 h2=>by rw[e,e];exact h.1 i h1 h2,h.2.1,λi h1 h2=>by rw[e,e];exact h.2.2 i h1 h2⟩
def zH{n nrem:Nat}{p:Array Nat}(hn:1<=n)(hle:n+1<=nrem)(hs:p.size=nrem)(heq:∀i,i<n->Kr r p i=Kr r p (n-1))(hlt:Kr r p n<Kr r p (n-1)):zF r nrem (SRun r (kas_descPart n nrem p)):=by
 have d0:Down r p (n+1) 0:=⟨λi h1 h2=>by
  by_cases z:i=n
  ·rw[z];lia
  ·rw[heq i (by lia),heq (i-1) (by lia)]
   exact abd _,by lia,λi h1 h2=>by rw[show i=n+1-1 by lia]⟩
 have d:=mJ (nrem-(n+1)) (p:=p) (n:=n+1) (q:=0) (by lia) d0
 unfold kas_descPart;rw[iR];generalize SRun r (kas_desc (nrem-(n+1)) p (n+1) 0)=x at d;obtain⟨d1,d2,d3,d4⟩:=d
 by_cases I:x.2.2 > 0
 ·rw[Z1 I];exact zG (d4.congr (d4.rev (by lia))) (by lia) (by lia) (by rw[lV,d1,hs])
 ·rw[Z0 I];exact zG d4 (by lia) (by lia) (by rw[d1,hs])
def D9{nrem:Nat}{p:Array Nat}(h1:1<=nrem)(hs:p.size=nrem):zF r nrem (SRun r (kas_count nrem p)):=by
 have a:=Bv (r:=r) (p:=p) (nrem-1) 1 (Z3 1) (λi hi hn=>by lia)
 unfold kas_count;rw[iR];generalize SRun r (kas_asc p (nrem-1) 1)=n at a;obtain⟨a1,a2,O,Y⟩:=a
 by_cases e:(n==nrem)=true
 ·rw[Z1 e];exact⟨hs,a1,by show n<=nrem;lia,O⟩
 ·rw[Z0 e];have e:n≠nrem:=by simpa using e
  have I:=Y (by lia)
  by_cases h2:n > 1
  ·rw[Z1 h2]
   by_cases c:Kr r p 0<Kr r p (n-1)
   ·show zF r nrem (SRun r (if decide (Kr r p 0<Kr r p (n-1))=true then _ else _))
    rw[Z1 (fG c)];exact⟨hs,a1,by show n<=nrem;lia,O⟩
   ·show zF r nrem (SRun r (if decide (Kr r p 0<Kr r p (n-1))=true then _ else _))
    rw[Z0 (by simpa using c)]
    have all:∀i,i<n->Kr r p i=Kr r p (n-1):=λi hi=>by
     have l1:=O.le (show 0<=i by lia) hi
     have l2:=O.le (show i<=n-1 by lia) (by lia)
     lia
    have U:∀k,Kr r (kas_rev p 0 n) k=Kr r p k:=λk=>by
     rw[xM (by lia)]
     split
     ·rw[all _ (by lia),all k (by lia)]
     ·rfl
    exact zH a1 (by lia) (by rw[lV,hs]) (λi hi=>by rw[U,U];exact all i hi) (by rw[U,U];exact I)
  ·rw[Z0 h2];have Z:n=1:=by lia
   subst Z;exact zH a1 (by lia) hs (λi hi=>by rw[show i=1-1 by lia]) I
def tZ{p:Array Nat}{k:Nat}(up:Up r p k):∀(f l u:Nat),u-l<=f->l<=u->u<=k->(∀i,i<l->Kr r p i<=Kr r p k)->(∀i,u<=i->i<k->Kr r p k<Kr r p i)->
 SRun r (kas_place p k f l u)<=k/\(∀i,i<SRun r (kas_place p k f l u)->Kr r p i<=Kr r p k)/\∀i,SRun r (kas_place p k f l u)<=i->i<k->Kr r p k<Kr r p i
 | 0,l,u,hf,hlu,huk,h1,h2=>by
   rw[kas_place.eq_1];have e:l=u:=by lia
   subst e;exact⟨huk,h1,h2⟩
 | f+1,l,u,hf,hlu,huk,h1,h2=>by
   rw[kas_place.eq_2]
   by_cases hx:l ≥ u
   ·rw[Z1 hx];have e:l=u:=by lia
    subst e;exact⟨huk,h1,h2⟩
   ·rw[Z0 hx]
    by_cases c:Kr r p k<Kr r p ((l+u)/2)
    ·have U:∀(I O:KasT Nat),SRun r (KasT.ask (p.getD k 0) (p.getD ((l+u)/2) 0) λc=>if c=true then I else O)=SRun r I:=λI O=>by
      show SRun r (if decide (Kr r p k<Kr r p ((l+u)/2))=true then I else O)=_
      rw[Z1 (fG c)]
     rw[U];exact tZ up f l ((l+u)/2) (by lia) (by lia) (by lia) h1 λi hi hk=>by
      have:=up.le hi hk
      lia
    ·have U:∀(I O:KasT Nat),SRun r (KasT.ask (p.getD k 0) (p.getD ((l+u)/2) 0) λc=>if c=true then I else O)=SRun r O:=λI O=>by
      show SRun r (if decide (Kr r p k<Kr r p ((l+u)/2))=true then I else O)=_
      rw[Z0 (by simpa using c)]
     rw[U];exact tZ up f ((l+u)/2+1) u (by lia) (by lia) huk (λi hi=>by
      have:=up.le (show i<=(l+u)/2 by lia) (by lia)
      lia) h2
def Hs:∀(f:Nat) {p:Array Nat} {k:Nat},k+f<=p.size->Up r p k->Up r (SRun r (kas_bin f p k)) (k+f)
 | 0,p,k,_,h=>by
   rw[kas_bin.eq_1];exact h
 | f+1,p,k,hs,h=>by
   rw[kas_bin.eq_2,iR];have I:=tZ h k 0 k (by lia) (by lia) (Z3 k) (λi hi=>by lia) (λi h1 h2=>by lia)
   generalize SRun r (kas_place p k k 0 k)=l at I;obtain⟨p1,p2,Z⟩:=I;have up:Up r (bubble p k (k-l)) (k+1):=λi hi hk=>by
    rw[Hr (by lia) (by lia),Hr (by lia) (by lia),show k-(k-l)=l by lia]
    by_cases O:i=l
    ·rw[Z0 (by lia),Z0 (by lia),Z1 O]
     exact p2 (i-1) (by lia)
    ·rw[Z0 O]
     by_cases U:l<i/\i<=k
     ·rw[Z1 U]
      by_cases Y:i-1=l
      ·rw[Z1 Y];exact abY (Z (i-1) (by lia) (by lia))
      ·rw[Z0 Y,Z1 (by lia)]
       exact h (i-1) (by lia) (by lia)
     ·rw[Z0 U,Z0 (by lia),Z0 (by lia)]
      exact h i hi (by lia)
   have:=Hs f (p:=bubble p k (k-l)) (k:=k+1) (by rw[bubble_size];lia) up
   rw[show k+(f+1)=k+1+f by lia]
   exact this
def J9{n:Nat}(hn:1<=n):Up r (SRun r (kas_sort n)) n:=by
 unfold kas_sort;rw[iR];have c:=D9 (r:=r) (p:=List.toArray (List.range n)) hn (by simp)
 generalize SRun r (kas_count n (List.toArray (List.range n)))=x at c;obtain⟨O,U,Y,I⟩:=c
 by_cases hx:x.1<n
 ·rw[Z1 hx];have:=Hs (n-max x.1 1) (p:=x.2) (k:=max x.1 1) (by lia) (by rw[show max x.1 1=x.1 by lia];exact I)
  rw[show max x.1 1+(n-max x.1 1)=n by lia]at this
  exact this
 ·rw[Z0 hx];have e:x.1=n:=by lia
  rw[e]at I;exact I
end
def xN:bootBuiltins "sorted"=some (.builtin "sorted"):=by kernel_rfl
def kx(z:Int×Int):Int:=z.1*1073741824+z.2
def Pp(z:Int×Int):Prop:=0<=z.2/\z.2<1073741824
section
variable {X:Cx}{pq:aS}{σ:St}{H H2:Hp}{s:Shared}
def Inv.Ka{a:Addr}{xs:List V}{ob:Obj}(I:Inv X pq σ H s)(e:H a=some (.lst xs))(ho:s.heap.get? a=some ob):Inv X pq σ (upd H a (.lF ob (.lst xs))) s:=by
 have ne:∀b,H b=none->b≠a:=λb h z=>by rw[z,e]at h;cases h
 refine⟨I.ok,I.os,I.bare,⟨I.base.keep,I.base.slot,λb o q n hx=>?_,I.base.there,λb xs q=>?_,λb o u q=>?_,λb ps q=>?_⟩,I.loc,I.cell,?_,λx c q=>?_,λp O=>?_,λb u q=>?_,I.len⟩
 ·have z:=I.base.free b o q n hx;rw[ae (ne b z)];exact z
 ·have z:=I.base.tups b xs q;rw[ae (aE z e (by intro z;cases z))]
  exact z
 ·have z:=I.base.kG b o u q;rw[ae (aE z e (by intro z;cases z))]
  exact z
 ·obtain⟨more,z⟩:=I.base.lH b ps q;exact⟨more,by rw[ae (aE z e (by intro z;cases z))];exact z⟩
 ·rw[ae (ne _ I.free)];exact I.free
 ·rw[ae (ne _ (I.eF x c q))];exact I.eF x c q
 ·obtain⟨a1,a2,U⟩:=I.pin p O;exact⟨a1,by rw[ae (ne _ a2)];exact a2,U⟩
 ·by_cases hb:b=a
  ·subst hb;rw[af]at q;cases q;exact⟨ho,(I.hok b _ e).stay (λ_ _ _ q=>q) (λc q=>by rw[ae (aE q e (by intro z;cases z))];exact q) λc xs q=>by rw[ae (aE q e (by intro z;cases z))];exact q⟩
  ·rw[ae hb]at q;exact(I.hok b u q).stay (λ_ _ _ q=>q) (λc q=>by rw[ae (aE q e (by intro z;cases z))];exact q) λc xs q=>by rw[ae (aE q e (by intro z;cases z))];exact q
def Inv.Pq{tQ:aS}{σ0:St}{s0:Shared}{a:Addr}{xs:List V}{ob:Obj}(I0:Inv X tQ σ0 H s0)(e0:H a=some (.lst xs))(I:Inv X pq σ H2 s)(e:H2 a=some (.lF ob (.lst xs))):
 Inv X pq σ (upd H2 a (.lst xs)) s:=by
 have ne:∀b,H2 b=none->b≠a:=λb h z=>by rw[z,e]at h;cases h
 obtain⟨Z,hd⟩:=(show bC X.prog X.w H2 s.heap a (.lF ob (.lst xs)) from I.hok a _ e)
 refine⟨I.ok,I.os,I.bare,⟨I.base.keep,I.base.slot,λb o q n hx=>?_,I.base.there,λb xs q=>?_,λb o u q=>?_,λb ps q=>?_⟩,I.loc,I.cell,?_,λx c q=>?_,λp U=>?_,λb u q=>?_,I.len⟩
 ·have z:=I.base.free b o q n hx;rw[ae (ne b z)];exact z
 ·have z:=I.base.tups b xs q;rw[ae (aE z e (by intro z;cases z))]
  exact z
 ·have z:=I.base.kG b o u q;rw[ae (λy=>by
   have O:=I0.base.kG b o u q;rw[y,e0]at O;cases O)]
  exact z
 ·obtain⟨more,z⟩:=I.base.lH b ps q;exact⟨more,by rw[ae (aE z e (by intro z;cases z))];exact z⟩
 ·rw[ae (ne _ I.free)];exact I.free
 ·rw[ae (ne _ (I.eF x c q))];exact I.eF x c q
 ·obtain⟨a1,a2,Y⟩:=I.pin p U;exact⟨a1,by rw[ae (ne _ a2)];exact a2,Y⟩
 ·by_cases hb:b=a
  ·subst hb;rw[af]at q;cases q;exact hd.stay (λ_ _ _ q=>q) (λc q=>by rw[ae (aE q e (by intro z;cases z))];exact q) λc xs q=>by rw[ae (aE q e (by intro z;cases z))];exact q
  ·rw[ae hb]at q;exact(I.hok b u q).stay (λ_ _ _ q=>q) (λc q=>by rw[ae (aE q e (by intro z;cases z))];exact q) λc xs q=>by rw[ae (aE q e (by intro z;cases z))];exact q
end
def CP(h:Heap)(v:Value)(z:Int×Int):Prop:=∃(a:Addr) (o:Obj) (t u:Tok) (k:Nat),v = .ref a/\h.get? a=some o/\o.cls = .type "tuple"/\o.data = .seq #[.int z.1 t,.int z.2 u] k
def CP.pair{h:Heap}{v:Value}{z:Int×Int}(q:CP h v z):K7 h v:=let⟨a,o,t,u,k,q⟩:=q;⟨a,o,z.1,z.2,t,u,k,q⟩
def Ea{prog:Program}{w:World}{A:Around}{s:Shared}{vs:List Value}{n:Nat}{zs:Nat->Int×Int}(hz:∀i,i<n->Pp (zs i))(hv:∀i,i<n->CP s.heap (vs.getD i Value.none) (zs i)):
 ∀i j C,i<n->j<n->C (decide (kx (zs i)<kx (zs j))) s->kas_ask prog w A (tuples' true) vs i j C s:=by
 intro i j C hi hj I;unfold kas_ask;obtain⟨a,o,t,u,k,e,Z,_,hd⟩:=hv i hi;obtain⟨a',o',t',u',k',e',ho',_,hd'⟩:=hv j hj;have oi:=hz i hi;have O:=hz j hj;generalize zs i=z at hd I oi;generalize zs j=z' at hd' I O;obtain⟨x,y⟩:=z;obtain⟨x',y'⟩:=z';unfold kx at I;unfold Pp at oi O;dsimp only at hd hd' I oi O;rw[e,e'];refine kat_lt Z hd ho' hd' ?_;show KatLex prog w A true _ C [(.int x t,.int x' t'),(.int y u,.int y' u')] 0 s;rw[KatLex.eq_2];refine wpAny_eqBool_int ?_
 by_cases ex:x=x'
 ·rw[show(x==x')=true by simpa using ex]
  rw[Z1 rfl,KatLex.eq_2];refine wpAny_eqBool_int ?_
  by_cases Y:y=y'
  ·rw[show(y==y')=true by simpa using Y]
   rw[Z1 rfl,KatLex.eq_1];rw[iK (by lia)]at I
   exact I
  ·rw[show(y==y')=false by simpa using Y]
   rw[Z0 aac];refine kat_one _ _ (lt_int ?_);have U:decide (y<y')=decide (x*1073741824+y<x'*1073741824+y'):=aaY.mpr (by lia)
   rw[<-U]at I;exact I
 ·rw[show(x==x')=false by simpa using ex]
  rw[Z0 aac];refine oneLt_int ?_;have U:decide (x<x')=decide (x*1073741824+y<x'*1073741824+y'):=aaY.mpr (by lia)
  rw[<-U]at I;exact I
def MS(P:Addr)(q:Str)(lp:Pos)(ta:TA)(te:TE)(js:List Nat):TE:=λσ H Q=>ta σ H λvs H1=>∃(a:Addr) (ns:List Int) (O:Int->Int×Int),vs=[.ref a]/\H1 a=some (.lst (ns.map V.int))/\ns.length<64/\(∀n∈ns,Pp (O n))/\H1 P=some (.iL (dM q lp))/\
 (∀H3,(∀b u,H1 b=some u->(∀y,u≠.own y)->(∀U,u≠.iL U)->H3 b=some u)->∀n∈ns,te (some (.int n)::eJ σ js) H3 λv H4=>aq H3 H4/\∃d,v = .ref d/\H4 d=some (.tup [.int (O n).1,.int (O n).2]))/\
 ∀(l:Addr) (I : List Int) H4,H1 l=none->aq H1 H4->H4 l=some (.lst (I.map V.int))->I.Perm ns->I.Pairwise (λx y=>kx (O x)<=kx (O y))->Q (.ref l) H4
section
variable {X:Cx}{pq:aS}{σ:St}{H2:Hp}
def Eb{A:Around}{E:cP}{P:PySem.Fin->Shared->Prop}{s:Shared}{H3:Hp}{D U:Addr}{e e1:Nat}{its:List Value}{ns:List Int}{ds:List Addr}{kf:Int->Int×Int}
 (I:Inv X ((U,seqObj "list" (ds.map Value.ref).toArray e)::pq) σ H3 s) (oK:Bq X U) (pK:∀p∈pq,p.1≠U) (hD:H3 D=some (.lF (seqObj "list" #[] e1) (.lst []))) (rv:Vals (ns.map V.int) its) (hn:ns.length<64) (hdl:ds.length=ns.length)
 (hk:∀(j:Nat) d n,ds[j]?=some d->ns[j]?=some n->H3 d=some (.tup [.int (kf n).1,.int (kf n).2])) (hok:∀n∈ns,Pp (kf n))
 {tQ:aS} {σ0:St} {s0:Shared} {H0:Hp} (I0:Inv X tQ σ0 H0 s0) (e0:H0 D=some (.lst []))
 (fin:∀(s' : Shared) (O : List Int),O.Perm ns->O.Pairwise (λx y=>kx (kf x)<=kx (kf y))->Inv X pq σ (upd (upd H3 D (.lst [])) D (.lst (O.map V.int))) s'->P (.done (.ret .none)) s') :
 wpAny (model X.prog X.w) A (ksk_end D false its.toArray e1 (.ref U) ((ds.map Value.ref).toArray)) P E s:=by
 have hl:its.length=ns.length:=by have:=rv.length;rw[ZZ]at this;lia
 obtain⟨Xb,_⟩:=(show bC X.prog X.w H3 s.heap D (.lF (seqObj "list" #[] e1) (.lst [])) from I.hok D _ hD)
 have Bw:=I.pin (U,seqObj "list" (ds.map Value.ref).toArray e) (iD _ (.head _));have Xc:D≠U:=λz=>by
  have:=Bw.2.1;rw[<-z,hD]at this;cases this
 have tail:∀(st:SortSt) (O : List Int) (out:List Value),(arrOf st).map (·.2)=out.toArray->out.length<64->failedOf st=none->O.Perm ns->O.Pairwise (λx y=>kx (kf x)<=kx (kf y))->Vals (O.map V.int) out->wpAny (model X.prog X.w) A (ksk_tail D false e1 (.ref U) st) P E s:=by
  intro st O out ab hz hf hp hs hv;have s1:=aaJ s.heap U (Obj.mapSeq λ_=>(#[]:Array Value))
  have Ay:(s.heap.update U (Obj.mapSeq λ_=>(#[]:Array Value))).get? D=some (seqObj "list" #[] e1):=(s1.2 D Xc).trans Xb
  have s2:=aaJ (s.heap.update U (Obj.mapSeq λ_=>(#[]:Array Value))) D (Obj.mapSeq λ_=>out.toArray)
  obtain⟨c2,ag⟩:∃c2,((s.heap.update U (Obj.mapSeq λ_=>(#[]:Array Value))).update D (Obj.mapSeq λ_=>out.toArray)).get? D=some (seqObj "list" out.toArray c2):=⟨_,get?_update_seq Ay λ_=>out.toArray⟩
  unfold ksk_tail
  try dsimp only
  rw[ab];refine aQ (listUpdate_at Bw.1 rfl ?_ (by rw[aae,ZZ,sizeLine_eq];lia) (aaB _))
  refine aQ (wpAny_letGo ?_);refine aQ (seqEpoch_at Ay rfl ?_);refine aQ (listUpdate_at Ay rfl ?_ (aaB _) (by show out.toArray.size<=_;rw[aae,sizeLine_eq];lia))
  rw[hf];simp only[bne_self_eq_false,aaX,if_false];have J1:=I.jD (t':=s.toks) (h':=s.heap.update U (Obj.mapSeq λ_=>(#[]:Array Value))) (pb:=pq) oK (.head _) (λc u ne e=>(s1.2 c ne).trans e) (λp hp=>.inr ⟨.tail _ hp,pK p hp⟩)
  have J2:=Inv.Pq I0 e0 J1 hD;have J3:=J2.write (x:=D) (e:=D) (o:=.lst (O.map V.int)) (t':=s.toks) (h':=(s.heap.update U (Obj.mapSeq λ_=>(#[]:Array Value))).update D (Obj.mapSeq λ_=>out.toArray)) (by rw[af];trivial) (.inl rfl) (λb u nb eb=>(s2.2 b nb).trans eb) ⟨_,ag⟩
   ⟨by rw[ZZ,hp.length_eq,sizeLine_eq];lia,out,c2,hv,ag⟩
  exact Z5 (fin _ O hp hs J3)
 by_cases h2:2<=ns.length
 ·have kv:∀i,i<its.length->CP s.heap ((ds.map Value.ref).getD i Value.none) (kf (ns.getD i 0)):=λi hi=>by
   have e1:ds[i]?=some (ds[i]'(by lia)):=Z4 _
   have e2:ns[i]?=some (ns[i]'(by lia)):=Z4 _
   have hd:=hk i _ _ e1 e2;obtain⟨ts,rt,⟨o,eo,hc,n,aw⟩,_⟩:=I.tuple (bf.of hd);have g1:(ds.map Value.ref).getD i Value.none = .ref (ds[i]'(by lia)):=by rw[Z6,Z9,e1];rfl
   have g2:ns.getD i 0=ns[i]'(by lia):=by rw[Z6,e2];rfl
   rw[g1,g2]
   match ts,rt with
   | [_,_],.cons ⟨t,rfl⟩ (.cons ⟨u,rfl⟩ .nil)=>exact⟨_,o,t,u,n,rfl,eo,hc,aw⟩
  have kz:∀i,i<its.length->Pp (kf (ns.getD i 0)):=λi hi=>by
   have e2:ns[i]?=some (ns[i]'(by lia)):=Z4 _
   rw[Z6,e2];exact hok _ (acs _)
  have ar:(ds.map Value.ref).length=its.length:=by rw[ZZ];lia
  have Y : ¬ its.toArray.size<2:=by rw[aae];lia
  unfold ksk_end
  try dsimp only
  rw[Z0 aac,Z0 Y,Z0 Y,Z0 aac];refine aQ (DT (by rw[ZZ];lia) (λv hv=>?_) ?_)
  ·obtain⟨i,hi,rfl⟩:=List.mem_iff_getElem.mp hv;have:=(kv i (by lia)).pair
   rw[Z6,Z4 hi]at this;exact this
  refine aQ (aar (kat_run (Q:=λZ s'=>s' = s/\∃p:Array Nat,cU its.length p/\Up (λi=>kx (kf (ns.getD i 0))) p its.length/\(arrOf Z).map (·.2)=(p.toList.map λi=>its.getD i Value.none).toArray/\failedOf Z = none) (G:=λp s'=>s' = s/\cU its.length p/\Up (λi=>kx (kf (ns.getD i 0))) p its.length)
   ar (by lia) (by lia) (λp Z s' a1 a2 a3 a4=>⟨a4.1,p,a4.2.1,a4.2.2,kat_snds ar a2,a3⟩) ?_) ?_ λ_ _ x=>x)
  ·exact CO (r:=λi=>kx (kf (ns.getD i 0))) (n:=its.length) (Ea kz kv) (JR (by lia)) λhg=>⟨rfl,hg,J9 (by lia)⟩
  ·rintro⟨⟨⟩,Z⟩ s' ⟨rfl,p,hg,hu,ax,hf⟩
   try dsimp only
   have a5:p.toList.length=its.length:=by have:=hg.length_eq;rw[aax]at this;exact this
   refine tail Z (p.toList.map λi=>ns.getD i 0) _ ax (by rw[ZZ];lia) hf ?_ ?_ ?_
   ·have h1:=List.Perm.map (λi=>ns.getD i 0) hg
    have h3:(List.range its.length).map (λi=>ns.getD i 0)=ns:=by
     rw[hl];refine acu (by simp) λi h1 h2=>?_
     simp[Z6,Z4 h2]
    rw[h3]at h1;exact h1
   ·rw[aa7,ab3];intro i j hi hj aT;have:=hu.le (aaZ aT) (by lia)
    have ga:∀i (hi:i<p.toList.length),p.getD i 0=p.toList[i]:=λi hi=>by
     rw[Array.getD_eq_getD_getElem?,<-abB,Z4 hi];rfl
    unfold Kr at this;rw[ga i hi,ga j hj]at this;exact this
   ·have:∀l:List Nat,(∀i∈l,i<ns.length)->Vals ((l.map λi=>ns.getD i 0).map V.int) (l.map λi=>its.getD i Value.none):=λl=>by
     induction l with
     | nil=>exact λ_=>.nil
     | cons i l ih =>
       intro h;refine .cons ?_ (ih λj hj=>h j (m9 _ hj))
       have hi:=h i aad;have h1:(ns.map V.int)[i]?=some (.int (ns.getD i 0)):=by
        rw[Z9,Z6,Z4 hi];rfl
       obtain⟨u,hu,ru⟩:=rv.get h1;have gu:its.getD i Value.none=u:=by rw[Z6,hu];rfl
       show RelV (V.int (ns.getD i 0)) (its.getD i Value.none);rw[gu];exact ru
    refine this _ λi hi=>?_
    have:=aan.mp (hg.mem_iff.mp hi)
    lia
 ·have Y:its.toArray.size<2:=by rw[aae];lia
  unfold ksk_end
  try dsimp only
  rw[Z0 aac,Z1 Y,Z1 Y,Z0 aac];refine aQ (Z5 ?_);refine aQ (m:=pure ((),SortSt.mk' general' (((ds.map Value.ref).toArray).zip its.toArray) #[] 7 none)) (Z5 ?_);refine tail _ ns its ?_ (by lia) rfl (List.Perm.refl _) ?_ rv
  ·show Array.map (λx:Keyed=>x.snd) (((ds.map Value.ref).toArray).zip its.toArray)=its.toArray
   apply Array.toList_inj.mp;simp;exact List.map_snd_zip (by rw[ZZ];lia)
  ·match ns,h2 with
   | [],_=>exact .nil
   | [x],_=>exact List.pairwise_singleton _ _
   | _::_::_,h2=>exact absurd (by simp:2<=_) h2
end
section
variable {X:Cx}{params:Arguments}{body e:Expr}{scope:Scope}{lp p pos kp:Pos}{fq:List Str}{js:List Nat}{x:Str}{ta:TA}{te:TE}{c0 P:Addr}{k:Nat}
def Ht(hr:cW (k+3) X.A)(T:dh X scope [x] fq js)(hx:scope.names.lookup x=some .local)(hg:Gl X "sorted")(hm:X.mg "sorted"=none)(hcode:X.env.code = .ref c0)(hK:PySem.W.codeHdIn X.K c0 P=true)(ha:PA X [e] ta)
 (he:∀f c s H,cW k (tR X ([x]++fq) scope f c X.A.in1.in1 s H).A->PE (tR X ([x]++fq) scope f c X.A.in1.in1 s H) body te)
 (hb:∀c ctv u,bindArgs (zu X params body scope c ctv) ⟨[u],[]⟩=pure [(x,u)]:=by intro _ _ _;rfl) (hco:scope.isCoroutine=false:=by rfl) (hgen:scope.isGenerator=false:=by rfl)
 (hdef:defaultsOf params X.env=([],[]):=by rfl)
 (hs:backTo pos (starEach [e] X.env)=(false,eval e X.env)::backTo pos (starEach [] X.env):=by rfl) (hs2:(backTo pos (starEach [e] X.env)).any (·.1)=false:=by rfl) :
 PE X (.Call (.Name "sorted" p) [e] [⟨some (Str.ofString "key"),.Lambda params body scope lp,kp⟩] pos) (MS P (X.env.qual ++ "<lambda>") lp ta te js):=by
 intro pq s σ H Q I h;refine wpAny_Call_Name_kw (nc I hg hm xN (callWith_kw (cM (ha pos pq s σ H _ I h) λus s1 Y=>?_) hs hs2 rfl rfl))
 obtain⟨vs,H1,I1,r1,a,ns,kf,rfl,a6,a7,hok,hP,ax,MH⟩:=Y;obtain⟨u,rfl,rx⟩:=vals1 r1;cases rx;refine kws_cons (zw I1 T hcode hK hP hdef λf c oc ctv s2 hc zx a4 J=>kws_nil ?_)
 show wpAny _ X.A (call (.builtin "sorted") [.ref a] [(Str.ofString "key",.ref f)]) _ _ s2;have a5:=sr (oc:=oc) hP hc a6 (by intro y z;cases z) (by intro y z;cases z)
 have MI:fc H1 P c oc (X.env.qual ++ "<lambda>") lp P=some (.iL (dM (X.env.qual ++ "<lambda>") lp++mV lp c)):=af;have JZ:fc H1 P c oc (X.env.qual ++ "<lambda>") lp c=some (.lF oc (.own P)):=by unfold fc;rw[ae zx,af]
 have Lf:∀b,fc H1 P c oc (X.env.qual ++ "<lambda>") lp b=none->H1 b=none:=λb hb=>by
  have bP:b≠P:=λz=>by rw[z,MI]at hb;cases hb
  have bc:b≠c:=λz=>by rw[z,JZ]at hb;cases hb
  unfold fc at hb
  rwa [ae bP,ae bc]at hb
 have Uv:∀b u,H1 b=some u->(∀y,u≠.own y)->(∀qs,u≠.iL qs)->fc H1 P c oc (X.env.qual ++ "<lambda>") lp b=some u:=λb u U n1 n2=>sr hP hc U n1 n2
 generalize Xd:fc H1 P c oc (X.env.qual ++ "<lambda>") lp=HL at J a5 MI JZ Lf Uv;obtain⟨O,rv,⟨o,n,ho,a8,bw,hd⟩,hz⟩:=J.list (aV.of a5);have hl:=rv.length;rw[ZZ]at hl;have ag:O.length<=sizeLine:=dl (abn.mpr (by lia))
 refine call_function_entry_kw kind_sorted plain_sorted entry_sorted (ksk_s1 _ _) ?_;unfold Builtin.«sorted»;refine aQ (m:=checkCount "sorted" 1 1 _) (Z5 ?_);refine aQ (wpAny_collect_seq a (T:="list") (.inl rfl) ho a8 hd (λh1 hk=>?_) (by rw[aae];exact ag))
 have J1:=J.kept (t':=s2.toks) hk;have aw:HL h1.objs.size=none:=J1.hok.fresh (Z3 _);refine aQ (wpAny_newList ?_ (by simpa using ag))
 have e0:O.toArray.toList=O:=by simp
 rw[e0];have C9:(h1.push (seqObj "list" O.toArray 0)).get? h1.objs.size=some (seqObj "list" O.toArray 0):=aag _ rfl;have J2:Inv X ((f,dG X params body scope c ctv)::pq) σ (upd HL h1.objs.size (.lst (ns.map V.int))) { s2 with heap:=h1.push (seqObj "list" O.toArray 0)}:=by
  refine J1.laid (t':=s2.toks) (λb o hb=>?_) (Z3 _) ⟨?_,O,0,rv,C9⟩
  ·rw[Heap.get?_push_ne _ _ _ (aak (aab hb))];exact hb
  ·rw[ZZ,hl];exact ag
 generalize ZH:h1.objs.size=D at aw C9 J2;refine aQ (aaG (wpAny_call_entry_kw slot_list_sort ⟨_,C9,rfl⟩ entry_list_sort ?body (ksk_l1 _ _)));show wpAny (model X.prog X.w) X.A.in1.in1 (Builtin.«list.sort» ⟨[.ref D],[(Str.ofString "key",.ref f)]⟩) _ _ _;rw[ksk_t1];generalize h1.push (seqObj "list" O.toArray 0)=h2 at C9 J2;have a9:=aaJ h2 D (Obj.mapSeq λ_=>(#[]:Array Value))
 obtain⟨Z,NC⟩:∃Z,(h2.update D (Obj.mapSeq λ_=>(#[]:Array Value))).get? D=some (seqObj "list" #[] Z):=⟨_,get?_update_seq C9 λ_=>#[]⟩
 unfold ksk_tree;refine aQ (listItems_at C9 rfl ?_);refine aQ (listUpdate_at C9 rfl ?_ (by rw[aae];exact ag) (aaB _))
 refine aQ (seqEpoch_at NC rfl ?_);refine aQ (wpAny_newTuple ?_ (by show O.toArray.toList.length<=_;rw[e0];exact ag))
 refine aQ (wpAny_newList ?_ (aaB _));refine aaG ?_;have J3:=J2.write (x:=D) (e:=D) (o:=.lst []) (t':=s2.toks) (h':=h2.update D (Obj.mapSeq λ_=>(#[]:Array Value))) (by rw[af];trivial) (.inl rfl) (λb u nb U=>(a9.2 b nb).trans U) ⟨_,NC⟩ ⟨aaB _,[],Z,.nil,NC⟩
 have J4:=J3.Ka (a:=D) af NC;generalize Jm:upd (upd (upd HL D (.lst (ns.map V.int))) D (.lst [])) D (.lF (seqObj "list" #[] Z) (.lst []))=H2 at J4;have at2:∀b u,HL b=some u->H2 b=some u:=λb u U=>by
  have nb:b≠D:=λz=>by rw[z,aw]at U;cases U
  rw[<-Jm,ae nb,ae nb,ae nb];exact U
 have xO:H2 D=some (.lF (seqObj "list" #[] Z) (.lst [])):=by rw[<-Jm,af]
 generalize h2.update D (Obj.mapSeq λ_=>(#[]:Array Value))=h3 at J3 J4
 rw[e0];have ba:∀b u,h3.get? b=some u->((h3.push (seqObj "tuple" O.toArray 0)).push (seqObj "list" #[] 0)).get? b=some u:=λb u U=>Z2 _ (Z2 _ U)
 have hS:(h3.push (seqObj "tuple" O.toArray 0)).objs.size=h3.objs.size+1:=size_push' ..;have oK:=J4.G0 (b:=(h3.push (seqObj "tuple" O.toArray 0)).objs.size) (by show h3.objs.size<=_;rw[hS];exact abv _)
 have gK:((h3.push (seqObj "tuple" O.toArray 0)).push (seqObj "list" #[] 0)).get? (h3.push (seqObj "tuple" O.toArray 0)).objs.size=some (seqObj "list" #[] 0):=aag _ rfl;have Xe:H2 (h3.push (seqObj "tuple" O.toArray 0)).objs.size=none:=J4.hok.fresh (by show h3.objs.size<=_;rw[hS];exact abv _)
 have J0:∀q∈(f,dG X params body scope c ctv)::pq,q.1<h3.objs.size:=λq Y=>aab (J4.pin q (iD _ Y)).1
 have J5:Inv X (((h3.push (seqObj "tuple" O.toArray 0)).objs.size,seqObj "list" #[] 0)::(f,dG X params body scope c ctv)::pq) σ H2 { s2 with heap:=(h3.push (seqObj "tuple" O.toArray 0)).push (seqObj "list" #[] 0)}:=by
  have K:=J4.kept (t':=s2.toks) ba;refine K.fH λq Y=>?_
  rcases aaa.mp Y with rfl|Y
  ·exact⟨gK,Xe,oK.2.1,oK.2.2.1,λv z=>by cases z⟩
  ·exact K.pin q (iD _ Y)
 have pK:∀q∈(f,dG X params body scope c ctv)::pq,q.1≠(h3.push (seqObj "tuple" O.toArray 0)).objs.size:=λq Y=>by
  have:=J0 q Y;rw[hS];exact aak (abh this)
 have Uw:O.toArray.size=O.length:=aae ..;show wpAny (model X.prog X.w) X.A.in1.in1 (ksk_rest D (.ref f) false O.toArray Z (.ref (h3.push (seqObj "tuple" O.toArray 0)).objs.size)) _ _ { s2 with heap:=(h3.push (seqObj "tuple" O.toArray 0)).push (seqObj "list" #[] 0)}
 generalize (h3.push (seqObj "tuple" O.toArray 0)).objs.size=kS at oK J5 pK;generalize (h3.push (seqObj "tuple" O.toArray 0)).push (seqObj "list" #[] 0)=h4 at J5;unfold ksk_rest;refine aQ (wpAny_rule ?_);rw[List.forIn_toArray];refine aQ (ksk_fold (λi s'=>∃H3 ds en,aq H2 H3/\Inv X ((kS,seqObj "list" ((ds.map Value.ref).toArray) en)::(f,dG X params body scope c ctv)::pq) σ H3 s'/\ds.length=i/\∀(j:Nat) d n,ds[j]?=some d->ns[j]?=some n->H3 d=some (.tup [.int (kf n).1,.int (kf n).2]))
  O 0 _ ⟨H2,[],0,aq.refl _,J5,rfl,λj d n z=>by cases z⟩ ?_ ?_)
 ·rintro j y s' hy ⟨H3,ds,en,Ax,I3,ar,ab⟩;rw[Nat.zero_add]at ar ⊢;have hj:j<O.length:=(ju.mp hy).1;have NK:ns[j]?=some (ns[j]'(by lia)):=Z4 _
  obtain⟨uu,hu,ru⟩:=rv.get (show(ns.map V.int)[j]?=some (.int (ns[j]'(by lia))) by rw[Z9,NK];rfl)
  rw[hy]at hu;cases hu;obtain⟨bb,_⟩:=(show bC X.prog X.w H3 s'.heap c (.lF oc (.own P)) from I3.hok c _ (Ax _ _ (at2 _ _ JZ)))
  have aT:X.A.in1.in1.depth<recursionLimit:=((hr.in1).in1).depth;refine aQ (wpAny_attempt (aar (zA (v:=.int (ns[j]'(by lia))) I3 T hx I3.ok.frames rfl aT (List.Mem.tail _ (.head _)) (a4.rec bb) (hb c ctv _) hco hgen (he f c s' H3 (((hr.in1).in1).deeper _)) ru
   (ax H3 (λb u U n1 n2=>Ax _ _ (at2 _ _ (Uv b u U n1 n2))) _ (acs _))) (λv s3 hv=>?_) λ_ _ z=>z))
  obtain⟨w',H4,I4,bo,Ux,d,rfl,Pu⟩:=hv;cases bo;have Bw:=I4.pin (kS,_) (iD _ (.head _));have sb:=aaJ s3.heap kS (Obj.mapSeq (·.push (.ref d)));have ea:((ds.map Value.ref).toArray).push (.ref d)=((ds++[d]).map Value.ref).toArray:=by simp
  obtain⟨c2,bp⟩:∃c2,(s3.heap.update kS (Obj.mapSeq (·.push (.ref d)))).get? kS=some (seqObj "list" (((ds++[d]).map Value.ref).toArray) c2):=⟨_,by rw[<-ea];exact get?_update_seq Bw.1 (·.push (.ref d))⟩
  try dsimp only
  refine aQ (listUpdate_at Bw.1 rfl ?_ (by rw[aae,ZZ,sizeLine_eq];lia) (aat (abU (Array.size_push ..)) (by rw[aae,ZZ,sizeLine_eq];lia)))
  refine Z5 ⟨rfl,H4,ds++[d],c2,λb u z=>Ux _ _ (Ax _ _ z),?_,by rw[Z7,aaL,ar],λi d' n' Z e2=>?_⟩
  ·exact I4.jD (t':=s3.toks) oK (.head _) (λb u nb U=>(sb.2 b nb).trans U) λq Y=>by
    rcases aaa.mp Y with rfl|Y
    ·exact .inl ⟨rfl,bp,λv z=>by cases z⟩
    ·exact .inr ⟨.tail _ Y,pK q Y⟩
  ·by_cases hi:i<ds.length
   ·rw[aav hi]at Z;exact Ux _ _ (ab i d' n' Z e2)
   ·rw[aaC (by lia)]at Z
    have bt:i=j:=by
     have:=(ju.mp Z).1;rw[aaL]at this
     lia
    subst bt;rw[ar,ab6]at Z;have Z:d=d':=by simpa using Z
    rw[NK]at e2;cases e2;rw[<-Z];exact Pu
 ·rintro s' ⟨H3,ds,en,Ax,I3,ar,ab⟩;rw[Nat.zero_add]at ar;have Bw:=I3.pin (kS,_) (iD _ (.head _))
  try dsimp only
  refine aQ (listItems_at Bw.1 rfl ?_);refine Eb I3 oK pK (Ax _ _ xO) rv a7 (by lia) ab hok J3 af λs5 a3 hp Ss I5=>⟨_,rfl,Z5 ⟨_,rfl,?_⟩⟩
  have I6:Inv X pq σ (upd (upd H3 D (.lst [])) D (.lst (a3.map V.int))) s5:=I5.fH λq Y=>I5.pin q (iD _ (.tail _ Y))
  have nD:∀b u,HL b=some u->b≠D:=λb u U z=>by rw[z,aw]at U;cases U
  have Su:∀b u,HL b=some u->upd (upd H3 D (.lst [])) D (.lst (a3.map V.int)) b=some u:=λb u U=>by
   rw[ae (nD b u U),ae (nD b u U)];exact Ax _ _ (at2 _ _ U)
  have I7:=zy I1 hP hc zx a4 I6 (Su _ _ MI) (Su _ _ JZ);refine⟨.ref D,_,I7,rfl,MH D a3 _ (Lf D aw) (zz hP hc zx (oc:=oc) λb u U=>Su b u (by rw[<-Xd];exact U)) ?_ hp Ss⟩
  unfold given;rw[ae (λz=>nD _ _ MI z.symm),ae (λz=>nD _ _ JZ z.symm),af]
end
end L2
namespace RM
section
variable {N:Net}{L:Nat->Int}
def zI(q m m' : Nat):N.par q (m^^^m')=(N.par q m^^N.par q m'):=by
 have e:∀a b:Nat,N.par a b=N.par b a:=λa b=>bE λk _=>Bool.and_comm _ _
 rw[e,mE,e m,e m']
def oO{f:Nat->Bool}:∀{n i:Nat},i<n->(∀k,k<n->k≠i->f k=false)->bL f n=f i
 | 0,i,h,_=>absurd h (aa9 _)
 | n+1,i,h,hz=>by
   show(bL f n^^f n)=f i
   by_cases e:i=n
   ·subst e;rw[iM λk hk=>hz k (by lia) (by lia),abH]
   ·rw[oO (show i<n by lia) λk hk ne=>hz k (by lia) ne,hz n (by lia) (λz=>e z.symm),abf]
def wJ{f:Nat->Bool}:∀{n:Nat},bL f n=true->∃i,i<n/\f i=true
 | 0,h=>by cases h
 | n+1,h=>by
   have h:(bL f n^^f n)=true:=h;cases hf:f n with
   | true=>exact⟨n,by lia,hf⟩
   | false =>
     rw[hf,abf]at h;obtain⟨i,h1,h2⟩:=wJ h;exact⟨i,by lia,h2⟩
def ua(f:Nat->Bool):∀n,bL f (n+1)=(f 0^^bL (λi=>f (i+1)) n)
 | 0=>by
   show(false^^f 0)=(f 0^^false);rw[abH,abf]
 | n+1=>by
   show(bL f (n+1)^^f (n+1))=(f 0^^(bL (λi=>f (i+1)) n^^f (n+1)))
   rw[ua f n,Bool.xor_assoc]
def lW(m:Nat):∀(B:List Nat) (z:Nat),N.par (comb B z) m=bL (λi=>z.testBit i&&N.par (B.getD i 0) m) B.length
 | [],z=>ki m
 | b::B,z=>by
   show N.par ((if z.testBit 0=true then b else 0)^^^comb B (z/2)) m=bL _ (B.length+1)
   rw[mE,lW m B (z/2),ua];have I:N.par (if z.testBit 0=true then b else 0) m=(z.testBit 0&&N.par b m):=by
    cases z.testBit 0 with
    | true=>simp
    | false=>simp[ki]
   rw[I];have O:bL (λi=>(z/2).testBit i&&N.par (B.getD i 0) m) B.length=bL (λi=>z.testBit (i+1)&&N.par ((b::B).getD (i+1) 0) m) B.length:=bE λi _=>by
    rw[abK];rfl
   rw[O];rfl
def len(N:Net)(L:Nat->Int)(r:Nat):Int:=lsum L (λk=>r.testBit k) N.n
structure DP(N:Net)(L:Nat->Int)(bs us:List Nat):Prop where
 lens:bs.length=us.length
 ring:∀b∈bs,N.Ring b/\b<2^N.n
 own:∀(i b w:Nat),bs[i]?=some b->us[i]?=some w->N.par b w=true/\∀r,N.Ring r->r<2^N.n->N.par r w=true->len N L b<=len N L r
 NH:∀(i j b w:Nat),i<j->bs[i]?=some b->us[j]?=some w->N.par b w=false
def DP.start:DP N L [] []:=⟨rfl,λb h=>(abJ h).elim,λi b w h=>(by simp at h),λi j b w _ h=>(by simp at h)⟩
def DP.snoc{bs us:List Nat}{b w:Nat}(h:DP N L bs us)(hr:N.Ring b)(Y:b<2^N.n)(ho:N.par b w=true)(hm:∀r,N.Ring r->r<2^N.n->N.par r w=true->len N L b<=len N L r)(he:∀I∈bs,N.par I w=false):DP N L (bs++[b]) (us++[w]):=by
 have at_:∀{l:List Nat} {x i y:Nat},(l++[x])[i]?=some y->(i<l.length/\l[i]?=some y)\/(i=l.length/\y=x):=λ{l x i y} e=>by
  by_cases hi:i<l.length
  ·rw[aav hi]at e;exact .inl ⟨hi,e⟩
  ·have h2:=(ju.mp e).1;rw[Z7,aaL]at h2;have h3:i=l.length:=by lia
   rw[aaC (by lia),h3,ab6]at e
   exact .inr ⟨h3,(Option.some.inj e).symm⟩
 refine⟨by rw[Z7,Z7,h.lens];rfl,λI hb=>?_,λi I Z h1 h2=>?_,λi j I Z ab h1 h2=>?_⟩
 ·rcases aau.mp hb with z|z
  ·exact h.ring I z
  ·rw[aam.mp z];exact⟨hr,Y⟩
 ·have Y:=h.lens;rcases at_ h1 with⟨l1,O⟩|⟨l1,O⟩<;>rcases at_ h2 with⟨l2,U⟩|⟨l2,U⟩
  ·exact h.own i I Z O U
  ·lia
  ·lia
  ·rw[O,U];exact⟨ho,hm⟩
 ·have Y:=h.lens;rcases at_ h1 with⟨l1,O⟩|⟨l1,O⟩<;>rcases at_ h2 with⟨l2,U⟩|⟨l2,U⟩
  ·exact h.NH i j I Z ab O U
  ·rw[U];exact he I (j7 O)
  ·lia
  ·lia
section
variable {bs us:List Nat}
def DP.at(h:DP N L bs us){i:Nat}(hi:i<bs.length):∃w,us[i]?=some w/\bs[i]?=some (bs.getD i 0):=by
 have h1:i<us.length:=by rw[<-h.lens];exact hi
 exact⟨us[i],Z4 h1,by rw[Z6,Z4 hi];rfl⟩
def xP{f:Nat->Prop}:∀{n i:Nat},i<n->f i->∃l,l<n/\f l/\∀j,l<j->j<n->¬ f j
 | 0,i,h,_=>absurd h (aa9 _)
 | n+1,i,h,hf=>by
   by_cases hn:f n
   ·exact⟨n,by lia,hn,λj h1 h2=>by lia⟩
   ·have hi:i<n:=by
     rcases Nat.lt_or_ge i n with z|z
     ·exact z
     ·have e:i=n:=by lia
      rw[e]at hf;exact absurd hf hn
    obtain⟨l,h1,h2,I⟩:=xP hi hf;refine⟨l,by lia,h2,λj O U=>?_⟩
    by_cases e:j=n
    ·rw[e];exact hn
    ·exact I j O (by lia)
def DP.parts(h:DP N L bs us){z:Nat}(hr:N.Ring (comb bs z))(hl:comb bs z<2^N.n):∀i,i<bs.length->z.testBit i=true->len N L (bs.getD i 0)<=len N L (comb bs z):=by
 intro i hi hz;apply aap;intro hc;obtain⟨l,h1,⟨h2,Z⟩,h4⟩:=xP (f:=λi=>z.testBit i=true/\¬ len N L (bs.getD i 0)<=len N L (comb bs z)) hi ⟨hz,hc⟩
 obtain⟨w,hw,hb⟩:=h.at h1;obtain⟨o1,o2⟩:=h.own l _ w hb hw;have U:=lW (N:=N) w bs z
 by_cases hx:∃j,l<j/\j<bs.length/\z.testBit j=true/\N.par (bs.getD j 0) w=true
 ·obtain⟨j,j1,Y,j3,j4⟩:=hx;obtain⟨_,_,I⟩:=h.at Y;obtain⟨rj,lj⟩:=h.ring _ (j7 I);have k1:=o2 _ rj lj j4;have k2:len N L (bs.getD j 0)<=len N L (comb bs z):=aap λhn=>h4 j j1 Y ⟨j3,hn⟩
  lia
 ·rw[oO (i:=l) h1 (λj hj ne=>?_),h2,o1]at U
  ·exact Z (o2 _ hr hl U)
  ·cases Sv:z.testBit j with
   | false=>rfl
   | true =>
     rcases Nat.lt_or_ge j l with O|ab
     ·obtain⟨_,_,I⟩:=h.at hj;rw[h.NH j l _ w O I hw];rfl
     ·cases Xf:N.par (bs.getD j 0) w with
      | false=>rfl
      | true=>exact absurd ⟨j,by lia,hj,Sv,Xf⟩ hx
def DP.ind(h:DP N L bs us):uR bs:=by
 intro z hz hc;apply aap;intro I;obtain⟨i,hi⟩:=abS I;have Y:=nA hz hi;obtain⟨l,h1,h2,h4⟩:=xP (f:=λi=>z.testBit i=true) Y hi
 obtain⟨w,hw,hb⟩:=h.at h1;obtain⟨o1,_⟩:=h.own l _ w hb hw;have U:=lW (N:=N) w bs z;rw[hc,ki,oO (i:=l) h1 (λj hj ne=>?_),h2,o1]at U
 ·cases U
 ·cases Sv:z.testBit j with
  | false=>rfl
  | true =>
    have O:j<l:=by
     rcases Nat.lt_or_ge j l with z|z
     ·exact z
     ·exact absurd Sv (h4 j (by lia) hj)
    obtain⟨_,_,Z⟩:=h.at hj;rw[h.NH j l _ w O Z hw];rfl
end
def Base.span{rs:List Nat}(h:Base N rs){e:Nat}(he:N.dU e)(hl:e<2^N.n):∃z,z<2^rs.length/\comb rs z=e:=by
 apply sj;apply aap;intro hn;have h1:uR (rs++[e]):=oM.mpr ⟨h.ind,hn⟩;have h2:=Bp (N:=N) h1 (λb hb=>by
  rcases aau.mp hb with z|z
  ·exact⟨(h.ring b z).1.2.1,(h.ring b z).2⟩
  ·rw[aam.mp z];exact⟨he,hl⟩)
 rw[Z7,aaL,h.len]at h2
 lia
def LB(N:Net)(L:Nat->Int)(rs:List Nat):Prop:=Base N rs/\∀r m,N.Ring r->r<2^N.n->N.par r m=true->∃b∈rs,N.par b m=true/\len N L b<=len N L r
def LB.perm{rs rs' : List Nat}(h:LB N L rs)(p:rs'.Perm rs):LB N L rs':=⟨h.1.perm p,λr m h1 h2 I=>let⟨b,hb,q⟩:=h.2 r m h1 h2 I;⟨b,p.mem_iff.mpr hb,q⟩⟩
def DP.least{bs us:List Nat}(h:DP N L bs us)(hl:bs.length=N.aM.length):LB N L bs:=by
 have O:Base N bs:=⟨hl,h.ring,h.ind⟩;refine⟨O,λr m hr I U=>?_⟩
 obtain⟨z,hz,rfl⟩:=O.span hr.2.1 I;rw[lW]at U;obtain⟨i,hi,h1⟩:=wJ U;have h1:=ab0.mp h1;obtain⟨_,_,hb⟩:=h.at hi;exact⟨_,j7 hb,h1.2,h.parts hr I i hi h1.1⟩
structure Wt(N:Net)(bs ws cs:List Nat):Prop where
 lens:ws.length=cs.length
 sum:bs.length+ws.length=N.aM.length
 ch:∀c∈cs,c<N.n/\N.fZ c=false
 lt:∀w∈ws,w<2^N.n
 bits:∀w∈ws,∀k,w.testBit k=true->N.fZ k=false
 own:∀(i j w c:Nat),ws[i]?=some w->cs[j]?=some c->w.testBit c=decide (i=j)
 dO:∀w∈ws,∀b∈bs,N.par b w=false
def Wt.odd{bs ws cs:List Nat}{w:Nat}(h:Wt N bs (w::ws) cs):∃r,N.Ring r/\r<2^N.n/\N.par r w=true:=by
 have U:=h.lens
 match cs,U,h with
 | c::cs,U,h =>
   obtain⟨I,O⟩:=h.ch c aad;refine⟨N.ring c,wq I O,oz I,?_⟩;have e:N.par (N.ring c) w=((N.ring c).testBit c&&w.testBit c):=oO (f:=λk=>(N.ring c).testBit k&&w.testBit k) I λk hk ne=>by
    cases hw:w.testBit k with
    | false=>exact abX _
    | true =>
      have:=kP O (h.bits w aad k hw);rw[this,iK (λz=>ne z.symm)]
      rfl
   rw[e,sX O,h.own 0 0 w c rfl rfl];rfl
def Wt.next{bs ws cs:List Nat}{w b:Nat}(h:Wt N bs (w::ws) cs)(ho:N.par b w=true):∃c I,cs=c::I/\Wt N (bs++[b]) (ws.map λv=>if N.par b v=true then v^^^w else v) I:=by
 have Y:=h.lens
 match cs,Y,h with
 | c::cs,Y,h =>
   refine⟨c,cs,rfl,?_⟩;have hw:=h.lt w aad;have O:∀v∈ws,v∈w::ws:=λv z=>m9 _ z
   refine⟨by rw[ZZ];simpa using Y,?_,λd hd=>h.ch d (m9 _ hd),λZ U=>?_,λZ U k hk=>?_,λi j Z d h1 h2=>?_,λZ U b' ab=>?_⟩
   ·have:=h.sum;rw[aaA]at this;rw[Z7,aaL,ZZ]
    lia
   ·obtain⟨v,m,rfl⟩:=aai.mp U
    split
    ·exact aaM (h.lt v (O v m)) hw
    ·exact h.lt v (O v m)
   ·obtain⟨v,m,rfl⟩:=aai.mp U
    split at hk
    ·rw[Z8]at hk;cases h1:v.testBit k with
     | true=>exact h.bits v (O v m) k h1
     | false =>
       rw[h1,abH]at hk;exact h.bits w aad k hk
    ·exact h.bits v (O v m) k hk
   ·rw[Z9]at h1;obtain⟨v,KQ,rfl⟩:=uT.mp h1;have e1:=h.own (i+1) (j+1) v d (by simpa using KQ) (by simpa using h2)
    have e2:=h.own 0 (j+1) w d rfl (by simpa using h2)
    have e3:decide (i+1=j+1)=decide (i=j):=aaY.mpr (by lia)
    rw[e3]at e1
    split
    ·rw[Z8,e1,e2];simp
    ·exact e1
   ·obtain⟨v,m,rfl⟩:=aai.mp U;rcases aau.mp ab with z|z
    ·have z1:=h.dO v (O v m) b' z;have z2:=h.dO w aad b' z
     split
     ·rw[zI,z1,z2];rfl
     ·exact z1
    ·rw[aam.mp z]
     split
     ·rename_i hp
      rw[zI,hp,ho];rfl
     ·rename_i hp
      cases hq:N.par b v with
      | false=>rfl
      | true=>exact absurd hq hp
def Wt.start(nd:N.aM.Nodup):Wt N [] (N.aM.map λc=>2^c) N.aM:=by
 refine⟨ZZ ..,by rw[ZZ];simp,λc hc=>cX.mp hc,λw hw=>?_,λw hw k hk=>?_,λi j w c h1 h2=>?_,λw _ b hb=>by cases hb⟩
 ·obtain⟨c,hc,rfl⟩:=aai.mp hw;exact aa4 (by decide) (cX.mp hc).1
 ·obtain⟨c,hc,rfl⟩:=aai.mp hw;rw[aal]at hk;rw[<-sC hk];exact(cX.mp hc).2
 ·rw[Z9]at h1;obtain⟨d,hd,rfl⟩:=uT.mp h1;rw[aal];refine aaY.mpr ⟨λz=>?_,λz=>?_⟩
  ·subst z;obtain⟨a1,a2⟩:=ju.mp hd;obtain⟨b1,b2⟩:=ju.mp h2;exact(acp nd).mp (a2.trans b2.symm)
  ·subst z;rw[hd]at h2;exact Option.some.inj h2
inductive CQ(N:Net)(L:Nat->Int)(MT:List Nat):List Nat->List Nat->Prop
 | start:CQ N L MT [] MT
 | step {bs ws:List Nat} {w e:Nat} {z:Int} (h:CQ N L MT bs (w::ws)) (lo:Lo N L w z e):CQ N L MT (bs++[e]) (ws.map λv=>if N.par e v=true then v^^^w else v)
def CQ.uniq(hL:∀k,k<N.n->0<L k){MT bs ws:List Nat}(h:CQ N L MT bs ws):∀{I U:List Nat},CQ N L MT I U->bs.length=I.length->bs=I/\ws=U:=by
 induction h with
 | start =>
   intro I U h' O;cases h' with
   | start=>exact⟨rfl,rfl⟩
   | step h lo=>rw[Z7]at O;simp at O
 | step h lo ih =>
   intro I U h' O;cases h' with
   | start=>rw[Z7]at O;simp at O
   | step h2 lo2 =>
     rw[Z7,Z7]at O;obtain⟨Y,Z⟩:=ih h2 (by simpa using O)
     obtain⟨rfl,rfl⟩:=List.cons.inj Z;obtain⟨_,rfl⟩:=lo.uniq hL lo2;rw[Y];exact⟨rfl,rfl⟩
end
def Kc{A B:List Nat}(hi:uR B)(h:∀b∈B,Sp A b):B.length<=A.length:=by
 have hs:∀z,∃y,y<2^A.length/\comb A y=comb B z:=λz=>sj ((jC B z).mono h)
 refine CN (f:=λz=>Classical.choose (hs z)) (λz _=>(acz (hs z)).1) λz y hz I e=>tO B hi hz I ?_
 have e:Classical.choose (hs z)=Classical.choose (hs y):=e;rw[<-(acz (hs z)).2,<-(acz (hs y)).2,e]
def Hu{B:List Nat}(h:uR B)(i:Nat):uR (B.take i):=by
 have h:=(CM B).mp h;refine(CM _).mpr λj b hj=>?_
 rw[acS]at hj
 split at hj
 ·rename_i I
  have:=h j b hj
  rwa [List.take_take,ab2 (aaZ I)]
 ·cases hj
def Kd(B:List Nat):∃rows,Rw B rows:=by
 suffices h:∀i,∃rows,Rw (B.take i) rows by
  obtain⟨rows,hr⟩:=h B.length;rw[aaV]at hr;exact⟨rows,hr⟩
 intro i
 induction i with
 | zero=>exact⟨[],by rw[List.take_zero];exact .start⟩
 | succ i I =>
   obtain⟨rows,hr⟩:=I;cases hb:B[i]? with
   | none=>exact⟨rows,by rw[aaK,hb,Option.toList_none,abq];exact hr⟩
   | some b =>
     rw[aaK,hb,Option.toList_some]
     by_cases h0:(kq rows b 0).1=0
     ·exact⟨_,hr.skip ((hr.pY b 0).mp h0)⟩
     ·exact⟨_,hr.put h0⟩
section
variable {N:Net}{L:Nat->Int}
def LB.parts{rs:List Nat}(h:LB N L rs){r:Nat}(hr:N.Ring r)(I:r<2^N.n):Sp (rs.filter λb=>decide (len N L b<=len N L r)) r:=by
 obtain⟨z,hz,rfl⟩:=h.1.span hr.2.1 I;obtain⟨rows,hw⟩:=Kd rs;have key:∀i b,rs[i]?=some b->z.testBit i=true->len N L b<=len N L (comb rs z):=λi b hb hi=>by
  have mk:∀j c,rs[j]?=some c->N.par c (Ring.orM (gE rows i))=decide (i=j):=λj c hc=>(hw.marks h.1.ind (λb hb=>(h.1.ring b hb).2) hc).1
  have Y:=(ju.mp hb).1;have e:N.par (comb rs z) (Ring.orM (gE rows i))=true:=by
   rw[lW,oO Y λk hk O=>?_]
   ·rw[hi,abF,Z6,hb];show N.par b _=true;rw[mk i b hb];exact fG rfl
   ·have hc:rs[k]?=some rs[k]:=Z4 hk;rw[Z6,hc];show(_&&N.par rs[k] _)=false;rw[mk k _ hc,iK (λz=>O z.symm),abX]
  obtain⟨c,hc,h1,h2⟩:=h.2 _ _ hr I e;obtain⟨j,hj⟩:=aaF hc;rw[mk j c hj]at h1;have h1:=sC h1;subst h1;rw[hb]at hj;rw[Option.some.inj hj];exact h2
 generalize hx:len N L (comb rs z)=x at key ⊢;clear hx hr I hw h
 suffices hh:∀i,Sp (rs.filter λb=>decide (len N L b<=x)) (comb (rs.take i) z) by
  have:=hh rs.length
  rwa [aaV]at this
 intro i
 induction i with
 | zero=>rw[List.take_zero];exact .zero
 | succ i U =>
   cases hb:rs[i]? with
   | none=>rw[aaK,hb,Option.toList_none,abq];exact U
   | some b =>
     rw[aaK,hb,Option.toList_some,gb];have I:(rs.take i).length=i:=List.length_take_of_le (aaZ (ju.mp hb).1);rw[I]
     split
     ·rename_i hi
      exact U.xor (.mem (aao.mpr ⟨j7 hb,fG (key i b hb hi)⟩))
     ·rw[aaW];exact U
def zJ{A B:List Nat}{f:Nat->Int}(ha:A.Pairwise λx y=>f x<=f y)(hb:B.Pairwise λx y=>f x<=f y)(hi:uR B)(h:∀b∈B,Sp (A.filter λc=>decide (f c<=f b)) b):
 ∀(i a b:Nat),A[i]?=some a->B[i]?=some b->f a<=f b:=by
 intro i a b Z U;apply aap;intro hn;have ab:f b<f a:=Int.not_le.mp hn;have mono:∀{C:List Nat} {i j x y:Nat},C.Pairwise (λx y=>f x<=f y)->C[i]?=some x->C[j]?=some y->i<=j->f x<=f y:=λ{C i j x y} hp h1 h2 I=>by
  obtain⟨l1,e1⟩:=ju.mp h1;obtain⟨l2,e2⟩:=ju.mp h2;rcases Nat.lt_or_eq_of_le I with z|z
  ·rw[<-e1,<-e2];exact ab3.mp hp i j l1 l2 z
  ·subst z;rw[h1]at h2;rw[Option.some.inj h2];exact abd _
 have K1:=(ju.mp U).1;have e:=Kc (A:=A.take i) (Hu hi (i+1)) λc hc=>by
  obtain⟨j,hj⟩:=aaF hc;rw[acS]at hj
  split at hj
  ·rename_i ag
   refine(h c (j7 hj)).mono λd hd=>?_
   obtain⟨hd,Y⟩:=aao.mp hd;have Y:=sC Y;have ar:=mono hb hj U (by lia)
   obtain⟨k,hk⟩:=aaF hd;refine .mem ?_;have O:k<i:=by
    apply aap;intro aw;have:=mono ha Z hk (by lia)
    lia
   exact j7 (i:=k) (by rw[acS,Z1 O];exact hk)
  ·cases hj
 rw[abc,abc]at e
 lia
end
open Ring (maskOf mask_bit mask_lt)
def zK{F:Nat->Bool}{n:Nat}{row:List Nat}(hp:row.Perm (List.range n)):bL F n=row.foldr (λk acc=>F k^^acc) false:=by
 rw[<-pZ F n (hp.nodup_iff.mpr abu) λk hk=>aan.mp (hp.mem_iff.mp hk)]
 exact bE λk hk=>by rw[fG (hp.mem_iff.mpr (aan.mpr hk)),acT]
def Hv{F:Nat->Bool}{f:Nat->Nat}{n:Nat}(hp:((List.range n).map f).Perm (List.range n)):bL (λi=>F (f i)) n=bL F n:=by
 have I:bL F n=_:=zK hp;have O:bL (λi=>F (f i)) n=_:=zK (List.Perm.refl _)
 rw[I,O,List.foldr_map]
structure Az(N N' : Net)(f g:Nat->Nat):Prop where
 n:N'.n=N.n
 p:N'.p=N.p
 fl:∀i,i<N.n->f i<N.n
 gl:∀i,i<N.n->g i<N.n
 fg:∀i,i<N.n->f (g i)=i
 gf:∀i,i<N.n->g (f i)=i
 inc:∀i x,i<N.n->N'.inc i x=N.inc (f i) x
section
variable {N N' : Net}{f g:Nat->Nat}
def Az.symm(h:Az N N' f g):Az N' N g f:=⟨h.n.symm,h.p.symm,by rw[h.n];exact h.gl,by rw[h.n];exact h.fl,by rw[h.n];exact h.gf,by rw[h.n];exact h.fg,λi x hi=>by
 rw[h.n]at hi;rw[h.inc (g i) x (h.gl i hi),h.fg i hi]⟩
def Az.perm(h:Az N N' f g):((List.range N.n).map f).Perm (List.range N.n):=by
 refine(List.perm_ext_iff_of_nodup ?_ abu).mpr λk=>?_
 ·refine aa7.mpr (aa0 (λ{i j} hi hj I e=>?_) abu)
  have:=aas g e;rw[h.gf i (aan.mp hi),h.gf j (aan.mp hj)]at this;exact I this
 ·rw[aai,aan]
  constructor
  ·rintro⟨i,hi,rfl⟩;exact h.fl i (aan.mp hi)
  ·exact λhk=>⟨g k,aan.mpr (h.gl k hk),h.fg k hk⟩
def bI(n:Nat)(f:Nat->Nat)(m:Nat):Nat:=maskOf (λi=>m.testBit (f i)) n
def dP(n:Nat)(f:Nat->Nat)(m i:Nat):(bI n f m).testBit i=(decide (i<n)&&m.testBit (f i)):=mask_bit _ _ _
def mK(n:Nat)(f:Nat->Nat)(m:Nat):bI n f m<2^n:=mask_lt _ _
def Hw(n:Nat)(f:Nat->Nat)(a b:Nat):bI n f (a^^^b)=bI n f a^^^bI n f b:=aaE λi=>by
 rw[Z8,dP,dP,dP,Z8];cases decide (i<n)<;>simp
def kr(n:Nat)(f:Nat->Nat):bI n f 0=0:=aaE λi=>by
 rw[dP,aa3,abX,aa3]
def Az.back(h:Az N N' f g){m:Nat}(hm:m<2^N.n):bI N.n g (bI N.n f m)=m:=aaE λk=>by
 rw[dP,dP]
 by_cases hk:k<N.n
 ·rw[fG hk,fG (h.gl k hk),h.fg k hk];rfl
 ·rw[iK hk,acO];cases hb:m.testBit k with
  | false=>rfl
  | true=>exact absurd (cY hm hb) hk
def Az.dO(h:Az N N' f g){m:Nat}(ev:N.dU m):N'.dU (bI N.n f m):=λx hx=>by
 rw[h.p]at hx;rw[<-ev x hx];unfold Net.bd;rw[h.n,<-Hv (F:=λk=>m.testBit k&&N.inc k x) h.perm]
 exact bE λi hi=>by rw[dP,fG hi,abF,h.inc i x hi]
def Az.ring(h:Az N N' f g){m:Nat}(hm:m<2^N.n)(r:N.Ring m):N'.Ring (bI N.n f m):=by
 refine⟨λe=>r.1 ?_,h.dO r.2.1,λq I ev=>?_⟩
 ·have:=h.back hm;rw[e,kr]at this;exact this.symm
 ·have O:q<2^N.n:=cK λk hk=>by
   have:=I k hk;rw[dP]at this;exact sC (ab0.mp this).1
  have U:N.dU (bI N.n g q):=by
   have:=h.symm.dO ev
   rwa [h.n]at this
  have bk:bI N.n f (bI N.n g q)=q:=by
   have:=h.symm.back (m:=q) (by rw[h.n];exact O)
   rwa [h.n]at this
  rcases r.2.2 (bI N.n g q) (λk hk=>by
   rw[dP]at hk;obtain⟨h1,h2⟩:=ab0.mp hk;have:=I _ h2;rw[dP,h.fg k (sC h1)]at this;exact(ab0.mp this).2) U with e | e
  ·rw[e,kr]at bk;exact .inl bk.symm
  ·rw[e]at bk;exact .inr bk.symm
def wK(n:Nat)(f:Nat->Nat):∀(B:List Nat) (z:Nat),comb (B.map (bI n f)) z=bI n f (comb B z)
 | [],_=>(kr n f).symm
 | b::B,z=>by
   show(if z.testBit 0=true then bI n f b else 0)^^^comb (B.map (bI n f)) (z/2)=bI n f ((if z.testBit 0=true then b else 0)^^^comb B (z/2))
   rw[Hw,wK n f B]
   split
   ·rfl
   ·rw[kr]
def Az.ind(h:Az N N' f g){B:List Nat}(hl:∀b∈B,b<2^N.n)(hi:uR B):uR (B.map (bI N.n f)):=λz hz e=>by
 rw[ZZ]at hz;rw[wK]at e;refine hi z hz ?_;have:=h.back (m:=comb B z) ((jC B z).lt hl);rw[e,kr]at this;exact this.symm
end
end RM
namespace Ring
open PySem L2
def iB(ts:List cJ)(row:List Nat):List cJ:=row.map (bj ts)
def Ec{a b:List Int}(h:a.Perm b):a.sum=b.sum:=by
 induction h with
 | nil=>rfl
 | cons x _ I=>rw[ab1,ab1,I]
 | swap x y l=>rw[ab1,ab1,ab1,ab1];lia
 | trans _ _ h1 h2=>exact h1.trans h2
section
variable {p:Nat}{ts:List cJ}{row:List Nat}
def CS{i:Nat}(hi:i<row.length):bj (iB ts row) i=bj ts (row.getD i 0):=by
 have e:row.getD i 0=row[i]:=by rw[Z6,Z4 hi];rfl
 rw[e];show(row.map (bj ts)).getD i _=_;rw[Z6,Z9,Z4 hi];rfl
def Hx(g:aD p ts)(hr:row.Perm (List.range ts.length))(g' : aD p (iB ts row)):RM.Az g.N g'.N (λi=>row.getD i 0) (λk=>row.idxOf k):=by
 have I:row.length=ts.length:=by rw[hr.length_eq,aax]
 have al:(iB ts row).length=ts.length:=by unfold iB;rw[ZZ,I]
 have nd:row.Nodup:=hr.nodup_iff.mpr abu;have get:∀i,i<ts.length->row.getD i 0∈row:=λi hi=>by
  rw[Z6,Z4 (by lia)]
  exact acs _
 have mem:∀k,k<ts.length->k∈row:=λk hk=>hr.mem_iff.mpr (aan.mpr hk)
 refine⟨al,rfl,λi hi=>aan.mp (hr.mem_iff.mp (get i hi)),λk hk=>?_,λk hk=>?_,λi hi=>?_,λi x hi=>?_⟩
 ·have:=List.idxOf_lt_length_of_mem (mem k hk);show row.idxOf k<ts.length
  lia
 ·have:=List.idxOf_lt_length_of_mem (mem k hk);show row.getD (row.idxOf k) 0=k;rw[Z6,Z4 this];exact List.getElem_idxOf this
 ·show row.idxOf (row.getD i 0)=i;have hi:i<row.length:=by have:i<ts.length:=hi;lia
  rw[Z6,Z4 hi];exact List.Nodup.idxOf_getElem nd i hi
 ·have hi:i<row.length:=by have:i<ts.length:=hi;lia
  have e:=CS (ts:=ts) hi;show(decide ((bj (iB ts row) i).1.toNat=x)^^decide ((bj (iB ts row) i).2.1.toNat=x))=(decide ((bj ts (row.getD i 0)).1.toNat=x)^^decide ((bj ts (row.getD i 0)).2.1.toNat=x));rw[e]
def Ed(hr:row.Perm (List.range ts.length)){m:Nat}(hm:m<2^ts.length):lenOf (iB ts row) (RM.bI ts.length (λi=>row.getD i 0) m)=lenOf ts m:=by
 have O:row.length=ts.length:=by rw[hr.length_eq,aax]
 have al:(iB ts row).length=ts.length:=by unfold iB;rw[ZZ,O]
 have U:lenOf ts m=(((List.range ts.length).filter λk=>m.testBit k).map λk=>(bj ts k).2.2).sum:=by
  unfold lenOf;rw[i7 hm]
 have I : RM.bI ts.length (λi=>row.getD i 0) m<2^ts.length:=RM.mK _ _ _
 have Y:lenOf (iB ts row) (RM.bI ts.length (λi=>row.getD i 0) m)=(((List.range ts.length).filter λi=>m.testBit (row.getD i 0)).map λi=>(bj ts (row.getD i 0)).2.2).sum:=by
  unfold lenOf;rw[i7 I];have f1:((List.range ts.length).filter λk=>(RM.bI ts.length (λi=>row.getD i 0) m).testBit k)=(List.range ts.length).filter λi=>m.testBit (row.getD i 0):=List.filter_congr λi hi=>by
   rw[RM.dP,fG (aan.mp hi),abF]
  rw[f1]
  congr 1
  refine List.map_congr_left λi hi=>?_
  have hi:=aan.mp (aao.mp hi).1;rw[CS (by lia)]
 have Z:row=(List.range ts.length).map λi=>row.getD i 0:=by
  refine acu (by rw[ZZ,aax,O]) λi a b=>?_
  rw[acv,List.getElem_range,Z6,Z4 a];rfl
 have e4:(row.filter λk=>m.testBit k).map (λk=>(bj ts k).2.2)=((List.range ts.length).filter λi=>m.testBit (row.getD i 0)).map λi=>(bj ts (row.getD i 0)).2.2:=by
  conv=>lhs;rw[Z]
  rw[List.filter_map,abk];rfl
 rw[U,Y,<-e4];exact Ec ((hr.filter _).map _)
end
end Ring
namespace RM
structure Ext(N N' : Net):Prop where
 n:N'.n=N.n+1
 p:N'.p=N.p
 a:∀k,k<N.n->N'.a k=N.a k
 b:∀k,k<N.n->N'.b k=N.b k
section
variable {N N' : Net}
def Ext.bd(h:Ext N N'){m:Nat}(hm:m<2^N.n)(x:Nat):N'.bd m x=N.bd m x:=by
 unfold Net.bd;rw[h.n];show(bL _ N.n^^(m.testBit N.n&&N'.inc N.n x))=_;rw[aaH hm,acO,abf];exact bE λk hk=>by unfold Net.inc;rw[h.a k hk,h.b k hk]
def Ext.dO(h:Ext N N'){m:Nat}(hm:m<2^N.n):N'.dU m↔N.dU m:=by
 unfold Net.dU;rw[h.p];exact⟨λz x hx=>by rw[<-h.bd hm];exact z x hx,λz x hx=>by rw[h.bd hm];exact z x hx⟩
def sub_lt{q m n:Nat}(hm:m<2^n)(h:∀k,q.testBit k=true->m.testBit k=true):q<2^n:=cK λk hk=>cY hm (h k hk)
def Ext.ring(h:Ext N N'){m:Nat}(hm:m<2^N.n):N'.Ring m↔N.Ring m :=
 ⟨λ⟨z,e,r⟩=>⟨z,(h.dO hm).mp e,λq I eq=>r q I ((h.dO (sub_lt hm I)).mpr eq)⟩,λ⟨z,e,r⟩=>⟨z,(h.dO hm).mpr e,λq I eq=>r q I ((h.dO (sub_lt hm I)).mp eq)⟩⟩
def Ext.cy(h:Ext N N'):∀k,k<=N.n->N'.cy k=N.cy k
 | 0,_=>rfl
 | k+1,hk=>by
   have I:=h.cy k (by lia)
   have e:N'.fZ k=N.fZ k:=by unfold Net.fZ;rw[I,h.a k (by lia),h.b k (by lia)]
   rw[oq,oq,e,I,h.a k (by lia),h.b k (by lia)]
def Ext.fZ(h:Ext N N'){k:Nat}(hk:k<N.n):N'.fZ k=N.fZ k:=by unfold Net.fZ;rw[h.cy k (by lia),h.a k hk,h.b k hk]
def Ext.aM(h:Ext N N'):N'.aM.length=N.aM.length+if N'.fZ N.n=true then 0 else 1:=by
 rw[nk,nk,h.n];show cnt _ N.n+_=_;rw[mC λk hk=>by rw[h.fZ hk]]
 by_cases I:N'.fZ N.n=true
 ·rw[Z0 (by show ¬(!N'.fZ N.n)=true;rw[I];decide),Z1 I]
 ·rw[Z1 (by simpa using I),Z0 I]
def more_le{M:Net}{f g:Nat->Nat}(h:Ext N N')(i:Az N' M f g){L L' : Nat->Int}{rs I : List Nat}{l l' : Nat->Int}(lb:LB N L rs)(lb' : LB M L' I)(e' : ∀r,r<2^N'.n->len M L' r=l' r)(el:∀r,r<2^N.n->l' (bI N'.n f r)=l r)
 (pw:rs.Pairwise λx y=>l x<=l y) (Lg:I.Pairwise λx y=>l' x<=l' y):I.length=rs.length+(if N'.fZ N.n=true then 0 else 1)/\∀(i a b:Nat),I[i]?=some a->rs[i]?=some b->l' a<=l b:=by
 have U : N.n<N'.n:=by rw[h.n];lia
 have lt:∀b∈rs,b<2^N.n:=λb hb=>(lb.1.ring b hb).2
 have up:∀{b},b<2^N.n->b<2^N'.n:=λhb=>Nat.lt_trans hb (aa4 (by decide) U)
 have O:∀b∈rs,b<2^N'.n:=λb hb=>up (lt b hb)
 have Y:∀b∈rs,N'.Ring b:=λb hb=>(h.ring (lt b hb)).mpr (lb.1.ring b hb).1
 have Z:∀b∈I,b<2^M.n:=λb hb=>(lb'.1.ring b hb).2
 have hI:=i.ind O lb.1.ind;have big:N'.aM.length<=M.aM.length:=by
  have key:∀B:List Nat,uR B->(∀b∈B,N'.dU b/\b<2^N'.n)->B.length<=M.aM.length:=λB hB hb=>by
   have:=Bp (N:=M) (i.ind (λb z=>(hb b z).2) hB) λc hc=>by
    obtain⟨b,z,rfl⟩:=aai.mp hc;exact⟨i.dO (hb b z).1,by rw[i.n];exact mK _ _ _⟩
   rwa [ZZ]at this
  rw[h.aM];cases hF:N'.fZ N.n with
  | true =>
    have:=key rs lb.1.ind λb hb=>⟨(Y b hb).2.1,O b hb⟩
    rw[lb.1.len]at this;exact this
  | false =>
    have hb:(N'.ring N.n).testBit N.n=true:=by rw[kP hF hF];exact fG rfl
    have:=key (N'.ring N.n::rs) (jf.mpr ⟨lb.1.ind,λsp=>by
     have:=sp.lt lt;rw[aaH this]at hb;cases hb⟩) λb hb=>by
      rcases aaa.mp hb with rfl|hb
      ·exact⟨kh U,oz U⟩
      ·exact⟨(Y b hb).2.1,O b hb⟩
    rw[aaA,lb.1.len]at this;exact this
 have small:M.aM.length<=N'.aM.length:=by
  have j:=i.symm;have:=Bp (N:=N') (j.ind Z lb'.1.ind) λc hc=>by
   obtain⟨b,z,rfl⟩:=aai.mp hc;exact⟨j.dO (lb'.1.ring b z).1.2.1,by rw[<-i.n];exact mK _ _ _⟩
  rw[ZZ,lb'.1.len]at this;exact this
 refine⟨by rw[lb'.1.len,lb.1.len,<-h.aM];lia,λk a b ha hb=>?_⟩
 have sp:∀b∈rs.map (bI N'.n f),Sp (I.filter λc=>decide (l' c<=l' b)) b:=λb hb=>by
  obtain⟨r,hr,rfl⟩:=aai.mp hb;refine(lb'.parts (i.ring (O r hr) (Y r hr)) (by rw[i.n];exact mK _ _ _)).mono λc hc=>.mem ?_
  obtain⟨c1,c2⟩:=aao.mp hc;refine aao.mpr ⟨c1,?_⟩
  rwa [e' c (by rw[<-i.n];exact Z c c1),e' _ (mK _ _ _)]at c2
 have:=zJ (f:=l') Lg (aa7.mpr (aa0 (λ{x y} hx hy h=>by rw[el x (lt x hx),el y (lt y hy)];exact h) pw)) hI sp k a (bI N'.n f b) ha (by rw[Z9,hb];rfl)
 rwa [el b (lt b (j7 hb))]at this
def Ke{M:Net}{f g:Nat->Nat}(h:Ext N N')(i:Az N' M f g)(hF:N'.fZ N.n=true){L L' : Nat->Int}{rs I : List Nat}{l l' : Nat->Int}(lb:LB N L rs)(lb' : LB M L' I)(e:∀r,r<2^N.n->len N L r=l r)(eb:∀r,r<2^M.n->bI N'.n g r<2^N.n->l (bI N'.n g r)=l' r)
 (pw:rs.Pairwise λx y=>l x<=l y) (Lg:I.Pairwise λx y=>l' x<=l' y):∀(i a b:Nat),rs[i]?=some a->I[i]?=some b->l a<=l' b:=by
 have n' : N.n<N'.n:=by rw[h.n];lia
 have lt:∀b∈rs,b<2^N.n:=λb hb=>(lb.1.ring b hb).2
 have U:∀b∈I,b<2^M.n:=λb hb=>(lb'.1.ring b hb).2
 have ba:Base N' rs:=⟨by rw[lb.1.len,h.aM,hF];rfl,λr hr=>⟨(h.ring (lt r hr)).mpr (lb.1.ring r hr).1,Nat.lt_trans (lt r hr) (aa4 (by decide) n')⟩,lb.1.ind⟩
 have j:=i.symm;have Y:∀r,bI M.n g r=bI N'.n g r:=λr=>by rw[i.n]
 have low:∀b∈I,bI N'.n g b<2^N.n/\N.Ring (bI N'.n g b):=λb hb=>by
  have Z:=j.ring (U b hb) (lb'.1.ring b hb).1;rw[Y]at Z;obtain⟨z,_,hz⟩:=ba.span Z.2.1 (mK _ _ _);have hl:bI N'.n g b<2^N.n:=by rw[<-hz];exact(jC rs z).lt lt
  exact⟨hl,(h.ring hl).mp Z⟩
 have hI:=j.ind U lb'.1.ind;have sp:∀b∈I.map (bI M.n g),Sp (rs.filter λc=>decide (l c<=l b)) b:=λb hb=>by
  obtain⟨r,hr,rfl⟩:=aai.mp hb;rw[Y];obtain⟨h1,h2⟩:=low r hr;refine(lb.parts h2 h1).mono λc hc=>.mem ?_
  obtain⟨c1,c2⟩:=aao.mp hc;refine aao.mpr ⟨c1,?_⟩
  rwa [e c (lt c c1),e _ h1]at c2
 have O : ∀b∈I,l (bI M.n g b)=l' b:=λb hb=>by rw[Y];exact eb b (U b hb) (low b hb).1
 intro k a b ha hb;have:=zJ (f:=l) pw (aa7.mpr (aa0 (λ{x y} hx hy h=>by rw[O x hx,O y hy];exact h) Lg)) hI sp k a (bI M.n g b) ha (by rw[Z9,hb];rfl)
 rwa [O b (j7 hb)]at this
end
end RM
namespace L2
open PySem
def uc{lo:Int}{n:Nat}{g:TG}{tb:TS}{D:Ends}{σ:St}{H:Hp}(Pv:Nat->St->Hp->Prop)(h0:Pv 0 σ H)
 (hs:∀i,let I : Ends:={ D with nx:=Pv (i+1),ct:=Pv (i+1),bk:=D.nx};∀σ H,i<n->Pv i σ H->g (.int (lo+i)) σ H λσ2 H2=>tb I σ2 H2) (hd:∀σ H,Pv n σ H->D.nx σ H) :
 ∃W:Nat->Nat->St->Hp->Prop,(∃m,W 0 m σ H)/\∀i m σ H,W i m σ H->
   ((II lo n).stop i H/\D.nx σ H)\/((II lo n).go i H/\∃N:St->Hp->Prop,(∀σ' H',N σ' H'->∃m',m'<m/\W (i+1) m' σ' H')/\∀x H',(II lo n).IG i H x H'->g x σ H' λσ2 H2=>tb { D with nx:=N,ct:=N,bk:=D.nx} σ2 H2) :=
 Dh Pv h0 (λi σ H hi p=>hs i σ H hi p) hd
def iS{K:bH}{a:Addr}{xs:List V}{g:TG}{tb:TS}{D:Ends}{σ:St}{H:Hp}(Pv:Nat->St->Hp->Prop)(h0:Pv 0 σ H)(hl:∀i σ H,i<=xs.length->Pv i σ H->aV K H a xs)
 (hs:∀i x,let I : Ends:={ D with nx:=Pv (i+1),ct:=Pv (i+1),bk:=D.nx};∀σ H,xs[i]?=some x->Pv i σ H->g x σ H λσ2 H2=>tb I σ2 H2) (hd:∀σ H,Pv xs.length σ H->D.nx σ H) :
 ∃W:Nat->Nat->St->Hp->Prop,(∃m,W 0 m σ H)/\∀i m σ H,W i m σ H->
   ((IT K a).stop i H/\D.nx σ H)\/((IT K a).go i H/\∃N:St->Hp->Prop,(∀σ' H',N σ' H'->∃m',m'<m/\W (i+1) m' σ' H')/\∀x H',(IT K a).IG i H x H'->g x σ H' λσ2 H2=>tb { D with nx:=N,ct:=N,bk:=D.nx} σ2 H2) :=
 sL Pv h0 hl (λi x σ H hi p=>hs i x σ H hi p) hd
def E6{X:Cx}{e:Expr}{T:String}{r:V->List V->Hp->VK->Prop}{to:TE}{t:TA}(K:bH)(p:PE X e (RP X.K T r to t))(h:X.K=K:=by rfl):PE X e (RP K T r to t):=by subst h;exact p
def Px{X:Cx}{e:Expr}{T:String}{r:V->List V->Hp->VK->Prop}{to:TE}(K:bH)(p:PE X e (LY X.K T r to))(h:X.K=K:=by rfl):PE X e (LY K T r to):=by subst h;exact p
def eG{K:bH}{H:Hp}{a:Addr}{xs:List V}{k:Int}{v:V}{R:V->Prop}(hs:bf K H a xs)(ha:Ci xs k=some v)(q:R v):∃p ys I w,V.ref a = .ref p/\V.int k = .int I/\bf K H p ys/\Ci ys I = some w/\R w:=⟨a,xs,k,v,rfl,rfl,hs,ha,q⟩
def mX{K:bH}{H:Hp}{a:Addr}{xs:List V}{k:Int}{v:V}{R:V->Prop}(hs:aV K H a xs)(ha:Ci xs k=some v)(q:R v):∃p ys I w,V.ref a = .ref p/\V.int k = .int I/\aV K H p ys/\Ci ys I = some w/\R w:=⟨a,xs,k,v,rfl,rfl,hs,ha,q⟩
def dB{i j:Int}{R:Int->Int->Prop}(h:R i j):∃I O,V.int i = .int I/\V.int j = .int O/\R I O:=⟨i,j,rfl,rfl,h⟩
def uS{K:bH}{H:Hp}{a:Addr}{xs:List V}{E:Addr->Prop}{R:List V->Prop}(e:E a)(h:aV K H a xs\/bf K H a xs)(q:R xs):∃p ys,E p/\(aV K H p ys\/bf K H p ys)/\R ys:=⟨a,xs,e,h,q⟩
def au{α:Type}{A R:α->Prop}{x:α}(h:A x)(r:R x):∃x,A x/\R x:=⟨x,h,r⟩
open PySem PySem.Spec PyProof.Rows
section
variable {K:bH}{mg:lE}{x:Str}{st:Stmt}{f c0 p0:Addr}{fd:FuncData}{ps:List Str}{h:Heap}
structure Dc(K:bH)(mg:lE)(x:Str)(f:Addr)(fd:FuncData)(ps:List Str):Prop where
 m:mg x=some (.ref f)
 k:PySem.W.keepIn K (.ref f)=true
 b:Binds K fd ps []
structure Dk(K:bH)(x:Str)(st:Stmt)(f:Addr)(fd:FuncData):Prop where
 F:pJ K x x st f fd
 n:PySem.W.nsIn K mainGlobals x=some (some (.ref f))
structure MU(K:bH)(x:Str)(st:Stmt)(f:Addr)(fd:FuncData)(c0 p0:Addr):Prop where
 F:Bs K x x st f fd c0 p0
 n:PySem.W.nsIn K mainGlobals x=some (some (.ref f))
structure Dn(K:bH)(mg:lE)(x:Str)(st:Stmt)(f:Addr)(fd:FuncData)(ps:List Str):Prop where
 F:pJ K x x st f fd
 c:Dc K mg x f fd ps
structure Lh(K:bH)(mg:lE)(x:Str)(st:Stmt)(f:Addr)(fd:FuncData)(ps:List Str)(c0 p0:Addr):Prop where
 F:Bs K x x st f fd c0 p0
 c:Dc K mg x f fd ps
def dk{oc:Value}{od an:Option Addr}{osl:Array (Option Value)}{kV doc pm cdv ct:Value}(a:PySem.W.nsIn K mainGlobals x=some (some (.ref f)))
 (l:K.lookup f=some ⟨oc,od,.func (PySem.W.fnOf x x (dI st) (bV st) (aj st) .none kV doc pm an cdv ct),osl⟩) (c:PySem.W.codeIn K cdv x=true) (k:PySem.W.keepIn K (.ref f)=true) :
 Dk K x st f (PySem.W.fnOf x x (dI st) (bV st) (aj st) .none kV doc pm an cdv ct):=⟨jQ l c k,a⟩
def Xi{oc:Value}{od an:Option Addr}{osl:Array (Option Value)}{kV doc pm ct:Value}(a:PySem.W.nsIn K mainGlobals x=some (some (.ref f)))
 (l:K.lookup f=some ⟨oc,od,.func (PySem.W.fnOf x x (dI st) (bV st) (aj st) .none kV doc pm an (.ref c0) ct),osl⟩) (c:PySem.W.codeIn K (.ref c0) x=true) (k:PySem.W.keepIn K (.ref f)=true) (d:PySem.W.codeHdIn K c0 p0=true) :
 MU K x st f (PySem.W.fnOf x x (dI st) (bV st) (aj st) .none kV doc pm an (.ref c0) ct) c0 p0:=⟨J8 l c k d,a⟩
structure Ng(K:bH)(x:Str):Prop where
 n:PySem.W.nsIn K mainGlobals x=some none
def Bn(x:Str)(st:Stmt)(ps:List Str)(us:List Value):Prop:=∀(kV doc pm:Value) (an:Option Addr) (cdv ct:Value),bindArgs (PySem.W.fnOf x x (dI st) (bV st) (aj st) .none kV doc pm an cdv ct) ⟨us,[]⟩=pure (ps.zip us)
def Li(h:∀us:List Value,us.length=ps.length->Bn x st ps us)(kV doc pm:Value)(an:Option Addr)(cdv ct:Value)(us:List Value)(hl:us.length=ps.length):
 bindArgs (PySem.W.fnOf x x (dI st) (bV st) (aj st) .none kV doc pm an cdv ct) ⟨us,[]⟩=pure (ps.zip us):=h us hl kV doc pm an cdv ct
def Dk.dn(X:K.In h)(G:h.Ns mainGlobals mg)(D:Dk K x st f fd)(hb:∀us:List Value,us.length=ps.length->Bn x st ps us):Dn K mg x st f fd ps:=⟨D.F,PySem.W.mg_of X G D.n,D.F.kp,D.F.binds (Li hb)⟩
def MU.dn(X:K.In h)(G:h.Ns mainGlobals mg)(D:MU K x st f fd c0 p0)(hb:∀us:List Value,us.length=ps.length->Bn x st ps us):Lh K mg x st f fd ps c0 p0:=⟨D.F,PySem.W.mg_of X G D.n,D.F.kp,D.F.binds (Li hb)⟩
def Xj{y:Str}(h:∀a,Bn x st [y] [a])(us:List Value)(hl:us.length=[y].length):Bn x st [y] us:=by obtain⟨_,rfl⟩:=A2 us hl;exact h _
def Uy{y z:Str}(h:∀a b,Bn x st [y,z] [a,b])(us:List Value)(hl:us.length=[y,z].length):Bn x st [y,z] us:=by obtain⟨_,_,rfl⟩:=Mh us hl;exact h _ _
def Uz{y z u:Str}(h:∀a b c,Bn x st [y,z,u] [a,b,c])(us:List Value)(hl:us.length=[y,z,u].length):Bn x st [y,z,u] us:=by obtain⟨_,_,_,rfl⟩:=R6 us hl;exact h _ _ _
def Ef{y:Str}(X:K.In h)(G:h.Ns mainGlobals mg)(D:Dk K x st f fd)(e:∀a,Bn x st [y] [a]:=by intros;exact λ_ _ _ _ _ _=>rfl):Dn K mg x st f fd [y]:=D.dn X G (Xj e)
def ud{y z:Str}(X:K.In h)(G:h.Ns mainGlobals mg)(D:Dk K x st f fd)(e:∀a b,Bn x st [y,z] [a,b]:=by intros;exact λ_ _ _ _ _ _=>rfl):Dn K mg x st f fd [y,z]:=D.dn X G (Uy e)
def QU{y z u:Str}(X:K.In h)(G:h.Ns mainGlobals mg)(D:Dk K x st f fd)(e:∀a b c,Bn x st [y,z,u] [a,b,c]:=by intros;exact λ_ _ _ _ _ _=>rfl):Dn K mg x st f fd [y,z,u]:=D.dn X G (Uz e)
def Xk{y z:Str}(X:K.In h)(G:h.Ns mainGlobals mg)(D:MU K x st f fd c0 p0)(e:∀a b,Bn x st [y,z] [a,b]:=by intros;exact λ_ _ _ _ _ _=>rfl):Lh K mg x st f fd [y,z] c0 p0:=D.dn X G (Uy e)
def Xl{y z u:Str}(X:K.In h)(G:h.Ns mainGlobals mg)(D:MU K x st f fd c0 p0)(e:∀a b c,Bn x st [y,z,u] [a,b,c]:=by intros;exact λ_ _ _ _ _ _=>rfl):Lh K mg x st f fd [y,z,u] c0 p0:=D.dn X G (Uz e)
def Dn.ok{P:Program}{w:World}{base:Heap}{N:List Str}{k:Nat}{sp:Sp}(D:Dn K mg x st f fd ps)(S:aC N ps (aj st))
 (hbody:∀(cdv:Value) (A:Around) (outer:List Env) (s:Shared) (H:Hp) (vs:List V) (Q:VK) (E:XK),cW k (A.deeper (envOfC x (aj st) s.heap.objs.size f cdv))->sp vs H Q E->
  ∃t,uU (rq sO P w K mg base N x (aj st) f cdv A outer s H E).Av (bV st) t/\t { nx:=λ_ H'=>Q .dH H',rt:=Q} (start N vs) H)
 (len:∀vs H Q E,sp vs H Q E->vs.length=ps.length:=by
  intro vs H Q E h
  first
  | (obtain⟨_,rfl,_⟩:=h;rfl)
  | (obtain⟨_,_,rfl,_⟩:=h;rfl)
  | (obtain⟨_,_,_,rfl,_⟩:=h;rfl)
  | (obtain⟨_,_,_,_,rfl,_⟩:=h;rfl)
  | (obtain⟨_,_,_,_,_,rfl,_⟩:=h;rfl)
  | (obtain⟨_,_,_,_,_,_,rfl,_⟩:=h;rfl)
  | (obtain⟨_,_,_,_,_,_,_,rfl,_⟩:=h;rfl)
  | (obtain⟨_,_,_,_,_,_,_,_,rfl,_⟩:=h;rfl)
  | (obtain⟨_,_,_,_,_,_,_,_,_,rfl,_⟩:=h;rfl)):fF P w K mg base sO (k+1) f fd ps sp:=D.F.ok S len hbody
def Lh.ok{P:Program}{w:World}{base:Heap}{N:List Str}{k:Nat}{sp:Sp}(D:Lh K mg x st f fd ps c0 p0)(S:aC N ps (aj st))
 (hbody:∀(A:Around) (outer:List Env) (s:Shared) (H:Hp) (vs:List V) (Q:VK) (E:XK),cW k (A.deeper (envOfC x (aj st) s.heap.objs.size f (.ref c0)))->sp vs H Q E->
  ∃t,uU (rq sO P w K mg base N x (aj st) f (.ref c0) A outer s H E).Av (bV st) t/\t { nx:=λ_ H'=>Q .dH H',rt:=Q} (start N vs) H)
 (len:∀vs H Q E,sp vs H Q E->vs.length=ps.length:=by
  intro vs H Q E h
  first
  | (obtain⟨_,rfl,_⟩:=h;rfl)
  | (obtain⟨_,_,rfl,_⟩:=h;rfl)
  | (obtain⟨_,_,_,rfl,_⟩:=h;rfl)
  | (obtain⟨_,_,_,_,rfl,_⟩:=h;rfl)
  | (obtain⟨_,_,_,_,_,rfl,_⟩:=h;rfl)
  | (obtain⟨_,_,_,_,_,_,rfl,_⟩:=h;rfl)
  | (obtain⟨_,_,_,_,_,_,_,rfl,_⟩:=h;rfl)
  | (obtain⟨_,_,_,_,_,_,_,_,rfl,_⟩:=h;rfl)
  | (obtain⟨_,_,_,_,_,_,_,_,_,rfl,_⟩:=h;rfl)):fF P w K mg base sO (k+1) f fd ps sp:=D.F.ok S len hbody
def Dn.Jq{P:Program}{w:World}{base:Heap}{N:List Str}{k:Nat}{sp:Sp}(D:Dn K mg x st f fd ps)(S:aC N ps (aj st))
 (hbody:∀(cdv:Value) (A:Around) (outer:List Env) (s:Shared) (H:Hp) (vs:List V) (Q:VK) (E:XK),cW k (A.deeper (envOfC x (aj st) s.heap.objs.size f cdv))->sp vs H Q E->
  ∃t,uU (rq (F5 P w) P w K mg base N x (aj st) f cdv A outer s H E) (bV st) t/\t { nx:=λ_ H'=>Q .dH H',rt:=Q} (start N vs) H)
 (len:∀vs H Q E,sp vs H Q E->vs.length=ps.length:=by
  intro vs H Q E h
  first
  | (obtain⟨_,rfl,_⟩:=h;rfl)
  | (obtain⟨_,_,rfl,_⟩:=h;rfl)
  | (obtain⟨_,_,_,rfl,_⟩:=h;rfl)
  | (obtain⟨_,_,_,_,rfl,_⟩:=h;rfl)
  | (obtain⟨_,_,_,_,_,rfl,_⟩:=h;rfl)
  | (obtain⟨_,_,_,_,_,_,rfl,_⟩:=h;rfl)
  | (obtain⟨_,_,_,_,_,_,_,rfl,_⟩:=h;rfl)
  | (obtain⟨_,_,_,_,_,_,_,_,rfl,_⟩:=h;rfl)
  | (obtain⟨_,_,_,_,_,_,_,_,_,rfl,_⟩:=h;rfl)):fF P w K mg base (F5 P w) (k+1) f fd ps sp:=D.F.Jq S len hbody
def MV{y:Str}(D:Dk K x st f fd)(e:∀a,Bn x st [y] [a]:=by intros;exact λ_ _ _ _ _ _=>rfl)(s:Shared)(v:Value):BindsTo s fd ⟨[v],[]⟩ [(y,v)]:=by
 obtain⟨oc,od,kV,doc,pm,an,cdv,ct,osl,rfl,O,I⟩:=D.F.ex;exact .of_eq (e v kV doc pm an cdv ct)
end
section
variable {X:Cx}
def aO{CX:EZ}{k r:Nat}{f:Addr}{fd:FuncData}{ps:List Str}{sp:Sp}{x:Str}{E:XK}{e:Expr}{es:List Expr}{t:TA}{p pos:Pos}
 (F:fF X.prog X.w X.K X.mg X.base CX k f fd ps sp) (hr:cW r X.A) (D:Dc X.K X.mg x f fd ps) (hx:Passes CX X E) (ha:PA X (e::es) t) (hk:k<=r:=by decide) (hg:Gl X x:=by rfl)
 (hdb:(x==("__debug__":Str))=false:=by decide) (he:starEach (e::es) X.env=(false,eval e X.env)::starEach es X.env:=by rfl) (hpl:(backTo pos (starEach es X.env)).any (·.1)=false:=by rfl) :
 PE X (.Call (.Name x p) (e::es) [] pos) (KO sp [] E t):=Ja F (hr.mono hk) hg D.m D.k D.b .nil hx ha hdb he hpl
def ue(l:List Str)(h:l.Nodup:=by decide +kernel):l.Nodup:=h
def cL{p pos:Pos}{e:Expr}{es:List Expr}{t:TA}(K:bH)(hm:X.mg "len"=none)(ha:PA X (e::es) t)(hK:X.K=K:=by rfl)(hg:Gl X "len":=by rfl)
 (he:starEach (e::es) X.env=(false,eval e X.env)::starEach es X.env:=by rfl) (hpl:(backTo pos (starEach es X.env)).any (·.1)=false:=by rfl):PE X (.Call (.Name "len" p) (e::es) [] pos) (RJ (OQ K) t) :=
 eN (RW K hK) hg hm PySem.boot_len ha (by decide) (by decide) he hpl
def aK{a b:Expr}{ta tb:TE}{pos:Pos}{r:R2}(hr:Dt X r)(ha:PE X a ta)(hb:PE X b tb)(hs:Ck b:=by exact λ_ _=>rfl):PE X (.Subscript a b pos) (Of r ta tb):=Oz hr ha hb hs
def cE{x:Str}{pos:Pos}(i:Nat)(hN:X.N.Nodup)(hi:X.N[i]?=some x:=by exact rfl)(hx:Loc X.env.scope x:=by exact Or.inl rfl)(hf:X.fn x=true\/X.env.scope.names.lookup x=some .local:=by first | exact .inl rfl | exact .inr rfl | assumption):PG X (.Name x pos) (Fg i):=B9 hN hi hx hf
end
end L2
set_option maxHeartbeats 4000000
namespace K56
open PySem L2 Ring
local macro_rules | `(tactic| trivial)=>`(tactic| exact⟨rfl,rfl,rfl,by decide +kernel,rfl,by decide +kernel,by decide +kernel⟩)
def top(i:Nat):Stmt:=PySem.Challenge.pw_ringbase_k56_whole_lengths_by_one_tie.main.body.getD i (.Pass ⟨0,0,0,0⟩)
section
variable {iT jt lB m6 nS yr CT IL Lj NO:TS}{lC CU NB UA:TT}{wL UB:TI}{wM UC:TG}{D:Ends}{σ:St}{H:Hp}
abbrev kU:Stmt:=top 12
def zL:aC ["points","ties"] ["points","ties"] (aj kU):=by trivial
def qZ(h:let I:=iT;let O:=jt;let U:=(az (bW lC O bu) I);let Y:=lB;(az (bW CU Y bu) U) D σ H):(az (bW CU lB bu) (az (bW lC jt bu) iT)) D σ H:=h
abbrev nC:Stmt:=top 13
def q4:aC ["points","tie","end"] ["points","tie"] (aj nC):=by trivial
def zM(h:let I:=iT;let O:=jt;let U:=(az (bW lC O bu) I);let Y:=lB;let Z:=(az (bW CU Y bu) U);let lD:=m6;let uf:=(bW NB lD bu);let zN:=(az (iE wL wM uf) Z);let zO:=nS;(az (bW UA zO bu) zN) D σ H):(az (bW UA nS bu) (az (iE wL wM (bW NB m6 bu)) (az (bW CU lB bu) (az (bW lC jt bu) iT)))) D σ H:=h
abbrev p8:Stmt:=top 14
def By:aC ["tie_set","tie"] ["tie_set","tie"] (aj p8):=by trivial
abbrev mL:Stmt:=top 15
def BA:aC ["tie_set"] ["tie_set"] (aj mL):=by trivial
abbrev ug:Stmt:=top 16
def mO:aC ["web","ties","found","tie"] ["web","ties"] (aj ug):=by trivial
def wN(h:let I:=iT;let O:=jt;let U:=lB;let Y:=(az (bW lC U bu) O);let Z:=(az (iE wL wM Y) I);(az m6 Z) D σ H):(az m6 (az (iE wL wM (az (bW lC lB bu) jt)) iT)) D σ H:=h
abbrev nE:Stmt:=top 17
def zP:aC ["web"] ["web"] (aj nE):=by trivial
abbrev uh:Stmt:=top 18
def Eg:aC ["web","number"] ["web","number"] (aj uh):=by trivial
abbrev lX:Stmt:=top 19
def xQ:aC ["web","tie_set"] ["web","tie_set"] (aj lX):=by trivial
def xR(h:let I:=iT;(bW lC I bu) D σ H):(bW lC iT bu) D σ H:=h
abbrev iH:Stmt:=top 20
def vd:aC ["web","tie_set"] ["web","tie_set"] (aj iH):=by trivial
def jT(h:let I:=iT;(az jt I) D σ H):(az jt iT) D σ H:=h
abbrev jE:Stmt:=top 21
def xS:aC ["web","tie_set"] ["web","tie_set"] (aj jE):=by trivial
abbrev dX:Stmt:=top 22
def fQ:aC ["leasts","one","other","low","high"] ["leasts","one","other"] (aj dX):=by trivial
def oQ(h:let I:=iT;let O:=(az jt I);(az lB O) D σ H):(az lB (az jt iT)) D σ H:=h
abbrev oR:Stmt:=top 23
def fC:aC ["web","tie_set","leasts","one","other","length","found","start"] ["web","tie_set"] (aj oR):=by trivial
def Eh(h:let I:=iT;let O:=jt;let U:=(bW lC O bu);let Y:=(az (iE wL wM U) I);let Z:=(az lB Y);let lD:=m6;let uf:=(az (iE UB UC lD) Z);(az nS uf) D σ H):(az nS (az (iE UB UC m6) (az lB (az (iE wL wM (bW lC jt bu)) iT)))) D σ H:=h
abbrev BB:Stmt:=top 24
def Kf:aC ["web"] ["web"] (aj BB):=by trivial
abbrev eU:Stmt:=top 26
def aY:aC ["web","leasts","trails","tie","one","other","bridge","moved"] ["web"] (aj eU):=by trivial
def qa(h:let I:=iT;let O:=jt;let U:=(az lB O);let Y:=(az m6 U);let Z:=(az nS Y);let lD:=(bW lC Z bu);let uf:=(az yr lD);let zN:=(az CT uf);let zO:=(az (iE wL wM zN) I);let CV:=(az IL zO);(az Lj CV) D σ H):(az Lj (az IL (az (iE wL wM (az CT (az yr (bW lC (az nS (az m6 (az lB jt))) bu)))) iT))) D σ H:=h
abbrev um:Stmt:=top 27
def mP:aC ["web","found","trail"] ["web"] (aj um):=by trivial
def Ei(h:let I:=iT;let O:=jt;let U:=(az (iE wL wM O) I);(az lB U) D σ H):(az lB (az (iE wL wM jt) iT)) D σ H:=h
abbrev uo:Stmt:=top 28
def Ej:aC ["web"] ["web"] (aj uo):=by trivial
abbrev jU:Stmt:=top 29
def lY:aC ["web","trails","chord","tie"] ["web","trails","chord"] (aj jU):=by trivial
abbrev kW:Stmt:=top 30
def ve:aC ["web","tie"] ["web","tie"] (aj kW):=by trivial
def gF(h:let I:=iT;let O:=jt;(az (bW lC O bu) I) D σ H):(az (bW lC jt bu) iT) D σ H:=h
abbrev jF:Stmt:=top 32
def xT:aC ["web","rings"] ["web","rings"] (aj jF):=by trivial
def c5:Pos:=⟨105,29,105,70⟩
abbrev uq:Stmt:=top 34
def Ek:aC ["one","other"] ["one","other"] (aj uq):=by trivial
abbrev jV:Stmt:=top 35
def ur:aC ["tie_set","marks"] ["tie_set","marks"] (aj jV):=by trivial
abbrev qb:Stmt:=top 36
def kX:aC ["web","side","ahead","point"] ["web","side"] (aj qb):=by trivial
abbrev oU:Stmt:=top 37
def El:aC ["web","side"] ["web","side"] (aj oU):=by trivial
abbrev mQ:Stmt:=top 38
def kY:aC ["web","tie_set","trails","side","amiss"] ["web","tie_set"] (aj mQ):=by trivial
def BC(h:let I:=iT;let O:=jt;let U:=(az (bW lC O bu) I);let Y:=(az lB U);let Z:=(az m6 Y);let lD:=(az nS Z);(az yr lD) D σ H):(az yr (az nS (az m6 (az lB (az (bW lC jt bu) iT))))) D σ H:=h
abbrev dY:Stmt:=top 40
def cF:aC ["web","marks","steps","tie","ends","turn"] ["web","marks"] (aj dY):=by trivial
def oW(h:let I:=iT;let O:=jt;let U:=(az lB O);let Y:=(az m6 U);let Z:=(az (iE wL wM Y) I);(az nS Z) D σ H):(az nS (az (iE wL wM (az m6 (az lB jt))) iT)) D σ H:=h
abbrev fR:Stmt:=top 41
def bA:aC ["web","marks","start","steps","found","waiting","nearest","way","tie","point","turn","part","further"] ["web","marks","start"] (aj fR):=by trivial
def vf(h:let I:=iT;let O:=jt;let U:=(bW CU O bu);let Y:=(az lB U);let Z:=(az m6 Y);let lD:=(iE wL wM Z);let uf:=(az nS lD);let zN:=(az yr uf);let zO:=(az CT zN);let CV:=(az (ng lC zO) I);let uv:=(az IL CV);let Hy:=(az Lj uv);(az NO Hy) D σ H):(az NO (az Lj (az IL (az (ng lC (az CT (az yr (az nS (iE wL wM (az m6 (az lB (bW CU jt bu)))))))) iT)))) D σ H:=h
def bS:Pos:=⟨143,35,143,63⟩
abbrev gX:Stmt:=top 42
def qf:aC ["way"] ["way"] (aj gX):=by trivial
abbrev dZ:Stmt:=top 43
def oX:aC ["ways"] ["ways"] (aj dZ):=by trivial
abbrev eg:Stmt:=top 45
def oY:aC ["web","marks"] ["web","marks"] (aj eg):=by trivial
abbrev eV:Stmt:=top 46
def qg:aC ["ways"] ["ways"] (aj eV):=by trivial
abbrev jG:Stmt:=top 47
def kZ:aC ["web","marks","ways","rounds"] ["web","marks"] (aj jG):=by trivial
def xU(h:let I:=iT;let O:=jt;let U:=(az (bW lC O bu) I);let Y:=(az lB U);let Z:=(az m6 Y);(az nS Z) D σ H):(az nS (az m6 (az lB (az (bW lC jt bu) iT)))) D σ H:=h
abbrev eR:Stmt:=top 49
def cV:aC ["web","waiting","found","marks","ring"] ["web"] (aj eR):=by trivial
def uw(h:let I:=iT;let O:=jt;let U:=(az lB O);let Y:=(az m6 U);let Z:=(az nS Y);let lD:=(az (ng lC Z) I);let uf:=(az yr lD);(az CT uf) D σ H):(az CT (az yr (az (ng lC (az nS (az m6 (az lB jt)))) iT))) D σ H:=h
abbrev mR:Stmt:=top 50
def BD:aC ["web"] ["web"] (aj mR):=by trivial
abbrev nF:Stmt:=top 54
def zQ:aC ["script","k"] ["script","k"] (aj nF):=by trivial
abbrev nG:Stmt:=top 55
def q9:aC ["cell","stir"] ["cell"] (aj nG):=by trivial
abbrev nH:Stmt:=top 56
def fD:aC ["cell","points","number","one","other"] ["cell","points"] (aj nH):=by trivial
def zR(h:let I:=iT;let O:=(az jt I);let U:=(az lB O);let Y:=(az m6 U);let Z:=nS;let lD:=(az (bW lC Z bu) Y);(az yr lD) D σ H):(az yr (az (bW lC nS bu) (az m6 (az lB (az jt iT))))) D σ H:=h
abbrev lZ:Stmt:=top 57
def cG:aC ["script","most","points","deeds","held","fresh","cell","turn"] ["script","most"] (aj lZ):=by trivial
def xV(h:let I:=iT;let O:=lB;let U:=(az m6 O);let Y:=(az nS U);let Z:=jt;let lD:=(bW CU Y bu);let uf:=(bW lC Z lD);let zN:=(az yr uf);let zO:=(az (iE wL wM zN) I);let CV:=(az CT zO);let uv:=(az IL CV);let Hy:=(az Lj uv);(az NO Hy) D σ H):(az NO (az Lj (az IL (az CT (az (iE wL wM (az yr (bW lC jt (bW CU (az nS (az m6 lB)) bu)))) iT))))) D σ H:=h
abbrev ux:Stmt:=top 58
def Em:aC ["standing","deed"] ["standing","deed"] (aj ux):=by trivial
def En(h:let I:=iT;let O:=jt;(bW lC I O) D σ H):(bW lC iT jt) D σ H:=h
abbrev gY:Stmt:=top 59
def ku:aC ["web","one","other","piece"] ["web","one","other"] (aj gY):=by trivial
def qh(h:let I:=iT;let O:=jt;let U:=(bW lC O bu);(az (iE wL wM U) I) D σ H):(az (iE wL wM (bW lC jt bu)) iT) D σ H:=h
abbrev jH:Stmt:=top 60
def xW:aC ["less","more","same"] ["less","more","same"] (aj jH):=by trivial
abbrev gZ:Stmt:=top 61
def bG:aC ["standing","deed","before","web","same","at","one","other","length"] ["standing","deed"] (aj gZ):=by trivial
def qi(h:let I:=iT;let O:=(az jt I);let U:=(az lB O);let Y:=(az m6 U);let Z:=nS;let lD:=(az yr Z);let uf:=(az CT lD);let zN:=(az (bW lC uf bu) Y);let zO:=IL;let CV:=(az (bW CU zO bu) zN);let uv:=(az Lj CV);(az NO uv) D σ H):(az NO (az Lj (az (bW CU IL bu) (az (bW lC (az CT (az yr nS)) bu) (az m6 (az lB (az jt iT))))))) D σ H:=h
abbrev Hz:Stmt:=top 62
def qj:aC ["script","points","deeds","standing","heard","deed"] ["script"] (aj Hz):=by trivial
def MW(h:let I:=iT;let O:=jt;let U:=(bW CU O bu);let Y:=(az lB U);let Z:=(az (ng lC Y) I);let lD:=m6;let uf:=(bW NB lD bu);let zN:=(az nS uf);let zO:=(az (iE wL wM zN) Z);let CV:=(az yr zO);let uv:=(az CT CV);(az IL uv) D σ H):(az IL (az CT (az yr (az (iE wL wM (az nS (bW NB m6 bu))) (az (ng lC (az lB (bW CU jt bu))) iT))))) D σ H:=h
abbrev g7:Stmt:=inClass (top 52) 0
def qk:aC ["self","points"] ["self","points"] (aj g7):=by trivial
def qm(h:let I:=iT;let O:=(az jt I);let U:=(az lB O);let Y:=(az m6 U);(az nS Y) D σ H):(az nS (az m6 (az lB (az jt iT)))) D σ H:=h
abbrev ji:Stmt:=inClass (top 52) 1
def g8:aC ["self","one","other","length","tie","name"] ["self","one","other","length"] (aj ji):=by trivial
def rE(h:let I:=iT;let O:=(az jt I);let U:=(az lB O);let Y:=(az m6 U);let Z:=(az nS Y);let lD:=(az yr Z);(az CT lD) D σ H):(az CT (az yr (az nS (az m6 (az lB (az jt iT)))))) D σ H:=h
abbrev hU:Stmt:=inClass (top 52) 2
def qo:aC ["self","name"] ["self","name"] (aj hU):=by trivial
abbrev h8:Stmt:=inClass (top 52) 3
def kA:aC ["self","deed"] ["self"] (aj h8):=by trivial
def qp(h:let I:=iT;let O:=(az jt I);let U:=lB;let Y:=(bW lC O U);let Z:=(az m6 Y);let lD:=nS;(az (bW CU lD bu) Z) D σ H):(az (bW CU nS bu) (az m6 (bW lC (az jt iT) lB))) D σ H:=h
abbrev gh:Stmt:=inClass (top 52) 4
def oZ:aC ["self"] ["self"] (aj gh):=by trivial
abbrev cO:Stmt:=inClass (top 52) 5
def l5:aC ["self"] ["self"] (aj cO):=by trivial
abbrev ff:Stmt:=inClass (top 52) 6
def mY:aC ["self"] ["self"] (aj ff):=by trivial
abbrev c6:Stmt:=inClass (top 52) 8
def kB:aC ["self"] ["self"] (aj c6):=by trivial
abbrev gi:Stmt:=inClass (top 52) 9
def o4:aC ["self"] ["self"] (aj gi):=by trivial
end
set_option genInjectivity false
set_option genSizeOf false
structure Sx where
 BE:Addr
 BF:FuncData
 BG:Addr
 BH:FuncData
 Eo:Addr
 Ep:FuncData
 Er:Addr
 Es:FuncData
 HC:Addr
 HD:FuncData
 BI:Addr
 BJ:FuncData
 HE:Addr
 HF:FuncData
 zS:Addr
 zT:FuncData
 xX:Addr
 xY:FuncData
 zU:Addr
 zV:FuncData
 qq:Addr
 qt:FuncData
 HG:Addr
 HH:FuncData
 MX:Addr
 MY:FuncData
 rF:Addr
 rG:FuncData
 HJ:Addr
 HK:FuncData
 HM:Addr
 HN:FuncData
 vg:Addr
 vh:FuncData
 xZ:Addr
 x6:FuncData
 zW:Addr
 zX:FuncData
 HP:Addr
 HQ:FuncData
 vj:Addr
 vm:FuncData
 Et:Addr
 Eu:FuncData
 HR:Addr
 HS:FuncData
 Ew:Addr
 Ex:FuncData
 qu:Addr
 qv:FuncData
 x8:Addr
 x9:FuncData
 rH:Addr
 rJ:FuncData
 qw:Addr
 qx:FuncData
 qy:Addr
 qz:FuncData
 rK:Addr
 rL:FuncData
 zY:Addr
 zZ:FuncData
 vn:Addr
 vo:FuncData
 Ey:Addr
 Ez:FuncData
 BK:Addr
 BL:FuncData
 BN:Addr
 BO:FuncData
 BP:Addr
 BQ:FuncData
 z5:Addr
 z6:FuncData
 HU:Addr
 HV:FuncData
 rM:Addr
 rN:FuncData
 z7:Addr
 z8:FuncData
 rO:Addr
 rP:FuncData
 Py:Addr
 Pz:FuncData
 h9:Addr
 ia:FuncData
 jj:Addr
 jk:FuncData
 ic:Addr
 ie:FuncData
 ig:Addr
 ik:FuncData
 gj:Addr
 gn:FuncData
 eK:Addr
 eL:FuncData
 fh:Addr
 fj:FuncData
 c7:Addr
 c8:FuncData
 gp:Addr
 gq:FuncData
 HW:Addr
 gR:Addr
 BR:Addr
 qA:Addr
 HX:Addr
 ay:Addr
 z9:Addr
 dR:Addr
 yb:Addr
 b8:Addr
structure Txt(P:Program)(w:World)(base:Heap)(K:bH)(mg:lE)(a:Sx):Prop where
 jm:Dn K mg "made_web" kU a.BE a.BF ["points","ties"]
 nJ:Dn K mg "made_tie" nC a.BG a.BH ["points","tie"]
 mS:Dn K mg "has_tie" p8 a.Eo a.Ep ["tie_set","tie"]
 iU:Dn K mg "ties_in" mL a.Er a.Es ["tie_set"]
 uy:Dn K mg "set_of" ug a.HC a.HD ["web","ties"]
 gr:Dn K mg "all_ties" nE a.BI a.BJ ["web"]
 uz:Dn K mg "is_set" uh a.HE a.HF ["web","number"]
 gU:Dn K mg "check_set" lX a.zS a.zT ["web","tie_set"]
 iI:Dn K mg "triples_in" iH a.xX a.xY ["web","tie_set"]
 jI:Dn K mg "length_of" jE a.zU a.zV ["web","tie_set"]
 eA:Dn K mg "drawn_together" dX a.qq a.qt ["leasts","one","other"]
 o5:Dn K mg "pieces" oR a.HG a.HH ["web","tie_set"]
 BS:Dn K mg "rank" BB a.MX a.MY ["web"]
 di:Dn K mg "forest_trails" eU a.rF a.rG ["web"]
 uA:Dn K mg "forest" um a.HJ a.HK ["web"]
 o6:Dn K mg "chords" uo a.HM a.HN ["web"]
 jW:Dn K mg "ring_closed" jU a.vg a.vh ["web","trails","chord"]
 k6:Dn K mg "chord_ring" kW a.xZ a.x6 ["web","tie"]
 jJ:Lh K mg "by_length" jF a.zW a.zX ["web","rings"] a.z9 a.dR
 uB:Dn K mg "common" uq a.HP a.HQ ["one","other"]
 gG:Dn K mg "bears_oddly" jV a.vj a.vm ["tie_set","marks"]
 qB:Dn K mg "is_side" qb a.Et a.Eu ["web","side"]
 uC:Dn K mg "cut_of" oU a.HR a.HS ["web","side"]
 qC:Dn K mg "side_of" mQ a.Ew a.Ex ["web","tie_set"]
 gv:Dn K mg "steps_by_point" dY a.qu a.qv ["web","marks"]
 iJ:Lh K mg "least_ways" fR a.x8 a.x9 ["web","marks","start"] a.yb a.b8
 eW:Dn K mg "length_of_way" gX a.rH a.rJ ["way"]
 gw:Dn K mg "worths_of_ways" dZ a.qw a.qx ["ways"]
 gx:Dn K mg "all_least_ways" eg a.qy a.qz ["web","marks"]
 iq:Dn K mg "worths_of_all" eV a.rK a.rL ["ways"]
 l6:Dn K mg "least_odd" jG a.zY a.zZ ["web","marks"]
 jX:Dn K mg "least_rings" eR a.vn a.vo ["web"]
 qD:Dn K mg "lengths" mR a.Ey a.Ez ["web"]
 nK:Dn K mg "_law_cell" nF a.BK a.BL ["script","k"]
 jo:Dn K mg "_law_turn" nG a.BN a.BO ["cell"]
 nL:Dn K mg "_law_near" nH a.BP a.BQ ["cell","points"]
 l7:Dn K mg "_law_deeds" lZ a.z5 a.z6 ["script","most"]
 o7:Dn K mg "_law_do" ux a.HU a.HV ["standing","deed"]
 eX:Dn K mg "_law_one_piece" gY a.rM a.rN ["web","one","other"]
 jK:Dn K mg "_law_grown" jH a.z7 a.z8 ["less","more","same"]
 ir:Dn K mg "_law_step_good" gZ a.rO a.rP ["standing","deed"]
 Ll:Dn K mg "law" Hz a.Py a.Pz ["script"]
 rQ:pJ K "__init__" "Standing.__init__" g7 a.h9 a.ia
 mk_Standing:Mk K a.ay a.h9
 rR:Binds K a.ia ["self","points"] []
 uD:pJ K "put" "Standing.put" ji a.jj a.jk
 rS:Meth K a.ay "put" a.jj
 uE:Binds K a.jk ["self","one","other","length"] []
 rT:pJ K "drop" "Standing.drop" hU a.ic a.ie
 qF:Meth K a.ay "drop" a.ic
 rV:Binds K a.ie ["self","name"] []
 rW:pJ K "back" "Standing.back" h8 a.ig a.ik
 qG:Meth K a.ay "back" a.ig
 rX:Binds K a.ik ["self"] []
 qH:pJ K "names" "Standing.names" gh a.gj a.gn
 jL:Meth K a.ay "names" a.gj
 kC:Binds K a.gn ["self"] []
 mZ:pJ K "ties_now" "Standing.ties_now" cO a.eK a.eL
 gV:Meth K a.ay "ties_now" a.eK
 iC:Binds K a.eL ["self"] []
 nM:pJ K "web_now" "Standing.web_now" ff a.fh a.fj
 eM:Meth K a.ay "web_now" a.fh
 fk:Binds K a.fj ["self"] []
 k7:pJ K "lengths_now" "Standing.lengths_now" c6 a.c7 a.c8
 bg:Meth K a.ay "lengths_now" a.c7
 br:Binds K a.c8 ["self"] []
 qI:pJ K "deeds" "Standing.deeds" gi a.gp a.gq
 o8:Meth K a.ay "deeds" a.gp
 qJ:Binds K a.gq ["self"] []
 Kg:mg "ValueError"=none
 rf:mg "enumerate"=none
 eI:mg "len"=none
 HY:mg "list"=none
 CW:mg "max"=none
 HZ:mg "min"=none
 eY:mg "range"=none
 Aa:mg "sorted"=none
 PB:mg "sum"=none
 sy:mg "tuple"=none
 PD:mg "zip"=none
 vp:∃t,mg "MOST_POINTS"=some (.int 10 t)
 Ab:∃t,mg "MOST_TIES"=some (.int 24 t)
 EA:∃t,mg "LONGEST"=some (.int 1000000000000000000000000000000 t)
 PF:mg "BadWeb"=some (.ref a.HW)
 PJ:mg "BadSet"=some (.ref a.gR)
 MZ:mg "BadPoint"=some (.ref a.BR)
 NP:mg "NoChord"=some (.ref a.qA)
 PK:mg "NoDeed"=some (.ref a.HX)
 BU:mg "Standing"=some (.ref a.ay)
 aA:IJ K a.ay
 na_points:jP K a.ay "points"
 na_standing_ties:jP K a.ay "standing_ties"
 na_next_name:jP K a.ay "next_name"
 na_done:jP K a.ay "done"
 Ia:∀h:Heap,K.In h->h.Ns mainGlobals mg->PyProof.Rows.OwnCls "BadSet" a.gR [.type "ValueError",.type "Exception",.type "BaseException",.type "object"] "ValueError.__new__" mg h
 EB:∀h:Heap,K.In h->h.Ns mainGlobals mg->PyProof.Rows.OwnCls "NoChord" a.qA [.type "ValueError",.type "Exception",.type "BaseException",.type "object"] "ValueError.__new__" mg h
section
variable {P:Program}{w:World}{K:bH}{mg:lE}{base:Heap}{a:Sx}{x:Str}{st:Stmt}{f c0 p0:Addr}{fd:FuncData}{ps:List Str}
abbrev Ok(_:Txt P w base K mg a)(_:Dn K mg x st f fd ps)(k:Nat)(sp:Sp):=fF P w K mg base sO k f fd ps sp
abbrev M0(_:Txt P w base K mg a)(_:Dn K mg x st f fd ps)(k:Nat)(sp:Sp):=fF P w K mg base (F5 P w) k f fd ps sp
abbrev UD(_:Txt P w base K mg a)(_:Lh K mg x st f fd ps c0 p0)(k:Nat)(sp:Sp):=fF P w K mg base sO k f fd ps sp
end
def BV:Sp:=λvs H Q _=>∃(S:Int) (k:Nat),vs=[.int S,.int (k:Int)]/\Q (.bl (bit S k)) H
def BW:Sp:=λvs H Q _=>∃m:Nat,vs=[.int (m:Int)]/\Builtin.Int.intBits (m:Int)<=1000/\∀D H',H D=none->aq H H'->H' D=some (.lst (aB (bT (m:Int))))->Q (.ref D) H'
def Ac:Sp:=λvs H Q _=>∃w p ts,vs=[.ref w]/\b9 H w p ts/\Mj p ts/\Q (.int (2^ts.length-1)) H
def EC:Sp:=λvs H Q _=>∃w p ts S,vs=[.ref w,.int S]/\b9 H w p ts/\Mj p ts/\Q (.bl (decide (0<=S/\S<2^ts.length))) H
def wO(ts:List cJ)(S:Int)(bad:Prop)(R:Nat->Prop):Prop:=(∃m:Nat,S=(m:Int)/\m<2^ts.length/\R m)\/((S<0\/2^ts.length<=S)/\bad)
def yc(C:Addr):Sp:=λvs H Q E=>∃w p ts S,vs=[.ref w,.int S]/\b9 H w p ts/\Mj p ts/\wO ts S (E (.ref C) none H) λ_=>Q .dH H
def vq(C:Addr):Sp:=λvs H Q E=>∃w p ts S,vs=[.ref w,.int S]/\b9 H w p ts/\Mj p ts/\wO ts S (E (.ref C) none H) λm =>
 ∀D ys H',H D=none->aq H H'->H' D=some (.lst ys)->Paired (TupAt H') ys ((bT (m:Int)).map (bj ts))->Q (.ref D) H'
section
variable {P:Program}{w:World}{K:bH}{mg:lE}{base:Heap}{a:Sx}(T:Txt P w base K mg a)
def iV:Ok T T.mS 1 BV:=by
 refine T.mS.ok By λ_ A _ s H vs Q E hr h=>?_
 ·obtain⟨S,k,rfl,q⟩:=h;refine⟨_,(av (aG (fJ iY (aR Fw (aR LN (pv 0) (pv 1)) ak) ak (aP _)))),?_⟩;refine(au rfl (au rfl (dB ⟨(by lia),dB ⟨rfl,?_⟩⟩)))
  rw[aah,Ml];exact q
def cB:Ok T T.iU 2 BW:=by
 have iV:=iV T;refine T.iU.ok BA λ_ A _ s H vs Q E hr h=>?_
 ·obtain⟨m,rfl,hm,k⟩:=h;refine⟨_,(av (aG (dS (own:=["tie"]) (fq:=["tie_set"]) (js:=[0]) (aN (aj mL) ["tie_set"]) rfl (dw (by rfl) T.eY (aa (AY PySem.F.plainAttrs_int PyProof.Rows.slot_int_bit_length PyProof.Rows.type_int_bit_length Jo (pv 0)) ah)) (λ_ _ _ _=>(cE 0 (ue ["tie","tie_set"]))) (λ_ _ _ _=>(mw (lK (aO iV hr T.mS.c aJ (aa (pv 1) (aa (pv 0) ah)))))) (λ_ _ _ _=>(pv 0))))),?_⟩
  refine(au rfl ⟨rfl,au rfl ⟨rfl,au rfl ⟨(by lia),(by lia),λD I=>dN (lo:=0) (m:=Builtin.Int.intBits (m:Int)) (n5 (bit (m:Int)) H D) (.start I) (λi acc H2 _ p=>p.len) (dl (abn.mpr hm)) ?_ ?_⟩⟩⟩)
  ·intro i acc H2 hi p;rw[aby];refine⟨rfl,au rfl (au rfl ⟨(m:Int),i,rfl,au rfl (?_)⟩)⟩;cases hb:bit (m:Int) i with
   | true=>exact(au rfl (p.yes I (aq.refl _) hb))
   | false=>exact p.no (aq.refl _) hb
  ·intro acc H2 p;exact k D H2 I p.1 (by rw[p.2.1,p.2.2];rfl)
def bX:Ok T T.gr 1 Ac:=by
 refine T.gr.ok zP λ_ A _ s H vs Q E hr h=>?_
 ·obtain⟨O,p,ts,rfl,hw,W,q⟩:=h;refine⟨_,(av (aG (aR w9 (aR pD ak (cL K T.eI (aa (aK (eO K) (pv 0) ak) ah))) ak))),?_⟩;obtain⟨b,xs,h1,h2,h3⟩:=hw.ex;have I:=h3.length;have wl:=W.len;refine(au rfl (eG (bf.of h1) (ao (j:=1) rfl) (uS rfl (.inr (bf.of h2)) (dB ⟨⟨by lia,by lia,by decide⟩,dB (?_)⟩))))
  rw[aah,I,Int.one_mul];exact q
def uF:Ok T T.uz 2 EC:=by
 have bX:=bX T;refine T.uz.ok Eg λ_ A _ s H vs Q E hr h=>?_
 ·obtain⟨O,p,ts,S,rfl,hw,W,q⟩:=h;refine⟨_,(av (aG (Ff (fJ Cf (pv 1) ak (aP _)) (Fe (fJ KN (pv 1) (aO bX hr T.gr.c aJ (aa (pv 0) ah)) (aP _)))))),?_⟩;refine(au rfl (dB (au rfl (rB (λI=>?_) (λI=>?_)))))
  ·have I:0<=S:=sC I;refine(au rfl (au rfl ⟨O,p,ts,rfl,hw,W,_,_,rfl,rfl,?_⟩));have e:decide (S<=2^ts.length-1)=decide (0<=S/\S<2^ts.length):=aaY.mpr ⟨λz=>⟨I,by lia⟩,λz=>by lia⟩
   rw[<-e]at q;exact q
  ·have I : ¬ 0<=S:=λz=>I (fG z)
   rw[iK (λz=>I z.1)]at q
   exact q
def cH:M0 T T.gU 3 (yc a.gR):=by
 have uF:=uF T;refine T.gU.Jq xQ λ_ A _ s H vs Q E hr h=>?_
 ·obtain⟨I,p,ts,S,rfl,hw,W,q⟩:=h;refine⟨_,(av (ck (w6 (lK (aO uF hr T.uz.c aJ (aa (pv 0) (aa (pv 1) ah))))) (av (yM kM.Uc rfl (by rfl) T.Ia PySem.F.excBase_ValueError (aa kH ah))) bh)),?_⟩
  refine xR ?_;intro O;refine(au rfl (au rfl ⟨I,p,ts,S,rfl,hw,W,?_⟩));have h2:((2:Int)^ts.length)=((2^ts.length:Nat):Int):=by simp
  rcases q with⟨m,rfl,hm,q⟩|⟨U,q⟩
  ·rw[fG ⟨by lia,by lia⟩]
   exact(au rfl (jR q))
  ·rw[iK (by lia)]
   exact(au rfl (lN ⟨dl rfl,q⟩))
def eB:M0 T T.iI 4 (vq a.gR):=by
 have cH:=cH T;have cB:=cB T;refine T.iI.Jq vd λ_ A _ s H vs Q E hr h=>?_
 ·obtain⟨wb,p,ts,S,rfl,hw,W,q⟩:=h;refine⟨_,(ai (bR (aO cH hr T.gU.c kM.passes (aa (pv 0) (aa (pv 1) ah))))
   (av (aG (dS (own:=["tie"]) (fq:=["web"]) (js:=[0]) (aN (aj iH) ["web","tie_set"]) rfl (yL K (aO cB hr T.iU.c aJ (aa (pv 1) ah))) (λ_ _ _ _=>(cE 0 (ue ["tie","web"]))) (λ_ _ _ _=>dJ) (λ_ _ _ _=>(aK (eO K) (aK (eO K) (pv 1) ak) (pv 0))))))),?_⟩
  refine jT ?_;intro dc;refine(au rfl (au rfl ⟨wb,p,ts,S,rfl,hw,W,?_⟩));rcases q with⟨m,rfl,hm,q⟩|⟨hS,q⟩
  ·refine .inl ⟨m,rfl,hm,?_⟩;have wl:=W.len;have hb:Builtin.Int.intBits (m:Int)<=ts.length:=bits_le hm;refine(au rfl ⟨m,rfl,by lia,λL H1 _ s1 Z=>⟨L,rfl,⟨_,aV.of Z⟩,λD U=>?_⟩⟩)
   obtain⟨b,xs,h1,h2,h3⟩:=(hw.same s1).ex;have AA:=h3.length;refine dz (xs:=aB (bT (m:Int))) (λi acc H2=>aq H1 H2/\H2 D=some (.lst acc)/\Paired (TupAt H2) acc (((bT (m:Int)).take i).map (bj ts))/\acc.length=i) ⟨aq.new U,af,.nil,rfl⟩ ?_ ?_ ?_ ?_
   ·rintro i acc H2 _ ⟨s2,hd,pr,I⟩;exact⟨aV.of (s2 _ _ Z),hd,abU I⟩
   ·rw[aU];refine dl (abn.mpr (aat (aaP _ _) ?_));rw[aax]
    lia
   ·rintro i x acc H2 hx ⟨s2,hd,pr,I⟩;obtain⟨k,hk,rfl⟩:=kc hx;have yn:k<ts.length:=Cr hm (j7 hk);have O:k<xs.length:=by lia
    obtain⟨t,ht,c,hc,Y⟩:=Paired.sS h3 (i:=k) (x:=xs[k]) (by simp[O])
    have Pa:bj ts k=t:=by
     unfold bj;rw[Z6,ht];rfl
    refine⟨rfl,au rfl (eG (bf.of (s2 _ _ h1)) (ao (j:=1) rfl) (au rfl (eG (v:=xs[k]) (bf.of (s2 _ _ h2)) (ao (j:=k) (by simp[O])) (?_))))⟩
    rw[hc];refine⟨hd,s2.put U,af,?_,by rw[Z7,aaL,I]⟩
    rw[aaK,hk,aaw];refine Paired.snoc (Paired.imp' (λ_ _ z=>z.tups (bJ.put hd)) pr) ?_
    rw[Pa];exact⟨c,rfl,bJ.put hd _ _ (s2 _ _ Y)⟩
   ·rintro acc H2 ⟨s2,hd,pr,I⟩;rw[aU,aaV]at pr;exact q D acc H2 (s1.free U) (s1.trans s2) hd pr
  ·exact .inr ⟨hS,q⟩
def Ib:Sp:=λvs H Q _=>∃(l:Addr) (L:Nat->Nat) (p u v:Nat),vs=[.ref l,.int (u:Int),.int (v:Int)]/\H l=some (.lst (gJ L p))/\p<=10/\u<p/\v<p/\
 ∀D H',H D=none->aq H H'->H' D=some (.lst (gJ (RM.join L u v) p))->Q (.ref D) H'
def ED(C:Addr):Sp:=λvs H Q E=>∃w p ts,∃g:aD p ts,∃S,vs=[.ref w,.int S]/\b9 H w p ts/\wO ts S (∀H',aq H H'->E (.ref C) none H') λm =>
 ∀D ys H',H D=none->aq H H'->H' D=some (.lst ys)->Paired (K0 D H H') ys ((eT (jb p ts g m) p).map (pieceOf (jb p ts g m) p))->Q (.ref D) H'
def Kh:Sp:=λvs H Q _=>∃w p ts,∃g:aD p ts,vs=[.ref w]/\b9 H w p ts/\∀H',aq H H'->Q (.int (g.N.aM.length:Int)) H'
def cg:Ok T T.eA 1 Ib:=by
 refine T.eA.ok fQ λ_ A _ s H vs Q E hr h=>?_
 ·obtain⟨l,L,p,u,v,rfl,O,hp,Y,Z,q⟩:=h;refine⟨_,(ai (aL (i:=3) fQ.nd rfl (Or.inr rfl) (eN (Di rfl) (by rfl) T.HZ PyProof.Rows.boot_min (aa (aK (my K) (pv 0) (pv 1)) (aa (aK (my K) (pv 0) (pv 2)) ah))))
   (ai (aL (i:=4) fQ.nd rfl (Or.inr rfl) (eN (mq rfl) (by rfl) T.CW abZ (aa (aK (my K) (pv 0) (pv 1)) (aa (aK (my K) (pv 0) (pv 2)) ah))))
   (av (aG (dS (own:=["least"]) (fq:=["low","high"]) (js:=[3,4]) (aN (aj dX) ["leasts","one","other","low","high"]) rfl (yL K (pv 0)) (λ_ _ _ _=>(cE 0 (ue ["least","low","high"]))) (λ_ _ _ _=>dJ) (λ_ _ _ _=>(lM (aH iY (pv 0) (pv 2) (aP _)) (pv 1) (pv 0)))))))),?_⟩
  refine oQ ?_;intro dc dQ;refine(au rfl (au rfl (mX (aV.of O) (ao (j:=u) (bY Y)) (au rfl (au rfl (mX (aV.of O) (ao (j:=v) (bY Z)) ⟨_,_,rfl,?_⟩))))));refine(au rfl (au rfl (mX (aV.of O) (ao (j:=u) (bY Y)) (au rfl (au rfl (mX (aV.of O) (ao (j:=v) (bY Z)) ⟨_,_,rfl,?_⟩))))));refine(au rfl ⟨l,rfl,⟨_,aV.of O⟩,λD U=>dz (xs:=gJ L p) (xy (RM.join L u v) H D) (.start U) (λi acc H2 _ I=>⟨aV.of (I.1 _ _ O),I.len⟩) (by rw[fN];exact dl (abn.mpr (by lia))) ?_ ?_⟩)
  ·intro i x acc H2 hx I;obtain⟨hi,rfl⟩:=se hx;refine⟨rfl,au rfl (au rfl ⟨rfl,au rfl (?_)⟩)⟩;rw[Cw,oA]
   by_cases hm:L i=max (L u) (L v)
   ·rw[fG hm];refine lN (au rfl (I.next U (aq.refl _) ?_));rw[Jx];unfold RM.join;rw[Z1 hm]
   ·rw[iK hm];refine jR (au rfl (I.next U (aq.refl _) ?_));unfold RM.join;rw[Z0 hm]
  ·intro acc H2 I;rw[fN]at I;exact q D H2 U I.1 (by rw[I.2.1,I.2.2])
def kD:M0 T T.o5 5 (ED a.gR):=by
 have eB:=eB T;have cg:=cg T;refine T.o5.Jq fC λ_ A _ s H vs Q E hr h=>?_
 ·obtain⟨wb,p,ts,g,S,rfl,hw,q⟩:=h;refine⟨_,(ai (aL (i:=2) fC.nd rfl (Or.inr rfl) (fB (KZ rfl) (by rfl) T.HY PyProof.Rows.boot_list (aa (fB yO (by rfl) T.eY PyProof.Rows.boot_range (aa (aK (eO K) (pv 0) ak) ah)) ah)))
   (ai (Cq rfl (yL K (aO eB hr T.iI.c kM.passes (aa (pv 0) (aa (pv 1) ah)))) (Mb K (n:=3) rfl (bK (cE 3 fC.nd) (bK (cE 4 fC.nd) (bK (cE 5 fC.nd) jw))))
   (av (aL (i:=2) fC.nd rfl (Or.inr rfl) (aO cg hr T.eA.c aJ (aa (pv 2) (aa (pv 3) (aa (pv 4) ah)))))))
   (ai (aL (i:=6) fC.nd rfl (Or.inl rfl) (fb ah))
   (ai (Cq rfl (dw (by rfl) T.eY (aa (aK (eO K) (pv 0) ak) ah)) (B9 (i:=7) fC.nd rfl (Or.inr rfl))
   (av (ck (aH iY (aK (my K) (pv 2) (pv 7)) (pv 7) (aP _)) (av (bR (E6 K (lz aaz aaN aaO cQ (pv 6) (aa (dS (own:=["point"]) (fq:=["leasts","start"]) (js:=[2,7]) (aN (aj oR) ["web","tie_set","leasts","one","other","length","found","start"]) rfl (dw (by rfl) T.eY (aa (aK (eO K) (pv 0) ak) ah)) (λ_ _ _ _=>(cE 0 (ue ["point","leasts","start"]))) (λ_ _ _ _=>(mw (aH iY (aK (my K) (pv 1) (pv 0)) (pv 2) (aP _)))) (λ_ _ _ _=>(pv 0))) ah))))) bh)))
   (av (aG (pv 6))))))),?_⟩
  refine Eh ?_;intro dc dQ fT gW jv lD uf;obtain⟨b,xs,h1,h2,h3⟩:=id hw.ex;have W:=g.yo;have wp:=W.WJ;have wl:=W.len;refine(au rfl (eG (bf.of h1) (ao (j:=0) rfl) (au rfl (λr hr=>⟨r,p,rfl,af,by lia,λl hl=>?_⟩))))
  have s1:aq H (upd (upd H r (.C4 0 (p:Int))) l (.lst (u6 p))):=(aq.new hr).trans (aq.new hl);have Y:upd (upd H r (.C4 0 (p:Int))) l (.lst (u6 p)) l=some (.lst (gJ (λx=>x) p)):=af
  generalize upd (upd H r (.C4 0 (p:Int))) l (.lst (u6 p))=H1 at s1 Y;refine(au rfl (au rfl ⟨wb,p,ts,S,rfl,hw.same s1,W,?_⟩));rcases q with⟨m,rfl,hm,q⟩|⟨hS,q⟩
  ·refine .inl ⟨m,rfl,hm,λT0 ys H2 Ug s2 hT pr=>⟨T0,rfl,⟨_,aV.of hT⟩,?_⟩⟩
   have Ic:ys.length<=24:=by
    rw[pr.length,ZZ];have hb:Builtin.Int.intBits (m:Int)<=ts.length:=bits_le hm;have:=aaP (bit (m:Int)) (List.range (Builtin.Int.intBits (m:Int)));rw[aax]at this;exact aat this (by lia)
   refine iS (K:=K) (a:=T0) (xs:=ys) (λi σ H3=>∃Z v3 v4 v5,σ=[some (.ref wb),some (.int (m:Int)),some (.ref Z),v3,v4,v5,none,none]/\aq H2 H3/\H3 Z=some (.lst (gJ (qS p ts g ((bT (m:Int)).take i)) p)))
    ⟨l,none,none,none,rfl,aq.refl _,s2 _ _ Y⟩ (λi σ H3 _ ⟨_,_,_,_,_,z,_⟩=>aV.of (z _ _ hT)) ?_ ?_
   ·rintro i y D' σ H3 hi ⟨Z,v3,v4,v5,rfl,s3,I⟩;obtain⟨t,ht,c,rfl,hc⟩:=Paired.sS pr hi;have ab:=s3 _ _ hc;rw[Z9]at ht;obtain⟨k,hk,hkt⟩:=uT.mp ht;have yn:=Cr hm (j7 hk);have ea:=Gj (g:=g) yn;have eb:=Gk (g:=g) yn;rw[hkt]at ea eb;have ag:=g.N.al k yn;have ar:=g.N.bl k yn;refine⟨c,_,rfl,bf.of ab,rfl,_,_,rfl,_,_,rfl,_,_,rfl,rfl,?_⟩;refine(au rfl (au rfl (au rfl ⟨Z,qS p ts g ((bT (m:Int)).take i),p,g.N.a k,g.N.b k,?_,I,wp,ag,ar,λD H4 PL s4 hD=>?_⟩)))
    ·rw[<-ea,<-eb];rfl
    ·refine⟨D,_,_,_,rfl,s3.trans s4,?_⟩;rw[hD,aaK,hk];show _=some (HO.lst (gJ (qS p ts g ((bT (m:Int)).take i++[k])) p));rw[A5]
   ·rintro σ H3 ⟨Z,v3,v4,v5,rfl,s3,I⟩;have aw:ys.length=(bT (m:Int)).length:=by rw[pr.length,ZZ]
    rw[aw,aaV,A6 hm]at I;have wQ:aq H H3:=(s1.trans s2).trans s3;refine⟨dl rfl,λD hD=>?_⟩
    have t0:sZ (jb p ts g m) p H3 D 0 (upd H3 D (.lst [])):=sZ.start hD;generalize upd H3 D (.lst [])=H4 at t0;refine(au rfl (eG (bf.of (t0.1 _ _ (wQ _ _ h1))) (ao (j:=0) rfl) (au rfl ⟨(by lia),(by lia),?_⟩)))
    refine uc (lo:=0) (n:=(p:Int).toNat) (λi σ H5=>∃v7,σ=[some (.ref wb),some (.int (m:Int)),some (.ref Z),v3,v4,v5,some (.ref D),v7]/\sZ (jb p ts g m) p H3 D i H5) ⟨none,rfl,t0⟩ ?_ ?_
    ·rintro i D' σ H5 hi ⟨v7,rfl,U⟩;rw[aah]at hi;rw[aby];have PM:=U.1 _ _ I;refine(au rfl (au rfl (mX (aV.of PM) (ao (j:=i) (bY hi)) (au rfl ⟨rfl,au rfl (?_)⟩))));rw[oA]
     by_cases hr:jb p ts g m i=i
     ·rw[fG hr];obtain⟨ZI,wR⟩:∃ys,H5 D=some (.lst ys):=let⟨_,ys,z,_⟩:=U;⟨ys,z⟩;refine lN (au rfl ⟨.inl ⟨rfl,_,aV.of wR⟩,au rfl (eG (bf.of (U.1 _ _ (wQ _ _ h1))) (ao (j:=0) rfl) (au rfl ⟨(by lia),(by lia),λB hB=>dN (lo:=0) (m:=(p:Int).toNat) (n5 (λx=>decide (jb p ts g m x=i)) H5 B) (.start hB) (λi acc H6 _ O=>O.len) (dl (abn.mpr (by lia))) ?_ ?_⟩))⟩)
      ·intro x acc H6 hx O;rw[aah]at hx;rw[aby];refine⟨rfl,au rfl (au rfl (mX (aV.of (O.1 _ _ PM)) (ao (j:=x) (bY hx)) (au rfl ⟨rfl,au rfl (?_)⟩)))⟩;rw[oA];cases hb:decide (jb p ts g m x=i) with
       | true=>exact(au rfl (O.yes hB (aq.refl _) hb))
       | false=>exact O.no (aq.refl _) hb
      ·intro acc H6 O;have Xm:H6 B=some (.lst (aB (pieceOf (jb p ts g m) p i))):=by rw[O.2.1,O.2.2,aah];rfl
       obtain⟨Xn,Lm,Y,t7⟩:=U.push hD hr O.1 hB Xm;exact⟨D,Xn,_,rfl,rfl,Lm,A3 (by lia),au rfl (t7)⟩
     ·rw[iK hr];exact jR (au rfl (U.skip hr))
    ·rintro σ H5 ⟨v7,rfl,U⟩;rw[aah]at U;obtain⟨s5,Xo,wR,Kl,ZJ⟩:=U;exact(au rfl (q D Xo H5 (wQ.free hD) (wQ.trans s5) wR (Paired.imp' (λ_ _ ⟨e,he,hn,h0,z⟩=>⟨e,he,hn,wQ.free h0,z⟩) Kl)))
  ·exact .inr ⟨hS,q _ s1⟩
def BX:Ok T T.BS 6 Kh:=by
 have kD:=kD T;have bX:=bX T;refine T.BS.ok Kf λ_ A _ s H vs Q E hr h=>?_
 ·obtain⟨O,p,ts,g,rfl,hw,q⟩:=h;refine⟨_,(av (aG (aR fV (aR w9 (cL K T.eI (aa (aK (eO K) (pv 0) ak) ah)) (aK (eO K) (pv 0) ak)) (cL K T.eI (aa (aO kD hr T.o5.c yN (aa (pv 0) (aa (aO bX hr T.gr.c aJ (aa (pv 0) ah)) ah))) ah))))),?_⟩;obtain⟨b,xs,h1,h2,h3⟩:=id hw.ex;have U:=h3.length;have Y:((2:Int)^ts.length-1)=((2^ts.length-1:Nat):Int):=by
   have h:((2:Int)^ts.length)=((2^ts.length:Nat):Int):=by simp
   have:=aa2 ts.length
   lia
  have I:2^ts.length-1<2^ts.length:=by have:=aa2 ts.length;lia
  refine(au rfl (eG (bf.of h1) (ao (j:=1) rfl) (uS rfl (.inr (bf.of h2)) (au rfl (eG (bf.of h1) (ao (j:=0) rfl) (dB (?_)))))));refine(au rfl (au rfl ⟨O,p,ts,rfl,hw,g.yo,O,p,ts,g,_,rfl,hw,.inl ⟨2^ts.length-1,Y,I,λD ys H' PL s' Z pr=>(uS rfl (.inl (aV.of Z)) (dB (?_)))⟩⟩))
  have hv:=Jw (g:=g);have hy:ys.length=(eT (jb p ts g (2^ts.length-1)) p).length:=by rw[pr.length,ZZ]
  show Q (.int ((xs.length:Int)-(p:Int)+(ys.length:Int))) H';rw[U,hy,hv];exact q H' s'
def EE:Sp:=λvs H Q _=>∃w p ts,∃g:aD p ts,vs=[.ref w]/\b9 H w p ts/\∀D H',H D=none->aq H H'->H' D=some (.lst (gJ (g.N.trail ts.length) p))->Q (.ref D) H'
def EF:Sp:=λvs H Q _=>∃w p ts,∃g:aD p ts,vs=[.ref w]/\b9 H w p ts/\∀H',aq H H'->Q (.int ((jz p ts g:Nat):Int)) H'
def EG:Sp:=λvs H Q _=>∃w p ts,∃g:aD p ts,vs=[.ref w]/\b9 H w p ts/\∀D H',H D=none->aq H H'->H' D=some (.lst (aB g.N.aM))->Q (.ref D) H'
def uG:Sp:=λvs H Q _=>∃w p ts,∃g:aD p ts,∃(D:Addr) (c:Nat),vs=[.ref w,.ref D,.int (c:Int)]/\b9 H w p ts/\H D=some (.lst (gJ (g.N.trail ts.length) p))/\c<ts.length/\Q (.int ((g.N.ring c:Nat):Int)) H
def BY{H:Hp}{xs:List V}{p:Nat}{ts:List cJ}{g:aD p ts}{k:Nat}(h3:Paired (TupAt H) xs ts)(hk:k<ts.length):∃c,xs[k]?=some (.ref c)/\H c=some (.tup [.int ((g.N.a k:Nat):Int),.int ((g.N.b k:Nat):Int),.int (bj ts k).2.2]):=by
 have I:k<xs.length:=by rw[h3.length];exact hk
 obtain⟨t,ht,c,hc,O⟩:=Paired.sS h3 (i:=k) (x:=xs[k]) (by simp[I])
 have U:t=bj ts k:=by
  have z:=vN hk;rw[ht]at z;exact Option.some.inj z
 refine⟨c,by rw[<-hc];simp[I],?_⟩
 rw[O,<-Gj hk,<-Gk hk,U];rfl
def bB:Ok T T.di 2 EE:=by
 have cg:=cg T;refine T.di.ok aY λ_ A _ s H vs Q E hr h=>?_
 ·obtain⟨wb,p,ts,g,rfl,hw,q⟩:=h;refine⟨_,(ai (aL (i:=1) aY.nd rfl (Or.inl rfl) (fB (KZ rfl) (by rfl) T.HY PyProof.Rows.boot_list (aa (fB yO (by rfl) T.eY PyProof.Rows.boot_range (aa (aK (eO K) (pv 0) ak) ah)) ah)))
   (ai (aL (i:=2) aY.nd rfl (Or.inl rfl) (aR L1 (fb (aa ak ah)) (aK (eO K) (pv 0) ak)))
   (ai (jN PassesOwn.never rfl (dw (by rfl) T.eY (aa (cL K T.eI (aa (aK (eO K) (pv 0) ak) ah)) ah)) (cE 3 aY.nd)
   (ai (aL (i:=4) aY.nd rfl (Or.inl rfl) (aK (eO K) (aK (eO K) (aK (eO K) (pv 0) ak) (pv 3)) ak))
   (ai (aL (i:=5) aY.nd rfl (Or.inl rfl) (aK (eO K) (aK (eO K) (aK (eO K) (pv 0) ak) (pv 3)) ak))
   (av (ck (aH yC (aK (my K) (pv 1) (pv 4)) (aK (my K) (pv 1) (pv 5)) (aP _)) (ai (aL (i:=6) aY.nd rfl (Or.inr rfl) (aR jO (aR jO (aK (my K) (pv 2) (pv 4)) (aK (my K) (pv 2) (pv 5))) (aR pD ak (pv 3))))
   (ai (aL (i:=7) aY.nd rfl (Or.inr rfl) (eN (mq rfl) (by rfl) T.CW abZ (aa (aK (my K) (pv 1) (pv 4)) (aa (aK (my K) (pv 1) (pv 5)) ah))))
   (ai (kK (i:=2) aY.nd rfl rfl (own:=["trail","least"]) (fq:=["bridge","moved"]) (js:=[6,7]) (aN (aj eU) ["web","leasts","trails","tie","one","other","bridge","moved"]) rfl (Mi K (by rfl) T.PD (aa (pv 2) (aa (pv 1) ah))) (λ_ _ _ _=>(Mb K (n:=2) rfl (bK (cE 0 (ue ["trail","least","bridge","moved"])) (bK (cE 1 (ue ["trail","least","bridge","moved"])) jw)))) (λ_ _ _ _=>dJ) (λ_ _ _ _=>(lM (aH iY (pv 1) (pv 3) (aP _)) (aR jO (pv 0) (pv 2)) (pv 0))))
   (av (aL (i:=1) aY.nd rfl (Or.inl rfl) (aO cg hr T.eA.c aJ (aa (pv 1) (aa (pv 4) (aa (pv 5) ah))))))))) bh)))))
   (av (aG (pv 2)))))),?_⟩
  refine qa ?_;intro dc dQ fT gW jv lD uf zN zO CV;obtain⟨bt,xs,h1,h2,h3⟩:=id hw.ex;have wp:=g.p2;have wl:=g.len;have AA:=h3.length;refine(au rfl (eG (bf.of h1) (ao (j:=0) rfl) (au rfl (λr hr=>⟨r,p,rfl,af,by lia,λl hl=>?_⟩))))
  have s1:aq H (upd (upd H r (.C4 0 (p:Int))) l (.lst (u6 p))):=(aq.new hr).trans (aq.new hl);have ab:upd (upd H r (.C4 0 (p:Int))) l (.lst (u6 p)) l=some (.lst (gJ (g.N.cy 0) p)):=af;generalize upd (upd H r (.C4 0 (p:Int))) l (.lst (u6 p))=H1 at s1 ab;refine⟨dl rfl,λl0 E2=>?_⟩
  have s0:aq H1 (upd H1 l0 (.lst [.int 0])):=aq.new E2;refine(au rfl (eG (bf.of (s0 _ _ (s1 _ _ h1))) (ao (j:=0) rfl) ⟨l0,(p:Int),au rfl ⟨rfl,af,by lia,by lia,(by rw[aah];show 1*p<=sizeLine;exact dl (abn.mpr (by lia))),λe he=>?_⟩⟩))
  have s2:=s0.trans (aq.new (o:=.lst (List.replicate (p:Int).toNat [V.int 0]).flatten) he);have QH:upd (upd H1 l0 (.lst [.int 0])) e (.lst (List.replicate (p:Int).toNat [V.int 0]).flatten) e=some (.lst (gJ (g.N.trail 0) p)):=by
   rw[af,aah,Gm];rfl
  generalize upd (upd H1 l0 (.lst [.int 0])) e (.lst (List.replicate (p:Int).toNat [V.int 0]).flatten)=H2 at s2 QH;refine(au rfl (eG (bf.of ((s1.trans s2) _ _ h1)) (ao (j:=1) rfl) (uS rfl (.inr (bf.of ((s1.trans s2) _ _ h2))) (au rfl ⟨(by lia),(by lia),?_⟩))))
  refine uc (lo:=0) (n:=(xs.length:Int).toNat) (λk σ H3=>∃la ta v3 v4 v5 v6 v7,σ=[some (.ref wb),some (.ref la),some (.ref ta),v3,v4,v5,v6,v7]/\aq H H3/\H3 la=some (.lst (gJ (g.N.cy k) p))/\H3 ta=some (.lst (gJ (g.N.trail k) p))/\H ta=none)
   ⟨l,e,none,none,none,none,none,rfl,s1.trans s2,s2 _ _ ab,QH,s1.free (s0.free he)⟩ ?_ ?_
  ·rintro k D' σ H3 hk ⟨la,ta,v3,v4,v5,v6,v7,rfl,s3,I,Z,NF⟩;rw[aah,AA]at hk;rw[aby];obtain⟨c,ag,ar⟩:=BY (g:=g) h3 hk;have hA:=g.N.al k hk;have hB:=g.N.bl k hk;have Y:=RM.oq (N:=g.N) k;have Km:g.N.fZ k = !decide (g.N.cy k (g.N.a k)=g.N.cy k (g.N.b k)):=rfl;have U:g.N.trail (k+1)=if g.N.fZ k=true then λv=>if g.N.cy k v=max (g.N.cy k (g.N.a k)) (g.N.cy k (g.N.b k)) then g.N.trail k v^^^(g.N.trail k (g.N.a k)^^^g.N.trail k (g.N.b k)^^^2^k) else g.N.trail k v else g.N.trail k:=rfl
   generalize g.N.a k=A0 at *;generalize g.N.b k=B0 at *;refine(au rfl (eG (bf.of (s3 _ _ h1)) (ao (j:=1) rfl) (au rfl (eG (bf.of (s3 _ _ h2)) (ao (j:=k) ag) (eG (bf.of (s3 _ _ ar)) (ao (j:=0) rfl) (?_))))));refine(au rfl (eG (bf.of (s3 _ _ h1)) (ao (j:=1) rfl) (au rfl (eG (bf.of (s3 _ _ h2)) (ao (j:=k) ag) (eG (bf.of (s3 _ _ ar)) (ao (j:=1) rfl) (?_))))));refine(au rfl (au rfl (mX (aV.of I) (ao (j:=A0) (bY hA)) (au rfl (au rfl (mX (aV.of I) (ao (j:=B0) (bY hB)) ⟨rfl,au rfl (?_)⟩))))));rw[oA]
   by_cases he:g.N.cy k A0=g.N.cy k B0
   ·rw[fG he]at Km;rw[Km,Z0 (by decide)]at Y U
    rw[fG he];exact jR ⟨la,ta,_,_,_,_,_,rfl,s3,by rw[Y];exact I,by rw[U];exact Z,NF⟩
   ·rw[iK he]at Km;rw[Km,Z1 (by rfl)]at Y U
    rw[iK he];have Xp:Builtin.bitXor (Builtin.bitXor ((g.N.trail k A0:Nat):Int) ((g.N.trail k B0:Nat):Int)) (1*2^(k:Int).toNat)=((g.N.trail k A0^^^g.N.trail k B0^^^2^k:Nat):Int):=by
     rw[r9,xor_int,xor_int]
    refine lN (au rfl (au rfl (mX (aV.of Z) (ao (j:=A0) (bY hA)) (au rfl (au rfl (mX (aV.of Z) (ao (j:=B0) (bY hB)) (dB (au rfl (dB ⟨⟨by lia,by lia,by decide⟩,dB (?_)⟩)))))))))
    refine(au rfl (au rfl (mX (aV.of I) (ao (j:=A0) (bY hA)) (au rfl (au rfl (mX (aV.of I) (ao (j:=B0) (bY hB)) ⟨_,_,rfl,?_⟩))))));refine(au rfl (au rfl ⟨ta,la,rfl,⟨_,aV.of Z⟩,⟨_,aV.of I⟩,λD hD=>Gb (xs:=gJ (g.N.trail k) p) (ys:=gJ (g.N.cy k) p) (by rw[fN,fN]) (xy (g.N.trail (k+1)) H3 D) (.start hD) (λi acc H4 _ O=>⟨aV.of (O.1 _ _ Z),aV.of (O.1 _ _ I),O.len⟩) (by rw[fN];exact dl (abn.mpr (by lia))) ?_ ?_⟩))
    ·intro i x y T0 acc H4 hx hy O hT;obtain⟨hi,rfl⟩:=se hx;obtain⟨_,rfl⟩:=se hy;refine⟨T0,_,rfl,bf.of af,rfl,_,_,rfl,_,_,rfl,rfl,rfl,au rfl (au rfl ⟨rfl,au rfl (?_)⟩)⟩;rw[Cw,oA]
     by_cases hm:g.N.cy k i=max (g.N.cy k A0) (g.N.cy k B0)
     ·rw[fG hm];refine lN (au rfl (au rfl (dB (O.next hD (aq.new hT) ?_))));show V.int (Builtin.bitXor _ (Builtin.bitXor (Builtin.bitXor _ _) _))=_;rw[Xp,xor_int,U];show _=V.int (((if _ then _ else _:Nat)):Int)
      rw[Z1 hm]
     ·rw[iK hm];refine jR (au rfl (O.next hD (aq.new hT) ?_));rw[U];show _=V.int (((if _ then _ else _:Nat)):Int)
      rw[Z0 hm]
    ·intro acc H4 O;rw[fN]at O;have PN:H4 D=some (.lst (gJ (g.N.trail (k+1)) p)):=by rw[O.2.1,O.2.2]
     refine(au rfl (au rfl (au rfl ⟨la,g.N.cy k,p,A0,B0,rfl,O.1 _ _ I,wp,hA,hB,λD2 H5 ZK s5 xO=>?_⟩)))
     exact⟨D2,D,_,_,_,_,_,rfl,(s3.trans O.1).trans s5,by rw[Y];exact xO,s5 _ _ PN,s3.free hD⟩
  ·rintro σ H3 ⟨la,ta,v3,v4,v5,v6,v7,rfl,s3,I,Z,NF⟩;rw[aah,AA]at Z;exact(au rfl (q ta H3 NF s3 Z))
def uH:Ok T T.uA 3 EF:=by
 have bB:=bB T;refine T.uA.ok mP λ_ A _ s H vs Q E hr h=>?_
 ·obtain⟨I,p,ts,g,rfl,hw,q⟩:=h;refine⟨_,(ai (aL (i:=1) mP.nd rfl (Or.inl rfl) ak)
   (ai (jN PassesOwn.never rfl (yL K (aO bB hr T.di.c aJ (aa (pv 0) ah))) (cE 2 mP.nd)
   (av (Fi (i:=1) mP.nd rfl (Or.inl rfl) (pv 2) Fy)))
   (av (aG (pv 1))))),?_⟩
  refine Ei ?_;intro U Y Z;refine(au rfl ⟨I,p,ts,g,rfl,hw,λD H1 PL s1 O=>⟨D,rfl,⟨_,aV.of O⟩,?_⟩⟩)
  refine iS (K:=K) (a:=D) (xs:=gJ (g.N.trail ts.length) p) (λi σ H2=>∃v2,σ=[some (.ref I),some (.int ((ND (g.N.trail ts.length) i:Nat):Int)),v2]/\H2=H1) ⟨none,rfl,rfl⟩ (λi σ H2 _ ⟨_,_,z⟩=>by rw[z];exact aV.of O) ?_ ?_
  ·rintro i x D' σ H2 hx ⟨v2,rfl,rfl⟩;obtain⟨hi,rfl⟩:=se hx;refine(au rfl (au rfl (dB ⟨some (.int ((g.N.trail ts.length i:Nat):Int)),?_,rfl⟩)));show[_,some (V.int (Builtin.bitOr _ _)),_]=_;rw[or_int];rfl
  ·rintro σ H2 ⟨v2,rfl,rfl⟩;rw[fN,A8];exact(au rfl (q _ s1))
def kE:Ok T T.o6 4 EG:=by
 have uH:=uH T;have bX:=bX T;have cB:=cB T;refine T.o6.ok Ej λ_ A _ s H vs Q E hr h=>?_
 ·obtain⟨I,p,ts,g,rfl,hw,q⟩:=h;refine⟨_,(av (aG (aO cB hr T.iU.c aJ (aa (aR jO (aO bX hr T.gr.c aJ (aa (pv 0) ah)) (aO uH hr T.uA.c aJ (aa (pv 0) ah))) ah)))),?_⟩;have wl:=g.len;refine(au rfl ⟨I,p,ts,rfl,hw,g.yo,_,rfl,I,p,ts,g,rfl,hw,λH1 s1=>(dB ⟨(2^ts.length-1)^^^jz p ts g,?_,?_,λD H2 U s2 O=>?_⟩)⟩)
  ·show[V.int (Builtin.bitXor _ _)]=_;rw[Jy,xor_int]
  ·exact aat (bits_le vQ) (by lia)
  ·rw[yU]at O;exact q D H2 (s1.free U) (s1.trans s2) O
def jY:Ok T T.jW 1 uG:=by
 refine T.jW.ok lY λ_ A _ s H vs Q E hr h=>?_
 ·obtain⟨Z,p,ts,g,D,c,rfl,hw,I,hc,q⟩:=h;refine⟨_,(ai (aL (i:=3) lY.nd rfl (Or.inl rfl) (aK (eO K) (aK (eO K) (pv 0) ak) (pv 2)))
   (av (aG (aR jO (aR jO (aK (my K) (pv 1) (aK (eO K) (pv 3) ak)) (aK (my K) (pv 1) (aK (eO K) (pv 3) ak))) (aR pD ak (pv 2)))))),?_⟩
  refine jT ?_;intro dc;obtain⟨bt,xs,h1,h2,O⟩:=id hw.ex;have wl:=g.len;obtain⟨b,hxc,hct⟩:=BY (g:=g) O hc;have U:=g.N.al c hc;have Y:=g.N.bl c hc;refine(au rfl (eG (bf.of h1) (ao (j:=1) rfl) (au rfl (eG (bf.of h2) (ao (j:=c) hxc) (?_)))));refine(au rfl (au rfl (eG (bf.of hct) (ao (j:=0) rfl) (mX (aV.of I) (ao (j:=g.N.a c) (bY U)) (au rfl (au rfl (eG (bf.of hct) (ao (j:=1) rfl) (mX (aV.of I) (ao (j:=g.N.b c) (bY Y)) (dB (au rfl (dB ⟨⟨by lia,by lia,by decide⟩,dB (?_)⟩)))))))))))
  show Q (V.int (Builtin.bitXor (Builtin.bitXor _ _) _)) H;rw[r9,xor_int,xor_int];exact q
def vt(C:Addr):Sp:=λvs H Q E=>∃w p ts,∃g:aD p ts,∃S,vs=[.ref w,.int S]/\b9 H w p ts/\
 ((∃c:Nat,S=(c:Int)/\c∈g.N.aM/\∀H',aq H H'->Q (.int ((g.N.ring c:Nat):Int)) H')\/((∀c∈g.N.aM,S≠((c:Nat):Int))/\∀H',aq H H'->E (.ref C) none H'))
def k8:M0 T T.k6 5 (vt a.qA):=by
 have kE:=kE T;have bB:=bB T;have jY:=jY T;refine T.k6.Jq ve λ_ A _ s H vs Q E hr h=>?_
 ·obtain⟨I,p,ts,g,S,rfl,hw,q⟩:=h;refine⟨_,(ai (ck (aH (Ma K) (pv 1) (aO kE hr T.o6.c aJ (aa (pv 0) ah)) (by with_unfolding_all rfl)) (av (yM kM.Uc rfl (by rfl) T.EB PySem.F.excBase_ValueError (aa kH ah))) bh)
   (av (aG (aO jY hr T.jW.c aJ (aa (pv 0) (aa (aO bB hr T.di.c aJ (aa (pv 0) ah)) (aa (pv 1) ah))))))),?_⟩
  refine gF ?_;intro dc dQ;refine(au rfl (au rfl ⟨I,p,ts,g,rfl,hw,λD H1 PL s1 O=>(uS rfl (.inl (aV.of O)) ⟨rfl,iP _,_,rfl,?_⟩)⟩))
  rcases q with⟨c,rfl,hc,q⟩|⟨U,q⟩
  ·rw[lP,fG hc];refine jR (au rfl (au rfl ⟨I,p,ts,g,rfl,hw.same s1,λY H2 Z s2 xO=>(au rfl ⟨I,p,ts,g,Y,c,rfl,hw.same (s1.trans s2),xO,(RM.cX.mp hc).1,q _ (s1.trans s2)⟩)⟩))
  ·rw[Mq U];exact lN ⟨dl rfl,q _ s1⟩
def EH:Sp:=λvs H Q _=>∃I O,∃a b:Nat,vs=[.int I,.int O]/\I=(a:Int)/\O=(b:Int)/\Builtin.Int.intBits ((a&&&b:Nat):Int)<=1000/\∀H',aq H H'->Q (.int (((bT ((a&&&b:Nat):Int)).length:Nat):Int)) H'
def Ie:Sp:=λvs H Q _=>∃I O,∃a b:Nat,vs=[.int I,.int O]/\I=(a:Int)/\O=(b:Int)/\Builtin.Int.intBits ((a&&&b:Nat):Int)<=1000/\∀H',aq H H'->Q (.bl (decide ((bT ((a&&&b:Nat):Int)).length%2=1))) H'
structure M3(p:Nat)(xs:List Nat):Prop where
 up:xs.Pairwise (· < ·)
 lt:∀x∈xs,x<p
def BZ:Sp:=λvs H Q _=>∃w p ts,∃(l:Addr) (xs:List Nat),vs=[.ref w,.ref l]/\b9 H w p ts/\H l=some (.lst (aB xs))/\M3 p xs/\Q (.bl true) H
def EI:Sp:=λvs H Q _=>∃w p ts,∃(l:Addr) (ks:List Nat),vs=[.ref w,.ref l]/\b9 H w p ts/\Mj p ts/\H l=some (.lst (aB ks))/\(∀k∈ks,k<ts.length)/\Q (.int ((orM ks:Nat):Int)) H
def EJ:Sp:=λvs H Q _=>∃w p ts,∃g:aD p ts,∃(l:Addr) (xs:List Nat),vs=[.ref w,.ref l]/\b9 H w p ts/\H l=some (.lst (aB xs))/\M3 p xs/\
 ∀H',aq H H'->Q (.int ((g.N.cut (λx=>decide (x∈xs)):Nat):Int)) H'
def Ad(p:Nat)(f:Nat->Bool):M3 p ((List.range p).filter f):=⟨A7,λx hx=>aan.mp (aao.mp hx).1⟩
def Kn(n:Nat):decide (V.int (((n:Nat):Int)%2)=V.int 1)=decide (n%2=1):=aaY.mpr ⟨λz=>by have:=V.int.inj z;lia,λz=>aas V.int (by lia)⟩
def uI:Ok T T.uB 3 EH:=by
 have cB:=cB T;refine T.uB.ok Ek λ_ A _ s H vs Q E hr h=>?_
 ·obtain⟨O,U,u,v,rfl,rfl,rfl,hb,q⟩:=h;refine⟨_,(av (aG (cL K T.eI (aa (aO cB hr T.iU.c aJ (aa (aR Fw (pv 0) (pv 1)) ah)) ah)))),?_⟩;refine(au rfl (au rfl (dB ⟨u&&&v,?_,hb,λD H1 hn s1 I=>(uS rfl (.inl (aV.of I)) (?_))⟩)))
  ·show[V.int (Builtin.bitAnd _ _)]=_;rw[and_int]
  ·rw[aU];exact q H1 s1
def dD:Ok T T.gG 4 Ie:=by
 have uI:=uI T;refine T.gG.ok ur λ_ A _ s H vs Q E hr h=>?_
 ·obtain⟨I,O,u,v,rfl,rfl,rfl,hb,q⟩:=h;refine⟨_,(av (aG (fJ iY (aR fW (aO uI hr T.uB.c aJ (aa (pv 0) (aa (pv 1) ah))) ak) ak (aP _)))),?_⟩;refine(au rfl (au rfl ⟨_,_,u,v,rfl,rfl,rfl,hb,λH1 s1=>(dB ⟨(yK rfl),rfl,?_⟩)⟩))
  rw[Kn];exact q H1 s1
def qK:Ok T T.qB 1 BZ:=by
 refine T.qB.ok kX λ_ A _ s H vs Q E hr h=>?_
 ·obtain⟨wb,p,ts,l,zs,rfl,hw,Y,Z,q⟩:=h;refine⟨_,(ai (aL (i:=2) kX.nd rfl (Or.inl rfl) (Og LO ak))
   (ai (jN PassesOwn.never rfl (yL K (pv 1)) (cE 3 kX.nd)
   (ai (ck (PW.pt (yz (aH KN (pv 3) (pv 2) (aP _)) (sG (aH Cf (pv 3) (aK (eO K) (pv 0) ak) (aP _))))) (av (aG sF)) bh)
   (av (aL (i:=2) kX.nd rfl (Or.inl rfl) (pv 3)))))
   (av (aG sF)))),?_⟩
  refine wN ?_;intro dc dQ fT gW jv;obtain⟨bt,xs,h1,h2,h3⟩:=id hw.ex;refine(au rfl (au rfl ⟨l,rfl,⟨_,aV.of Y⟩,sL (K:=K) (a:=l) (xs:=aB zs) (λi σ H2=>∃z O,σ=[some (.ref wb),some (.ref l),some (.int z),O]/\H2=H/\∀x∈zs.drop i,z<(x:Int)) ⟨_,none,rfl,rfl,λx _=>by show(-1:Int)<_;lia⟩ (λi σ H2 _ ⟨_,_,_,z,_⟩=>by rw[z];exact aV.of Y) ?_ ?_⟩))
  ·rintro i y σ H2 U ⟨z,O,rfl,rfl,hz⟩;obtain⟨x,hx,rfl⟩:=kc U;have I:zs.drop i=x::zs.drop (i+1):=by
    obtain⟨hi,e⟩:=ju.mp hx;rw[List.drop_eq_getElem_cons hi,e]
   have ZL:=hz x (by rw[I];exact aad)
   have ZM:=Z.lt x (j7 hx);refine(au rfl (au rfl (dB (au rfl (mU (by lia) (au rfl (au rfl (eG (bf.of h1) (ao (j:=0) rfl) (dB (au rfl (mU (by lia) ?_)))))))))))
   refine(au rfl ⟨(x:Int),au rfl ⟨rfl,λy U=>?_⟩⟩)
   have pw:(zs.drop i).Pairwise (· < ·):=Z.up.sublist (List.drop_sublist _ _);rw[I]at pw;have:=(ab8.mp pw).1 y U
   lia
  ·rintro σ H2 ⟨z,O,rfl,rfl,_⟩;exact q
def uJ:Ok T T.uy 1 EI:=by
 refine T.uy.ok mO λ_ A _ s H vs Q E hr h=>?_
 ·obtain⟨Y,p,ts,l,ks,rfl,hw,W,U,hk,q⟩:=h;refine⟨_,(ai (aL (i:=2) mO.nd rfl (Or.inl rfl) ak)
   (ai (jN PassesOwn.never rfl (yL K (pv 1)) (cE 3 mO.nd)
   (ai (ck (PW.pt (yz (aH vC (pv 3) ak (aP _)) (sG (aH Cf (pv 3) (cL K T.eI (aa (aK (eO K) (pv 0) ak) ah)) (aP _))))) dm bh)
   (av (Fi (i:=2) mO.nd rfl (Or.inl rfl) (aR pD ak (pv 3)) Fy))))
   (av (aG (pv 2))))),?_⟩
  refine wN ?_;intro dc dQ fT gW jv;obtain⟨bt,xs,h1,h2,Z⟩:=id hw.ex;have AA:=Z.length;have wl:=W.len;refine(au rfl ⟨l,rfl,⟨_,aV.of U⟩,sL (K:=K) (a:=l) (xs:=aB ks) (λi σ H2=>∃O,σ=[some (.ref Y),some (.ref l),some (.int ((orM (ks.take i):Nat):Int)),O]/\H2=H) ⟨none,rfl,rfl⟩ (λi σ H2 _ ⟨_,_,z⟩=>by rw[z];exact aV.of U) ?_ ?_⟩)
  ·rintro i x σ H2 hx ⟨O,rfl,rfl⟩;obtain⟨k,I,rfl⟩:=kc hx;have ab:=hk k (j7 I);refine(au rfl (dB (au rfl (mU (by lia) (au rfl (au rfl (eG (bf.of h1) (ao (j:=1) rfl) (uS rfl (.inr (bf.of h2)) (dB (au rfl (mU (by lia) ?_)))))))))))
   refine(au rfl (au rfl (dB ⟨⟨by lia,by lia,by decide⟩,dB ⟨some (.int (k:Int)),?_,rfl⟩⟩)))
   show[_,_,some (V.int (Builtin.bitOr _ (1*2^(k:Int).toNat))),_]=_;rw[r9,or_int,aaK,I];unfold Ring.orM;rw[ack];rfl
  ·rintro σ H2 ⟨O,rfl,rfl⟩;rw[aU,aaV];exact(au rfl (q))
def uK:Ok T T.uC 2 EJ:=by
 have qK:=qK T;have uJ:=uJ T;refine T.uC.ok El λ_ A _ s H vs Q E hr h=>?_
 ·obtain⟨wb,p,ts,g,l,zs,rfl,hw,hl,sd,q⟩:=h;refine⟨_,(ai (ck (w6 (lK (aO qK hr T.qB.c aJ (aa (pv 0) (aa (pv 1) ah))))) dm bh)
   (av (aG (aO uJ hr T.uy.c aJ (aa (pv 0) (aa (dS (own:=["k","tie"]) (fq:=["side"]) (js:=[1]) (aN (aj oU) ["web","side"]) rfl (yX K (by rfl) T.rf (aa (aK (eO K) (pv 0) ak) ah)) (λ_ _ _ _=>(Mb K (n:=2) rfl (bK (cE 0 (ue ["k","tie","side"])) (bK (cE 1 (ue ["k","tie","side"])) jw)))) (λ_ _ _ _=>(mw (aH yC (fJ (Qz K) (aK (eO K) (pv 1) ak) (pv 2) (by with_unfolding_all rfl)) (fJ (Qz K) (aK (eO K) (pv 1) ak) (pv 2) (by with_unfolding_all rfl)) (aP _)))) (λ_ _ _ _=>(pv 0))) ah)))))),?_⟩
  refine gF ?_;intro dc dQ;obtain⟨bt,xs,h1,h2,h3⟩:=id hw.ex;have AA:=h3.length;have wl:=g.len;refine(au rfl (au rfl ⟨wb,p,ts,l,zs,rfl,hw,hl,sd,_,rfl,jR ?_⟩));refine(au rfl (au rfl (eG (bf.of h1) (ao (j:=1) rfl) ⟨bt,rfl,⟨_,bf.of h2⟩,λD Z=>Bd (xs:=xs) (n5 (λk=>decide (g.N.a k∈zs)^^decide (g.N.b k∈zs)) H D) (.start Z) (λi acc H2 _ I=>⟨bf.of (I.1 _ _ h2),I.len⟩) (fL (by lia)) ?_ ?_⟩)))
  ·intro i x T0 acc H2 hx I O;have hi:i<ts.length:=by have:=(ju.mp hx).1;lia
   obtain⟨b,U,ab⟩:=BY (g:=g) h3 hi;rw[hx]at U;cases U;have PR:upd H2 T0 (.tup [.int (i:Int),.ref b]) b=some _:=aq.new O _ _ (I.1 _ _ ab);have Y:upd H2 T0 (.tup [.int (i:Int),.ref b]) l=some _:=aq.new O _ _ (I.1 _ _ hl);refine⟨T0,_,rfl,bf.of af,rfl,_,_,rfl,_,_,rfl,rfl,rfl,?_⟩;refine(au rfl (eG (bf.of PR) (ao (j:=0) rfl) (au rfl (uS rfl (.inl (aV.of Y)) ⟨rfl,iP _,_,rfl,eG (bf.of PR) (ao (j:=1) rfl) (au rfl (uS rfl (.inl (aV.of Y)) ⟨rfl,iP _,rfl,au rfl (?_)⟩))⟩))));rw[lP,lP];cases e1:decide (g.N.a i∈zs)<;>cases e2:decide (g.N.b i∈zs)
   ·exact I.no (aq.new O) (by rw[e1,e2];rfl)
   ·exact(au rfl (I.yes Z (aq.new O) (by rw[e1,e2];rfl)))
   ·exact(au rfl (I.yes Z (aq.new O) (by rw[e1,e2];rfl)))
   ·exact I.no (aq.new O) (by rw[e1,e2];rfl)
  ·intro acc H2 I;refine⟨wb,p,ts,D,_,rfl,hw.same I.1,g.yo,by rw[I.2.1,I.2.2],λk hk=>?_,?_⟩
   ·have:=aan.mp (aao.mp hk).1
    lia
   ·rw[Be,AA];exact q H2 I.1
def rh(p:Nat)(ts:List cJ)(g:aD p ts)(m:Nat):List Nat:=(List.range p).filter λx=>g.N.par (g.N.trail ts.length x) m
def Told(p:Nat)(ts:List cJ)(g:aD p ts)(m:Nat)(H H' : Hp)(t:Addr):Prop :=
 (m=g.N.cut (λx=>decide (x∈rh p ts g m))/\∃l,H l=none/\H' t=some (.tup [.str "side",.ref l])/\H' l=some (.lst (aB (rh p ts g m))))\/
 (∃c,c∈g.N.aM/\g.N.par (g.N.ring c) m=true/\H' t=some (.tup [.str "ring",.int ((g.N.ring c:Nat):Int)]))
def B3(C:Addr):Sp:=λvs H Q E=>∃w p ts,∃g:aD p ts,∃S,vs=[.ref w,.int S]/\b9 H w p ts/\wO ts S (E (.ref C) none H) λm=>∀t H',H t=none->aq H H'->Told p ts g m H H' t->Q (.ref t) H'
def Ae{p:Nat}{ts:List cJ}{g:aD p ts}{m:Nat}:g.N.cut (λx=>decide (x∈rh p ts g m))=g.N.cut λx=>g.N.par (g.N.trail g.N.n x) m:=RM.DI λx hx=>by
 unfold rh;rw[aa1,decide_eq_true_eq,aao,aan];exact⟨λz=>z.2,λz=>⟨hx,z⟩⟩
def B4{m:Nat}(h:m≠0):∃c,(bT (m:Int))[0]?=some c/\m.testBit c=true:=by
 obtain⟨k,hk⟩:=abS h;have hm:k∈bT (m:Int):=by
  unfold bT;refine aao.mpr ⟨aan.mpr (Nat.lt_of_not_le λz=>?_),by rw[mz];exact hk⟩
  have:=yR z;rw[mz,hk]at this;cases this
 cases e:bT (m:Int) with
 | nil =>
   rw[e]at hm;cases hm
 | cons c r =>
   have hc:c∈bT (m:Int):=by rw[e];exact aad
   unfold bT at hc;have:=(aao.mp hc).2;rw[mz]at this;exact⟨c,rfl,this⟩
def gQ{u v:Nat}(h:u^^^v=0):u=v:=by
 have:=aas (λx=>x^^^v) h
 simpa[aaR]using this
def Ig(n:Nat):decide (V.int ((n:Nat):Int)=V.int 0)=decide (n=0):=aaY.mpr ⟨λz=>by have:=V.int.inj z;lia,λz=>by rw[z];rfl⟩
def qL:M0 T T.qC 6 (B3 a.gR):=by
 have cH:=cH T;have bB:=bB T;have dD:=dD T;have uK:=uK T;have cB:=cB T;have k8:=k8 T;refine T.qC.Jq kY λ_ A _ s H vs Q E hr h=>?_
 ·obtain⟨O,p,ts,g,S,rfl,hw,q⟩:=h;refine⟨_,(ai (bR (aO cH hr T.gU.c kM.passes (aa (pv 0) (aa (pv 1) ah))))
   (ai (aL (i:=2) kY.nd rfl (Or.inr rfl) (aO bB hr T.di.c aJ (aa (pv 0) ah)))
   (ai (kK (i:=3) kY.nd rfl rfl (own:=["point"]) (fq:=["tie_set","trails"]) (js:=[1,2]) (aN (aj mQ) ["web","tie_set","trails","side","amiss"]) rfl (dw (by rfl) T.eY (aa (aK (eO K) (pv 0) ak) ah)) (λ_ _ _ _=>(cE 0 (ue ["point","tie_set","trails"]))) (λ_ _ _ _=>(mw (lK (aO dD hr T.gG.c aJ (aa (aK (my K) (pv 2) (pv 0)) (aa (pv 1) ah)))))) (λ_ _ _ _=>(pv 0)))
   (ai (aL (i:=4) kY.nd rfl (Or.inl rfl) (aR jO (pv 1) (aO uK hr T.uC.c aJ (aa (pv 0) (aa (pv 3) ah)))))
   (ai (ck (aH iY (pv 4) ak (aP _)) (av (aG (cI (aa kH (aa (pv 3) ah))))) bh)
   (av (aG (cI (aa kH (aa (aO k8 hr T.k6.c kM.passes (aa (pv 0) (aa (aK (my K) (aO cB hr T.iU.c aJ (aa (pv 4) ah)) ak) ah))) ah)))))))))),?_⟩
  refine BC ?_;intro dc dQ fT gW jv lD;obtain⟨bt,xs,h1,h2,h3⟩:=id hw.ex;have wl:=g.len;have wp:=g.p2;have W:=g.yo;rcases q with⟨m,rfl,hm,q⟩|⟨hS,q⟩
  case inr=>exact(au rfl (au rfl ⟨O,p,ts,_,rfl,hw,W,.inr ⟨hS,q⟩⟩))
  refine(au rfl (au rfl ⟨O,p,ts,_,rfl,hw,W,.inl ⟨m,rfl,hm,?_⟩⟩));refine(au rfl ⟨O,p,ts,g,rfl,hw,λD H1 ar s1 hD=>?_⟩)
  refine(au rfl (eG (bf.of (s1 _ _ h1)) (ao (j:=0) rfl) (au rfl ⟨(by lia),(by lia),λC hC=>dN (lo:=0) (m:=(p:Int).toNat) (n5 (λx=>g.N.par (g.N.trail ts.length x) m) H1 C) (.start hC) (λi acc H2 _ I=>I.len) (fL (by lia)) ?_ ?_⟩)))
  ·intro i acc H2 hi I;rw[aah]at hi;rw[aby];have Ih:Builtin.Int.intBits ((g.N.trail ts.length i&&&m:Nat):Int)<=1000:=aat (bits_le (acQ _ hm)) (by lia)
   refine⟨rfl,au rfl (au rfl (mX (aV.of (I.1 _ _ hD)) (ao (j:=i) (bY hi)) (au rfl ⟨_,_,g.N.trail ts.length i,m,rfl,rfl,rfl,Ih,λH3 s3=>(au rfl (?_))⟩)))⟩
   rw[CC (g:=g) hm];cases hb:g.N.par (g.N.trail ts.length i) m with
   | true=>exact(au rfl (I.yes hC s3 hb))
   | false=>exact I.no s3 hb
  ·intro acc H2 I;have UE:H2 C=some (.lst (aB (rh p ts g m))):=by rw[I.2.1,I.2.2,aah];rfl
   have U:=s1.trans I.1;refine(au rfl (au rfl (au rfl ⟨O,p,ts,g,C,_,rfl,hw.same U,UE,Ad p _,λH3 s3=>(dB (?_))⟩)))
   have Z:=U.trans s3;dsimp only;rw[xor_int,Ae];have ac:=λk=>RM.yZ (N:=g.N) (m:=m) (k:=k) hm
   have Y:(m^^^g.N.cut λx=>g.N.par (g.N.trail g.N.n x) m)<2^ts.length:=aaM hm (RM.Mt _)
   have hz:(m^^^g.N.cut λx=>g.N.par (g.N.trail g.N.n x) m)=0->m=g.N.cut (λx=>decide (x∈rh p ts g m)):=λz=>by rw[Ae];exact gQ z
   generalize (m^^^g.N.cut λx=>g.N.par (g.N.trail g.N.n x) m)=A at ac Y hz
   refine(au rfl ⟨rfl,au rfl (?_)⟩);rw[Ig]
   by_cases hA:A=0
   ·rw[fG hA];refine lN (au rfl ⟨dl rfl,λt ht=>q t _ (Z.free ht) (Z.trans (aq.new ht)) (.inl ⟨hz hA,C,s1.free hC,af,aq.new ht _ _ (s3 _ _ UE)⟩)⟩)
   ·rw[iK hA];obtain⟨c,ab,ag⟩:=B4 hA;obtain⟨hcn,hcf,hcp⟩:=ac c ag;refine jR (au rfl (au rfl ⟨A,rfl,aat (bits_le Y) (by lia),λD4 H4 ZN s4 PN=>(mX (aV.of PN) (ao (j:=0) (Jz ab)) ⟨O,p,ts,g,_,rfl,hw.same (Z.trans s4),.inl ⟨c,rfl,RM.cX.mpr ⟨hcn,hcf⟩,λH5 s5=>⟨dl rfl,λt ht=>?_⟩⟩⟩)⟩))
    have UG:=(Z.trans s4).trans s5;exact q t _ (UG.free ht) (UG.trans (aq.new ht)) (.inr ⟨c,RM.cX.mpr ⟨hcn,hcf⟩,hcp,af⟩)
def yd(C:Addr):Sp:=λvs H Q E=>∃w p ts S,vs=[.ref w,.int S]/\b9 H w p ts/\Mj p ts/\wO ts S (∀H',aq H H'->E (.ref C) none H') λm=>∀H',aq H H'->Q (.int (lenOf ts m)) H'
def fE:M0 T T.jI 5 (yd a.gR):=by
 have eB:=eB T;refine T.jI.Jq xS λ_ A _ s H vs Q E hr h=>?_
 ·obtain⟨Y,p,ts,S,rfl,hw,W,q⟩:=h;refine⟨_,(av (aG (eN (sumK K rfl) (by rfl) T.PB PyProof.Rows.boot_sum (aa (dS (own:=["tie"]) (fq:=[]) (js:=[]) (aN (aj jE) ["web","tie_set"]) rfl (yL K (aO eB hr T.iI.c kM.passes (aa (pv 0) (aa (pv 1) ah)))) (λ_ _ _ _=>(cE 0 (ue ["tie"]))) (λ_ _ _ _=>dJ) (λ_ _ _ _=>(aK (eO K) (pv 0) ak))) ah)))),?_⟩
  refine(au rfl (au rfl ⟨Y,p,ts,S,rfl,hw,W,?_⟩));rcases q with⟨m,rfl,hm,q⟩|⟨Z,q⟩
  ·refine .inl ⟨m,rfl,hm,λL ys H1 ZO s1 I pr=>⟨L,rfl,⟨_,aV.of I⟩,λD O=>?_⟩⟩
   have wl:=W.len;have U:ys.length=(bT (m:Int)).length:=by rw[pr.length,ZZ]
   have Sy:ys.length<=24:=by
    rw[U];have hb:Builtin.Int.intBits (m:Int)<=ts.length:=bits_le hm;have:=aaP (bit (m:Int)) (List.range (Builtin.Int.intBits (m:Int)));rw[aax]at this;exact aat this (by lia)
   refine dz (xs:=ys) (u9 (λk=>(bj ts k).2.2) (bT (m:Int)) H1 D) (.start O) (λi acc H2 _ pm=>⟨aV.of (pm.1 _ _ I),pm.len⟩) (fL Sy) ?_ ?_
   ·intro i x acc H2 hx pm;obtain⟨t,ht,c,rfl,hc⟩:=Paired.sS pr hx;rw[Z9]at ht;obtain⟨k,hk,rfl⟩:=uT.mp ht;exact⟨rfl,au rfl (eG (bf.of (pm.1 _ _ hc)) (ao (j:=2) rfl) (pm.next O (aq.refl _) hk rfl))⟩
   ·intro acc H2 pm;rw[U]at pm;exact⟨D,_,rfl,aV.of pm.fin,q H2 (s1.trans pm.1)⟩
  ·exact .inr ⟨Z,q _ (aq.refl _)⟩
def jq(ts:List cJ)(x y:Nat):Prop:=lenOf ts x<lenOf ts y\/(lenOf ts x=lenOf ts y/\x<=y)
def Ii(t:Addr)(lp:Pos):Sp:=λvs H Q _=>∃w p ts,∃g:aD p ts,∃(l:Addr) (ms:List Nat),vs=[.ref w,.ref l]/\b9 H w p ts/\H l=some (.lst (aB ms))/\ms.length<64/\(∀m∈ms,m<2^ts.length)/\H t=some (.iL (dM (mW "by_length") lp))/\
 ∀D I H',H D=none->aq H H'->H' D=some (.lst (aB I))->I.Perm ms->I.Pairwise (jq ts)->Q (.ref D) H'
def Lp:∀{l:List Int},(∀x∈l,0<=x)->∃ms:List Nat,l=ms.map (λx=>((x:Nat):Int))
 | [],_=>⟨[],rfl⟩
 | x::r,h=>by
   obtain⟨ms,e⟩:=Lp (l:=r) λy I=>h y (m9 _ I)
   have hx:=h x aad;refine⟨x.toNat::ms,?_⟩;rw[aaj,<-e]
   congr 1
   lia
def l8:UD T T.jJ 9 (Ii a.dR c5):=by
 have fE:=fE T;refine T.jJ.ok xT λA _ s H vs Q E hr h=>?_
 ·obtain⟨wb,p,ts,g,l,ms,rfl,hw,hl,U,I,Y,q⟩:=h;refine⟨_,(av (aG (Ht (x:="ring") (fq:=["web"]) (js:=[0]) hr (aN (aj jF) ["web","rings"]) rfl (by rfl) T.Aa rfl T.jJ.F.hd (aa (pv 1) ah) (λ_ _ _ _ hr=>(cI (aa (aO fE hr T.jI.c yN (aa (pv 1) (aa (pv 0) ah))) (aa (pv 0) ah))))))),?_⟩
  have W:=g.yo;have wl:=g.len;have big:(2:Nat)^ts.length<=2^24:=abe (by decide) wl
  have Z:∀n,n∈ms.map (λx=>((x:Nat):Int))->∃m:Nat,n=(m:Int)/\m∈ms:=λn hn=>by
   obtain⟨m,hm,rfl⟩:=aai.mp hn;exact⟨m,rfl,hm⟩
  refine(au rfl ⟨l,ms.map (λx=>((x:Nat):Int)),λz=>(lenOf ts z.toNat,z),rfl,by rw[<-tw];exact hl,by rw[ZZ];exact U,λn hn=>?_,Y,λH3 hk n hn=>?_,λD ab H4 hD s4 PN hp hs=>?_⟩)
  ·obtain⟨m,rfl,hm⟩:=Z n hn;have:=I m hm;exact⟨by show(0:Int)<=(m:Int);lia,by show(m:Int)<1073741824;lia⟩
  ·obtain⟨m,rfl,hm⟩:=Z n hn;have tp:bJ H H3:=λb xs e=>hk b _ e (λy z=>nomatch z) (λy z=>nomatch z)
   refine(au rfl (au rfl ⟨wb,p,ts,_,rfl,hw.tups tp,W,.inl ⟨m,rfl,I m hm,λH4 s4=>(au rfl ⟨dl rfl,λd hd=>?_⟩)⟩⟩))
   exact⟨s4.trans (aq.new hd),d,rfl,af⟩
  ·obtain⟨O,rfl⟩:∃O : List Nat,ab = O.map (λx=>((x:Nat):Int)):=by
    refine Lp λx hx=>?_
    obtain⟨m,rfl,_⟩:=Z x (hp.mem_iff.mp hx)
    lia
   have PU:O.Perm ms:=by
    have:=hp.map Int.toNat;rw[abk,abk]at this;have e:∀l:List Nat,l.map (Int.toNat∘λx=>((x:Nat):Int))=l:=λl=>by
     induction l with
     | nil=>rfl
     | cons x r ih=>rw[aaj,ih];rfl
    rw[e,e]at this;exact this
   refine q D O H4 hD s4 (by rw[tw];exact PN) PU ?_
   rw[aa7]at hs;refine aa0 (λ{x y} hx hy h=>?_) hs
   have hx:=I x (PU.mem_iff.mp hx);have hy:=I y (PU.mem_iff.mp hy);have h:lenOf ts x*1073741824+(x:Int)<=lenOf ts y*1073741824+(y:Int):=h;unfold jq
   lia
def Ij:Sp:=λvs H Q _=>∃w p ts,∃g:aD p ts,∃m:Nat,vs=[.ref w,.int (m:Int)]/\b9 H w p ts/\m<2^ts.length/\
 ∀D es S H',es.length=p->D7 m H D es S H'->Ld g.N ts.length S->Q (.ref D) H'
def M5{b:Bool}{σ:St}{f:VK}{H:Hp}(h:f (.int (b.toNat:Int)) H):if b=true then tC (.int 1) σ H f else tC (.int 0) σ H f:=by
 cases b<;>exact h
def gy:Ok T T.gv 2 Ij:=by
 have iV:=iV T;refine T.gv.ok cF λ_ A _ s H vs Q E hr h=>?_
 ·obtain⟨wb,p,ts,g,m,rfl,hw,hm,q⟩:=h;refine⟨_,(ai (kK (i:=2) cF.nd rfl rfl (own:=["point"]) (fq:=[]) (js:=[]) (aN (aj dY) ["web","marks","steps","tie","ends","turn"]) rfl (dw (by rfl) T.eY (aa (aK (eO K) (pv 0) ak) ah)) (λ_ _ _ _=>(cE 0 (ue ["point"]))) (λ_ _ _ _=>dJ) (λ_ _ _ _=>(fb ah)))
   (ai (jN PassesOwn.never rfl (yX K (by rfl) T.rf (aa (aK (eO K) (pv 0) ak) ah)) (Mb K (n:=2) rfl (bK (cE 3 cF.nd) (bK (cE 4 cF.nd) jw)))
   (ai (aL (i:=5) cF.nd rfl (Or.inl rfl) (lM (lK (aO iV hr T.mS.c aJ (aa (pv 1) (aa (pv 3) ah)))) ak ak))
   (ai (bR (E6 K (lz aaz aaN aaO cQ (aK (my K) (pv 2) (aK (eO K) (pv 4) ak)) (aa (cI (aa (pv 3) (aa (aK (eO K) (pv 4) ak) (aa (pv 5) ah)))) ah))))
   (av (bR (E6 K (lz aaz aaN aaO cQ (aK (my K) (pv 2) (aK (eO K) (pv 4) ak)) (aa (cI (aa (pv 3) (aa (aK (eO K) (pv 4) ak) (aa (pv 5) ah)))) ah))))))))
   (av (aG (pv 2))))),?_⟩
  refine oW ?_;intro dc dQ fT gW jv;obtain⟨bt,xs,h1,h2,h3⟩:=id hw.ex;have AA:=h3.length;have wp:=g.p2;have wl:=g.len;refine(au rfl (eG (bf.of h1) (ao (j:=0) rfl) (au rfl ⟨(by lia),(by lia),λD hD=>dN (lo:=0) (m:=p) (Lc m H D) (.start hD) (λi acc H2 _ z=>z.len) (dl (abn.mpr (by lia))) ?_ ?_⟩)))
  ·rintro i acc H2 hi f2;exact⟨rfl,dl rfl,λl hl=>f2.next hl⟩
  rintro acc H2 ⟨es,rfl,U,f2⟩;refine(au rfl (eG (bf.of (f2.same _ _ h1)) (ao (j:=1) rfl) ⟨bt,rfl,⟨_,bf.of (f2.same _ _ h2)⟩,?_⟩));refine DQ (K:=K) (a:=bt) (xs:=xs) (λk σ H3=>∃Y v4 Z,σ=[some (.ref wb),some (.int (m:Int)),some (.ref D),Y,v4,Z]/\∃S,D7 m H D es S H3/\Ld g.N k S) ⟨none,none,none,rfl,_,f2,Ld.start⟩ (λk σ H3 _ ⟨_,_,_,_,_,z,_⟩=>bf.of (z.same _ _ h2)) ?_ ?_
  ·rintro k x T0 σ H3 hk ⟨Y,v4,Z,rfl,S,f3,I⟩ hT;have ab:k<xs.length:=(ju.mp hk).1;have yn:k<ts.length:=by lia
   obtain⟨ct,ex,O⟩:=GJ (g:=g) h3 yn;rw[hk]at ex;cases ex;have s4:aq H3 (upd H3 T0 (.tup [.int (k:Int),.ref ct])):=aq.new hT;have QE:upd H3 T0 (.tup [.int (k:Int),.ref ct]) T0=some (.tup [.int (k:Int),.ref ct]):=af;have f4:=f3.go s4;generalize upd H3 T0 (.tup [.int (k:Int),.ref ct])=H4 at f4 QE;refine⟨T0,_,rfl,bf.of QE,rfl,_,_,rfl,_,_,rfl,rfl,?_⟩;refine(au rfl (au rfl ⟨(m:Int),k,rfl,au rfl (?_)⟩));rw[mz];have ha:g.N.a k<p:=g.N.al k yn;have hb:g.N.b k<p:=g.N.bl k yn;have M6:=f4.same _ _ O;refine M5 ?_;obtain⟨b1,Sz,e1,Xq,hb1,q1⟩:=f4.get (i:=g.N.a k) (by lia)
   refine(au rfl (au rfl (eG (bf.of M6) (ao (j:=0) rfl) (mX (aV.of f4.lst) (ao e1) (?_)))));have l1:Sz.length<=2*k:=by rw[q1.length];exact I.len _
   refine⟨.inl ⟨rfl,_,aV.of hb1⟩,au rfl (au rfl (eG (bf.of M6) (ao (j:=1) rfl) (au rfl ⟨dl rfl,λt1 yt=>?_⟩)))⟩
   have s5:aq H4 (upd H4 t1 (.tup [.int (k:Int),.int (g.N.b k:Int),.int ((m.testBit k).toNat:Int)])):=aq.new yt;have u5:jh m (upd H4 t1 (.tup [.int (k:Int),.int (g.N.b k:Int),.int ((m.testBit k).toNat:Int)])) t1 (k,g.N.b k):=af;have f5:=f4.go s5;have QV:=s5 _ _ hb1;have Xr:=s5 _ _ M6;have q5:Paired (jh m (upd H4 t1 (.tup [.int (k:Int),.int (g.N.b k:Int),.int ((m.testBit k).toNat:Int)]))) Sz (S (g.N.a k)):=Paired.w4 q1 λ_ _ z=>s5 _ _ z
   refine⟨b1,_,_,rfl,rfl,QV,A3 (by rw[ZZ];lia),?_⟩
   have f6:=f5.put Xq QV q5 u5;have M7:=f6.same _ _ O;generalize upd (upd H4 t1 (.tup [.int (k:Int),.int (g.N.b k:Int),.int ((m.testBit k).toNat:Int)])) b1 (.lst (Sz.map V.ref++[.ref t1]))=H6 at f6 M7;obtain⟨b2,Xs,e2,Xu,Lq,q2⟩:=f6.get (i:=g.N.b k) (by lia)
   refine(au rfl (au rfl (eG (bf.of M7) (ao (j:=1) rfl) (mX (aV.of f6.lst) (ao e2) (?_)))));have l2:Xs.length<=2*k+1:=by
    rw[q2.length];unfold tW;have:=I.len (g.N.b k)
    split
    ·rw[Z7,aaL];lia
    ·lia
   refine⟨.inl ⟨rfl,_,aV.of Lq⟩,au rfl (au rfl (eG (bf.of M7) (ao (j:=0) rfl) (au rfl ⟨dl rfl,λt2 yu=>?_⟩)))⟩
   have s7:aq H6 (upd H6 t2 (.tup [.int (k:Int),.int (g.N.a k:Int),.int ((m.testBit k).toNat:Int)])):=aq.new yu;have u7:jh m (upd H6 t2 (.tup [.int (k:Int),.int (g.N.a k:Int),.int ((m.testBit k).toNat:Int)])) t2 (k,g.N.a k):=af;have f7:=f6.go s7;have NQ:=s7 _ _ Lq;refine⟨b2,_,_,rfl,rfl,NQ,A3 (by rw[ZZ];lia),?_⟩
   exact⟨_,_,_,rfl,_,f7.put Xu NQ (Paired.w4 q2 λ_ _ z=>s7 _ _ z) u7,I.next⟩
  ·rintro σ H3 ⟨Y,v4,Z,rfl,S,f3,I⟩;refine(au rfl (q D es S H3 U f3 ?_));rw[<-AA];exact I
def jZ(p:Nat)(N:RM.Net)(L:Nat->Int)(m u:Nat)(D:Addr)(F:RM.OW)(H0 H:Hp):Prop:=∃es:List Addr,es.length=p/\H D=some (.lst (es.map V.ref))/\
 (∀(i:Nat) b,es[i]?=some b->∃v0 v1,H b=some (.lst [v0,v1])/\wV H (F i false) v0/\wV H (F i true) v1)/\(∀x s,RM.GP N L m u x s ((F x s).map (·.1)))/\(∀x s d,F x s=some d->RM.Wz N L m u x s d.1 d.2)/\(∀b∈es,H0 b=none)/\RM.Fx N L m u F
def Ko(a b:Bool):Builtin.bitXor ((a.toNat:Nat):Int) ((b.toNat:Nat):Int)=(((a^^b).toNat:Nat):Int):=by
 cases a<;>cases b<;>decide
def vy(t:Addr)(lp:Pos):Sp:=λvs H Q _=>∃w p ts,∃g:aD p ts,∃(m u:Nat),vs=[.ref w,.int (m:Int),.int (u:Int)]/\b9 H w p ts/\m<2^ts.length/\u<p/\H t=some (.iL (dM (mW "least_ways") lp))/\
 ∀D F H',H D=none->aq H H'->jZ p g.N (aW ts) m u D F H H'->Q (.ref D) H'
def k9:UD T T.iJ 5 (vy a.b8 bS):=by
 have gy:=gy T;refine T.iJ.ok bA λA _ s H vs Q E hr h=>?_
 ·obtain⟨wb,p,ts,g,m,u,rfl,hw,hm,hu,ba,q⟩:=h;refine⟨_,(ai (aL (i:=3) bA.nd rfl (Or.inl rfl) (aO gy hr T.gv.c aJ (aa (pv 0) (aa (pv 1) ah))))
   (ai (kK (i:=4) bA.nd rfl rfl (own:=["point"]) (fq:=[]) (js:=[]) (aN (aj fR) ["web","marks","start","steps","found","waiting","nearest","way","tie","point","turn","part","further"]) rfl (dw (by rfl) T.eY (aa (aK (eO K) (pv 0) ak) ah)) (λ_ _ _ _=>(cE 0 (ue ["point"]))) (λ_ _ _ _=>dJ) (λ_ _ _ _=>(fb (aa lJ (aa lJ ah)))))
   (ai (aL (i:=5) bA.nd rfl (Or.inr rfl) (G8 (by exact nW hr) (cI (aa (pv 2) (aa ak ah))) (cI (aa ak (aa ak ah)))))
   (ai (sJ PassesOwn.never (aH qR (eN Sj (by rfl) T.eI PySem.boot_len (aa (pv 5) ah)) ak (aP _)) (ai (aL (i:=6) bA.nd rfl (Or.inl rfl) (JY (x:="place") (fq:=["waiting"]) (js:=[5]) hr (aN (aj fR) ["web","marks","start","steps","found","waiting","nearest","way","tie","point","turn","part","further"]) rfl (by rfl) T.HZ rfl T.iJ.F.hd (aa (pv 5) ah) (λ_ _ _ _ hr=>(CD (by exact nW hr) (pv 1) (pv 0) (λ_ _=>rfl)))))
   (ai (aL (i:=7) bA.nd rfl (Or.inl rfl) (G7 (by exact nW hr) (pv 5) (pv 6) ⟨rfl,rfl,rfl,rfl⟩))
   (ai (AE (pv 7) (LJ (aK (my K) (pv 4) (aK (eO K) (pv 6) ak)) (aK (eO K) (pv 6) ak) set_list))
   (av (jN PassesOwn.never rfl (yL K (aK (my K) (pv 3) (aK (eO K) (pv 6) ak))) (Mb K (n:=3) rfl (bK (cE 8 bA.nd) (bK (cE 9 bA.nd) (bK (cE 10 bA.nd) jw))))
   (ai (aL (i:=11) bA.nd rfl (Or.inl rfl) (aR jO (aK (eO K) (pv 6) ak) (pv 10)))
   (ai (aL (i:=12) bA.nd rfl (Or.inl rfl) (cI (aa (aR fV (aK (eO K) (pv 7) ak) (aK (eO K) (aK (eO K) (aK (eO K) (pv 0) ak) (pv 8)) ak)) (aa (aR jO (aK (eO K) (pv 7) ak) (aR pD ak (pv 8))) ah))))
   (av (ck (PW.pt (Fd (aH AK (aK (my K) (aK (my K) (pv 4) (pv 9)) (pv 11)) lJ (aP _)) (B8 (aH (MQ hr.AR) (pv 12) (GD (by exact nW hr) (pv 5) (cI (aa (pv 9) (aa (pv 11) ah))) (pv 12) ⟨rfl,rfl,rfl,rfl⟩) (aP _))))) (av (xD (by exact nW hr) (pv 5) (cI (aa (pv 9) (aa (pv 11) ah))) (pv 12) rfl)) bh))))))))))
   (av (aG (pv 4))))))),?_⟩
  refine vf ?_;intro dc dQ fT gW jv lD uf zN zO CV uv Hy;obtain⟨bt,xs,h1,h2,h3⟩:=id hw.ex;have AA:=h3.length;have wp:=g.p2;have wl:=g.len;refine(au rfl (au rfl ⟨wb,p,ts,g,m,rfl,hw,hm,λDs ZP S H1 b5 f1 k1=>?_⟩))
  have s1:=f1.same;refine(au rfl (eG (bf.of (s1 _ _ h1)) (ao (j:=0) rfl) (au rfl ⟨(by lia),(by lia),λD hD=>dN (lo:=0) (m:=p) (zm H1 D) (.start hD) (λi acc H2 _ z=>z.len) (dl (abn.mpr (by lia))) ?_ ?_⟩)))
  ·rintro i acc H2 hi f2;exact⟨rfl,dl rfl,λl Y=>f2.next Y⟩
  rintro acc H2 ⟨es,rfl,bb,f2⟩;refine λwd UH=>(au rfl ⟨dl rfl,λt1 yt=>⟨dl rfl,λt2 yu=>?_⟩⟩)
  have UI:aq (upd H2 wd (.dT [])) (upd (upd H2 wd (.dT [])) t1 (.tup [.int (u:Int),.int 0])):=aq.new yt;have SD:aq (upd (upd H2 wd (.dT [])) t1 (.tup [.int (u:Int),.int 0])) (upd (upd (upd H2 wd (.dT [])) t1 (.tup [.int (u:Int),.int 0])) t2 (.tup [.int 0,.int 0])):=aq.new yu;have f3:=((f2.go (aq.new UH (o:=.dT []))).go UI).go SD;have w3:=SD _ _ (UI _ _ (af (H:=H2) (a:=wd) (o:=.dT [])));have u3:=SD _ _ (af (H:=upd H2 wd (.dT [])) (a:=t1) (o:=.tup [.int (u:Int),.int 0]));have v3:(upd (upd (upd H2 wd (.dT [])) t1 (.tup [.int (u:Int),.int 0])) t2 (.tup [.int 0,.int 0])) t2=some (.tup [.int 0,.int 0]):=af;generalize upd (upd (upd H2 wd (.dT [])) t1 (.tup [.int (u:Int),.int 0])) t2 (.tup [.int 0,.int 0])=H3 at f3 w3 u3 v3;refine⟨t1,ky u false,rfl,u3,w3,?_⟩;have Xv:=tV.start f3 hu w3 (f2.same.free UH) v3;have SE:=s1 _ _ ba;have hL:∀k,k<g.N.n->0<=aW ts k:=wA g;have Kp:∀k,k<g.N.n->0<aW ts k:=λk hk=>by
   have:=(g.rC _ (dW hk)).l0;unfold aW
   lia
  refine⟨λn σ H4=>∃v6 v7 v8 v9 v10 v11 Lr,σ=[some (.ref wb),some (.int (m:Int)),some (.int (u:Int)),some (.ref Ds),some (.ref D),some (.ref wd),v6,v7,v8,v9,v10,v11,Lr]/\∃kvs F W,tV p H1 D wd es kvs F W H4/\RM.Dx g.N (aW ts) m u F W none (λ_ _=>False)/\n=RM.left F p,⟨_,none,none,none,none,none,none,none,rfl,_,_,_,Xv,RM.Dx.start,rfl⟩,?_⟩
  rintro n σ H4 ⟨v6,v7,v8,v9,v10,v11,Lr,rfl,kvs,F,W,lw,dj,rfl⟩;refine(au rfl ⟨wd,kvs,rfl,.inl lw.dt,_,_,rfl,rfl,au rfl (rB (λhlen=>?_) (λhlen=>?_))⟩)
  case refine_2 =>
   have Y : ¬(0:Int)<(kvs.length:Int):=λz=>hlen (fG z)
   have e:kvs=[]:=aba (by lia)
   subst e;have hW:∀x s,W x s=none:=λx s=>by
    rcases lw.val x s with⟨z,_⟩|⟨_,_,_,z,_⟩
    ·exact z
    ·rw[tE]at z;cases z
   exact(au rfl (q D F H4 (s1.free lw.Dn) (s1.trans lw.same) ⟨es,bb,lw.lst,lw.at_,dj.dj.best hW,dj.dj.fw,λb hb=>s1.free (lw.fr b hb),dj.fin Kp hu hW⟩))
  have hlen:(0:Int)<(kvs.length:Int):=sC hlen;refine⟨λσ' H'=>∃v6 v7 v8 v9 v10 v11 Lr,σ' = [some (.ref wb),some (.int (m:Int)),some (.int (u:Int)),some (.ref Ds),some (.ref D),some (.ref wd),v6,v7,v8,v9,v10,v11,Lr]/\∃O F' W',tV p H1 D wd es O F' W' H'/\RM.Dx g.N (aW ts) m u F' W' none (λ_ _=>False)/\RM.left F' p<RM.left F p,λσ' H' ⟨a6,a7,a8,a9,SG,SH,SJ,e,O,F',W',b1,b2,b3⟩=>⟨_,b3,a6,a7,a8,a9,SG,SH,SJ,e,O,F',W',b1,b2,rfl⟩,?_⟩
  refine(au rfl ⟨wd,kvs,Hi W kvs,rfl,lw.dt,(by lia),lw.same _ _ SE,λob H5 DZ Xw i kv b ag hb=>?_,λi kv b H5 ag ar s5 hb=>?_⟩)
  ·obtain⟨x,t,d,c,hx,ek,PV,SK,_,hc,SM⟩:=lw.entry ag;have bc:c≠wd:=aE hc lw.dt (by intro z;cases z)
   refine(au rfl (au rfl ⟨wd,.ref c,rfl,.inr ⟨kvs,ky x t,b,.inr ⟨ob,Xw⟩,rfl,by rw[<-ek];exact hb,SK.symm⟩,aq.refl _,c,rfl,?_⟩))
   rw[SM];exact bf.of (DZ c _ hc bc (by intro y z;cases z) (by intro y z;cases z))
  obtain⟨x,t,d,c,hx,ek,PV,SK,_,hc,SM⟩:=lw.entry ag;rw[ek]at hb;have bo:∀y t' d',W y t' = some d'->d.1<=d'.1:=λy t' d' Xx=>by
   obtain⟨j,Ut,hj,_,ej⟩:=lw.find Xx;have:=ar j (ju.mp hj).1;rw[ej,SM]at this;exact xK this
  have Z:=lw.go s5;have aw:=s5 _ _ hc;have hF:F x t=none:=dj.dj.dj x t d PV;refine(au rfl ⟨wd,rfl,.inr ⟨kvs,.inl Z.dt⟩,au rfl ⟨kvs,ky x t,b,.ref c,Z.dt,rfl,hb,SK,?_⟩⟩);obtain⟨rb,r0,r1,er,Xy,ab,b6,ZQ⟩:=Z.row (i:=x) (by lia)
  have bw:b≠wd:=aE hb Z.dt (by intro z;cases z)
  have Xz:rb≠wd:=aE ab Z.dt (by intro z;cases z)
  have UJ:upd H5 wd (.dT (bz kvs (ky x t))) b=some (.tup [.int (x:Int),.int (t.toNat:Int)]):=by rw[ae bw];exact hb
  have Lm:upd H5 wd (.dT (bz kvs (ky x t))) D=some (.lst (es.map V.ref)):=by rw[ae (aaq Z.wD)];exact Z.lst
  have XA:upd H5 wd (.dT (bz kvs (ky x t))) rb=some (.lst [r0,r1]):=by rw[ae Xz];exact ab
  refine(au rfl (au rfl (au rfl (eG (bf.of UJ) (ao (j:=0) rfl) (mX (aV.of Lm) (ao er) (au rfl (eG (bf.of UJ) (ao (j:=1) rfl) ⟨rb,_,_,t.toNat,rfl,rfl,XA,Jt (n:=2) (j:=t.toNat) (by cases t<;>decide),?_⟩)))))))
  have NR:=Z.take PV aw Xy ab;have SN:=dj.pop PV bo;have bp:0<=d.1:=by
   obtain⟨pre,w0⟩:=dj.dj.ww x t d PV;exact(RM.oH hL hu w0).2.2.2.2.2
  have ax:RM.left (RM.jg F x t d) p<RM.left F p:=RM.zE hF hx;have UK:bJ H5 (upd (upd H5 wd (.dT (bz kvs (ky x t)))) rb (.lst (([r0,r1]:List V).set t.toNat (.ref c)))):=λz ys e=>by
   rw[ae (aE e ab (by intro z;cases z)),ae (aE e Z.dt (by intro z;cases z))]
   exact e
  have NQ:=UK _ _ hb;have NS:=UK _ _ aw;generalize upd (upd H5 wd (.dT (bz kvs (ky x t)))) rb (.lst (([r0,r1]:List V).set t.toNat (.ref c)))=H7 at NR NQ NS;generalize RM.xJ W x t=W7 at NR SN;have QW:RM.jg F x t d x t=some d:=RM.bO _ _ _ _;generalize RM.jg F x t d=F7 at NR SN ax QW;obtain⟨sb,cs,XC,XD,Pd,SO⟩:=f1.get (i:=x) (by lia)
  have cb:=k1.len x;refine(au rfl (au rfl (eG (bf.of NQ) (ao (j:=0) rfl) (mX (aV.of (NR.same _ _ f1.lst)) (ao XC) ⟨sb,rfl,⟨_,aV.of (NR.same _ _ Pd)⟩,?_⟩))));refine iS (K:=K) (a:=sb) (xs:=cs.map V.ref) (λj σ U=>∃v8 v9 v10 v11 Lr,σ=[some (.ref wb),some (.int (m:Int)),some (.int (u:Int)),some (.ref Ds),some (.ref D),some (.ref wd),some (.ref b),some (.ref c),v8,v9,v10,v11,Lr]/\bJ H7 U/\∃ye W8,tV p H1 D wd es ye F7 W8 U/\RM.Dx g.N (aW ts) m u F7 W8 (some (x,t)) (λk y=>∃I,I<j/\(S x)[I]?=some (k,y)))
   ⟨_,_,_,_,_,rfl,(aq.refl _).tups,_,_,NR,?_⟩ (λj σ U _ ⟨_,_,_,_,_,_,_,_,_,z,_⟩=>aV.of (z.same _ _ Pd)) ?_ ?_
  ·exact SN.less λk y ⟨I,h0,_⟩=>absurd h0 (aa9 _)
  ·rintro j y XE σ U hj ⟨v8,v9,v10,v11,Lr,rfl,QX,ye,W8,M8,PX⟩;obtain⟨cc,aT,rfl⟩:∃cc,cs[j]?=some cc/\y = .ref cc:=by
    rw[Z9]at hj;obtain⟨cc,h1,h2⟩:=uT.mp hj;exact⟨cc,h1,h2.symm⟩
   have Pc:j<(S x).length:=by rw[<-SO.length];exact(ju.mp aT).1
   have eS:(S x)[j]?=some (S x)[j]:=Z4 Pc;have UL:=L2.p5 SO aT eS;generalize cn:(S x)[j]=kw at eS UL;obtain⟨k,y⟩:=kw;have a3:=(k1.mem x (k,y)).mp (j7 eS);obtain⟨hk,yp⟩:=a3;have hk:k<ts.length:=hk;have yp:RM.Jn g.N k x y:=yp;have hy:y<p:=yp.lt hk;have SQ:=M8.same _ _ UL;have SQ:U cc=some (.tup [.int (k:Int),.int (y:Int),.int ((m.testBit k).toNat:Int)]):=SQ;refine⟨cc,_,rfl,bf.of SQ,rfl,_,_,rfl,_,_,rfl,_,_,rfl,rfl,?_⟩;have XF:=QX _ _ NQ;have UM:=QX _ _ NS;refine(au rfl (eG (bf.of XF) (ao (j:=1) rfl) (au rfl (dB (?_)))));dsimp only;rw[Ko];obtain⟨ct,ex,hct⟩:=GJ (g:=g) h3 hk;have XG:=M8.same _ _ (s1 _ _ h1);have XH:=M8.same _ _ (s1 _ _ h2);have SR:=M8.same _ _ (s1 _ _ hct);refine(au rfl (eG (bf.of UM) (ao (j:=0) rfl) (au rfl (eG (bf.of XG) (ao (j:=1) rfl) (au rfl (eG (bf.of XH) (ao (j:=k) ex) (eG (bf.of SR) (ao (j:=2) rfl) (?_))))))));refine(dB (au rfl (eG (bf.of UM) (ao (j:=1) rfl) (au rfl (dB ⟨⟨by lia,by lia,by decide⟩,dB ⟨dl rfl,λf hf=>?_⟩⟩)))))
   have ef:Builtin.bitXor ((d.2:Nat):Int) (1*2^((k:Nat):Int).toNat)=((d.2^^^2^k:Nat):Int):=by
    rw[aah,Int.one_mul,show((2:Int)^k)=((2^k:Nat):Int) by simp]
    exact xor_int _ _
   dsimp only;rw[ef];have s9:aq U (upd U f (.tup [.int (d.1+(bj ts k).2.2),.int ((d.2^^^2^k:Nat):Int)])):=aq.new hf;have UN:upd U f (.tup [.int (d.1+(bj ts k).2.2),.int ((d.2^^^2^k:Nat):Int)]) f=some (.tup [.int (d.1+aW ts k),.int ((d.2^^^2^k:Nat):Int)]):=af;have NT:=M8.go s9;have SS:bJ H7 (upd U f (.tup [.int (d.1+(bj ts k).2.2),.int ((d.2^^^2^k:Nat):Int)])):=λz ys e=>s9 _ _ (QX _ _ e)
   generalize upd U f (.tup [.int (d.1+(bj ts k).2.2),.int ((d.2^^^2^k:Nat):Int)])=H9 at NT UN SS;obtain⟨ZR,q0,q1,XI,XJ,SV,wF,bD⟩:=NT.row (i:=y) (by lia)
   obtain⟨vv,XM,NU⟩:∃vv,([q0,q1]:List V)[(t^^m.testBit k).toNat]?=some vv/\wV H9 (F7 y (t^^m.testBit k)) vv:=by
    cases(t^^m.testBit k) with
    | false=>exact⟨q0,rfl,wF⟩
    | true=>exact⟨q1,rfl,bD⟩
   have Lk:=hL k hk;refine(au rfl (au rfl (mX (aV.of NT.lst) (ao XI) (au rfl (mX (aV.of SV) (ao XM) (?_))))));refine⟨rfl,au rfl (?_)⟩;have dn:∀{CY:Nat->Nat->Prop} {Wx:RM.OW},RM.Dx g.N (aW ts) m u F7 Wx (some (x,t)) (λk' y'=>(∃I,I<j/\(S x)[I]?=some (k',y'))\/(k' = k/\y' = y))->
    RM.Dx g.N (aW ts) m u F7 Wx (some (x,t)) (λk' y'=>∃I,I<j+1/\(S x)[I]?=some (k',y')):=λ{CY Wx} h =>
    h.less λk' y' ⟨I,h0,h5⟩=>by
     by_cases ej:I = j
     ·subst ej;rw[eS]at h5;cases h5;exact .inr ⟨rfl,rfl⟩
     ·exact .inl ⟨I,by lia,h5⟩
   cases QY:F7 y (t^^m.testBit k) with
   | some d2 =>
     rw[QY]at NU;obtain⟨c2,rfl,a4⟩:=NU;refine mU (λz=>nomatch z) ?_
     exact⟨_,_,_,_,_,rfl,SS,ye,W8,NT,dn (CY:=λ_ _=>False) (PX.skip QW (Kp k hk) (.inl QY))⟩
   | none =>
     rw[QY]at NU;have NU:vv = .dH:=NU;subst NU;refine OP rfl ?_;refine(au rfl (au rfl ⟨wd,rfl,.inr ⟨ye,.inl NT.dt⟩,au rfl (au rfl ⟨dl rfl,λt3 XN=>?_⟩)⟩))
     have SW:aq H9 (upd H9 t3 (.tup [.int (y:Int),.int ((t^^m.testBit k).toNat:Int)])):=aq.new XN;have PY:upd H9 t3 (.tup [.int (y:Int),.int ((t^^m.testBit k).toNat:Int)]) t3=some (.tup ((ky y (t^^m.testBit k)).map kV)):=af;have EK:=NT.go SW;have Ik:=SW _ _ UN;have M9:bJ H7 (upd H9 t3 (.tup [.int (y:Int),.int ((t^^m.testBit k).toNat:Int)])):=λz ys e=>SW _ _ (SS _ _ e)
     generalize upd H9 t3 (.tup [.int (y:Int),.int ((t^^m.testBit k).toNat:Int)])=H10 at EK Ik PY M9;refine(au rfl ⟨cN ye (ky y (t^^m.testBit k)),.inr ⟨ye,ky y (t^^m.testBit k),t3,.inl EK.dt,rfl,PY,rfl⟩,?_⟩);have UO:=EK.len;have put:(∀d',W8 y (t^^m.testBit k)=some d'->RM.lx (RM.stp (aW ts) d k) d')->dQ XE [some (.ref wb),some (.int (m:Int)),some (.int (u:Int)),some (.ref Ds),some (.ref D),some (.ref wd),some (.ref b),some (.ref c),some (.int (k:Int)),some (.int (y:Int)),some (.int ((m.testBit k).toNat:Int)),some (.int ((t^^m.testBit k).toNat:Int)),some (.ref f)] H10:=λhle=>by
      refine(au rfl (au rfl (au rfl (au rfl ⟨dl rfl,λt4 SX=>?_⟩))))
      have SY:aq H10 (upd H10 t4 (.tup [.int (y:Int),.int ((t^^m.testBit k).toNat:Int)])):=aq.new SX;have S0:upd H10 t4 (.tup [.int (y:Int),.int ((t^^m.testBit k).toNat:Int)]) t4=some (.tup ((ky y (t^^m.testBit k)).map kV)):=af;have Na:=EK.go SY;have S6:=SY _ _ Ik;refine⟨wd,_,rfl,xC.t Na.dt S0 (cf (by lia)),?_⟩
      have Tc:=Na.wait (x:=y) (s:=(t^^m.testBit k)) (d:=(d.1+aW ts k,d.2^^^2^k)) hy S6;refine⟨_,_,_,_,_,rfl,λz ys e=>?_,_,_,Tc,dn (CY:=λ_ _=>False) (PX.put QW bp hk (Kp k hk) yp QY hle)⟩
      have UP:=SY _ _ (M9 _ _ e);rw[ae (aE UP Na.dt (by intro z;cases z))]
      exact UP
     rcases EK.val y (t^^m.testBit k) with⟨XO,XQ⟩|⟨d2,c2,UQ,bP,a4⟩
     ·rw[XQ];refine⟨f,f,_,_,_,_,rfl,rfl,bf.of Ik,bf.of Ik,_,rfl,rB (λ_=>put λd' e=>by rw[XO]at e;cases e) λz=>absurd ((HT.xG _ _ _ _).mpr (.inr ⟨rfl,abd _⟩)) z⟩
     ·rw[bP];refine⟨f,c2,_,_,_,_,rfl,rfl,bf.of Ik,bf.of a4,_,rfl,rB (λY=>?_) (λY=>?_)⟩
      ·have Y:=(HT.xG _ _ _ _).mp Y;refine put λd' e=>?_
       rw[UQ]at e;cases e;unfold RM.lx RM.stp;simp only
       lia
      ·have Y:=λz=>Y ((HT.xG _ _ _ _).mpr z)
       refine⟨_,_,_,_,_,rfl,M9,ye,W8,EK,dn (CY:=λ_ _=>False) (PX.skip QW (Kp k hk) (.inr ⟨UQ,?_⟩))⟩
       have h6 : ¬ d.1+aW ts k<d2.1:=λz=>Y (.inl z)
       have h7 : ¬(d.1+aW ts k=d2.1/\((d.2^^^2^k:Nat):Int)<=(d2.2:Int)):=λz=>Y (.inr z)
       unfold RM.lx RM.stp;simp only
       lia
  ·rintro σ U ⟨v8,v9,v10,v11,Lr,rfl,QX,ye,W8,M8,PX⟩;refine⟨_,_,_,_,_,_,_,rfl,ye,F7,W8,M8,PX.all λk y hk yp=>?_,ax⟩
   have b4:=(k1.mem x (k,y)).mpr ⟨hk,yp⟩;obtain⟨I,a5⟩:=aaF b4;have Td:=(ju.mp a5).1;exact⟨I,by rw[ZZ,SO.length];exact Td,a5⟩
def EL:Sp:=λvs H Q _=>∃v o,vs=[v]/\wV H o v/\Q (oV (o.map (·.1))) H
abbrev yf(F:RM.OW):Nat->Bool->Option Int:=λx s=>(F x s).map (·.1)
def Af:Sp:=λvs H Q _=>∃(D:Addr) (es:List Addr) (F:RM.OW),vs=[.ref D]/\H D=some (.lst (es.map V.ref))/\es.length<=900/\(∀(i:Nat) b,es[i]?=some b->∃v0 v1,H b=some (.lst [v0,v1])/\wV H (F i false) v0/\wV H (F i true) v1)/\
 ∀b ys H',aq H H'->H' b=some (.tup ys)->Paired (jc H') ys (lA (yf F) es.length)->Q (.ref b) H'
def eZ:Ok T T.eW 1 EL:=by
 refine T.eW.ok qf λ_ A _ s H vs Q E hr h=>?_
 ·obtain⟨v,o,rfl,I,q⟩:=h;refine⟨_,(av (aG (lM (aH AK (pv 0) lJ (aP _)) lJ (aK (eO K) (pv 0) ak)))),?_⟩;cases o with
  | none =>
    have I:v = .dH:=I;subst I;exact(au rfl ⟨rfl,au rfl (OP rfl q)⟩)
  | some d =>
    obtain⟨c,rfl,hc⟩:=I;exact(au rfl ⟨rfl,au rfl (mU (λz=>nomatch z) (au rfl (eG (bf.of hc) (ao (j:=0) rfl) (q))))⟩)
def gz:Ok T T.gw 2 Af:=by
 have eZ:=eZ T;refine T.gw.ok oX λ_ A _ s H vs Q E hr h=>?_
 ·obtain⟨D,es,F,rfl,U,O,Z,q⟩:=h;refine⟨_,(av (aG (fB (Co K) (by rfl) T.sy abO (aa (dS (own:=["even","odd"]) (fq:=[]) (js:=[]) (aN (aj dZ) ["ways"]) rfl (yL K (pv 0)) (λ_ _ _ _=>(So K rfl (bK (cE 0 (ue ["even","odd"])) (bK (cE 1 (ue ["even","odd"])) jw)))) (λ_ _ _ _=>dJ) (λ_ _ _ _=>(cI (aa (aO eZ hr T.eW.c aJ (aa (pv 0) ah)) (aa (aO eZ hr T.eW.c aJ (aa (pv 1) ah)) ah))))) ah)))),?_⟩
  refine(au rfl ⟨D,rfl,⟨_,aV.of U⟩,λL Y=>dz (K:=K) (a:=D) (xs:=es.map V.ref) (λi acc H2=>aq H H2/\H2 L=some (.lst acc)/\Paired (jc H2) acc (lA (yf F) i)) ⟨aq.new Y,af,.nil⟩ (λi acc H2 _ z=>⟨aV.of (z.1 _ _ U),z.2.1,by rw[z.2.2.length,CL];exact Z3 _⟩) (dl (abn.mpr (by rw[ZZ];lia))) ?_ ?_⟩)
  ·rintro i x acc H2 hx ⟨s2,I,pr⟩;obtain⟨b,hb,rfl⟩:∃b,es[i]?=some b/\x = .ref b:=by
    rw[Z9]at hx;obtain⟨b,h1,h2⟩:=uT.mp hx;exact⟨b,h1,h2.symm⟩
   obtain⟨v0,v1,hv,w0,w1⟩:=Z i b hb;refine⟨b,v0,v1,rfl,aV.of (s2 _ _ hv),_,_,rfl,_,_,rfl,rfl,rfl,au rfl ⟨v0,_,rfl,w0.tups s2.tups,_,rfl,v1,_,rfl,w1.tups s2.tups,dl rfl,λt ht=>?_⟩⟩
   have s3:aq H2 (upd H2 t (.tup [oV (yf F i false),oV (yf F i true)])):=aq.new ht;have tL:t≠L:=λz=>by rw[z,I]at ht;cases ht
   have Le:H L=none:=Y;refine⟨s3 _ _ I,(s2.trans s3).put Le,af,?_⟩;rw[GQ];have keep:∀z pr,jc H2 z pr->jc (upd (upd H2 t (.tup [oV (yf F i false),oV (yf F i true)])) L (.lst (acc++[.ref t]))) z pr:=λz pr ⟨b,e,hb⟩=>⟨b,e,by rw[ae (aE hb I (by intro z;cases z))];exact s3 _ _ hb⟩
   exact Paired.snoc (Paired.imp' (λ_ _ z=>keep _ _ z) pr) ⟨t,rfl,by rw[ae tL,af]⟩
  ·rintro acc H2 ⟨s2,I,pr⟩;rw[ZZ]at pr;refine⟨L,_,rfl,.inl ⟨aV.of I,λl O=>?_⟩⟩
   exact q l acc _ (s2.trans (aq.new O)) af (Paired.imp' (λ_ _ ⟨b,e,hb⟩=>⟨b,e,aq.new O _ _ hb⟩) pr)
def jZ.same{p:Nat}{N:RM.Net}{L:Nat->Int}{m u:Nat}{D:Addr}{F:RM.OW}{H0 H H' : Hp}(h:jZ p N L m u D F H0 H)(s:aq H H'):jZ p N L m u D F H0 H':=by
 obtain⟨es,I,O,U,Y,Z,e6⟩:=h;exact⟨es,I,s _ _ O,λi b hb=>let⟨v0,v1,q1,q2,q3⟩:=U i b hb;⟨v0,v1,s _ _ q1,q2.tups s.tups,q3.tups s.tups⟩,Y,Z,e6⟩
def jZ.put{p:Nat}{N:RM.Net}{L:Nat->Int}{m u:Nat}{D X:Addr}{F:RM.OW}{H0 H:Hp}{xs ys:List V}(h:jZ p N L m u D F H0 H)(hD:H0 D=none)(hX:H X=some (.lst xs))(XR:∃o,H0 X=some o):jZ p N L m u D F H0 (upd H X (.lst ys)):=by
 obtain⟨es,O,U,Y,Z,e5,I⟩:=h;obtain⟨o,ho⟩:=XR;have ne:∀b,H0 b=none->b≠X:=λb hb z=>by rw[z,ho]at hb;cases hb
 have tp:bJ H (upd H X (.lst ys)):=bJ.put hX;refine⟨es,O,by rw[ae (ne D hD)];exact U,λi b hb=>?_,Z,e5,I⟩
 obtain⟨v0,v1,q1,q2,q3⟩:=Y i b hb;exact⟨v0,v1,by rw[ae (ne b (I.1 b (j7 hb)))];exact q1,q2.tups tp,q3.tups tp⟩
def CZ(p:Nat)(N:RM.Net)(L:Nat->Int)(m i:Nat)(ds:List Addr)(Fs:Nat->RM.OW)(H:Hp):Prop:=ds.length=i/\∀(j:Nat) d,ds[j]?=some d->∃H0,jZ p N L m j d (Fs j) H0 H
def Ag(t:Addr)(lp:Pos):Sp:=λvs H Q _=>∃w p ts,∃g:aD p ts,∃m:Nat,vs=[.ref w,.int (m:Int)]/\b9 H w p ts/\m<2^ts.length/\H t=some (.iL (dM (mW "least_ways") lp))/\
 ∀D ds I H',H D=none->aq H H'->H' D=some (.lst (ds.map V.ref))->CZ p g.N (aW ts) m p ds I H'->Q (.ref D) H'
def gB:Ok T T.gx 6 (Ag a.b8 bS):=by
 have k9:=k9 T;refine T.gx.ok oY λ_ A _ s H vs Q E hr h=>?_
 ·obtain⟨wb,p,ts,g,m,rfl,hw,hm,Y,q⟩:=h;refine⟨_,(av (aG (dS (own:=["start"]) (fq:=["web","marks"]) (js:=[0,1]) (aN (aj eg) ["web","marks"]) rfl (dw (by rfl) T.eY (aa (aK (eO K) (pv 0) ak) ah)) (λ_ _ _ _=>(cE 0 (ue ["start","web","marks"]))) (λ_ _ _ _=>dJ) (λ_ _ _ _=>(aO k9 hr T.iJ.c aJ (aa (pv 1) (aa (pv 2) (aa (pv 0) ah)))))))),?_⟩
  obtain⟨bt,xs,h1,h2,h3⟩:=id hw.ex;have wp:=g.p2;refine(au rfl (eG (bf.of h1) (ao (j:=0) rfl) (au rfl ⟨(by lia),(by lia),λD Z=>dN (lo:=0) (m:=(p:Int).toNat) (λi acc H2=>aq H H2/\H2 D=some (.lst acc)/\∃ds I,acc=ds.map V.ref/\ds.length=i/\∀(j:Nat) d,ds[j]?=some d->∃H0,jZ p g.N (aW ts) m j d (I j) H0 H2/\H0 d=none/\∃o,H0 D=some o) ⟨aq.new Z,af,[],λ_ _ _=>none,rfl,rfl,λj d e=>by cases e⟩ (λi acc H2 _ ⟨_,z,ds,_,e,l,_⟩=>⟨z,by rw[e,ZZ];lia⟩) (dl (abn.mpr (by lia))) ?_ ?_⟩)))
  ·rintro i acc H2 hi ⟨s2,O,ds,I,rfl,U,all⟩;rw[aah]at hi;rw[aby];refine⟨rfl,au rfl (au rfl (au rfl ⟨wb,p,ts,g,m,i,rfl,hw.same s2,hm,hi,s2 _ _ Y,λd F H3 hd s3 wa=>?_⟩))⟩
   have FY:=s3 _ _ O;refine⟨FY,(s2.trans s3).put Z,af,ds++[d],λj=>if j=i then F else I j,by simp,by simp[U],λj d' e=>?_⟩
   by_cases ej:j<ds.length
   ·rw[aav ej]at e;obtain⟨H0,w0,n0,o0⟩:=all j d' e;dsimp only;rw[Z0 (show ¬ j=i by lia)]
    exact⟨H0,(w0.same s3).put n0 FY o0,n0,o0⟩
   ·rw[aaC (by lia)]at e
    have hj:j=i:=by
     have:=(ju.mp e).1;simp at this
     lia
    subst hj;rw[U,ab6]at e;have e:d=d':=by simpa using e
    subst e;dsimp only;rw[Z1 rfl];exact⟨H2,wa.put hd FY ⟨_,O⟩,hd,_,O⟩
  ·rintro acc H2 ⟨s2,O,ds,I,rfl,U,all⟩;rw[aah]at U;exact q D ds I H2 Z s2 O ⟨U,λj d e=>let⟨H0,w0,_⟩:=all j d e;⟨H0,w0⟩⟩
def yg:Sp:=λvs H Q _=>∃(D:Addr) (ds:List Addr) (I:Nat->RM.OW),∃p N L m,vs=[.ref D]/\H D=some (.lst (ds.map V.ref))/\p<=900/\CZ p N L m p ds I H/\
 ∀b H',aq H H'->lQ H' b ((List.range p).map λi=>lA (yf (I i)) p)->Q (.ref b) H'
def iu:Ok T T.iq 3 yg:=by
 have gz:=gz T;refine T.iq.ok qg λ_ A _ s H vs Q E hr h=>?_
 ·obtain⟨D,ds,Y,p,N,L,m,rfl,Z,hp,⟨O,all⟩,q⟩:=h;refine⟨_,(av (aG (fB (Co K) (by rfl) T.sy abO (aa (dS (own:=["from_point"]) (fq:=[]) (js:=[]) (aN (aj eV) ["ways"]) rfl (yL K (pv 0)) (λ_ _ _ _=>(cE 0 (ue ["from_point"]))) (λ_ _ _ _=>dJ) (λ_ _ _ _=>(aO gz hr T.gw.c aJ (aa (pv 0) ah)))) ah)))),?_⟩
  refine(au rfl ⟨D,rfl,⟨_,aV.of Z⟩,λX hX=>dz (K:=K) (a:=D) (xs:=ds.map V.ref) (λi acc H2=>aq H H2/\H2 X=some (.lst acc)/\Paired (RowW H2) acc ((List.range i).map λi=>lA (yf (Y i)) p)) ⟨aq.new hX,af,.nil⟩ (λi acc H2 _ z=>⟨aV.of (z.1 _ _ Z),z.2.1,by rw[z.2.2.length,ZZ,aax];exact Z3 _⟩) (dl (abn.mpr (by rw[ZZ];lia))) ?_ ?_⟩)
  ·rintro i x acc H2 hx ⟨s2,I,pr⟩;obtain⟨d,hd,rfl⟩:∃d,ds[i]?=some d/\x = .ref d:=by
    rw[Z9]at hx;obtain⟨b,h1,h2⟩:=uT.mp hx;exact⟨b,h1,h2.symm⟩
   obtain⟨H0,wa⟩:=all i d hd;obtain⟨es,e1,e2,e3,_⟩:=wa.same s2;refine⟨rfl,au rfl ⟨d,es,Y i,rfl,e2,(by lia),e3,λb ys H3 s3 hb QZ=>?_⟩⟩
   have U:=s3 _ _ I;refine⟨U,(s2.trans s3).put hX,af,?_⟩;rw[abD,aaw,e1]at *;exact Paired.snoc (Paired.imp' (λ_ _ z=>z.tups (s3.tups.trans (bJ.put U))) pr) (RowW.tups (bJ.put U) ⟨b,ys,rfl,hb,QZ⟩)
  ·rintro acc H2 ⟨s2,I,pr⟩;rw[ZZ,O]at pr;refine⟨X,_,rfl,.inl ⟨aV.of I,λl O=>?_⟩⟩
   exact q l _ (s2.trans (aq.new O)) ⟨acc,af,Paired.imp' (λ_ _ z=>z.same (aq.new O)) pr⟩
def P1{x y:V}{A B:Prop}(h:x≠y)(ha:A):if(!decide (x=y))=true then A else B:=by
 rw[iK h];exact lN ha
def Ku(p:Nat)(ts:List cJ)(g:aD p ts)(m:Nat)(H H' : Hp)(t:Addr):Prop :=
 ((∀x z,x<p->¬ RM.Wy g.N (aW ts) m x x true z)/\m=g.N.cut (λx=>decide (x∈rh p ts g m))/\∃l,H l=none/\H' t=some (.tup [.str "side",.ref l])/\H' l=some (.lst (aB (rh p ts g m))))\/
 ∃(z:Int) (e:Nat) (b:Addr) (W:List (List Pr)),RM.Lo g.N (aW ts) m z e/\RM.tX g.N (aW ts) m z e/\H' t=some (.tup [.str "ring",.int (e:Int),.ref b])/\lQ H' b W/\W.length=p/\(∀R∈W,R.length=p)/\Pb p ts g m W
def yh(C t:Addr)(lp:Pos):Sp:=λvs H Q E=>∃w p ts,∃g:aD p ts,∃S,vs=[.ref w,.int S]/\b9 H w p ts/\H t=some (.iL (dM (mW "least_ways") lp))/\wO ts S (E (.ref C) none H) λm=>∀r H',H r=none->aq H H'->Ku p ts g m H H' r->Q (.ref r) H'
def uL(H:Hp)(v:V)(d:Int×Nat):Prop:=∃c,v = .ref c/\H c=some (.tup [.int d.1,.int (d.2:Int)])
def uL.tups{H H' : Hp}{v:V}{d:Int×Nat}(h:uL H v d)(s:bJ H H'):uL H' v d:=let⟨c,e,q⟩:=h;⟨c,e,s _ _ q⟩
def nN(d:Int×Nat):PyData:=.tuple [.int d.1,.int (d.2:Int)]
def Ah{K:bH}{H:Hp}:∀{ys:List V} {R:List (Int×Nat)},Paired (uL H) ys R->DatVs K H ys (R.map nN)
 | _,_,.nil=>.nil
 | _,_,.cons h r=>by
   obtain⟨b,rfl,hb⟩:=h;exact .cons (.tup (bf.of hb) (.cons (.int _) (.cons (.int _) .nil))) (Ah r)
def Il:∀l:List (Int×Nat),PyData.eqv (.list (l.map nN)) (.list [])=decide (l=[])
 | []=>rfl
 | _::_=>rfl
def Ai:∀R:List (Int×Nat),PyData.canLayAll0 (R.map nN)=true
 | []=>rfl
 | q::r=>by
   have I:=Ai r;have e:(nN q).canLay0=true:=by simp[nN,PyData.canLay0,PyData.canLayAll0]
   simp only[aaj,PyData.canLayAll0,I,acT,e]
def wU:∀R:List (Int×Nat),PyData.depthAll (R.map nN)<=1
 | []=>aaB _
 | q::r=>by
   have I:=wU r;show max (PyData.depth (nN q)) (PyData.depthAll (r.map nN))<=1;have e:PyData.depth (nN q)=1:=by simp[nN,PyData.depth,PyData.depthAll]
   lia
def wW{H:Hp}:∀{ys:List V} {R:List (Int×Nat)},Paired (uL H) ys R->∃cs:List Addr,ys=cs.map V.ref/\Paired (λ(c:Addr) (d:Int×Nat)=>H c=some (.tup [.int d.1,.int (d.2:Int)])) cs R
 | _,_,.nil=>⟨[],rfl,.nil⟩
 | _,_,.cons h r=>by
   obtain⟨b,rfl,hb⟩:=h;obtain⟨cs,rfl,pr⟩:=wW r;exact⟨b::cs,rfl,.cons hb pr⟩
def Aj(R:List (Int×Nat)):SeqAt.shaped (.list (R.map nN))=true:=by
 unfold SeqAt.shaped;have e:(PyData.list (R.map nN)).canLay0=PyData.canLayAll0 (R.map nN):=by simp[PyData.canLay0]
 rw[e,Ai,abF];refine fG ?_;have h:=wU R;have I:PyData.depth (PyData.list (R.map nN))=PyData.depthAll (R.map nN)+1:=by simp[PyData.depth]
 rw[I]
 lia
def xK{a b:Int×Nat}(h:HT.lexLt [a.1,(a.2:Int)] [b.1,(b.2:Int)]=false):RM.lx b a:=by
 rw[HT.fX]at h;unfold RM.lx
 by_cases e:a.1=b.1
 ·rw[Z1 e,HT.fX]at h;refine .inr ⟨e.symm,?_⟩
  by_cases I:(a.2:Int)=(b.2:Int)
  ·lia
  ·rw[Z0 I]at h;have:=of_decide_eq_false h
   lia
 ·rw[Z0 e]at h;have:=of_decide_eq_false h;exact .inl (by lia)
def l9:M0 T T.l6 7 (yh a.gR a.b8 bS):=by
 have cH:=cH T;have gB:=gB T;have iu:=iu T;have qL:=qL T;refine T.l6.Jq kZ λ_ A _ s H vs Q E hr h=>?_
 ·obtain⟨wb,p,ts,g,S,rfl,hw,a5,q⟩:=h;refine⟨_,(ai (bR (aO cH hr T.gU.c kM.passes (aa (pv 0) (aa (pv 1) ah))))
   (ai (aL (i:=2) kZ.nd rfl (Or.inr rfl) (aO gB hr T.gx.c aJ (aa (pv 0) (aa (pv 1) ah))))
   (ai (kK (i:=3) kZ.nd rfl rfl (own:=["point"]) (fq:=["ways"]) (js:=[2]) (aN (aj jG) ["web","marks","ways","rounds"]) rfl (dw (by rfl) T.eY (aa (aK (eO K) (pv 0) ak) ah)) (λ_ _ _ _=>(cE 0 (ue ["point","ways"]))) (λ_ _ _ _=>(mw (aH IX (aK (my K) (aK (my K) (aK (my K) (pv 1) (pv 0)) (pv 0)) ak) lJ (aP _)))) (λ_ _ _ _=>(aK (my K) (aK (my K) (aK (my K) (pv 1) (pv 0)) (pv 0)) ak)))
   (ai (ck (aH (A1 K hr.units) (pv 3) (fb ah) (aP _)) (av (aG (aO qL hr T.qC.c kM.passes (aa (pv 0) (aa (pv 1) ah))))) bh)
   (av (aG (cI (aa kH (aa (aK (eO K) (eN (Sq hr.hd hr.in1.AR) (by rfl) T.HZ PyProof.Rows.boot_min (aa (pv 3) ah)) ak) (aa (aO iu hr T.iq.c aJ (aa (pv 2) ah)) ah)))))))))),?_⟩
  refine xU ?_;intro dc dQ fT gW jv;obtain⟨bt,xs,h1,h2,h3⟩:=id hw.ex;have wp:=g.p2;have W:=g.yo;rcases q with⟨m,rfl,hm,q⟩|⟨hS,q⟩
  case inr=>exact(au rfl (au rfl ⟨wb,p,ts,_,rfl,hw,W,.inr ⟨hS,q⟩⟩))
  refine(au rfl (au rfl ⟨wb,p,ts,_,rfl,hw,W,.inl ⟨m,rfl,hm,?_⟩⟩));refine(au rfl (au rfl ⟨wb,p,ts,g,m,rfl,hw,hm,a5,λD ds I H1 hD s1 Ay al=>?_⟩))
  obtain⟨hl,all⟩:=id al;have EM:∀i,i<p->∃d H0,ds[i]?=some d/\jZ p g.N (aW ts) m i d (I i) H0 H1:=λi hi=>by
   have e:ds[i]?=some ds[i]:=Z4 (by lia)
   obtain⟨H0,h0⟩:=all i _ e;exact⟨_,H0,e,h0⟩
  refine(au rfl (eG (bf.of (s1 _ _ h1)) (ao (j:=0) rfl) (au rfl ⟨(by lia),(by lia),λX hX=>dN (lo:=0) (m:=(p:Int).toNat) (λi acc H2=>aq H1 H2/\H2 X=some (.lst acc)/\Paired (uL H2) acc ((List.range i).filterMap λj=>I j j true)) ⟨aq.new hX,af,.nil⟩ (λi acc H2 _ z=>⟨z.2.1,by rw[z.2.2.length];exact aat (List.length_filterMap_le ..) (by simp)⟩) (dl (abn.mpr (by lia))) ?_ ?_⟩)))
  ·rintro i acc H2 hi ⟨s2,O,pr⟩;rw[aah]at hi;rw[aby];obtain⟨d,H0,hd,es,e1,e2,e3,_⟩:=EM i hi;have ab:es[i]?=some es[i]:=Z4 (by lia)
   obtain⟨v0,v1,hv,w0,w1⟩:=e3 i _ ab;have fm:(List.range (i+1)).filterMap (λj=>I j j true)=(List.range i).filterMap (λj=>I j j true)++(I i i true).toList:=by
    rw[abD,List.filterMap_append];cases U:I i i true<;>simp[U]
   rw[fm];have UR:(ds.map V.ref)[i]?=some (.ref d):=by rw[Z9,hd];rfl
   have ag:(es.map V.ref)[i]?=some (.ref es[i]):=by rw[Z9,ab];rfl
   refine⟨rfl,au rfl (au rfl (mX (aV.of (s2 _ _ Ay)) (ao (j:=i) UR) (au rfl (mX (aV.of (s2 _ _ e2)) (ao (j:=i) ag) (mX (aV.of (s2 _ _ hv)) (ao (j:=1) rfl) ⟨rfl,au rfl (?_)⟩)))))⟩;cases U:I i i true with
   | none =>
     rw[U]at w1;have w1:v1 = .dH:=w1;subst w1;refine FU rfl ⟨s2,O,?_⟩;rw[show(none:Option (Int×Nat)).toList=[] from rfl,abq]
     exact pr
   | some dd =>
     rw[U]at w1;obtain⟨c,rfl,hc⟩:=w1;refine P1 (λz=>nomatch z) (au rfl (au rfl (mX (aV.of (s2 _ _ Ay)) (ao (j:=i) UR) (au rfl (mX (aV.of (s2 _ _ e2)) (ao (j:=i) ag) (mX (aV.of (s2 _ _ hv)) (ao (j:=1) rfl) ⟨O,s2.put hX,af,?_⟩))))))
     have tp:bJ H2 (upd H2 X (.lst (acc++[.ref c]))):=bJ.put O;exact Paired.snoc (Paired.imp' (λ_ _ z=>z.tups tp) pr) ⟨c,rfl,tp _ _ (s2 _ _ hc)⟩
  ·rintro acc H2 ⟨s2,O,pr⟩;rw[aah]at pr;generalize hR:(List.range p).filterMap (λj=>I j j true)=R at pr
   have a6:=s1.trans s2;have Kp:∀k,k<g.N.n->0<aW ts k:=λk hk=>by
    have:=(g.rC _ (dW hk)).l0;unfold aW
    lia
   have inR:∀j d,j<p->I j j true=some d->d∈R:=λj d hj hd=>by
    rw[<-hR];exact abP.mpr ⟨j,aan.mpr hj,hd⟩
   have XS:∀d,d∈R->∃j,j<p/\I j j true=some d:=λd hd=>by
    rw[<-hR]at hd;obtain⟨j,hj,e⟩:=abP.mp hd;exact⟨j,aan.mp hj,e⟩
   have best:∀i,i<p->∀x s,RM.GP g.N (aW ts) m i x s ((I i x s).map (·.1)):=λi hi=>by
    obtain⟨d,H0,hd,es,e1,e2,e3,e4,_⟩:=EM i hi;exact e4
   refine(au rfl ⟨dl rfl,λl0 E2=>⟨_,_,.lst (aV.of (aq.new E2 _ _ O)) (Ah (Paired.imp' (λ_ _ z=>z.tups (aq.new E2).tups) pr)),.lst (aV.of af) .nil,Aj _,rfl,au rfl (?_)⟩⟩)
   rw[Il];have s3:=a6.trans (aq.new (o:=.lst []) E2);have Tf:=s2.trans (aq.new (o:=.lst []) E2);have Ks:=aq.new (o:=.lst []) E2 _ _ O;have QZ:=Paired.imp' (λ_ _ z=>uL.tups z (aq.new (o:=.lst []) E2).tups) pr
   clear O pr;generalize upd H2 l0 (.lst [])=H3 at s3 Tf Ks QZ
   by_cases Y:R=[]
   ·rw[fG Y];have no:∀x z,x<p->¬ RM.Wy g.N (aW ts) m x x true z:=λx z hx hw=>by
     have b:=best x hx x true;cases U:I x x true with
     | none=>rw[U]at b;exact b z hw
     | some d=>have:=inR x d hx U;rw[Y]at this;cases this
    refine lN (au rfl (au rfl ⟨wb,p,ts,g,_,rfl,hw.same s3,.inl ⟨m,rfl,hm,λt H4 ht s4 told=>?_⟩⟩))
    refine q t H4 (s3.free ht) (s3.trans s4) (.inl ⟨no,?_⟩);rcases told with⟨h0,l,hl,SX,P4⟩|⟨c,hc,hp,_⟩
    ·exact⟨h0,l,s3.free hl,SX,P4⟩
    ·obtain⟨c1,c2⟩:=RM.cX.mp hc;rw[RM.Ho (λk hk=>abY (Kp k hk)) no (RM.wq c1 c2) (RM.oz c1)]at hp
     cases hp
   ·rw[iK Y];obtain⟨cs,rfl,US⟩:=wW QZ;have a9:=US.length;have ar:0<cs.length:=by
     have:=List.length_pos_iff.mpr Y
     lia
    have aw:∀(i:Nat) c,cs[i]?=some c->∃d,R[i]?=some d/\H3 c=some (.tup [.int d.1,.int (d.2:Int)]):=λi c hc=>Paired.sS US hc
    refine jR (au rfl ⟨X,cs,λi=>[(R.getD i (0,0)).1,((R.getD i (0,0)).2:Int)],rfl,aV.of Ks,ar,λi c hc=>?_,λi c hc ax=>?_⟩)
    ·obtain⟨d,hd,h⟩:=aw i c hc;have e:R.getD i (0,0)=d:=by rw[Z6,hd];rfl
     dsimp only;rw[e];exact bf.of h
    obtain⟨d,hd,a7⟩:=aw i c hc;obtain⟨u,hu,UT⟩:=XS d (j7 hd);have aT:∀j d',j<p->I j j true=some d'->RM.lx d d':=λj d' hj U=>by
     obtain⟨i',a3⟩:=aaF (inR j d' hj U);have a8:i'<cs.length:=by
      have:=(ju.mp a3).1
      lia
     have Z:=ax i' a8;have e:R.getD i (0,0)=d:=by rw[Z6,hd];rfl
     have e' : R.getD i' (0,0)=d':=by rw[Z6,a3];rfl
     dsimp only at Z;rw[e,e']at Z;exact xK Z
    have a4:∀x z',x<p->RM.Wy g.N (aW ts) m x x true z'->d.1<=z':=λx z' hx hw=>by
     have b:=best x hx x true;cases U:I x x true with
     | none=>rw[U]at b;exact absurd hw (b z')
     | some d' =>
       rw[U]at b;have h1:d'.1<=z':=b.2 z' hw;have h2:=aT x d' hx U;unfold RM.lx at h2
       lia
    obtain⟨_,_,_,es,_,_,_,_,wz,_,_⟩:=EM u hu;have UU:=wz u true d UT;obtain⟨r1,r2,r3,r4⟩:=RM.Bu Kp (show u<g.N.p from hu) UU a4
    refine(eG (bf.of a7) (ao (j:=1) rfl) (au rfl ⟨D,ds,I,p,g.N,aW ts,m,rfl,Tf _ _ Ay,(by lia),⟨hl,λj d e=>let⟨H0,w0⟩:=all j d e;⟨H0,w0.same Tf⟩⟩,λb H4 s4 hW=>⟨dl rfl,λt ht=>?_⟩⟩))
    have s5:aq H4 (upd H4 t (.tup [.str "ring",.int (d.2:Int),.ref b])):=aq.new ht;refine q t _ ((s3.trans s4).free ht) ((s3.trans s4).trans s5) (.inr ⟨d.1,d.2,b,_,⟨I,λi hi=>?_,⟨u,hu,UT⟩,aT⟩,⟨r1,r2,r3,r4,⟨u,hu,?_⟩,a4⟩,af,hW.same s5,by rw[ZZ,aax],λR hR=>?_,λi hi x s hx=>?_⟩)
    ·obtain⟨_,_,_,_,_,_,_,_,_,_,fx⟩:=EM i hi;exact fx
    ·obtain⟨pre,w0⟩:=UU;exact⟨pre,_,w0⟩
    ·obtain⟨i,_,rfl⟩:=aai.mp hR;exact CL _ _
    ·rw[Z6,Z9,acN hi];show RM.GP _ _ m i x s (sel (JO (lA (yf (I i)) p) x) s);rw[MB hx];exact best i hi x s
def EN(t1 t2:Addr)(Nb Nc:Pos):Sp:=λvs H Q _=>∃w p ts,∃g:aD p ts,vs=[.ref w]/\b9 H w p ts/\H t1=some (.iL (dM (mW "least_ways") Nb))/\H t2=some (.iL (dM (mW "by_length") Nc))/\
 ∀D rs H',H D=none->aq H H'->H' D=some (.lst (aB rs))->RM.LB g.N (aW ts) rs->rs.Pairwise (jq ts)->(∃bs,RM.CQ g.N (aW ts) (g.N.aM.map λc=>2^c) bs []/\rs.Perm bs)->Q (.ref D) H'
def j6:Ok T T.jX 10 (EN a.b8 a.dR bS c5):=by
 have kE:=kE T;have l9:=l9 T;have dD:=dD T;have l8:=l8 T;refine T.jX.ok cV λ_ A _ s H vs Q E hr h=>?_
 ·obtain⟨wb,p,ts,g,rfl,hw,yt,yu,q⟩:=h;refine⟨_,(ai (kK (i:=1) cV.nd rfl rfl (own:=["chord"]) (fq:=[]) (js:=[]) (aN (aj eR) ["web","waiting","found","marks","ring"]) rfl (yL K (aO kE hr T.o6.c aJ (aa (pv 0) ah))) (λ_ _ _ _=>(cE 0 (ue ["chord"]))) (λ_ _ _ _=>dJ) (λ_ _ _ _=>(aR pD ak (pv 0))))
   (ai (aL (i:=2) cV.nd rfl (Or.inl rfl) (fb ah))
   (ai (sJ PassesOwn.never (aH qR (cL K T.eI (aa (pv 1) ah)) ak (aP _)) (ai (aL (i:=3) cV.nd rfl (Or.inr rfl) (aK (my K) (pv 1) ak))
   (ai (aL (i:=4) cV.nd rfl (Or.inr rfl) (aK (eO K) (aO l9 hr T.l6.c yN (aa (pv 0) (aa (pv 3) ah))) ak))
   (ai (bR (E6 K (lz aaz aaN aaO cQ (pv 2) (aa (pv 4) ah))))
   (av (kK (i:=1) cV.nd rfl rfl (own:=["later"]) (fq:=["marks","ring"]) (js:=[3,4]) (aN (aj eR) ["web","waiting","found","marks","ring"]) rfl (yL K (yF (T8 K) (pv 1) (xh ak) Jg)) (λ_ _ _ _=>(cE 0 (ue ["later","marks","ring"]))) (λ_ _ _ _=>dJ) (λ_ _ _ _=>(lM (lK (aO dD hr T.gG.c aJ (aa (pv 2) (aa (pv 0) ah)))) (aR jO (pv 0) (pv 1)) (pv 0)))))))))
   (av (aG (aO l8 hr T.jJ.c aJ (aa (pv 0) (aa (pv 2) ah)))))))),?_⟩
  refine uw ?_;intro dc dQ fT gW jv lD uf;have wl:=g.len;have cn:g.N.aM.length<=24:=by
   have:g.N.aM.length<=(List.range g.N.n).length:=aaP ..;rw[aax]at this;have h2:g.N.n=ts.length:=rfl
   lia
  have UW:(100:Nat)<sizeLine:=by decide
  refine(au rfl ⟨wb,p,ts,g,rfl,hw,λDc H1 ZS s1 ab=>⟨Dc,rfl,⟨_,aV.of ab⟩,λX hX=>dz (K:=K) (a:=Dc) (xs:=aB g.N.aM) (λi acc H2=>aq H1 H2/\H2 X=some (.lst acc)/\acc=aB ((g.N.aM.take i).map λc=>2^c)) ⟨aq.new hX,af,rfl⟩ (λi acc H2 _ z=>⟨aV.of (z.1 _ _ ab),z.2.1,by rw[z.2.2,aU,ZZ,abc];lia⟩) (fL (by rw[aU];lia)) ?_ ?_⟩⟩)
  ·rintro i x acc H2 hx ⟨s2,I,rfl⟩;obtain⟨c,UX,rfl⟩:∃c,g.N.aM[i]?=some c/\x = .int (c:Int):=by
    unfold aB at hx;rw[Z9]at hx;obtain⟨c,h1,h2⟩:=uT.mp hx;exact⟨c,h1,h2.symm⟩
   have ag:=(RM.cX.mp (j7 UX)).1;have ag:c<ts.length:=ag;refine⟨rfl,au rfl (dB ⟨⟨by lia,by lia,by decide⟩,I,s2.put hX,af,?_⟩)⟩
   rw[aaK,UX];show _=aB (List.map _ (List.take i g.N.aM++[c]));rw[aaw,List.map_singleton,i8];dsimp only;rw[r9]
  rintro acc H2 ⟨s2,I,rfl⟩;rw[aU,aaV]at I;refine⟨dl rfl,λF hF=>?_⟩
  have s3:aq H2 (upd H2 F (.lst [])):=aq.new hF;have Ks:=s3 _ _ I;have UY:upd H2 F (.lst []) F=some (.lst (aB [])):=af;have XT:H F=none:=(s1.trans s2).free hF;have XU:X≠F:=λz=>by rw[<-z,I]at hF;cases hF
  have NV:=(s1.trans s2).trans s3;generalize upd H2 F (.lst [])=H3 at Ks UY NV;have nd:g.N.aM.Nodup:=RM.DW;have hL:=wA g;refine⟨λn σ H4=>∃X bs us ws cs Z v4,σ=[some (.ref wb),some (.ref X),some (.ref F),Z,v4]/\aq H H4/\H4 X=some (.lst (aB ws))/\H4 F=some (.lst (aB bs))/\X≠F/\RM.DP g.N (aW ts) bs us/\RM.Wt g.N bs ws cs/\RM.CQ g.N (aW ts) (g.N.aM.map λc=>2^c) bs ws/\n=ws.length,⟨_,X,[],[],_,_,none,none,rfl,NV,Ks,UY,XU,RM.DP.start,RM.Wt.start nd,.start,rfl⟩,?_⟩
  rintro n σ H4 ⟨X,bs,us,ws,cs,Z,v4,rfl,Y,Tg,UZ,Th,dp,U,lr,rfl⟩;refine(au rfl (uS rfl (.inl (aV.of Tg)) (dB (au rfl (rB (λhlen=>?_) (λhlen=>?_))))))
  case refine_2 =>
   have hl : ¬(0:Int)<((aB ws).length:Int):=λz=>hlen (fG z)
   have e:ws=[]:=aba (by rw[aU]at hl;lia)
   subst e;have hb:bs.length=g.N.aM.length:=by
    have:=U.sum;rw[abA]at this
    lia
   refine(au rfl (au rfl ⟨wb,p,ts,g,F,bs,rfl,hw.same Y,UZ,by lia,λm hm=>(dp.ring m hm).2,Y _ _ yu,λD ar H5 hD s5 wR hp hs=>?_⟩))
   exact q D ar H5 (Y.free hD) (Y.trans s5) wR ((dp.least hb).perm hp) hs ⟨bs,lr,hp⟩
  have hlen:(0:Int)<((aB ws).length:Int):=sC hlen;rw[aU]at hlen;refine⟨λσ' H'=>∃X bs us O cs Z v4,σ' = [some (.ref wb),some (.ref X),some (.ref F),Z,v4]/\aq H H'/\H' X=some (.lst (aB O))/\H' F=some (.lst (aB bs))/\X≠F/\RM.DP g.N (aW ts) bs us/\RM.Wt g.N bs O cs/\RM.CQ g.N (aW ts) (g.N.aM.map λc=>2^c) bs O/\O.length<ws.length,λσ' H' ⟨X,bs,us,O,cs,Z,v4,e,a1,a2,a3,a4,a5,a6,a8,a7⟩=>⟨_,a7,X,bs,us,O,cs,Z,v4,e,a1,a2,a3,a4,a5,a6,a8,rfl⟩,?_⟩
  obtain⟨m,ws,rfl⟩:∃m O,ws=m::O:=by
   cases ws with
   | nil=>simp at hlen
   | cons m O=>exact⟨m,O,rfl⟩
  have aw:m<2^ts.length:=U.lt m aad;refine(au rfl (mX (aV.of Tg) (ao (j:=0) rfl) (?_)));refine(au rfl (au rfl ⟨wb,p,ts,g,(m:Int),rfl,hw.same Y,Y _ _ yt,.inl ⟨m,rfl,aw,λr H5 ZT s5 told=>?_⟩⟩))
  obtain⟨r0,g1,g2,g3⟩:=U.odd;rcases told with⟨n1,_⟩|⟨z,e,b2,W,lo,le,a1,_⟩
  ·obtain⟨x,hx,U0⟩:=RM.oJ hL m g1 g2;rw[g3]at U0;exact absurd U0 (n1 x _ hx)
  refine(eG (bf.of a1) (ao (j:=1) rfl) (?_));have U1:=s5 _ _ UZ;have XW:=s5 _ _ Tg;have ZU:bs.length<=24:=by have:=U.sum;lia
  refine(au rfl ⟨(.inl ⟨rfl,_,aV.of U1⟩),au rfl ⟨F,_,_,rfl,rfl,U1,(by rw[aU];lia),?_⟩⟩)
  have U3:aq H (upd H5 F (.lst (aB bs++[.int (e:Int)]))):=(Y.trans s5).put XT;have U4:upd H5 F (.lst (aB bs++[.int (e:Int)])) F=some (.lst (aB (bs++[e]))):=by rw[af,i8]
  have U5:upd H5 F (.lst (aB bs++[.int (e:Int)])) X=some (.lst (aB (m::ws))):=by rw[ae Th];exact XW
  generalize upd H5 F (.lst (aB bs++[.int (e:Int)]))=H6 at U3 U4 U5;have Nf:uX (aB (m::ws)) (some (1:Int)) none=aB ws:=Gu (m::ws) (i:=1) (by simp)
  have Ti:=U.next le.par;obtain⟨cc,ax,_,Ti⟩:=Ti;have XX:=dp.snoc le.ring le.lt le.par (λr h1 h2 h3=>by
   have:=le.least hL h1 h2 h3;have e1:RM.len g.N (aW ts) e=z:=le.len;rw[e1];exact this) (U.dO m aad)
  have XY:ws.length<=24:=by have:=U.sum;rw[aaA]at this;lia
  refine(au rfl (au rfl ⟨X,_,rfl,aV.of U5,λc hc=>?_⟩))
  rw[Nf];have P5:aq H (upd H6 c (.lst (aB ws))):=U3.trans (aq.new hc);have Tj:=aq.new hc (o:=.lst (aB ws)) _ _ U4;have NS:upd H6 c (.lst (aB ws)) c=some (.lst (aB ws)):=af;generalize upd H6 c (.lst (aB ws))=H7 at P5 Tj NS;refine⟨c,rfl,⟨_,aV.of NS⟩,λX' P6=>dz (K:=K) (a:=c) (xs:=aB ws) (λi acc H8=>aq H7 H8/\H8 X' = some (.lst acc)/\acc=aB ((ws.take i).map λv=>if g.N.par e v=true then v^^^m else v)) ⟨aq.new P6,af,rfl⟩ (λi acc H8 _ z=>⟨aV.of (z.1 _ _ NS),z.2.1,by rw[z.2.2,aU,ZZ,abc];lia⟩) (fL (by rw[aU];lia)) ?_ ?_⟩
  ·rintro i x acc H8 hx ⟨s8,Q0,rfl⟩;obtain⟨v,KQ,rfl⟩:∃v,ws[i]?=some v/\x = .int (v:Int):=by
    unfold aB at hx;rw[Z9]at hx;obtain⟨c,h1,h2⟩:=uT.mp hx;exact⟨c,h1,h2.symm⟩
   have U6:v<2^ts.length:=U.lt v (m9 _ (j7 KQ));have Ih:Builtin.Int.intBits ((e&&&v:Nat):Int)<=1000:=aat (bits_le (acQ _ U6)) (by lia)
   have snoc:∀y,(if g.N.par e v=true then v^^^m else v)=y->aB ((ws.take i).map λv=>if g.N.par e v=true then v^^^m else v)++[.int (y:Int)]=aB ((ws.take (i+1)).map λv=>if g.N.par e v=true then v^^^m else v):=λy hy=>by
    rw[aaK,KQ];show _=aB (List.map _ (List.take i ws++[v]));rw[aaw,List.map_singleton,i8,hy]
   refine⟨rfl,au rfl (au rfl ⟨_,_,e,v,rfl,rfl,rfl,Ih,λH9 s9=>(au rfl (?_))⟩)⟩
   rw[CC (g:=g) U6];have U7:=s8.trans s9;have U8:=s9 _ _ Q0;cases hb:g.N.par e v with
   | true =>
     refine lN (au rfl (au rfl (dB ⟨U8,U7.put P6,af,?_⟩)));dsimp only;rw[xor_int];exact snoc _ (Z1 hb)
   | false=>exact jR (au rfl ⟨U8,U7.put P6,af,snoc _ (Z0 (by rw[hb];decide))⟩)
  ·rintro acc H8 ⟨s8,Q0,rfl⟩;rw[aU,aaV]at Q0;refine⟨X',bs++[e],us++[m],_,ax,_,_,rfl,P5.trans s8,Q0,s8 _ _ Tj,?_,XX,Ti,lr.step lo,by rw[ZZ];simp⟩
   intro z;rw[z,Tj]at P6;cases P6
def B5(t1 t2:Addr)(Nb Nc:Pos):Sp:=λvs H Q _=>∃w p ts,∃g:aD p ts,vs=[.ref w]/\b9 H w p ts/\H t1=some (.iL (dM (mW "least_ways") Nb))/\H t2=some (.iL (dM (mW "by_length") Nc))/\
 ∀D rs H',H D=none->aq H H'->H' D=some (.lst ((rs.map (lenOf ts)).map V.int))->RM.LB g.N (aW ts) rs->rs.Pairwise (jq ts)->(∃bs,RM.CQ g.N (aW ts) (g.N.aM.map λc=>2^c) bs []/\rs.Perm bs)->Q (.ref D) H'
def qM:Ok T T.qD 11 (B5 a.b8 a.dR bS c5):=by
 have j6:=j6 T;have fE:=fE T;refine T.qD.ok BD λ_ A _ s H vs Q E hr h=>?_
 ·obtain⟨Y,p,ts,g,rfl,hw,yt,yu,q⟩:=h;refine⟨_,(av (aG (dS (own:=["ring"]) (fq:=["web"]) (js:=[0]) (aN (aj mR) ["web"]) rfl (yL K (aO j6 hr T.jX.c aJ (aa (pv 0) ah))) (λ_ _ _ _=>(cE 0 (ue ["ring","web"]))) (λ_ _ _ _=>dJ) (λ_ _ _ _=>(aO fE hr T.jI.c yN (aa (pv 1) (aa (pv 0) ah))))))),?_⟩
  have wl:=g.len;have W:=g.yo;refine(au rfl ⟨Y,p,ts,g,rfl,hw,yt,yu,λD rs H1 hD s1 Z O pw lr=>?_⟩)
  have ZV:rs.length<=24:=by
   have h1:g.N.aM.length<=(List.range g.N.n).length:=aaP ..;rw[aax,<-O.1.len]at h1;exact aat h1 wl
  refine⟨D,rfl,⟨_,aV.of Z⟩,λX U=>dz (K:=K) (a:=D) (xs:=aB rs) (λi acc H2=>aq H1 H2/\H2 X=some (.lst acc)/\acc=((rs.take i).map (lenOf ts)).map V.int) ⟨aq.new U,af,rfl⟩ (λi acc H2 _ z=>⟨aV.of (z.1 _ _ Z),z.2.1,by rw[z.2.2,ZZ,ZZ,abc];lia⟩) (fL (by rw[aU];lia)) ?_ ?_⟩
  ·rintro i x acc H2 hx ⟨s2,I,rfl⟩;obtain⟨r,Nx,rfl⟩:∃r,rs[i]?=some r/\x = .int (r:Int):=by
    unfold aB at hx;rw[Z9]at hx;obtain⟨c,h1,h2⟩:=uT.mp hx;exact⟨c,h1,h2.symm⟩
   have XZ:=(O.1.ring r (j7 Nx)).2;refine⟨rfl,au rfl (au rfl ⟨Y,p,ts,_,rfl,hw.same (s1.trans s2),W,.inl ⟨r,rfl,XZ,λH3 s3=>⟨s3 _ _ I,(s2.trans s3).put U,af,?_⟩⟩⟩)⟩
   rw[aaK,Nx];show _=List.map V.int (List.map (lenOf ts) (List.take i rs++[r]));rw[aaw,aaw];rfl
  ·rintro acc H2 ⟨s2,I,rfl⟩;rw[aU,aaV]at I;exact q X rs H2 (s1.free U) (s1.trans s2) I O pw lr
def rm:Sp:=λvs H Q _=>∃(p:Nat) (x:V) (t:cJ),vs=[.int (p:Int),x]/\TupAt H x t/\iF (p:Int) t/\∀b H',aq H H'->H' b=some (.tup (kO t))->Q (.ref b) H'
def Ak:Sp:=λvs H Q _=>∃(p:Nat) (l:Addr) (xs:List V) (ts:List cJ),vs=[.int (p:Int),.ref l]/\(H l=some (.lst xs)\/H l=some (.tup xs))/\Paired (TupAt H) xs ts/\aD p ts/\∀w H',aq H H'->b9 H' w p ts->Q (.ref w) H'
def nO:Ok T T.nJ 1 rm:=by
 refine T.nJ.ok q4 λ_ A _ s H vs Q E hr h=>?_
 ·obtain⟨p,x,t,rfl,⟨b,rfl,hb⟩,g,k⟩:=h;refine⟨_,(ai (ck (aH yC (cL K T.eI (aa (pv 1) ah)) ak (aP _)) dm bh)
   (ai (jN PassesOwn.never rfl (Wn K (cI (aa (aK (Nz K) (pv 1) ak) (aa (aK (Nz K) (pv 1) ak) ah)))) (cE 2 q4.nd)
   (av (ck (PW.pt (yz (aH vC (pv 2) ak (aP _)) (sG (aH Cf (pv 2) (pv 0) (aP _))))) dm bh)))
   (ai (ck (aH iY (aK (Nz K) (pv 1) ak) (aK (Nz K) (pv 1) ak) (aP _)) dm bh)
   (ai (ck (PW.pt (yz (aH vC (aK (Nz K) (pv 1) ak) ak (aP _)) (sG (aH qR (aK (Nz K) (pv 1) ak) (xw (by rfl) T.EA) (aP _))))) dm bh)
   (av (aG (fB (Co K) (by rfl) T.sy abO (aa (pv 1) ah)))))))),?_⟩
  refine zM ?_;intro Z dQ fT gW jv lD uf zN zO;have hs:aV K H b (kO t)\/bf K H b (kO t):=.inr (bf.of hb);refine(au rfl ⟨b,kO t,rfl,hs,rfl,au rfl (FU rfl ?_)⟩);refine(au rfl (pL hs (v:=.int t.1) (ao (j:=0) rfl) (au rfl (pL hs (v:=.int t.2.1) (ao (j:=1) rfl) ⟨(dl rfl),λq O=>⟨q,rfl,⟨_,bf.of af⟩,?_⟩⟩))))
  have I:aq H (upd H q (.tup [.int t.1,.int t.2.1])):=aq.new O;have hs' : aV K (upd H q (.tup [.int t.1,.int t.2.1])) b (kO t)\/bf K (upd H q (.tup [.int t.1,.int t.2.1])) b (kO t):=hs.imp I.seq I.T7;refine IV (K:=K) (a:=q) (xs:=[.int t.1,.int t.2.1]) (λi σ H2=>∃v,σ=[some (.int (p:Int)),some (.ref b),v]/\H2=upd H q (.tup [.int t.1,.int t.2.1])) ⟨none,rfl,rfl⟩ (λi σ H2 _ ⟨_,_,e⟩=>by rw[e];exact bf.of af) ?_ ?_
  ·rintro i y σ H2 hi ⟨v,rfl,rfl⟩;obtain⟨z,rfl,U,Y⟩:∃z,y=V.int z/\0<=z/\z<(p:Int):=by
    match i,hi with
    | 0,hi=>exact⟨t.1,(Option.some.inj hi).symm,g.a0,g.a1⟩
    | 1,hi=>exact⟨t.2.1,(Option.some.inj hi).symm,g.b0,g.b1⟩
   refine(au rfl (dB (au rfl (mU (by lia) (au rfl (au rfl (dB (au rfl (mU (by lia) ?_)))))))))
   exact(au rfl (rfl))
  ·rintro σ H2 ⟨v,rfl,rfl⟩;refine(au rfl (pL hs' (v:=.int t.1) (ao (j:=0) rfl) (au rfl (pL hs' (v:=.int t.2.1) (ao (j:=1) rfl) ⟨rfl,au rfl (mU (λz=>g.ne (V.int.inj z)) ?_)⟩))))
   refine(au rfl (pL hs' (v:=.int t.2.2) (ao (j:=2) rfl) (dB (au rfl (mU (by have:=g.l0;lia) (au rfl (pL hs' (v:=.int t.2.2) (ao (j:=2) rfl) (dB (au rfl (mU (by have:=g.l1;lia) ?_))))))))))
   exact(au rfl ⟨b,kO t,rfl,.inr ⟨bf.of (I _ _ hb),k b _ I (I _ _ hb)⟩⟩)
def c9:Ok T T.jm 2 Ak:=by
 have nO:=nO T;refine T.jm.ok zL λ_ A _ s H vs Q E hr h=>?_
 ·obtain⟨p,l,xs,ts,rfl,Z,hp,g,k⟩:=h;refine⟨_,(ai (ck (PW.pt (yz (aH vC (pv 0) ak (aP _)) (sG (aH qR (pv 0) (xw (by rfl) T.vp) (aP _))))) dm bh)
   (ai (ck (aH qR (cL K T.eI (aa (pv 1) ah)) (xw (by rfl) T.Ab) (aP _)) dm bh)
   (av (aG (cI (aa (pv 0) (aa (fB (Co K) (by rfl) T.sy abO (aa (dS (own:=["tie"]) (fq:=["points"]) (js:=[0]) (aN (aj kU) ["points","ties"]) rfl (Wo K (pv 1)) (λ_ _ _ _=>(cE 0 (ue ["tie","points"]))) (λ_ _ _ _=>dJ) (λ_ _ _ _=>(aO nO hr T.nJ.c aJ (aa (pv 1) (aa (pv 0) ah))))) ah)) ah))))))),?_⟩
  refine qZ ?_;intro dc dQ fT gW;have hs:aV K H l xs\/bf K H l xs:=Z.imp aV.of bf.of;have hlen:=hp.length;have gl:=g.len;have g1:=g.p1;have g2:=g.p2;refine(au rfl (dB (au rfl (mU (by lia) (au rfl (dB (au rfl (mU (by lia) ?_))))))))
  refine(au rfl ⟨l,xs,rfl,hs,_,_,rfl,rfl,au rfl (mU (by lia) ?_)⟩)
  refine(au rfl (?_));have start:∀D,H D=none->((λ(i:Nat) (acc:List V) (H2:Hp)=>aq H H2/\H2 D=some (.lst acc)/\Paired (TupAt H2) acc (ts.take i)/\acc.length=i) 0 [] (upd H D (.lst []))):=λD O=>⟨aq.new O,af,.nil,rfl⟩
  have turn:∀(D:Addr),H D=none->∀(i:Nat) (x:V) (acc:List V) (H2:Hp),xs[i]?=some x->(aq H H2/\H2 D=some (.lst acc)/\Paired (TupAt H2) acc (ts.take i)/\acc.length=i)->
   rm [.int (p:Int),x] H2 (λv H4=>H4 D=some (.lst acc)/\(aq H (upd H4 D (.lst (acc++[v])))/\upd H4 D (.lst (acc++[v])) D=some (.lst (acc++[v]))/\Paired (TupAt (upd H4 D (.lst (acc++[v])))) (acc++[v]) (ts.take (i+1))/\(acc++[v]).length=i+1)) E0:=by
   rintro D O i x acc H2 hx ⟨s2,hd,pr,I⟩;obtain⟨t,ht,X0⟩:=Paired.sS hp hx;refine⟨p,x,t,rfl,X0.tups s2.tups,g.rC t (j7 ht),λb H4 s4 hb=>?_⟩
   have Pu:H4 D=some (.lst acc):=s4 _ _ hd;refine⟨Pu,(s2.trans s4).put O,af,?_,by rw[Z7,aaL,I]⟩
   rw[aaK,ht];refine Paired.snoc (Paired.imp' (λ_ _ z=>z.tups (s4.tups.trans (bJ.put Pu))) pr) ?_
   exact⟨b,rfl,bJ.put Pu _ _ hb⟩
  have fin:∀(D:Addr) (acc:List V) (H2:Hp),H D=none->(aq H H2/\H2 D=some (.lst acc)/\Paired (TupAt H2) acc (ts.take xs.length)/\acc.length=xs.length)->
   ∀U,H2 U = none->([V.int (p:Int),.ref U]:List V).length<=sizeLine/\∀w',upd H2 U (.tup acc) w' = none->Q (.ref w') (upd (upd H2 U (.tup acc)) w' (.tup [.int (p:Int),.ref U])):=by
   rintro D acc H2 O ⟨s2,hd,pr,I⟩ U ab;refine⟨dl rfl,λw' hw=>?_⟩
   have n1:aq H2 (upd H2 U (.tup acc)):=aq.new ab;have n2:=n1.trans (aq.new (o:=.tup [.int (p:Int),.ref U]) hw);rw[hlen,aaV]at pr;refine k w' _ (s2.trans n2) ⟨U,acc,af,?_,Paired.imp' (λ_ _ z=>z.tups n2.tups) pr⟩
   rw[ae (aF af hw),af]
  rcases Z with Z|Z
  ·refine .inl (au rfl ⟨l,rfl,⟨xs,aV.of Z⟩,λD O=>dz (xs:=xs) (λi acc H2=>aq H H2/\H2 D=some (.lst acc)/\Paired (TupAt H2) acc (ts.take i)/\acc.length=i) (start D O) ?_ (fL (by lia)) ?_ ?_⟩)
   ·rintro i acc H2 _ ⟨s2,hd,pr,I⟩;exact⟨aV.of (s2 _ _ Z),hd,abU I⟩
   ·intro i x acc H2 hx Y;exact⟨rfl,au rfl (au rfl (turn D O i x acc H2 hx Y))⟩
   ·intro acc H2 Y;exact⟨D,acc,rfl,.inl ⟨aV.of Y.2.1,fin D acc H2 O Y⟩⟩
  ·refine .inr (au rfl ⟨l,rfl,⟨xs,bf.of Z⟩,λD O=>F0 (xs:=xs) (λi acc H2=>aq H H2/\H2 D=some (.lst acc)/\Paired (TupAt H2) acc (ts.take i)/\acc.length=i) (start D O) ?_ (fL (by lia)) ?_ ?_⟩)
   ·rintro i acc H2 _ ⟨s2,hd,pr,I⟩;exact⟨bf.of (s2 _ _ Z),hd,abU I⟩
   ·intro i x acc H2 hx Y;exact⟨rfl,au rfl (au rfl (turn D O i x acc H2 hx Y))⟩
   ·intro acc H2 Y;exact⟨D,acc,rfl,.inl ⟨aV.of Y.2.1,fin D acc H2 O Y⟩⟩
def Im(C:Addr):Sp:=λvs H Q _=>∃(p dx:Addr) (n:Nat),vs=[.ref p,.int (n:Int)]/\H p=some (.ins C dx [])/\1<=n/\n<=10/\
 ∀d q H',H d=none->H q=none->fO C H' p d q n [(0,[])] []->(∀b o,H b=some o->b≠p->H' b=some o)->Q .dH H'
def EO(C:Addr):Sp:=λvs H Q _=>∃(p d q:Addr) (n f:Nat) (m:bN) (hs:List (Nat×bN)) (ds:List gO),vs=[.ref p]/\fO C H p d q n ((f,m)::hs) ds/\
 ∀l,H l=none->Q (.ref l) (upd H l (.lst (aB (m.map (·.1)))))
def yi(C:Addr):Sp:=λvs H Q _=>∃(p d q:Addr) (n f:Nat) (m:bN) (hs:List (Nat×bN)) (ds:List gO),vs=[.ref p]/\fO C H p d q n ((f,m)::hs) ds/\
 ∀l xs H',H l=none->aq H H'->H' l=some (.lst xs)->Paired (TupAt H') xs (m.map (·.2))->Q (.ref l) H'
def Al(C:Addr):Sp:=λvs H Q _=>∃(p d q:Addr) (n f:Nat) (m:bN) (hs:List (Nat×bN)) (ds:List gO),vs=[.ref p]/\fO C H p d q n ((f,m)::hs) ds/\
 ∀w H',aq H H'->b9 H' w n (m.map (·.2))->Q (.ref w) H'
def ER(C:Addr):Sp:=λvs H Q _=>∃(p d q:Addr) (n:Nat) (hs:List (Nat×bN)) (ds:List gO),vs=[.ref p]/\fO C H p d q n hs ds/\Q (.int (ds.length:Int)) H
def Kv(C:Addr):Sp:=λvs H Q _=>∃(p d q:Addr) (n f:Nat) (m:bN) (hs:List (Nat×bN)) (ds:List gO) (t:cJ),vs=[.ref p,.int t.1,.int t.2.1,.int t.2.2]/\fO C H p d q n ((f,m)::hs) ds/\
 iF (n:Int) t/\m.length<24/\ds.length<=900/\∀H',Kept H H' p d q->fO C H' p d q n ((f+1,m++[(f,t)])::(f,m)::hs) (.put f::ds)->Q (.int (f:Int)) H'
def Io(C:Addr):Sp:=λvs H Q _=>∃(p d q:Addr) (n f:Nat) (m:bN) (hs:List (Nat×bN)) (ds:List gO) (x:Nat) (t:cJ),vs=[.ref p,.int (x:Int)]/\fO C H p d q n ((f,m)::hs) ds/\
 (x,t)∈m/\ds.length<=900/\∀H',Kept H H' p d q->fO C H' p d q n ((f,without x m)::(f,m)::hs) (.drop x t::ds)->Q .dH H'
def Ip(C:Addr):Sp:=λvs H Q _=>∃(p d q:Addr) (n:Nat) (s1 s2:Nat×bN) (hs:List (Nat×bN)) (e:gO) (ds:List gO),vs=[.ref p]/\fO C H p d q n (s1::s2::hs) (e::ds)/\
 ∀H',Kept H H' p d q->fO C H' p d q n (s2::hs) ds->Q .dH H'
def Am{n:Nat}(h:n<=24):n<sizeLine:=cf (by lia)
def iw(T:Txt P w base K mg a):fF P w K mg base sO 3 a.h9 a.ia ["self","points"] (Im a.ay):=by
 have c9:=c9 T;refine T.rQ.ok qk (λvs H Q E h=>?_) (λ_ A _ s H vs Q E hr h=>?_)
 ·obtain⟨p,dx,n,rfl,_⟩:=h;rfl
 ·obtain⟨p,dx,n,rfl,hp,p1,p2,k⟩:=h;refine⟨_,(ai (bR (aO c9 hr T.jm.c aJ (aa (pv 1) (aa (fb ah) ah))))
   (ai (pH (pv 0) (pv 1) rfl)
   (ai (pH (pv 0) GC rfl)
   (ai (pH (pv 0) ak rfl)
   (av (pH (pv 0) (fb ah) rfl)))))),?_⟩
  refine qm ?_;intro dc dQ fT gW;refine(au rfl ⟨dl rfl,λl hl=>⟨n,l,[],[],rfl,.inl af,.nil,⟨p1,p2,aaB _,(λ_ h=>nomatch h)⟩,λw0 H2 s2 hw=>?_⟩⟩)
  have I:aq H H2:=(aq.new hl).trans s2;have E4:=I _ _ hp;refine(au rfl (au rfl ⟨p,_,dx,_,rfl,E4,T.aA,T.na_points,(by show 0<1000;decide),λd hd=>?_⟩))
  have O:p≠d:=aF af hd;refine(au rfl ⟨p,_,dx,_,rfl,(by rw[ae O];exact af),T.aA,T.na_standing_ties,(by show 1<1000;decide),au rfl ⟨p,_,dx,_,rfl,af,T.aA,T.na_next_name,(by show _<1000;exact abp (gH _ _ _) (by show 2<1000;decide)),?_⟩⟩)
  refine⟨dl rfl,λq U=>?_⟩
  have Y:p≠q:=aF af U;have U9:∀o o',(upd (upd (upd (upd H2 p o) d (.dK [])) p o') p)=(upd (upd (upd (upd H2 p o) d (.dK [])) p o') p):=λ_ _=>rfl
  refine(au rfl ⟨p,_,dx,_,rfl,(by rw[ae Y];exact af),T.aA,T.na_done,(by show _<1000;exact abp (gH _ _ _) (abp (Nat.add_le_add_right (gH _ _ _) 1) (by show 3<1000;decide))),?_⟩)
  have E7:d≠q:=λz=>by
   rw[<-z,ae (aaq O),ae (aaq O),af]at U;cases U
  have kp:∀b o,H b=some o->b≠p->b≠d->b≠q->upd (upd (upd (upd (upd (upd H2 p (.ins a.ay dx (cA "points" (.int (n:Int)) []))) d (.dK [])) p (.ins a.ay dx (cA "standing_ties" (.ref d) (cA "points" (.int (n:Int)) [])))) p (.ins a.ay dx (cA "next_name" (.int 0) (cA "standing_ties" (.ref d) (cA "points" (.int (n:Int)) []))))) q (.lst [])) p (.ins a.ay dx (cA "done" (.ref q) (cA "next_name" (.int 0) (cA "standing_ties" (.ref d) (cA "points" (.int (n:Int)) []))))) b=some o:=λb o e h1 h2 h3=>by
   rw[ae h1,ae h3,ae h1,ae h1,ae h2,ae h1];exact I _ _ e
  have Z:H d=none:=none_of (λb o e h1=>by rw[ae h1];exact I _ _ e) hd (aaq O)
  have wF:H q=none:=by
   rw[ae (aaq Y),ae (aaq Y),ae (aaq E7),ae (aaq Y)]at U;exact I.free U
  refine k d q _ Z wF ⟨.nil,p1,p2,⟨dx,0,[],[],rfl,Eq.trans af (aas (λl=>some (HO.ins a.ay dx l)) (iQ n d 0 q)),[],?_,.refl _,(λ_ h=>nomatch h)⟩,[],?_,.nil⟩ λb o e h1=>?_
  ·rw[ae (aaq O),ae E7,ae (aaq O),ae (aaq O),af];rfl
  ·rw[ae (aaq Y),af]
  ·exact kp b o e h1 (aF e Z) (aF e wF)
def cj(T:Txt P w base K mg a):fF P w K mg base sO 1 a.gj a.gn ["self"] (EO a.ay):=by
 refine T.qH.ok oZ (λvs H Q E h=>?_) (λ_ A _ s H vs Q E hr h=>?_)
 ·obtain⟨p,d,q,n,f,m,hs,ds,rfl,_⟩:=h;rfl
 ·obtain⟨p,d,q,n,f,m,hs,ds,rfl,S,k⟩:=h;refine⟨_,(av (aG (eN (JJ rfl) (by rfl) T.Aa PyProof.Rows.boot_sorted (aa (cZ K (pv 0)) ah)))),?_⟩
  have ok:=S.ch.ok;obtain⟨dx,_,_,_,e,U,hd⟩:=S.ob;cases e;obtain⟨kvs,ns,h1,h2,h3,h4⟩:=hd.sorted ok;refine(au rfl ⟨p,_,dx,_,_,rfl,U,T.aA,T.na_standing_ties,kR,d,kvs,ns,rfl,h1,h2,h3,λl I Y Z O=>?_⟩)
  rw[h4 I Z O];exact k l Y
def bM(T:Txt P w base K mg a):fF P w K mg base sO 2 a.eK a.eL ["self"] (yi a.ay):=by
 have cj:=cj T;refine T.mZ.ok l5 (λvs H Q E h=>?_) (λ_ A _ s H vs Q E hr h=>?_)
 ·obtain⟨p,d,q,n,f,m,hs,ds,rfl,_⟩:=h;rfl
 ·obtain⟨p,d,q,n,f,m,hs,ds,rfl,S,k⟩:=h;refine⟨_,(av (aG (dS (own:=["name"]) (fq:=["self"]) (js:=[0]) (aN (aj cO) ["self"]) rfl (yL K (cu (pv 0) T.aA T.jL cj (hr.mono (by decide)) T.kC .nil aJ)) (λ_ _ _ _=>(cE 0 (ue ["name","self"]))) (λ_ _ _ _=>dJ) (λ_ _ _ _=>(CD (by exact nW hr) (cZ K (pv 1)) (pv 0) (λ_ _=>rfl)))))),?_⟩
  have ok:=S.ch.ok;obtain⟨dx,_,_,_,e,Y,hd⟩:=S.ob;cases e;have few:=ok.few;refine(au rfl ⟨p,dx,_,rfl,Y,gP (by decide +kernel) (by decide +kernel) (by decide +kernel) (by decide +kernel),p,d,q,n,f,m,hs,ds,rfl,S,λl Z=>⟨l,rfl,⟨_,aV.of af⟩,λD U=>?_⟩⟩)
  have s1:aq H (upd H l (.lst (aB (m.map (·.1))))):=aq.new Z;have Q2:H D=none:=s1.free U;have ZW:l≠D:=aF af U;refine dz (xs:=aB (m.map (·.1))) (λi acc H2=>aq (upd H l (.lst (aB (m.map (·.1))))) H2/\H2 D=some (.lst acc)/\Paired (TupAt H2) acc ((m.map (·.2)).take i)/\acc.length=i) ⟨aq.new U,af,.nil,rfl⟩ ?_ (by rw[aU,ZZ];exact fL few) ?_ ?_
  ·rintro i acc H2 _ ⟨s2,hd2,pr,I⟩;exact⟨aV.of (s2 _ _ af),hd2,abU I⟩
  ·rintro i x acc H2 hx ⟨s2,hd2,pr,I⟩;obtain⟨nm,O,rfl⟩:=kc hx;rw[Z9]at O;obtain⟨⟨Va,t⟩,hmt,e⟩:=uT.mp O;have e:Va=nm:=e;subst e;obtain⟨kvs,b,g1,g2,g3⟩:=(hd.same (s1.trans s2)).get ok (j7 hmt);have E4:=s2 _ _ (s1 _ _ Y);refine⟨rfl,au rfl ⟨p,_,dx,_,_,rfl,E4,T.aA,T.na_standing_ties,kR,_,rfl,d,.ref b,rfl,(by have z:=tG.k (k:=kN Va) g1;rw[g2]at z;exact z),hd2,s2.put U,af,?_,by rw[Z7,aaL,I]⟩⟩
   rw[aaK,Z9,hmt];exact Paired.snoc (Paired.imp' (λ_ _ z=>z.tups (bJ.put hd2)) pr) ⟨b,rfl,bJ.put hd2 _ _ g3⟩
  ·rintro acc H2 ⟨s2,hd2,pr,I⟩;rw[aU,ZZ,show m.length=(m.map (·.2)).length from(ZZ _).symm,aaV]at pr
   exact k D acc H2 Q2 (s1.trans s2) hd2 pr
def bF(T:Txt P w base K mg a):fF P w K mg base sO 3 a.fh a.fj ["self"] (Al a.ay):=by
 have c9:=c9 T;have bM:=bM T;refine T.nM.ok mY (λvs H Q E h=>?_) (λ_ A _ s H vs Q E hr h=>?_)
 ·obtain⟨p,d,q,n,f,m,hs,ds,rfl,_⟩:=h;rfl
 ·obtain⟨p,d,q,n,f,m,hs,ds,rfl,S,k⟩:=h;refine⟨_,(av (aG (aO c9 hr T.jm.c aJ (aa (cZ K (pv 0)) (aa (cu (pv 0) T.aA T.gV bM (hr.mono (by decide)) T.iC .nil aJ) ah))))),?_⟩
  have ok:=S.ch.ok;obtain⟨dx,_,_,_,e,O,hd⟩:=S.ob;cases e;refine(au rfl ⟨p,_,dx,_,_,rfl,O,T.aA,T.na_points,wg,_,rfl,p,dx,_,rfl,O,gP (by decide +kernel) (by decide +kernel) (by decide +kernel) (by decide +kernel),p,d,q,n,f,m,hs,ds,rfl,S,λl xs H2 Y s2 I pr=>?_⟩)
  exact⟨n,l,xs,_,rfl,.inl I,pr,ok.yo S.p1 S.p2,λU H3 s3 hw=>k U H3 (s2.trans s3) hw⟩
def gC(T:Txt P w base K mg a):fF P w K mg base sO 1 a.gp a.gq ["self"] (ER a.ay):=by
 refine T.qI.ok o4 (λvs H Q E h=>?_) (λ_ A _ s H vs Q E hr h=>?_)
 ·obtain⟨p,d,q,n,hs,ds,rfl,_⟩:=h;rfl
 ·obtain⟨p,d,q,n,hs,ds,rfl,S,k⟩:=h;refine⟨_,(av (aG (cL K T.eI (aa (cZ K (pv 0)) ah)))),?_⟩;obtain⟨dx,f,m,hs',rfl,hp,hd⟩:=S.ob;obtain⟨ys,hq,pr⟩:=S.dn;have I:=pr.length;rw[abM]at I;refine(au rfl ⟨p,_,dx,_,_,rfl,hp,T.aA,T.na_done,oG,q,ys,rfl,.inl (aV.of hq),?_⟩);rw[I];exact k
def jr(T:Txt P w base K mg a):fF P w K mg base sO 3 a.jj a.jk ["self","one","other","length"] (Kv a.ay):=by
 have c9:=c9 T;have bM:=bM T;refine T.uD.ok g8 (λvs H Q E h=>?_) (λ_ A _ s H vs Q E hr h=>?_)
 ·obtain⟨p,d,q,n,f,m,hs,ds,t,rfl,_⟩:=h;rfl
 ·obtain⟨p,d,q,n,f,m,hs,ds,t,rfl,S,gt,few,P7,k⟩:=h;refine⟨_,(ai (aL (i:=4) g8.nd rfl (Or.inl rfl) (cI (aa (pv 1) (aa (pv 2) (aa (pv 3) ah)))))
   (ai (JK (av (bR (aO c9 hr T.jm.c aJ (aa (cZ K (pv 0)) (aa (aR (R5 K) (cu (pv 0) T.aA T.gV bM (hr.mono (by decide)) T.iC .nil aJ) (fb (aa (pv 4) ah))) ah))))))
   (ai (aL (i:=5) g8.nd rfl (Or.inl rfl) (cZ K (pv 0)))
   (ai (xD (by exact nW hr) (cZ K (pv 0)) (pv 5) (pv 4) rfl)
   (ai (pH (pv 0) (aR fV (pv 5) ak) rfl)
   (ai (bR (E6 K (lz aaz aaN aaO cQ (cZ K (pv 0)) (aa (cI (aa (pv 5) (aa lJ ah))) ah))))
   (av (aG (pv 5))))))))),?_⟩
  refine rE ?_;intro dc dQ fT gW jv lD;have ok:=S.ch.ok;refine(au rfl (au rfl (au rfl ⟨dl rfl,λb hb=>?_⟩)))
  have s1:aq H (upd H b (.tup (kO t))):=aq.new hb;have Y:upd H b (.tup (kO t)) b=some (.tup (kO t)):=af;have S1:=S.same s1;obtain⟨dx,_,_,_,e,zC,ar⟩:=S1.ob;cases e;refine(au rfl ⟨p,_,dx,_,_,rfl,zC,T.aA,T.na_points,wg,_,rfl,p,dx,_,rfl,zC,gP (by decide +kernel) (by decide +kernel) (by decide +kernel) (by decide +kernel),p,d,q,n,f,m,hs,ds,rfl,S1,λl xs H2 hl s2 ab pr=>?_⟩)
  have hlen:=pr.length;rw[ZZ]at hlen;refine(au rfl ⟨dl rfl,λl2 ag=>?_⟩)
  have s3:aq H2 (upd H2 l2 (.lst [.ref b])):=aq.new ag;refine⟨l,l2,xs,[.ref b],rfl,rfl,aV.of (s3 _ _ ab),aV.of af,fL (by show xs.length+1<=24;lia),λl3 X3=>?_⟩
  have s4:=s3.trans (aq.new (o:=.lst (xs++[.ref b])) X3);have Vb:=(ok.put gt few).yo S.p1 S.p2;rw[aaw]at Vb;refine⟨n,l3,xs++[.ref b],_,rfl,.inl af,Paired.snoc (Paired.imp' (λ_ _ z=>z.tups s4.tups) pr) ⟨b,rfl,s4 _ _ (s2 _ _ Y)⟩,Vb,λw0 I s5 hw=>?_⟩
  have NW:aq H I:=((s1.trans s2).trans s4).trans s5;have S5:=S.same NW;have QV:I b=some (.tup (kO t)):=s5 _ _ (s4 _ _ (s2 _ _ Y));obtain⟨dx,_,_,_,e,U,U9⟩:=S5.ob;cases e;obtain⟨ys,Tn,Vc⟩:=S5.dn;obtain⟨kvs,h1,h2,h3⟩:=U9.put ok.fresh QV;have AB:p≠d:=aE U h1 (by intro z;cases z)
  have ES:p≠q:=aE U Tn (by intro z;cases z)
  have E7:d≠q:=aE h1 Tn (by intro z;cases z)
  refine(au rfl ⟨p,_,dx,_,_,rfl,U,T.aA,T.na_next_name,JN,?_⟩);refine(au rfl (au rfl ⟨p,_,dx,_,_,rfl,U,T.aA,T.na_standing_ties,kR,_,rfl,d,_,rfl,xC.k (k:=kN f) h1 (Am (by lia)),?_⟩))
  have X4:upd I d (.dK (putK kvs (kN f) (.ref b))) p=some (.ins a.ay dx (iG n d f q)):=by rw[ae AB];exact U
  refine(au rfl (dB (au rfl ⟨p,_,dx,_,rfl,X4,T.aA,T.na_next_name,(by show 4<1000;decide),?_⟩)))
  have e7:cA "next_name" (.int ((f:Int)+1)) (iG n d f q)=iG n d (f+1) q:=we n d f (f+1) q;have To:upd (upd I d (.dK (putK kvs (kN f) (.ref b)))) p (.ins a.ay dx (cA "next_name" (.int ((f:Int)+1)) (iG n d f q))) p=some (.ins a.ay dx (iG n d (f+1) q)):=by rw[af,e7]
  have Z:upd (upd I d (.dK (putK kvs (kN f) (.ref b)))) p (.ins a.ay dx (cA "next_name" (.int ((f:Int)+1)) (iG n d f q))) q=some (.lst ys):=by rw[ae (aaq ES),ae (aaq E7)];exact Tn
  have P9:upd (upd I d (.dK (putK kvs (kN f) (.ref b)))) p (.ins a.ay dx (cA "next_name" (.int ((f:Int)+1)) (iG n d f q))) d=some (.dK (putK kvs (kN f) (.ref b))):=by rw[ae (aaq AB),af]
  have Q3:bJ I (upd (upd I d (.dK (putK kvs (kN f) (.ref b)))) p (.ins a.ay dx (cA "next_name" (.int ((f:Int)+1)) (iG n d f q)))):=λc zs e=>by
   rw[ae (aE e U (by intro z;cases z)),ae (aE e h1 (by intro z;cases z))]
   exact e
  have Vd:∀c o,I c=some o->c≠p->c≠d->c≠q->upd (upd I d (.dK (putK kvs (kN f) (.ref b)))) p (.ins a.ay dx (cA "next_name" (.int ((f:Int)+1)) (iG n d f q))) c=some o:=λc o e h1 h2 _=>by
   rw[ae h1,ae h2];exact e
  generalize upd (upd I d (.dK (putK kvs (kN f) (.ref b)))) p (.ins a.ay dx (cA "next_name" (.int ((f:Int)+1)) (iG n d f q)))=H7 at To Z P9 Q3 Vd;refine(au rfl ⟨p,_,dx,_,_,rfl,To,T.aA,T.na_done,oG,.inl ⟨rfl,_,aV.of Z⟩,au rfl ⟨dl rfl,λb2 Lq=>?_⟩⟩)
  have O:aq H7 (upd H7 b2 (.tup [.int (f:Int),.dH])):=aq.new Lq;have Tp:=Vc.length;rw[abM]at Tp;refine⟨q,ys,_,rfl,rfl,O _ _ Z,cf (by lia),au rfl (?_)⟩
  have t9:bJ H7 (upd (upd H7 b2 (.tup [.int (f:Int),.dH])) q (.lst (ys++[.ref b2]))):=O.tups.trans (bJ.put (O _ _ Z));refine k _ ⟨(NW.tups.trans Q3).trans t9,λc o e h1 h2 h3=>?_⟩ ⟨.put S.ch gt few,S.p1,S.p2,⟨dx,f+1,m++[(f,t)],_,rfl,?_,?_⟩,ys++[.ref b2],af,?_⟩
  ·rw[ae h3];exact O _ _ (Vd c o (NW _ _ e) h1 h2 h3)
  ·rw[ae ES];exact O _ _ To
  ·refine h3 _ _ (Q3.trans t9) ?_ (.refl _);rw[ae E7];exact O _ _ P9
  ·rw[abT];refine Paired.snoc (Paired.imp' (λ_ _ z=>z.tups (Q3.trans t9)) Vc) ⟨b2,rfl,bJ.put (O _ _ Z) _ _ af⟩
def iy(T:Txt P w base K mg a):fF P w K mg base sO 1 a.ic a.ie ["self","name"] (Io a.ay):=by
 refine T.rT.ok qo (λvs H Q E h=>?_) (λ_ A _ s H vs Q E hr h=>?_)
 ·obtain⟨p,d,q,n,f,m,hs,ds,x,t,rfl,_⟩:=h;rfl
 ·obtain⟨p,d,q,n,f,m,hs,ds,x,t,rfl,S,hx,P7,k⟩:=h;refine⟨_,(ai (ck (LF (DN (by exact nW hr) (pv 1) (cZ K (pv 0)))) dm bh)
   (av (bR (E6 K (lz aaz aaN aaO cQ (cZ K (pv 0)) (aa (cI (aa (pv 1) (aa (zd (cZ K (pv 0)) (pv 1) ⟨rfl,rfl,rfl,rfl⟩) ah))) ah)))))),?_⟩
  refine gF ?_;intro dc dQ;have ok:=S.ch.ok;obtain⟨dx,_,_,_,e,U,hd⟩:=S.ob;cases e;obtain⟨ys,hq,pd⟩:=S.dn;obtain⟨kvs,b,h1,h2,Y,h4⟩:=hd.pop ok hx;have AB:p≠d:=aE U h1 (by intro z;cases z)
  have ES:p≠q:=aE U hq (by intro z;cases z)
  have E7:d≠q:=aE h1 hq (by intro z;cases z)
  refine(au rfl (au rfl ⟨p,_,dx,_,_,rfl,U,T.aA,T.na_standing_ties,kR,d,_,rfl,(by have z:=tG.k (k:=kN x) h1;rw[h2]at z;exact z),au rfl (?_)⟩))
  refine jR ?_;have zC:upd H d (.dK (bz kvs (kN x))) p=some (.ins a.ay dx (iG n d f q)):=by rw[ae AB];exact U
  have I:upd H d (.dK (bz kvs (kN x))) q=some (.lst ys):=by rw[ae (aaq E7)];exact hq
  have Z:upd H d (.dK (bz kvs (kN x))) b=some (.tup (kO t)):=by rw[ae (aE Y h1 (by intro z;cases z))];exact Y
  have ab:upd H d (.dK (bz kvs (kN x))) d=some (.dK (bz kvs (kN x))):=af;have t1:bJ H (upd H d (.dK (bz kvs (kN x)))):=λc zs e=>by
   rw[ae (aE e h1 (by intro z;cases z))]
   exact e
  have k1:∀c o,H c=some o->c≠p->c≠d->c≠q->upd H d (.dK (bz kvs (kN x))) c=some o:=λc o e _ h2 _=>by
   rw[ae h2];exact e
  refine(au rfl ⟨p,_,dx,_,_,rfl,U,T.aA,T.na_done,oG,.inl ⟨rfl,_,aV.of hq⟩,au rfl (au rfl ⟨p,_,dx,_,_,rfl,U,T.aA,T.na_standing_ties,kR,d,rfl,.inl ⟨_,.inl h1⟩,au rfl ⟨kvs,kN x,.ref b,h1,rfl,h2,?_⟩⟩)⟩);generalize upd H d (.dK (bz kvs (kN x)))=H1 at zC I Z ab t1 k1;refine⟨dl rfl,λb2 Lq=>?_⟩
  have O:aq H1 (upd H1 b2 (.tup [.int (x:Int),.ref b])):=aq.new Lq;have Tp:=pd.length;rw[abM]at Tp;refine⟨q,ys,_,rfl,rfl,O _ _ I,cf (by lia),?_⟩
  have t9:bJ H1 (upd (upd H1 b2 (.tup [.int (x:Int),.ref b])) q (.lst (ys++[.ref b2]))):=O.tups.trans (bJ.put (O _ _ I));refine k _ ⟨t1.trans t9,λc o e h1 h2 Y=>?_⟩ ⟨.drop S.ch hx,S.p1,S.p2,⟨dx,f,without x m,_,rfl,?_,?_⟩,ys++[.ref b2],af,?_⟩
  ·rw[ae Y];exact O _ _ (k1 c o e h1 h2 Y)
  ·rw[ae ES];exact O _ _ zC
  ·refine h4 _ (t1.trans t9) ?_;rw[ae E7];exact O _ _ ab
  ·rw[abT];refine Paired.snoc (Paired.imp' (λ_ _ z=>z.tups (t1.trans t9)) pd) ⟨b2,b,rfl,bJ.put (O _ _ I) _ _ af,t9 _ _ Z⟩
def iz(T:Txt P w base K mg a):fF P w K mg base sO 1 a.ig a.ik ["self"] (Ip a.ay):=by
 refine T.rW.ok kA (λvs H Q E h=>?_) (λ_ A _ s H vs Q E hr h=>?_)
 ·obtain⟨p,d,q,n,s1,s2,hs,e,ds,rfl,_⟩:=h;rfl
 ·obtain⟨p,d,q,n,s1,s2,hs,e,ds,rfl,S,k⟩:=h;refine⟨_,(ai (ck (aH iY (cL K T.eI (aa (cZ K (pv 0)) ah)) ak (aP _)) dm bh)
   (ai (aL (i:=1) kA.nd rfl (Or.inl rfl) (Px K (AY aaz acA acB FQ (cZ K (pv 0)))))
   (av (ck (aH AK (aK (eO K) (pv 1) ak) lJ (aP _)) (ai (bR (zd (cZ K (pv 0)) (aK (eO K) (pv 1) ak) ⟨rfl,rfl,rfl,rfl⟩))
   (av (pH (pv 0) (aK (eO K) (pv 1) ak) rfl))) (av (xD (by exact nW hr) (cZ K (pv 0)) (aK (eO K) (pv 1) ak) (aK (eO K) (pv 1) ak) rfl)))))),?_⟩
  refine qp ?_;intro dc dQ fT gW jv lD;obtain⟨dx,f,m,_,e0,Y,hd⟩:=S.ob;cases e0;obtain⟨ys,hq,pd⟩:=S.dn;rw[abT]at pd;obtain⟨ys',y,rfl,X5,hy⟩:=Bj pd;obtain⟨X6,hd0,yn⟩:=hd.len;have AB:p≠d:=aE Y hd0 (by intro z;cases z)
  have ES:p≠q:=aE Y hq (by intro z;cases z)
  have E7:d≠q:=aE hd0 hq (by intro z;cases z)
  refine(au rfl ⟨p,_,dx,_,_,rfl,Y,T.aA,T.na_done,oG,uS rfl (.inl (aV.of hq)) ⟨rfl,au rfl (mU (λz=>by have z:=V.int.inj z;rw[Z7]at z;simp at z;lia) ?_)⟩⟩)
  refine(au rfl ⟨p,_,dx,_,_,rfl,Y,T.aA,T.na_done,oG,.inl ⟨rfl,_,aV.of hq⟩,q,_,y,rfl,rfl,hq,by simp,?_⟩)
  rw[List.dropLast_concat];have U:upd H q (.lst ys') p=some (.ins a.ay dx (iG n d f q)):=by rw[ae ES];exact Y
  have I:upd H q (.lst ys') q=some (.lst ys'):=af;have t1:bJ H (upd H q (.lst ys')):=bJ.put hq;have k1:∀c o,H c=some o->c≠p->c≠d->c≠q->upd H q (.lst ys') c=some o:=λc o e _ _ Z=>by
   rw[ae Z];exact e
  have O:cT (upd H q (.lst ys')) d m:=hd.keep t1 (by rw[ae E7])
  generalize upd H q (.lst ys')=H1 at U I t1 k1 O;have Ph:=hy.tups t1;have Ve:Paired (tI H1) ys' ds.reverse:=Paired.imp' (λ_ _ z=>z.tups t1) X5
  cases S.ch with
  | put c g hl =>
    obtain⟨b,rfl,hb⟩:=Ph
    rename_i f0 m0 t0
    refine(au rfl (eG (bf.of hb) (ao (j:=1) rfl) ⟨rfl,au rfl (lN ?_)⟩));obtain⟨kvs,bt,h1,h2,Z,h4⟩:=O.pop (c.ok.put g hl) (n:=f0) (t:=t0) (iD _ aad);refine(au rfl ⟨p,_,dx,_,_,rfl,U,T.aA,T.na_standing_ties,kR,d,rfl,.inl ⟨_,.inl h1⟩,au rfl (eG (bf.of hb) (ao (j:=0) rfl) ⟨kvs,kN f0,.ref bt,h1,rfl,h2,?_⟩)⟩);have E4:upd H1 d (.dK (bz kvs (kN f0))) p=some (.ins a.ay dx (iG n d (f0+1) q)):=by rw[ae AB];exact U
    have Lq:upd H1 d (.dK (bz kvs (kN f0))) b=some (.tup [.int (f0:Int),.dH]):=by rw[ae (aE hb h1 (by intro z;cases z))];exact hb
    refine(au rfl (eG (bf.of Lq) (ao (j:=0) rfl) (au rfl ⟨p,_,dx,_,rfl,E4,T.aA,T.na_next_name,(by show 4<1000;decide),?_⟩)))
    have t3:bJ H1 (upd (upd H1 d (.dK (bz kvs (kN f0)))) p (.ins a.ay dx (cA "next_name" (.int (f0:Int)) (iG n d (f0+1) q)))):=λc zs e=>by
     rw[ae (aE e U (by intro z;cases z)),ae (aE e h1 (by intro z;cases z))]
     exact e
    refine k _ ⟨t1.trans t3,λc o e g1 g2 g3=>?_⟩ ⟨c,S.p1,S.p2,⟨dx,f0,m0,_,rfl,Eq.trans af (aas (λl=>some (HO.ins a.ay dx l)) (we n d (f0+1) f0 q)),?_⟩,ys',?_,Paired.imp' (λ_ _ z=>z.tups t3) Ve⟩
    ·rw[ae g1,ae g2];exact k1 c o e g1 g2 g3
    ·have z:=h4 _ t3 (by rw[ae (aaq AB),af])
     rw[zf c.ok.fresh]at z;exact z
    ·rw[ae (aaq ES),ae (aaq E7)];exact I
  | drop c hm =>
    obtain⟨b,bt,rfl,hb,Tq⟩:=Ph
    rename_i m0 x0 t0
    refine(au rfl (eG (bf.of hb) (ao (j:=1) rfl) ⟨rfl,au rfl (mU (λz=>nomatch z) ?_)⟩))
    obtain⟨kvs,h1,h2,Z⟩:=O.put (n:=x0) (t:=t0) (b:=bt) (λz=>by
     obtain⟨e,he,q⟩:=aai.mp z;have:=(aao.mp he).2;simp[q]at this) Tq
    refine(au rfl (eG (bf.of hb) (ao (j:=1) rfl) (au rfl ⟨p,_,dx,_,_,rfl,U,T.aA,T.na_standing_ties,kR,_,rfl,eG (bf.of hb) (ao (j:=0) rfl) ⟨d,_,rfl,xC.k (k:=kN x0) h1 (Am (by rw[h2];exact(c.ok.drop x0).few)),?_⟩⟩)))
    have t3:bJ H1 (upd H1 d (.dK (putK kvs (kN x0) (.ref bt)))):=λc zs e=>by
     rw[ae (aE e h1 (by intro z;cases z))]
     exact e
    refine k _ ⟨t1.trans t3,λc o e g1 g2 g3=>?_⟩ ⟨c,S.p1,S.p2,⟨dx,f,m0,_,rfl,?_,?_⟩,ys',?_,Paired.imp' (λ_ _ z=>z.tups t3) Ve⟩
    ·rw[ae g2];exact k1 c o e g1 g2 g3
    ·rw[ae AB];exact U
    ·exact Z _ _ t3 af (perm_back c.ok.nodup hm)
    ·rw[ae (aaq E7)];exact I
def rY(C t1 t2:Addr)(Nb Nc:Pos):Sp:=λvs H Q _=>∃(p d q:Addr) (n f:Nat) (m:bN) (hs:List (Nat×bN)) (ds:List gO),∃g:aD n (m.map (·.2)),vs=[.ref p]/\fO C H p d q n ((f,m)::hs) ds/\H t1=some (.iL (dM (mW "least_ways") Nb))/\H t2=some (.iL (dM (mW "by_length") Nc))/\
 ∀D rs H',H D=none->aq H H'->H' D=some (.lst ((rs.map (lenOf (m.map (·.2)))).map V.int))->RM.LB g.N (aW (m.map (·.2))) rs->rs.Pairwise (jq (m.map (·.2)))->(∃bs,RM.CQ g.N (aW (m.map (·.2))) (g.N.aM.map λc=>2^c) bs []/\rs.Perm bs)->Q (.ref D) H'
def aI(T:Txt P w base K mg a):fF P w K mg base sO 12 a.c7 a.c8 ["self"] (rY a.ay a.b8 a.dR bS c5):=by
 have qM:=qM T;have bF:=bF T;refine T.k7.ok kB (λvs H Q E h=>?_) (λ_ A _ s H vs Q E hr h=>?_)
 ·obtain⟨p,d,q,n,f,m,hs,ds,g,rfl,_⟩:=h;rfl
 ·obtain⟨p,d,q,n,f,m,hs,ds,g,rfl,S,I,O,k⟩:=h;refine⟨_,(av (aG (aO qM hr T.qD.c aJ (aa (cu (pv 0) T.aA T.eM bF (hr.mono (by decide)) T.fk .nil aJ) ah)))),?_⟩
  obtain⟨dx,_,_,_,e,U,hd⟩:=S.ob;cases e;refine(au rfl ⟨p,dx,_,rfl,U,gP (by decide +kernel) (by decide +kernel) (by decide +kernel) (by decide +kernel),p,d,q,n,f,m,hs,ds,rfl,S,λY H1 s1 hw=>?_⟩)
  exact⟨Y,n,_,g,rfl,hw,s1 _ _ I,s1 _ _ O,λD rs H2 Z s2 xO lb pw lr=>k D rs H2 (s1.free Z) (s1.trans s2) xO lb pw lr⟩
def Kw(K:bH):Sp:=λvs H Q _=>∃(a:Addr) (ns:List Int) (k:Nat),vs=[.ref a,.int (k:Int)]/\aV K H a (ns.map V.int)/\∀z,Q (.int z) H
def Kx:Sp:=λvs H Q _=>∃c,vs=[.int c]/\∀z,0<=z->z<1000000007->Q (.int z) H
inductive Dd where
 | put (t:cJ)
 | drop (x:Nat)
def Q4:Dd->List V
 | .put t=>[.str "put",.int t.1,.int t.2.1,.int t.2.2]
 | .drop x=>[.str "drop",.int (x:Int)]
def Iq(H:Hp)(v:V)(d:Dd):Prop:=∃c,v = .ref c/\H c=some (.tup (Q4 d))
def Iq.tups{H H' : Hp}{v:V}{d:Dd}(s:bJ H H')(h:Iq H v d):Iq H' v d:=let⟨c,e,h1⟩:=h;⟨c,e,s _ _ h1⟩
def stp(s:Nat×bN):Dd->Nat×bN
 | .put t=>(s.1+1,s.2++[(s.1,t)])
 | .drop x=>(s.1,without x s.2)
def Qa(n:Nat)(s:Nat×bN):Dd->Prop
 | .put t=>iF (n:Int) t/\s.2.length<n+3
 | .drop x=>∃t,(x,t)∈s.2
def Rn(n:Nat):Nat×bN->List Dd->Prop
 | _,[]=>True
 | s,d::r=>Qa n s d/\Rn n (stp s d) r
def mh(s:Nat×bN)(ds:List Dd):Nat×bN:=ds.foldl stp s
def qN(s:Nat×bN)(ds:List Dd)(d:Dd):mh s (ds++[d])=stp (mh s ds) d:=by
 unfold mh;rw[ack];rfl
def Rn.snoc{n:Nat}{d:Dd}:∀{ds:List Dd} {s:Nat×bN},Rn n s ds->Qa n (mh s ds) d->Rn n s (ds++[d])
 | [],_,_,c=>⟨c,trivial⟩
 | _::_,_,⟨h1,h2⟩,c=>⟨h1,Rn.snoc h2 c⟩
def Rn.Ir{n:Nat}{d:Dd}:∀{ds:List Dd} {s:Nat×bN} {i:Nat},Rn n s ds->ds[i]?=some d->Qa n (mh s (ds.take i)) d
 | _::_,_,0,⟨h1,_⟩,e=>by cases e;exact h1
 | x::r,s,i+1,⟨_,h2⟩,e=>Rn.Ir (ds:=r) (s:=stp s x) (i:=i) h2 e
def yj{n:Nat}:∀{ds:List Dd} {s:Nat×bN},n<=6->cz n s.1 s.2->Rn n s ds->cz n (mh s ds).1 (mh s ds).2
 | [],_,_,h,_=>h
 | .put t::r,s,hn,h,⟨⟨g,hl⟩,h2⟩=>yj (ds:=r) hn (h.put g (by lia)) h2
 | .drop x::r,s,hn,h,⟨_,h2⟩=>yj (ds:=r) hn (h.drop x) h2
def uM:∀(l:List Nat) (j:Nat),(aB l).eraseIdx j=aB (l.eraseIdx j)
 | [],_=>rfl
 | _::_,0=>rfl
 | x::r,j+1=>aas (V.int (x:Int) :: ·) (uM r j)
def m7:∀{m:bN} {k x:Nat},(m.map (·.1)).Nodup->(m.map (·.1))[k]?=some x->(m.map (·.1)).eraseIdx k=(without x m).map (·.1)
 | [],_,_,_,h=>by cases h
 | e::r,0,x,hn,h=>by
   have ex:e.1=x:=Option.some.inj h;rw[aaj]at hn;have h1:=(aaI.mp hn).1;rw[ex]at h1;have q:=kQ (n:=x) (m:=r) h1;unfold Ring.without at q ⊢;rw[aay,Z0 (by rw[ex];simp),q]
   rfl
 | e::r,k+1,x,hn,h=>by
   rw[aaj]at hn h;have hx:x∈r.map (·.1):=j7 (show(r.map (·.1))[k]?=some x from h)
   have ne:e.1≠x:=λz=>(aaI.mp hn).1 (z▸hx)
   have I:=m7 (m:=r) (k:=k) (x:=x) (aaI.mp hn).2 h;have hr:without x (e::r)=e::without x r:=by
    unfold Ring.without;rw[aay,Z1 (by simp[ne])]
   rw[hr,aaj,aaj,<-I];rfl
def E8(p:Nat):Int:=if(p:Int)-1 > 1 then(p:Int)-1 else 1
def Nh{p:Nat}(h:2<=p):E8 p=(p:Int)-1:=by
 unfold E8
 split<;>lia
def Ls(y:Int):∃m,Ci [V.int 9,.int 1,.int (10^(30:Int).toNat)] (y/7%3)=some (.int m)/\1<=m/\m<=1000000000000000000000000000000:=by
 obtain⟨h0,h1⟩:=n8 (y/7) 3 (by decide)
 generalize y/7%3=i at h0 h1;have hi:i=0\/i=1\/i=2:=by lia
 rcases hi with rfl|rfl|rfl
 ·exact⟨9,ao (j:=0) rfl,by decide,by decide⟩
 ·exact⟨1,ao (j:=1) rfl,by decide,by decide⟩
 ·exact⟨10^(30:Int).toNat,ao (j:=2) rfl,by decide,by decide⟩
def Qc(y:Int):∃m:Nat,Ci [V.int 2,.int 3,.int 3,.int 4,.int 4,.int 5,.int 5,.int 6] (y%8)=some (.int (m:Int))/\2<=m/\m<=6:=by
 obtain⟨h0,h1⟩:=n8 y 8 (by decide)
 generalize y%8=i at h0 h1;have hi:i=0\/i=1\/i=2\/i=3\/i=4\/i=5\/i=6\/i=7:=by lia
 rcases hi with rfl|rfl|rfl|rfl|rfl|rfl|rfl|rfl
 ·exact⟨2,ao (j:=0) rfl,by decide,by decide⟩
 ·exact⟨3,ao (j:=1) rfl,by decide,by decide⟩
 ·exact⟨3,ao (j:=2) rfl,by decide,by decide⟩
 ·exact⟨4,ao (j:=3) rfl,by decide,by decide⟩
 ·exact⟨4,ao (j:=4) rfl,by decide,by decide⟩
 ·exact⟨5,ao (j:=5) rfl,by decide,by decide⟩
 ·exact⟨5,ao (j:=6) rfl,by decide,by decide⟩
 ·exact⟨6,ao (j:=7) rfl,by decide,by decide⟩
def Ky{p x y:Int}(hp:2<=p)(h0:0<=x)(h1:x<p)(h2:0<=y)(h3:y<p-1):x≠(x+1+y)%p:=by
 by_cases h:x+1+y<p
 ·rw[Int.emod_eq_of_lt (by lia) h];lia
 ·rw[<-Int.sub_emod_right,Int.emod_eq_of_lt (by lia) (by lia)];lia
def Ni{k n:Nat}(h:k<n):seqIndex? (k:Int) n=some k:=by
 have h1 : ¬((k:Int)<0):=by lia
 unfold seqIndex?;simp[h1,h]
def Iu:Sp:=λvs H Q _=>∃(c:Int) (p:Nat),vs=[.int c,.int (p:Int)]/\2<=p/\p<=10/\∀t b H',aq H H'->iF (p:Int) t->H' b=some (.tup (kO t))->Q (.ref b) H'
def Iv(K:bH):Sp:=λvs H Q _=>∃(b:Addr) (ns:List Int) (k:Nat),vs=[.ref b,.int (k:Int)]/\aV K H b (ns.map V.int)/\ns.length<=63/\∀(n:Nat) (ds:List Dd) c L xs H',2<=n->n<=6->aq H H'->H' c=some (.tup [.int (n:Int),.ref L])->H' L=some (.lst xs)->Paired (Iq H') xs ds->Rn n (0,[]) ds->ds.length<=63->Q (.ref c) H'
def Qd(C:Addr):Sp:=λvs H Q _=>∃(p d q c:Addr) (n:Nat) (s:Nat×bN) (hs:List (Nat×bN)) (ds:List gO) (e:Dd),vs=[.ref p,.ref c]/\fO C H p d q n (s::hs) ds/\H c=some (.tup (Q4 e))/\Qa n s e/\n<=6/\ds.length<=900/\∀H' e',Kept H H' p d q->fO C H' p d q n (stp s e::s::hs) (e'::ds)->Q .dH H'
def nQ:Ok T T.nK 1 (Kw K):=by
 refine T.nK.ok zQ λ_ A _ s H vs Q E hr h=>?_
 ·obtain⟨b,ns,k,rfl,O,q⟩:=h;refine⟨_,(ai (ck (aH vC (pv 1) (cL K T.eI (aa (pv 0) ah)) (aP _)) (av (aG (aK (my K) (pv 0) (pv 1)))) bh)
   (av (aG ak))),?_⟩
  refine gF ?_;intro U Y;refine(au rfl (au rfl ⟨b,_,rfl,.inl O,_,_,rfl,rfl,au rfl (rB (λI=>?_) (λ_=>q 0))⟩))
  have I:=sC I;rw[ZZ]at I;exact(au rfl (au rfl ⟨b,_,_,_,rfl,rfl,O,ao (j:=k) (Ju (by lia)),q _⟩))
def fu:Ok T T.jo 1 Kx:=by
 refine T.jo.ok q9 λ_ A _ s H vs Q E hr h=>?_
 ·obtain⟨c,rfl,k⟩:=h;refine⟨_,(ai (aL (i:=1) q9.nd rfl (Or.inl rfl) (aR fW (aR AJ (aR fV (aR fW (pv 0) (aR Fv ak ak)) ak) ak) ak))
   (av (aG (aR kI (aR fW (aR AJ (pv 1) (pv 1)) ak) ak)))),?_⟩
  refine jT ?_;intro I;refine(au rfl (dB ⟨⟨by decide,by decide,by decide⟩,dB ⟨(yK rfl),dB (dB ⟨.inr ⟨by decide,by decide⟩,dB ⟨(yK rfl),?_⟩⟩)⟩⟩))
  have h0:=n8 ((c%10^(60:Int).toNat+1)*69621) 2147483647 (by decide)
  refine(au rfl (au rfl (dB ⟨.inl ⟨by have:=h0.1;lia,by have:=h0.2;lia⟩,dB ⟨(yK rfl),dB ⟨⟨by decide,by decide⟩,?_⟩⟩⟩)))
  have h1:=n8 ((c%10^(60:Int).toNat+1)*69621%2147483647*((c%10^(60:Int).toNat+1)*69621%2147483647)) 1000000007 (by decide)
  exact k _ (Int.ediv_nonneg h1.1 (by decide)) (Int.lt_of_le_of_lt (Int.ediv_le_self _ h1.1) h1.2)
def nR:Ok T T.nL 2 Iu:=by
 have fu:=fu T;refine T.nL.ok fD λ_ A _ s H vs Q E hr h=>?_
 ·obtain⟨c,p,rfl,zC,E4,k⟩:=h;refine⟨_,(ai (aL (i:=2) fD.nd rfl (Or.inl rfl) (aR kI (pv 0) ak))
   (ai (ck (aH iY (aR fW (pv 0) ak) ak (aP _)) (av (aL (i:=2) fD.nd rfl (Or.inl rfl) (aR fV (aR AJ (aO fu hr T.jo.c aJ (aa (pv 0) ah)) ak) (aO fu hr T.jo.c aJ (aa (aR fV (pv 0) ak) ah))))) bh)
   (ai (aL (i:=3) fD.nd rfl (Or.inl rfl) (aR fW (pv 2) (pv 1)))
   (ai (aL (i:=4) fD.nd rfl (Or.inl rfl) (aR fW (aR fV (aR fV (pv 3) ak) (aR fW (aR kI (pv 2) (pv 1)) (eN (mq rfl) (by rfl) T.CW abZ (aa ak (aa (aR w9 (pv 1) ak) ah))))) (pv 1)))
   (ai (aL (i:=2) fD.nd rfl (Or.inl rfl) (aR kI (aR kI (pv 2) (pv 1)) (eN (mq rfl) (by rfl) T.CW abZ (aa ak (aa (aR w9 (pv 1) ak) ah)))))
   (av (aG (cI (aa (pv 3) (aa (pv 4) (aa (aR fV ak (aR fW (pv 2) (aK (my K) (fb (aa ak (aa ak (aa (aR Fv ak ak) ah)))) (aR fW (aR kI (pv 2) ak) ak)))) ah))))))))))),?_⟩
  refine zR ?_;intro dc dQ fT gW jv lD;have p0:(0:Int)<(p:Int):=by lia
  have mx:=Nh zC;have U:0<E8 p:=by lia
  have hd:∀i,LL i (p:Int):=λi=>⟨by lia,by lia⟩
  have I:∀i,LL i (E8 p):=λi=>⟨by lia,by lia⟩
  have Nj:∀n m:Int,1<=m->m<=1000000000000000000000000000000->iF (p:Int) (n%p,(n%p+1+n/p%E8 p)%p,1+n/p/E8 p%m):=λn m m0 Y=>by
   obtain⟨h1,h2⟩:=n8 (n/p/E8 p) m (by lia)
   obtain⟨h3,h4⟩:=n8 (n/p) (E8 p) U;obtain⟨h5,h6⟩:=n8 n p p0;exact⟨h5,h6,(n8 _ _ p0).1,(n8 _ _ p0).2,Ky (by lia) h5 h6 h3 (by lia),by show 1<=1+n/p/E8 p%m;lia,by show 1+n/p/E8 p%m<=_;lia⟩
  refine(au rfl (dB ⟨⟨by decide,by decide⟩,au rfl (dB ⟨(yK rfl),rfl,au rfl (rB (λ_=>?_) (λ_=>?_))⟩)⟩))
  case' refine_1=>refine(au rfl ⟨c,rfl,λn1 _ _=>(dB ⟨.inr ⟨by decide,by decide⟩,au rfl (dB (au rfl (λn2 _ _=>(dB (?_)))))⟩)⟩);have Z:=Ls ((n1*1000003+n2)/p/E8 p)
  case' refine_2=>have Z:=Ls (c/4/p/E8 p)
  all_goals
   refine(au rfl (au rfl (dB ⟨p0,?_⟩)));refine(au rfl (dB (au rfl (au rfl (dB ⟨hd _,_,rfl,dB ⟨_,_,rfl,_,_,rfl,rfl,U,_,_,rfl,rfl,au rfl (dB ⟨p0,?_⟩)⟩⟩)))));refine(au rfl (au rfl (dB ⟨hd _,_,rfl,dB ⟨_,_,rfl,_,_,rfl,rfl,I _,?_⟩⟩)));obtain⟨m,O,m0,Y⟩:=Z;refine(au rfl (au rfl (au rfl (dB ⟨⟨by decide,by decide,by decide⟩,(dl rfl),λl hl=>(au rfl (dB ⟨⟨by decide,by decide⟩,dB ⟨(yK rfl),mX (aV.of af) (O) (dB ⟨(by show 0<m;lia),dB ⟨(dl rfl),λb hb=>?_⟩⟩)⟩⟩))⟩))))
   exact k _ b _ ((aq.new hl).trans (aq.new hb)) (Nj _ m m0 Y) af
def o9:Ok T T.o7 4 (Qd a.ay):=by
 have iy:=iy T;have jr:=jr T;refine T.o7.ok Em λ_ A _ s H vs Q E hr h=>?_
 ·obtain⟨p,d,q,c,n,⟨f,m⟩,hs,ds,e,rfl,S,hc,Ir,Z,O,k⟩:=h;refine⟨_,(av (ck (aH iY (aK (eO K) (pv 1) ak) kH (aP _)) (av (bR (Cg (pv 0) T.aA T.rS jr (hr.mono (by decide)) T.uE .nil aJ (aa (aK (eO K) (pv 1) ak) (aa (aK (eO K) (pv 1) ak) (aa (aK (eO K) (pv 1) ak) ah)))))) (av (bR (Cg (pv 0) T.aA T.qF iy (hr.mono (by decide)) T.rV .nil aJ (aa (aK (eO K) (pv 1) ak) ah)))))),?_⟩
  refine En ?_;intro dc dQ;obtain⟨dx,_,_,_,Y,U,hd⟩:=S.ob;cases Y;cases e with
  | put t =>
    obtain⟨gt,few⟩:=Ir;have few:m.length<n+3:=few;refine(au rfl (eG (bf.of hc) (ao (j:=0) rfl) ⟨rfl,au rfl (?_)⟩));rw[fG rfl];refine lN (au rfl ⟨p,dx,_,rfl,U,gP (by decide +kernel) (by decide +kernel) (by decide +kernel) (by decide +kernel),au rfl (eG (bf.of hc) (ao (j:=1) rfl) (au rfl (eG (bf.of hc) (ao (j:=2) rfl) (au rfl (eG (bf.of hc) (ao (j:=3) rfl) ⟨p,d,q,n,f,m,hs,ds,t,rfl,S,gt,(by lia),O,λH' kp I=>k H' _ kp I⟩)))))⟩)
  | drop x =>
    obtain⟨t,hx⟩:=Ir;refine(au rfl (eG (bf.of hc) (ao (j:=0) rfl) ⟨rfl,au rfl (?_)⟩));rw[iK (by decide +kernel)]
    refine jR (au rfl ⟨p,dx,_,rfl,U,gP (by decide +kernel) (by decide +kernel) (by decide +kernel) (by decide +kernel),au rfl (eG (bf.of hc) (ao (j:=1) rfl) ⟨p,d,q,n,f,m,hs,ds,x,t,rfl,S,hx,O,λH' kp I=>k H' _ kp I⟩)⟩)
def mj:Ok T T.l7 3 (Iv K):=by
 have nQ:=nQ T;have fu:=fu T;have nR:=nR T;refine T.l7.ok cG λ_ A _ s H vs Q E hr h=>?_
 ·obtain⟨b,ns,k,rfl,hS,hn,q⟩:=h;refine⟨_,(ai (aL (i:=2) cG.nd rfl (Or.inl rfl) (aK (my K) (fb (aa ak (aa ak (aa ak (aa ak (aa ak (aa ak (aa ak (aa ak ah))))))))) (aR fW (aO nQ hr T.nK.c aJ (aa (pv 0) (aa ak ah))) ak)))
   (ai (aL (i:=3) cG.nd rfl (Or.inl rfl) (fb ah))
   (ai (aL (i:=4) cG.nd rfl (Or.inl rfl) (fb ah))
   (ai (aL (i:=5) cG.nd rfl (Or.inl rfl) ak)
   (ai (jN PassesOwn.never rfl (yL K (yF (T8 K) (pv 0) (xh ak) (xh (aR fV ak (pv 1))))) (cE 6 cG.nd)
   (ai (aL (i:=7) cG.nd rfl (Or.inl rfl) (aO fu hr T.jo.c aJ (aa (pv 6) ah)))
   (av (ck (PW.pt (Fd (aH iY (aR fW (pv 7) ak) ak (aP _)) (B8 (aH qR (cL K T.eI (aa (pv 4) ah)) ak (aP _))))) (av (bR (E6 K (lz aaz aaN aaO cQ (pv 3) (aa (cI (aa kH (aa (E6 K (lz aaz acA acB FT (pv 4) (aa (aR fW (aR kI (pv 7) ak) (cL K T.eI (aa (pv 4) ah))) ah))) ah))) ah))))) (av (ck (aH vC (cL K T.eI (aa (pv 4) ah)) (aR fV (pv 2) ak) (aP _)) (ai (bR (E6 K (lz aaz aaN aaO cQ (pv 3) (aa (aR O8 (cI (aa kH ah)) (aO nR hr T.nL.c aJ (aa (pv 6) (aa (pv 2) ah)))) ah))))
   (ai (bR (E6 K (lz aaz aaN aaO cQ (pv 4) (aa (pv 5) ah))))
   (av (aL (i:=5) cG.nd rfl (Or.inl rfl) (aR fV (pv 5) ak))))) bh))))))
   (av (aG (cI (aa (pv 2) (aa (pv 3) ah)))))))))),?_⟩
  refine xV ?_;intro dc dQ fT gW jv lD uf zN zO CV uv Hy;refine⟨dl rfl,λl1 aw=>?_⟩
  have s1:aq H (upd H l1 (.lst [.int 2,.int 3,.int 3,.int 4,.int 4,.int 5,.int 5,.int 6])):=aq.new aw;refine(au rfl ⟨b,ns,0,rfl,s1.seq hS,λz=>?_⟩)
  obtain⟨n,ax,n1,n2⟩:=Qc z;refine(dB ⟨(yK rfl),mX (aV.of af) (ax) (?_)⟩);generalize upd H l1 (.lst [.int 2,.int 3,.int 3,.int 4,.int 4,.int 5,.int 5,.int 6])=H1 at s1;refine⟨dl rfl,λL hL=>⟨dl rfl,λD hD=>?_⟩⟩
  have Q5:L≠D:=aF af hD;have s3:aq H1 (upd (upd H1 L (.lst [])) D (.lst [])):=(aq.new hL).trans (aq.new hD);have Tr:upd (upd H1 L (.lst [])) D (.lst []) L=some (.lst []):=aq.new hD _ _ af;have FY:upd (upd H1 L (.lst [])) D (.lst []) D=some (.lst []):=af;have Le:H L=none:=s1.free hL;have Q2:H D=none:=s1.free ((aq.new hL).free hD);have NV:=s1.trans s3;generalize upd (upd H1 L (.lst [])) D (.lst [])=H3 at NV Tr FY;refine(au rfl (au rfl (au rfl (dB (au rfl ⟨b,_,rfl,NV.seq hS,λU ab=>?_⟩)))))
  obtain⟨ms,Nf,X7⟩:∃l' : List Int,uX (ns.map V.int) (some 1) (some (1+(k:Int)))=l'.map V.int/\l'.length<=ns.length:=by
   refine⟨_,F1 ns _ _,?_⟩;rw[abc,acq]
   lia
  rw[Nf];have Vf:U≠L:=aaq (aF Tr ab);have Vg:U≠D:=aaq (aF FY ab);have s4:aq H3 (upd H3 U (.lst (ms.map V.int))):=aq.new ab;have ag:upd H3 U (.lst (ms.map V.int)) U=some (.lst (ms.map V.int)):=af;generalize upd H3 U (.lst (ms.map V.int))=H4 at s4 ag;refine⟨U,rfl,⟨_,aV.of ag⟩,iS (K:=K) (a:=U) (xs:=ms.map V.int) (λi σ I=>∃(ds:List Dd) (xs:List V) (v6 v7:Option V),σ=[some (.ref b),some (.int (k:Int)),some (.int (n:Int)),some (.ref L),some (.ref D),some (.int (((mh (0,[]) ds).1:Nat):Int)),v6,v7]/\aq H I/\I L=some (.lst xs)/\Paired (Iq I) xs ds/\Rn n (0,[]) ds/\ds.length<=i/\I D=some (.lst (aB ((mh (0,[]) ds).2.map (·.1))))/\I U=some (.lst (ms.map V.int))) ⟨[],[],none,none,rfl,NV.trans s4,s4 _ _ Tr,.nil,trivial,Z3 _,s4 _ _ FY,ag⟩ (λi σ I _ ⟨_,_,_,_,_,_,_,_,_,_,_,z⟩=>aV.of z) ?_ ?_⟩
  ·rintro i x D' σ I hi ⟨ds,xs,v6,v7,rfl,s5,Nk,Kl,NX,Qe,Y,Z⟩;rw[Z9]at hi;have K1:i<ms.length:=by
    rcases uT.mp hi with⟨_,z,_⟩
    exact(ju.mp z).1
   obtain⟨y,_,rfl⟩:=uT.mp hi;refine(au rfl ⟨y,rfl,λz z0 z1=>?_⟩)
   have ok:=yj n2 cz.nil NX;generalize O:mh (0,[]) ds=st at Y ok;have few:=ok.few;have cont:lD D' [some (.ref b),some (.int (k:Int)),some (.int (n:Int)),some (.ref L),some (.ref D),some (.int ((st.1:Nat):Int)),some (.int y),some (.int z)] I:=by
    refine(au rfl (uS rfl (.inl (aV.of Y)) (au rfl (dB (dB (au rfl (rB (λh=>?_) (λh=>?_))))))))
    ·have h:=sC h;rw[aU,ZZ]at h;refine(au rfl ⟨.inl ⟨rfl,_,aV.of Nk⟩,dl rfl,λc1 aT=>?_⟩)
     refine(au rfl (au rfl ⟨y,n,rfl,n1,(by lia),λt bt H6 s6 gt Tq=>?_⟩))
     refine⟨c1,bt,_,_,rfl,rfl,s6 _ _ af,Tq,dl rfl,λc2 H7 s7 a3=>?_⟩
     have Qf:=((aq.new aT).trans s6).trans s7;have Tt:=Qf _ _ Nk;have Qg:=Kl.length;refine⟨L,xs,_,rfl,rfl,Tt,cf (by lia),?_⟩
     have Ny:upd H7 L (.lst (xs++[.ref c2])) D=some (.lst (aB (st.2.map (·.1)))):=by rw[ae (aaq Q5)];exact Qf _ _ Y
     refine(au rfl ⟨.inl ⟨rfl,_,aV.of Ny⟩,au rfl ⟨D,_,_,rfl,rfl,Ny,cf (by rw[aU,ZZ];lia),?_⟩⟩)
     have t9:=(Qf.tups.trans (bJ.put Tt)).trans (bJ.put (o:=.lst (aB (st.2.map (·.1))++[.int ((st.1:Nat):Int)])) Ny);have Lu:mh (0,[]) (ds++[.put t])=(st.1+1,st.2++[(st.1,t)]):=by rw[qN,O];rfl
     refine(au rfl (dB ⟨ds++[.put t],xs++[.ref c2],some (.int y),some (.int z),?_,((s5.trans Qf).put Le).put Q2,?_,Paired.snoc (Paired.imp' (λ_ _ z=>z.tups t9) Kl) ⟨c2,rfl,?_⟩,NX.snoc ?_,?_,?_,?_⟩))
     ·rw[Lu];rfl
     ·rw[ae Q5];exact af
     ·exact((bJ.put Tt).trans (bJ.put Ny)) _ _ a3
     ·rw[O];exact⟨gt,by lia⟩
     ·rw[Z7];show _+1<=_
      lia
     ·rw[af,Lu,aaw,<-i8];rfl
     ·rw[ae Vg,ae Vf];exact Qf _ _ Z
    ·exact⟨ds,xs,_,_,by rw[O],s5,Nk,Kl,NX,by lia,by rw[O];exact Y,Z⟩
   refine(au rfl (dB ⟨(yK rfl),rfl,au rfl (rB (λ_=>?_) (λ_=>jR cont))⟩))
   refine(au rfl (uS rfl (.inl (aV.of Y)) (dB (au rfl (rB (λh=>?_) (λ_=>cont))))))
   have h:=sC h;rw[aU,ZZ]at h;have lp:(0:Int)<(((aB (st.2.map (·.1))).length:Nat):Int):=by rw[aU,ZZ];lia
   obtain⟨j,ej⟩:=aci (Int.emod_nonneg (z/4) (Int.ne_of_gt lp));have jl:=Int.emod_lt_of_pos (z/4) lp;rw[ej]at jl;have Tu:j<(aB (st.2.map (·.1))).length:=by lia
   have Vh:j<(st.2.map (·.1)).length:=by rw[aU]at Tu;exact Tu
   generalize hx:(st.2.map (·.1))[j]=x at *;have Tv:(st.2.map (·.1))[j]?=some x:=by rw[Z4 Vh,hx]
   refine(au rfl ⟨.inl ⟨rfl,_,aV.of Nk⟩,au rfl ⟨.inl ⟨rfl,_,aV.of Y⟩,au rfl (dB ⟨⟨by decide,by decide⟩,au rfl (uS rfl (.inl (aV.of Y)) (dB ⟨lp,D,_,_,j,.int (x:Int),rfl,rfl,Y,?_,?_,?_,?_,dl rfl,λc hc=>?_⟩))⟩)⟩⟩)
   ·rw[ej];lia
   ·rw[ej];rw[ZZ]at Vh;lia
   ·rw[ej];exact Ni Tu
   ·unfold aB;rw[Z9,Tv];rfl
   have X8:∃t,(x,t)∈st.2:=by
    obtain⟨e,he,e2⟩:=aai.mp (j7 Tv);exact⟨e.2,by rw[<-e2];exact he⟩
   have er:(aB (st.2.map (·.1))).eraseIdx j=aB ((Ring.without x st.2).map (·.1)):=by rw[<-m7 ok.nodup Tv];exact uM _ j
   rw[er]at hc ⊢;have Q6:upd I D (.lst (aB ((Ring.without x st.2).map (·.1)))) L=some (.lst xs):=by rw[ae Q5];exact Nk
   have s6:aq H (upd I D (.lst (aB ((Ring.without x st.2).map (·.1))))):=s5.put Q2;have t6:bJ I (upd I D (.lst (aB ((Ring.without x st.2).map (·.1))))):=bJ.put Y;have Lm:upd I D (.lst (aB ((Ring.without x st.2).map (·.1)))) D=some (.lst (aB ((Ring.without x st.2).map (·.1)))):=af;have ar:upd I D (.lst (aB ((Ring.without x st.2).map (·.1)))) U=some (.lst (ms.map V.int)):=by rw[ae Vg];exact Z
   generalize upd I D (.lst (aB ((Ring.without x st.2).map (·.1))))=H6 at hc Q6 s6 t6 Lm ar;have s7:aq H6 (upd H6 c (.tup (Q4 (.drop x)))):=aq.new hc;have Qg:=Kl.length;refine⟨L,xs,_,rfl,rfl,s7 _ _ Q6,cf (by lia),?_⟩
   have Lu:mh (0,[]) (ds++[.drop x])=(st.1,Ring.without x st.2):=by rw[qN,O];rfl
   have t8:=(t6.trans s7.tups).trans (bJ.put (o:=.lst (xs++[.ref c])) (s7 _ _ Q6));refine⟨ds++[.drop x],xs++[.ref c],some (.int y),some (.int z),?_,(s6.trans s7).put Le,af,Paired.snoc (Paired.imp' (λ_ _ z=>z.tups t8) Kl) ⟨c,rfl,bJ.put (s7 _ _ Q6) _ _ af⟩,NX.snoc ?_,?_,?_,?_⟩
   ·rw[Lu];rfl
   ·rw[O];exact X8
   ·rw[Z7];show _+1<=_
    lia
   ·rw[ae (aaq Q5),Lu];exact s7 _ _ Lm
   ·rw[ae Vf];exact s7 _ _ ar
  ·rintro σ I ⟨ds,xs,v6,v7,rfl,s5,Nk,Kl,NX,Qe,Y,Z⟩;rw[ZZ]at Qe;refine(au rfl (au rfl ⟨dl rfl,λc hc=>?_⟩))
   have s6:aq I (upd I c (.tup [.int (n:Int),.ref L])):=aq.new hc;exact q n ds c L xs _ n1 n2 (s5.trans s6) af (s6 _ _ Nk) (Paired.imp' (λ_ _ z=>z.tups s6.tups) Kl) NX (by lia)
def gD{K:bH}{H:Hp}:∀l:List Int,DatVs K H (l.map V.int) (l.map PyData.int)
 | []=>.nil
 | x::r=>.cons (.int x) (gD r)
def lay_ints:∀l:List Int,PyData.canLayAll0 (l.map PyData.int)=true
 | []=>rfl
 | x::r=>by
   have I:=lay_ints r;have e:(PyData.int x).canLay0=true:=by simp[PyData.canLay0]
   simp only[aaj,PyData.canLayAll0,I,acT,e]
def wX:∀l:List Int,PyData.depthAll (l.map PyData.int)=0
 | []=>rfl
 | x::r=>by
   show max (PyData.depth (PyData.int x)) (PyData.depthAll (r.map PyData.int))=0;rw[wX r];rfl
def shaped_ints(l:List Int):SeqAt.shaped (.list (l.map PyData.int))=true:=by
 unfold SeqAt.shaped;have e:(PyData.list (l.map PyData.int)).canLay0=PyData.canLayAll0 (l.map PyData.int):=by simp[PyData.canLay0]
 rw[e,lay_ints,abF];refine fG ?_;have I:PyData.depth (PyData.list (l.map PyData.int))=PyData.depthAll (l.map PyData.int)+1:=by simp[PyData.depth]
 rw[I,wX]
 lia
def uN(l:List Int):(PyData.list (l.map PyData.int)).canLay0=true:=by
 have e:(PyData.list (l.map PyData.int)).canLay0=PyData.canLayAll0 (l.map PyData.int):=by simp[PyData.canLay0]
 rw[e,lay_ints]
def EU{ts:List cJ}{x y:Nat}(h1:jq ts x y)(h2:jq ts y x):x=y:=by
 unfold jq at h1 h2
 lia
def EV{p:Nat}{ts:List cJ}{g:aD p ts}{rs rs' : List Nat}(lb:RM.LB g.N (aW ts) rs)(lb' : RM.LB g.N (aW ts) rs')(pw:rs.Pairwise (jq ts))(Lg:rs'.Pairwise (jq ts))
 (lr:∃bs,RM.CQ g.N (aW ts) (g.N.aM.map λc=>2^c) bs []/\rs.Perm bs) (X9:∃bs,RM.CQ g.N (aW ts) (g.N.aM.map λc=>2^c) bs []/\rs'.Perm bs):rs=rs':=by
 have I:∀k,k<g.N.n->0<aW ts k:=λk hk=>by
  have:=(g.rC _ (dW hk)).l0;unfold aW
  lia
 obtain⟨bs,l1,p1⟩:=lr;obtain⟨bs',l2,p2⟩:=X9;have O:bs.length=bs'.length:=by rw[<-p1.length_eq,<-p2.length_eq,lb.1.len,lb'.1.len]
 obtain⟨rfl,_⟩:=l1.uniq I l2 O;exact(p1.trans p2.symm).eq_of_pairwise (λx y _ _ h1 h2=>EU h1 h2) pw Lg
def Tw{p:Nat}{ts:List cJ}{g:aD p ts}{rs:List Nat}(lb:RM.LB g.N (aW ts) rs):rs.length<=24:=by
 have h1:g.N.aM.length<=(List.range g.N.n).length:=aaP ..;rw[aax,<-lb.1.len]at h1;exact aat h1 g.len
def wY{H0 H H' : Hp}{p d q:Addr}(s:aq H0 H)(k:Kept H H' p d q)(hp:H0 p=none)(hd:H0 d=none)(hq:H0 q=none):aq H0 H' :=
 λb o e=>k.rest b o (s b o e) (aF e hp) (aF e hd) (aF e hq)
def pe{ts:List cJ}{l:List Nat}(h:l.Pairwise (jq ts)):l.Pairwise λx y=>lenOf ts x<=lenOf ts y:=h.imp λ{x y} z=>by
 unfold jq at z
 lia
def uO{p:Nat}{ts:List cJ}{g:aD p ts}{m:Nat}(h:m<2^ts.length):RM.len g.N (aW ts) m=lenOf ts m:=(nB h).symm
def Kz{α β:Type}{f:α->β}:∀{U l0:List β},U.Perm l0->∀l:List α,l0=l.map f->∃r:List α,r.Perm l/\U = r.map f:=by
 intro U l0 h
 induction h with
 | nil=>exact λl e=>⟨[],by rw[List.map_eq_nil_iff.mp e.symm],rfl⟩
 | cons x _ Y =>
   intro l e;obtain⟨y,l1,rfl,I,O⟩:=acJ.mp e.symm;obtain⟨r,p,e3⟩:=Y l1 O.symm;exact⟨y::r,p.cons y,by rw[e3,<-I];rfl⟩
 | swap x y l0 =>
   intro l e;obtain⟨a,l1,rfl,I,O⟩:=acJ.mp e.symm;obtain⟨b,l2,rfl,e3,e4⟩:=acJ.mp O;exact⟨b::a::l2,List.Perm.swap a b l2,by rw[aaj,aaj,I,e3,e4]⟩
 | trans _ _ h1 h2 =>
   intro l e;obtain⟨Z,p2,O⟩:=h2 l e;obtain⟨r1,p1,I⟩:=h1 Z O;exact⟨r1,p1.trans p2,I⟩
def Iz{ts B6:List cJ}(h:B6.Perm ts):∃row,row.Perm (List.range ts.length)/\B6=iB ts row:=by
 refine Kz h _ ?_;refine acu (by rw[ZZ,aax]) λi a b=>?_
 rw[acv,List.getElem_range];unfold bj;rw[Z6,Z4 a];rfl
def qO{ts:List cJ}{t:cJ}{k:Nat}(h:k<ts.length):bj (ts++[t]) k=bj ts k:=by
 unfold bj;rw[Z6,Z6,aav h]
def wZ{ts:List cJ}{t:cJ}:bj (ts++[t]) ts.length=t:=by
 unfold bj;rw[Z6,aaC (Z3 _),ab6];rfl
def KA{p:Nat}{ts:List cJ}{t:cJ}(g:aD p ts)(g' : aD p (ts++[t])):RM.Ext g.N g'.N :=
 ⟨by show(ts++[t]).length=_;rw[Z7];rfl,rfl,λk hk=>aas (λt:cJ=>t.1.toNat) (qO hk),λk hk=>aas (λt:cJ=>t.2.1.toNat) (qO hk)⟩
def IA{L L' : Nat->Int}{f:Nat->Bool}:∀{n:Nat},(∀k,k<n->L k=L' k)->RM.lsum L f n=RM.lsum L' f n
 | 0,_=>rfl
 | n+1,h=>by
   show RM.lsum L f n+_=RM.lsum L' f n+_;rw[IA λk hk=>h k (by lia),h n (by lia)]
def KC{ts:List cJ}{t:cJ}{m:Nat}(hm:m<2^ts.length):lenOf (ts++[t]) m=lenOf ts m:=by
 have O:(ts++[t]).length=ts.length+1:=by rw[Z7];rfl
 have I : m<2^(ts++[t]).length:=by rw[O,abr];lia
 rw[nB hm,nB I,O];show RM.lsum _ _ ts.length+(if m.testBit ts.length=true then _ else _)=_
 rw[aaH hm,Z0 (by decide),Int.add_zero]
 exact IA λk hk=>by unfold aW;rw[qO hk]
def yk(p:Nat)(ts:List cJ)(g:aD p ts)(t:cJ):Prop:=g.N.cy ts.length t.1.toNat=g.N.cy ts.length t.2.1.toNat
def An{p:Nat}{ts B6:List cJ}{t:cJ}(hp:B6.Perm (ts++[t]))(g:aD p ts)(g' : aD p B6){rs rs' : List Nat}(lb:RM.LB g.N (aW ts) rs)(lb' : RM.LB g'.N (aW B6) rs')(pw:rs.Pairwise (jq ts))(Lg:rs'.Pairwise (jq B6)):
 (yk p ts g t->rs'.length=rs.length+1/\∀(i a b:Nat),rs'[i]?=some a->rs[i]?=some b->lenOf B6 a<=lenOf ts b)/\(¬ yk p ts g t->rs'.map (lenOf B6)=rs.map (lenOf ts)):=by
 obtain⟨row,hr,rfl⟩:=Iz hp;have I:aD p (ts++[t]):=by
  have Z:=hp.length_eq;refine⟨g.p1,g.p2,by rw[<-Z];exact g'.len,λx hx=>g'.rC x (hp.mem_iff.mpr hx)⟩
 have ex:=KA g I;have iso:=Hx I hr g';have al:(iB (ts++[t]) row).length=(ts++[t]).length:=iso.n;have nn:I.N.n=(ts++[t]).length:=rfl;have e' : ∀r,r<2^(ts++[t]).length->RM.len g'.N (aW (iB (ts++[t]) row)) r=lenOf (iB (ts++[t]) row) r:=λr hr=>uO (by rw[al];exact hr)
 have up:∀{r},r<2^ts.length->r<2^(ts++[t]).length:=λhr=>aaf hr (abe (by decide) (by rw[Z7];lia))
 have U:∀r,r<2^ts.length->lenOf (iB (ts++[t]) row) (RM.bI (ts++[t]).length (λi=>row.getD i 0) r)=lenOf ts r:=λr h=>(Ed hr (up h)).trans (KC h)
 obtain⟨h1,h2⟩:=RM.more_le ex iso lb lb' e' U (pe pw) (pe Lg);have h1:rs'.length=rs.length+if I.N.fZ ts.length=true then 0 else 1:=h1
 have fZ:I.N.fZ ts.length=true↔¬ yk p ts g t:=by
  have O:I.N.cy ts.length=g.N.cy ts.length:=ex.cy _ (Z3 _);have h4:I.N.a ts.length=t.1.toNat:=aas (λt:cJ=>t.1.toNat) wZ
  have h5:I.N.b ts.length=t.2.1.toNat:=aas (λt:cJ=>t.2.1.toNat) wZ
  unfold RM.Net.fZ yk;rw[O,h4,h5];simp
 constructor
 ·intro hj;refine⟨?_,h2⟩;rw[Z0 (λz=>fZ.mp z hj)]at h1
  exact h1
 ·intro hj;have Y:=fZ.mpr hj;rw[Z1 Y]at h1;have eb:∀r,r<2^g'.N.n->RM.bI (ts++[t]).length (λk=>row.idxOf k) r<2^ts.length->lenOf ts (RM.bI (ts++[t]).length (λk=>row.idxOf k) r)=lenOf (iB (ts++[t]) row) r:=λr h h'=>by
   rw[<-U _ h']
   congr 1
   have:=iso.symm.back (m:=r) h;rw[iso.n]at this;exact this
  have O:=RM.Ke ex iso Y lb lb' (λr hr=>uO hr) eb (pe pw) (pe Lg)
  refine acu (by rw[ZZ,ZZ];exact h1) λi x y=>?_
  rw[ZZ]at x y;rw[acv,acv];exact Int.le_antisymm (h2 i _ _ (Z4 x) (Z4 y)) (O i _ _ (Z4 y) (Z4 x))
def KD:Sp:=λvs H Q _=>∃w p ts,∃g:aD p ts,∃x y:Int,vs=[.ref w,.int x,.int y]/\b9 H w p ts/\0<=x/\x<p/\0<=y/\y<p/\∀H' (d:Bool),aq H H'->(d=true↔g.N.cy ts.length x.toNat=g.N.cy ts.length y.toNat)->Q (.bl d) H'
def B7:Sp:=λvs H Q _=>∃(l m:Addr) (b:Bool) (zs ws:List Int),vs=[.ref l,.ref m,.bl b]/\H l=some (.lst (zs.map V.int))/\H m=some (.lst (ws.map V.int))/\zs.length<=24/\(b=false->zs=ws)/\(b=true->ws.length=zs.length+1/\∀(k:Nat) (z v:Int),zs[k]?=some z->ws[k]?=some v->v<=z)/\∀H',aq H H'->Q (.bl true) H'
def e8:Ok T T.eX 6 KD:=by
 have kD:=kD T;have bX:=bX T;refine T.eX.ok ku λ_ A _ s H vs Q E hr h=>?_
 ·obtain⟨Y,p,ts,g,x,y,rfl,hw,x0,Z,y0,y1,q⟩:=h;refine⟨_,(ai (jN PassesOwn.never rfl (yL K (aO kD hr T.o5.c yN (aa (pv 0) (aa (aO bX hr T.gr.c aJ (aa (pv 0) ah)) ah)))) (cE 3 ku.nd)
   (av (ck (aH (Qz K) (pv 1) (pv 3) (by with_unfolding_all rfl)) (av (aG (fJ (Qz K) (pv 2) (pv 3) (by with_unfolding_all rfl)))) bh)))
   (av (aG sF))),?_⟩
  refine qh ?_;intro dc dQ fT;have wp:=g.p2;obtain⟨x,rfl⟩:=aci x0;obtain⟨y,rfl⟩:=aci y0;have Z:x<p:=by lia
  have y1:y<p:=by lia
  rw[aah,aah]at q;have tp:=aa2 ts.length;have e0:(2^ts.length-1:Int)=((2^ts.length-1:Nat):Int):=by
   have e:((2^ts.length:Nat):Int)=2^ts.length:=by rw[Int.natCast_pow];rfl
   lia
  have Tz:jb p ts g (2^ts.length-1)=g.N.cy ts.length:=RM.nu λk hk=>by rw[Nat.testBit_two_pow_sub_one];exact fG hk
  refine(au rfl (au rfl ⟨Y,p,ts,rfl,hw,g.yo,Y,p,ts,g,_,rfl,hw,.inl ⟨2^ts.length-1,e0,by lia,λD ys H1 hD s1 Ay pr=>?_⟩⟩))
  rw[Tz]at pr;generalize hL:g.N.cy ts.length=cy at pr q;have Qg:=pr.length;have few:ys.length<=10:=by
   rw[Qg,ZZ];exact aat (aaP _ _) (by rw[aax];lia)
  refine⟨D,rfl,⟨_,aV.of Ay⟩,iS (K:=K) (a:=D) (xs:=ys) (λi σ H2=>∃v3,σ=[some (.ref Y),some (.int (x:Int)),some (.int (y:Int)),v3]/\H2=H1/\∀j l,j<i->((eT cy p).map (pieceOf cy p))[j]?=some l->x∉l) ⟨none,rfl,rfl,λj l hj=>by lia⟩ (λi σ H2 _ ⟨_,_,z,_⟩=>by rw[z];exact aV.of Ay) ?_ ?_⟩
  ·rintro i v D' σ H2 hx ⟨v3,rfl,rfl,no⟩;obtain⟨l,hl,b,rfl,_,_,hb⟩:=Paired.sS pr hx;refine(au rfl (au rfl (uS rfl (.inl (aV.of hb)) ⟨rfl,iP _,_,rfl,?_⟩)));rw[show(if(false:Bool)=true then !E1 (V.int (x:Int)) (aB l) else E1 (V.int (x:Int)) (aB l))=E1 (V.int (x:Int)) (aB l) from rfl,lP]
   have O:=hl;rw[Z9]at O;obtain⟨r,hr,rfl⟩:=uT.mp O;have mem:∀z,z∈pieceOf cy p r↔z<p/\cy z=r:=λz=>by unfold pieceOf;rw[aao,aan,decide_eq_true_eq]
   by_cases U:x∈pieceOf cy p r
   ·rw[fG U];refine lN (au rfl (au rfl (uS rfl (.inl (aV.of hb)) ⟨rfl,iP _,?_⟩)));rw[show(if(false:Bool)=true then !E1 (V.int (y:Int)) (aB (pieceOf cy p r)) else E1 (V.int (y:Int)) (aB (pieceOf cy p r)))=E1 (V.int (y:Int)) (aB (pieceOf cy p r)) from rfl,lP]
    refine q _ _ s1 ?_;rw[acR,mem,((mem x).mp U).2];exact⟨λz=>z.2.symm,λz=>⟨y1,z.symm⟩⟩
   ·rw[iK U];refine jR (au rfl ⟨rfl,λj l' hj I=>?_⟩)
    by_cases e:j=i
    ·subst e;rw[hl]at I;rw[<-Option.some.inj I];exact U
    ·exact no j l' (by lia) I
  ·rintro σ H2 ⟨v3,rfl,rfl,no⟩
   exfalso
   have Qh:cy x∈eT cy p:=by
    unfold eT;rw[aao,aan,decide_eq_true_eq,<-hL];exact⟨abp (RM.r6 _ _) Z,RM.iN _ _⟩
   obtain⟨j,hj⟩:=aaF (aai.mpr ⟨_,Qh,rfl⟩:pieceOf cy p (cy x)∈(eT cy p).map (pieceOf cy p));refine no j _ (by rw[Qg];exact(ju.mp hj).1) hj ?_
   unfold pieceOf;rw[aao,aan];exact⟨Z,fG rfl⟩
def jM:Ok T T.jK 1 B7:=by
 refine T.jK.ok xW λ_ A _ s H vs Q E hr h=>?_
 ·obtain⟨l,m,b,zs,ws,rfl,I,hm,ZX,U,Y,q⟩:=h;refine⟨_,(ai (ck (w6 (lK (pv 2))) (av (aG (fJ (A1 K hr.units) (pv 0) (pv 1) (aP _)))) bh)
   (ai (ck (aH yC (cL K T.eI (aa (pv 1) ah)) (aR fV (cL K T.eI (aa (pv 0) ah)) ak) (aP _)) (av (aG sF)) bh)
   (av (aG (fJ iY (cL K T.eI (aa (dS (own:=["k"]) (fq:=["less","more"]) (js:=[0,1]) (aN (aj jH) ["less","more","same"]) rfl (dw (by rfl) T.eY (aa (cL K T.eI (aa (pv 0) ah)) ah)) (λ_ _ _ _=>(cE 0 (ue ["k","less","more"]))) (λ_ _ _ _=>(mw (aH qR (aK (my K) (pv 2) (pv 0)) (aK (my K) (pv 1) (pv 0)) (aP _)))) (λ_ _ _ _=>(pv 0))) ah)) ak (aP _)))))),?_⟩
  refine qZ ?_;intro dc dQ fT gW;cases b with
  | false =>
    obtain rfl:=U rfl;refine(au rfl (au rfl (lN (au rfl (au rfl ⟨_,_,.lst (aV.of I) (gD _),.lst (aV.of hm) (gD _),shaped_ints _,shaped_ints _,?_⟩)))));rw[SeqAt.eqv_refl _ (uN _)];exact q H (aq.refl _)
  | true =>
    obtain⟨Z,le⟩:=Y rfl;refine(au rfl (au rfl (jR (au rfl (uS rfl (.inl (aV.of hm)) (au rfl (uS rfl (.inl (aV.of I)) (dB ⟨rfl,au rfl (?_)⟩))))))));have em:V.int (((ws.map V.int).length:Nat):Int)=(λi j:Int=>V.int (i+j)) (((zs.map V.int).length:Nat):Int) 1:=aas V.int (by rw[ZZ,ZZ,Z];rfl)
    rw[fG em];refine jR (au rfl (uS rfl (.inl (aV.of I)) (au rfl ⟨(by lia),(by rw[ZZ];lia),λD hD=>dN (lo:=0) (m:=(zs.map V.int).length) (λi acc H2=>aq H H2/\H2 D=some (.lst acc)/\acc=[]) ⟨aq.new hD,af,rfl⟩ (λi acc H2 _ z=>⟨z.2.1,by rw[z.2.2];exact aaB _⟩) (fL (by rw[ZZ];lia)) ?_ ?_⟩)))
    ·rintro i acc H2 hi ⟨s2,O,rfl⟩;rw[ZZ]at hi;rw[aby];have h1:zs[i]?=some (zs[i]):=Z4 hi;have h2:ws[i]?=some (ws[i]'(by lia)):=Z4 _
     have hle:=le i _ _ h1 h2;refine⟨rfl,au rfl (au rfl (mX (aV.of (s2 _ _ hm)) (ao (j:=i) (by rw[Z9,h2];rfl)) (au rfl (au rfl (mX (aV.of (s2 _ _ I)) (ao (j:=i) (by rw[Z9,h1];rfl)) (dB (au rfl (?_))))))))⟩
     refine rB (λz=>absurd (sC z) (by lia)) (λ_=>⟨s2,O,rfl⟩)
    ·rintro acc H2 ⟨s2,O,rfl⟩;refine(uS rfl (.inl (aV.of O)) ⟨rfl,?_⟩);exact q H2 s2
def pA{C:Addr}{H H' : Hp}{p d q t:Addr}{n:Nat}{hs:List (Nat×bN)}{ds:List gO}{qs:Array Value}(S:fO C H p d q n hs ds)(k:Kept H H' p d q)(h:H t=some (.iL qs)):H' t=some (.iL qs):=by
 obtain⟨_,_,_,_,_,I,O⟩:=S.ob;obtain⟨kv,z3,_⟩:=O.len;obtain⟨ys,z4,_⟩:=S.dn;exact k.rest t _ h (aE h I (by intro z;cases z)) (aE h z3 (by intro z;cases z)) (aE h z4 (by intro z;cases z))
def kF{C:Addr}{H H' : Hp}{p d q c:Addr}{n:Nat}{hs:List (Nat×bN)}{ds:List gO}{ys:List V}(S:fO C H p d q n hs ds)(k:Kept H H' p d q)(h:H c=some (.lst ys))(nq:c≠q):H' c=some (.lst ys):=by
 obtain⟨_,_,_,_,_,I,O⟩:=S.ob;obtain⟨kv,z3,_⟩:=O.len;exact k.rest c _ h (aE h I (by intro z;cases z)) (aE h z3 (by intro z;cases z)) nq
def mT{H H' : Hp}(s:aq H H')(p d q:Addr):Kept H H' p d q:=⟨s.tups,λb o e _ _ _=>s b o e⟩
def C1{b:Bool}{J:Prop}{ts B6:List cJ}{rs rs' : List Nat}(hb:b=true↔J)(h:(J->rs'.length=rs.length+1/\∀(i a b:Nat),rs'[i]?=some a->rs[i]?=some b->lenOf B6 a<=lenOf ts b)/\(¬ J->rs'.map (lenOf B6)=rs.map (lenOf ts))):
 (b=false->rs.map (lenOf ts)=rs'.map (lenOf B6))/\(b=true->(rs'.map (lenOf B6)).length=(rs.map (lenOf ts)).length+1/\∀(k:Nat) (z v:Int),(rs.map (lenOf ts))[k]?=some z->(rs'.map (lenOf B6))[k]?=some v->v<=z):=by
 refine⟨λe=>(h.2 λj=>by rw[e]at hb;exact aac (hb.mpr j)).symm,λe=>?_⟩
 obtain⟨h1,h2⟩:=h.1 (hb.mp e);refine⟨by rw[ZZ,ZZ,h1],λk z v hz I=>?_⟩
 rw[Z9]at hz I;obtain⟨x,hx,rfl⟩:=uT.mp hz;obtain⟨y,hy,rfl⟩:=uT.mp I;exact h2 k y x hy hx
def KG(C t1 t2:Addr)(Nb Nc:Pos):Sp:=λvs H Q _=>∃(p d q c:Addr) (n:Nat) (s:Nat×bN) (hs:List (Nat×bN)) (I:List gO) (e:Dd),vs=[.ref p,.ref c]/\fO C H p d q n (s::hs) I/\H c=some (.tup (Q4 e))/\Qa n s e/\n<=6/\I.length<=900/\H t1=some (.iL (dM (mW "least_ways") Nb))/\H t2=some (.iL (dM (mW "by_length") Nc))/\∀H' e',Kept H H' p d q->fO C H' p d q n (stp s e::s::hs) (e'::I)->Q (.bl true) H'
def iA:Ok T T.ir 13 (KG a.ay a.b8 a.dR bS c5):=by
 have o9:=o9 T;have e8:=e8 T;have jM:=jM T;have BX:=BX T;have cj:=cj T;have bF:=bF T;have aI:=aI T;refine T.ir.ok bG λ_ A _ s H vs Q E hr h=>?_
 ·obtain⟨p,d,q,c,n,⟨f,m⟩,hs,dd,e,rfl,S,hc,Ir,n6,Iw,yt,yu,k⟩:=h;refine⟨_,(ai (aL (i:=2) bG.nd rfl (Or.inl rfl) (cu (pv 0) T.aA T.bg aI (hr.mono (by decide)) T.br .nil aJ))
   (ai (aL (i:=3) bG.nd rfl (Or.inl rfl) (cu (pv 0) T.aA T.eM bF (hr.mono (by decide)) T.fk .nil aJ))
   (ai (ck (aH yC (cL K T.eI (aa (pv 2) ah)) (aO BX hr T.BS.c aJ (aa (pv 3) ah)) (aP _)) (av (aG sF)) bh)
   (ai (ck (aH iY (aK (eO K) (pv 1) ak) kH (aP _)) (ai (aL (i:=4) bG.nd rfl (Or.inl rfl) (aO e8 hr T.eX.c aJ (aa (pv 3) (aa (aK (eO K) (pv 1) ak) (aa (aK (eO K) (pv 1) ak) ah)))))
   (ai (bR (aO o9 hr T.o7.c aJ (aa (pv 0) (aa (pv 1) ah))))
   (av (aG (aO jM hr T.jK.c aJ (aa (pv 2) (aa (cu (pv 0) T.aA T.bg aI (hr.mono (by decide)) T.br .nil aJ) (aa (pv 4) ah)))))))) bh)
   (ai (aL (i:=5) bG.nd rfl (Or.inl rfl) (E6 K (lz aaz PySem.F.slot_list_index PySem.F.type_list_index F6 (cu (pv 0) T.aA T.jL cj (hr.mono (by decide)) T.kC .nil aJ) (aa (aK (eO K) (pv 1) ak) ah))))
   (ai (AE (aK (eO K) (aK (eO K) (pv 3) ak) (pv 5)) (Mb K (n:=3) rfl (bK (cE 6 bG.nd) (bK (cE 7 bG.nd) (bK (cE 8 bG.nd) jw)))))
   (ai (bR (aO o9 hr T.o7.c aJ (aa (pv 0) (aa (pv 1) ah))))
   (av (aG (aO jM hr T.jK.c aJ (aa (cu (pv 0) T.aA T.bg aI (hr.mono (by decide)) T.br .nil aJ) (aa (pv 2) (aa (aO e8 hr T.eX.c aJ (aa (cu (pv 0) T.aA T.eM bF (hr.mono (by decide)) T.fk .nil aJ) (aa (pv 6) (aa (pv 7) ah)))) ah))))))))))))),?_⟩
  refine qi ?_;intro dc dQ fT gW jv lD uf zN zO CV uv;have ok:=S.ch.ok;have g:=ok.yo S.p1 S.p2;obtain⟨dx,_,_,_,e0,hp,_⟩:=S.ob;cases e0;obtain⟨yq,hq,_⟩:=S.dn;refine(au rfl ⟨p,dx,_,rfl,hp,gP (by decide +kernel) (by decide +kernel) (by decide +kernel) (by decide +kernel),p,d,q,n,f,m,hs,dd,g,rfl,S,yt,yu,λD rs H1 hD s1 Ay lb pw lr=>?_⟩)
  have Vi:D≠q:=aaq (aF hq hD);refine(au rfl ⟨p,dx,_,rfl,s1 _ _ hp,gP (by decide +kernel) (by decide +kernel) (by decide +kernel) (by decide +kernel),p,d,q,n,f,m,hs,dd,rfl,S.same s1,λwb H2 s2 hw=>?_⟩)
  have ag:=s1.trans s2;refine(au rfl (uS rfl (.inl (aV.of (s2 _ _ Ay))) (au rfl ⟨wb,n,_,g,rfl,hw,λH3 s3=>?_⟩)))
  have wQ:=ag.trans s3;have FY:=s3 _ _ (s2 _ _ Ay);have Vj:=hw.same s3;refine⟨rfl,au rfl (FU (aas V.int (by rw[ZZ,ZZ,lb.1.len])) ?_)⟩
  have U:=wQ _ _ hc;have S3:=S.same wQ;have few:∀{t1:List cJ} {g1:aD n t1} {r1:List Nat},RM.LB g1.N (aW t1) r1->(r1.map (lenOf t1)).length<=24:=λlb=>by rw[ZZ];exact Tw lb
  cases e with
  | put t =>
    obtain⟨gt,fw⟩:=Ir;refine(au rfl (eG (bf.of U) (ao (j:=0) rfl) ⟨rfl,au rfl (?_)⟩));rw[fG rfl];refine lN (au rfl (au rfl (eG (bf.of U) (ao (j:=1) rfl) (au rfl (eG (bf.of U) (ao (j:=2) rfl) ⟨wb,n,_,g,t.1,t.2.1,rfl,Vj,gt.a0,gt.a1,gt.b0,gt.b1,λH4 b s4 hb=>?_⟩)))))
    have O:=wQ.trans s4;refine(au rfl (au rfl ⟨p,d,q,c,n,_,hs,dd,.put t,rfl,S.same O,O _ _ hc,⟨gt,fw⟩,n6,Iw,λH5 e' Y I=>?_⟩))
    have Z:=S.same O;obtain⟨NY,_,_,_,e0,ET,_⟩:=I.ob;cases e0;have g5:=I.ch.ok.yo I.p1 I.p2;refine(au rfl (au rfl ⟨p,NY,_,rfl,ET,gP (by decide +kernel) (by decide +kernel) (by decide +kernel) (by decide +kernel),p,d,q,n,f+1,m++[(f,t)],_,_,g5,rfl,I,pA Z Y (O _ _ yt),pA Z Y (O _ _ yu),λD2 TF H6 xO s6 Nl NZ Qi TH=>?_⟩))
    have hm:=C1 hb (An (List.Perm.of_eq (by rw[aaw];rfl)) g g5 lb NZ pw Qi)
    have wR:=kF Z Y (s4 _ _ FY) Vi;refine(au rfl ⟨D,D2,b,_,_,rfl,s6 _ _ wR,Nl,few lb,hm.1,hm.2,λH7 s7=>k H7 e' ?_ ((I.same s6).same s7)⟩)
    exact((mT O p d q).trans Y).trans (mT (s6.trans s7) p d q)
  | drop x =>
    obtain⟨t0,NI⟩:=Ir;obtain⟨j,hj⟩:=aaF NI;have Pc:=(ju.mp hj).1;refine(au rfl (eG (bf.of U) (ao (j:=0) rfl) ⟨rfl,au rfl (?_)⟩));rw[iK (by decide +kernel)]
    refine jR (au rfl ⟨p,dx,_,rfl,wQ _ _ hp,gP (by decide +kernel) (by decide +kernel) (by decide +kernel) (by decide +kernel),p,d,q,n,f,m,hs,dd,rfl,S3,λl hl=>?_⟩)
    have s4:aq H3 (upd H3 l (.lst (aB (m.map (·.1))))):=aq.new hl;have P4:upd H3 l (.lst (aB (m.map (·.1)))) l=some (.lst (aB (m.map (·.1)))):=af;generalize upd H3 l (.lst (aB (m.map (·.1))))=H4 at s4 P4;have O:=wQ.trans s4;have ab:=s4 _ _ U;have Yb:=Vj.same s4;have nd:=ok.nodup;have NK:(m.map (·.1))[j]?=some x:=by rw[Z9,hj];rfl
    have yp:j<(m.map (·.1)).length:=(ju.mp NK).1;refine⟨.inl ⟨rfl,_,aV.of P4⟩,au rfl (eG (bf.of ab) (ao (j:=1) rfl) ⟨l,_,_,j,rfl,rfl,P4,rfl,iP _,by rw[aU];exact yp,λi z hz ax=>?_,?_⟩)⟩
    ·obtain⟨y,hy,rfl⟩:=kc hz;have key:y=x↔i=j:=by
      constructor
      ·intro e;obtain⟨b1,c1⟩:=ju.mp hy;obtain⟨b2,c2⟩:=ju.mp NK;apply aap;intro ne;have:=ab3.mp ok.asc i j b1 b2 (by lia)
       rw[c1,c2,e]at this;exact aa5 _ this
      ·intro e;rw[e,NK]at hy;exact(Option.some.inj hy).symm
     rw[aa1,acR,<-key]
     constructor
     ·intro h;have h:(y:Int)=(x:Int):=eq_of_beq h
      lia
     ·intro h;rw[h];simp[FL]
    obtain⟨bt,zs,h1,h2,h3⟩:=id Yb.ex;have ar:(m.map (·.2))[j]?=some t0:=by rw[Z9,hj];rfl
    obtain⟨v,hv⟩:∃v,zs[j]?=some v:=⟨_,Z4 (by rw[h3.length,ZZ];exact Pc)⟩
    obtain⟨t,ht,ct,rfl,aw⟩:=Paired.sS h3 hv;rw[ar]at ht;obtain rfl:=Option.some.inj ht;have gt:=ok.good _ NI;refine(au rfl (eG (bf.of h1) (ao (j:=1) rfl) (au rfl (eG (bf.of h2) (ao (j:=j) hv) ⟨ct,_,rfl,bf.of aw,rfl,_,_,rfl,_,_,rfl,_,_,rfl,rfl,?_⟩))));refine(au rfl (au rfl ⟨p,d,q,c,n,_,hs,dd,.drop x,rfl,S.same O,ab,⟨t0,NI⟩,n6,Iw,λH5 e' Y I=>?_⟩))
    have Z:=S.same O;obtain⟨NY,_,_,_,e0,ET,_⟩:=I.ob;cases e0;have g5:=I.ch.ok.yo I.p1 I.p2;refine(au rfl ⟨p,NY,_,rfl,ET,gP (by decide +kernel) (by decide +kernel) (by decide +kernel) (by decide +kernel),p,d,q,n,f,Ring.without x m,_,_,g5,rfl,I,pA Z Y (O _ _ yt),pA Z Y (O _ _ yu),λD2 TF H6 xO s6 Nl NZ Qi TH=>?_⟩)
    have wR:=kF Z Y (s4 _ _ FY) Vi;refine(au rfl (au rfl ⟨p,NY,_,rfl,s6 _ _ ET,gP (by decide +kernel) (by decide +kernel) (by decide +kernel) (by decide +kernel),p,d,q,n,f,Ring.without x m,_,_,rfl,I.same s6,λw7 H7 s7 Yc=>?_⟩))
    refine(au rfl (au rfl ⟨w7,n,_,g5,t0.1,t0.2.1,rfl,Yc,gt.a0,gt.a1,gt.b0,gt.b1,λH8 b s8 hb=>?_⟩))
    have Yd:(m.map (·.2)).Perm ((Ring.without x m).map (·.2)++[t0]):=by
     have:=((perm_back nd NI).map (·.2)).symm
     rwa [aaw]at this
    have hm:=C1 hb (An Yd g5 g NZ lb Qi pw);have TJ:=(s6.trans s7).trans s8;refine⟨D2,D,b,_,_,rfl,(s7.trans s8) _ _ Nl,TJ _ _ wR,few NZ,hm.1,hm.2,λH9 s9=>k H9 e' ?_ ((I.same TJ).same s9)⟩
    exact((mT O p d q).trans Y).trans (mT (TJ.trans s9) p d q)
def lg(q L:Addr)(n:Nat)(H:Hp)(v:V)(s:Nat×bN):Prop:=∃(c:Addr) (rs:List Nat),∃g:aD n (s.2.map (·.2)),v = .ref c/\c≠q/\c≠L/\H c=some (.lst ((rs.map (lenOf (s.2.map (·.2)))).map V.int))/\RM.LB g.N (aW (s.2.map (·.2))) rs/\rs.Pairwise (jq (s.2.map (·.2)))/\∃bs,RM.CQ g.N (aW (s.2.map (·.2))) (g.N.aM.map λc=>2^c) bs []/\rs.Perm bs
def lg.same{q L:Addr}{n:Nat}{H H' : Hp}{v:V}{s:Nat×bN}(z:aq H H')(h:lg q L n H v s):lg q L n H' v s :=
 let⟨c,rs,g,e,n1,n2,h,r⟩:=h
 ⟨c,rs,g,e,n1,n2,z _ _ h,r⟩
def lg.put{q L:Addr}{n:Nat}{H:Hp}{v:V}{s:Nat×bN}{o:HO}(h:lg q L n H v s):lg q L n (upd H L o) v s :=
 let⟨c,rs,g,e,n1,n2,h,r⟩:=h
 ⟨c,rs,g,e,n1,n2,by rw[ae n2];exact h,r⟩
def lg.kept{C:Addr}{H H' : Hp}{p d q L:Addr}{n n' : Nat}{hs:List (Nat×bN)}{ds:List gO}{v:V}{s:Nat×bN}(S:fO C H p d q n' hs ds)(k:Kept H H' p d q)(h:lg q L n H v s):lg q L n H' v s :=
 let⟨c,rs,g,e,n1,n2,h,r⟩:=h
 ⟨c,rs,g,e,n1,n2,kF S k h n1,r⟩
def yl(K:bH)(tb:rD):Sp:=λvs H Q _=>∃(a:Addr) (ns:List Int),vs=[.ref a]/\aV K H a (ns.map V.int)/\ns.length<=63/\TabsAt tb H/\∀H',Q (.bl true) H'
def Qj:Ok T T.Ll 14 (yl K [(a.dR,mW "by_length",c5),(a.b8,mW "least_ways",bS)]):=by
 have mj:=mj T;have iA:=iA T;have iw:=iw T;have iz:=iz T;have gC:=gC T;have aI:=aI T;refine T.Ll.ok qj λ_ A _ s H vs Q E hr h=>?_
 ·obtain⟨b,ns,rfl,hS,hn,hT,fin⟩:=h;have yu:=hT _ aad;have yt:=hT _ (m9 _ aad);refine⟨_,(ai (AE (aO mj hr T.l7.c aJ (aa (pv 0) (aa ak ah))) (Mb K (n:=2) rfl (bK (cE 1 qj.nd) (bK (cE 2 qj.nd) jw))))
   (ai (aL (i:=3) qj.nd rfl (Or.inl rfl) (Jb T.mk_Standing iw (hr.mono (by decide)) (by rfl) T.BU T.rR .nil aJ (aa (pv 1) ah)))
   (ai (aL (i:=4) qj.nd rfl (Or.inl rfl) (fb ah))
   (ai (jN PassesOwn.never rfl (yL K (pv 2)) (cE 5 qj.nd)
   (ai (bR (E6 K (lz aaz aaN aaO cQ (pv 4) (aa (cu (pv 3) T.aA T.bg aI (hr.mono (by decide)) T.br .nil aJ) ah))))
   (av (ck (w6 (lK (aO iA hr T.ir.c aJ (aa (pv 3) (aa (pv 5) ah))))) (av (aG sF)) bh))))
   (ai (sJ PassesOwn.never (aH qR (cL K T.eI (aa (pv 4) ah)) ak (aP _)) (ai (bR (cu (pv 3) T.aA T.qG iz (hr.mono (by decide)) T.rX .nil aJ))
   (av (ck (aH (L8 K hr.units) (cu (pv 3) T.aA T.bg aI (hr.mono (by decide)) T.br .nil aJ) (Px K (AY aaz acA acB FQ (pv 4))) (aP _)) (av (aG sF)) bh))))
   (av (aG (Ff (fJ (A1 K hr.units) (cu (pv 3) T.aA T.bg aI (hr.mono (by decide)) T.br .nil aJ) (fb ah) (aP _)) (Fe (fJ iY (cu (pv 3) T.aA T.o8 gC (hr.mono (by decide)) T.qJ .nil aJ) ak (aP _))))))))))),?_⟩
  refine MW ?_;intro dc dQ fT gW jv lD uf zN zO CV uv;refine(au rfl ⟨b,ns,8,rfl,hS,hn,λn ds c L xs H1 n1 n2 s1 hc hL pr rn Ye=>?_⟩)
  refine⟨c,_,rfl,bf.of hc,rfl,_,_,rfl,_,_,rfl,rfl,?_⟩;refine(au rfl (λp dx hp Vk ne=>⟨p,dx,n,rfl,af,by lia,by lia,λd q H2 Z wF S2 kp=>⟨rfl,?_⟩⟩))
  have s2:aq H1 H2:=λb o e=>kp b o (by rw[ae (aF e hp),ae (aF e Vk)];exact e) (aF e hp)
  have fresh:∀e,upd (upd H1 dx (.own p)) p (.ins a.ay dx []) e=none->H1 e=none:=λe he=>by
   by_cases e1:e=p
   ·rw[e1];exact hp
   ·rw[ae e1]at he
    by_cases e2:e=dx
    ·rw[e2];exact Vk
    ·rwa [ae e2]at he
  have Z:=fresh d Z;have wF:=fresh q wF;have Qg:=pr.length;refine⟨dl rfl,λM hM=>?_⟩
  have Vl:H1 M=none:=s2.free hM;have Q7:M≠q:=by
   obtain⟨yq,ab,_⟩:=S2.dn;exact aaq (aF ab hM)
  have s3:aq H2 (upd H2 M (.lst [])):=aq.new hM;have Vm:upd H2 M (.lst []) M=some (.lst []):=af;have S3:=S2.same s3;have wQ:=s2.trans s3;generalize upd H2 M (.lst [])=H3 at Vm S3 wQ;have TL:∀{H6:Hp} {D:Addr} {hs:List (Nat×bN)} {O:List gO},fO a.ay H6 p d q n hs O->H6 D=none->D≠q:=λS h=>by
   obtain⟨yq,Yg,_⟩:=S.dn;exact aaq (aF Yg h)
  refine(au rfl ⟨L,rfl,⟨_,aV.of (wQ _ _ hL)⟩,iS (K:=K) (a:=L) (xs:=xs) (λi σ H5=>∃v5,σ=[some (.ref b),some (.int (n:Int)),some (.ref L),some (.ref p),some (.ref M),v5]/\aq H1 H5/\∃hs O ys,fO a.ay H5 p d q n (mh (0,[]) (ds.take i)::hs) O/\O.length=i/\H5 M=some (.lst ys)/\Paired (lg q M n H5) ys hs.reverse) ⟨none,rfl,wQ,[],[],[],S3,rfl,Vm,.nil⟩ (λi σ H5 _ ⟨_,_,z,_⟩=>aV.of (z _ _ hL)) ?_ ?_⟩)
  ·rintro i x D' σ H5 hx ⟨v5,rfl,s5,hs,O,ys,Y,Qe,Qk,py⟩;obtain⟨e,he,c',rfl,ag⟩:=Paired.sS pr hx;have K1:=(ju.mp he).1;have Ir:=rn.Ir he;have Lu:mh (0,[]) (ds.take (i+1))=stp (mh (0,[]) (ds.take i)) e:=by
    rw[aaK,he];exact qN _ _ _
   generalize mh (0,[]) (ds.take i)=st at Y Ir Lu;obtain⟨f,m⟩:=st;have g:=Y.ch.ok.yo Y.p1 Y.p2;obtain⟨NY,_,_,_,e0,ET,_⟩:=Y.ob;cases e0;have NW:=s1.trans s5;refine(au rfl ⟨.inl ⟨rfl,_,aV.of Qk⟩,au rfl ⟨p,NY,_,rfl,ET,gP (by decide +kernel) (by decide +kernel) (by decide +kernel) (by decide +kernel),p,d,q,n,f,m,hs,O,g,rfl,Y,NW _ _ yt,NW _ _ yu,λD rs H6 hD s6 Lm lb pw lr=>?_⟩⟩)
   have Ic:=py.length;rw[abM]at Ic;have IB:=Y.ch.len;rw[aaA]at IB;have Vn:=s6 _ _ Qk;refine⟨M,ys,_,rfl,rfl,Vn,cf (by lia),?_⟩
   have TM:D≠M:=aaq (aF Qk hD);have S7:=(Y.same s6).list (ys:=ys++[.ref D]) Vn Q7;have P9:Paired (lg q M n (upd H6 M (.lst (ys++[.ref D])))) (ys++[.ref D]) (hs.reverse++[(f,m)]):=Paired.snoc (Paired.imp' (λ_ _ z=>(z.same s6).put) py) (lg.put ⟨D,rs,g,rfl,TL Y hD,TM,Lm,lb,pw,lr⟩)
   have Q8:aq H1 (upd H6 M (.lst (ys++[.ref D]))):=(s5.trans s6).put Vl;have Vo:upd H6 M (.lst (ys++[.ref D])) M=some (.lst (ys++[.ref D])):=af;generalize upd H6 M (.lst (ys++[.ref D]))=H7 at S7 P9 Q8 Vo;have P5:=s1.trans Q8;refine(au rfl (au rfl ⟨p,d,q,c',n,(f,m),hs,O,e,rfl,S7,Q8 _ _ ag,Ir,n2,by lia,P5 _ _ yt,P5 _ _ yu,λH8 e' TN S8=>(au rfl (jR ?_))⟩))
   refine(au rfl ⟨wY Q8 TN hp Z wF,(f,m)::hs,e'::O,ys++[.ref D],by rw[Lu];exact S8,aas (· + 1) Qe,kF S7 TN Vo Q7,?_⟩)
   rw[abT];exact Paired.imp' (λ_ _ z=>lg.kept S7 TN z) P9
  ·rintro σ H5 ⟨v5,rfl,s5,hs,O,ys,Y,Qe,Qk,py⟩;generalize mh (0,[]) (ds.take xs.length)=st at Y;refine⟨λm σ H9=>∃st hs O ys,σ=[some (.ref b),some (.int (n:Int)),some (.ref L),some (.ref p),some (.ref M),v5]/\aq H1 H9/\fO a.ay H9 p d q n (st::hs) O/\H9 M=some (.lst ys)/\Paired (lg q M n H9) ys hs.reverse/\m=hs.length,⟨_,st,hs,O,ys,rfl,s5,Y,Qk,py,rfl⟩,?_⟩
   rintro m0 σ H9 ⟨st,hs,O,ys,rfl,s9,U,Vp,Ql,rfl⟩;have Ic:=Ql.length;rw[abM]at Ic;have IB:=U.ch.len;rw[aaA]at IB;have Vq:=s1.trans s9;refine(au rfl (uS rfl (.inl (aV.of Vp)) (dB (au rfl (rB (λh1=>?_) (λh1=>?_))))))
   ·have h1:=sC h1
    match hs,O,IB,Ql,Ic,U with
    | [],_,_,_,Ic,_=>exact absurd h1 (by rw[Ic];decide)
    | (f2,m2)::hs2,e::dd2,_,Ql,Ic,U =>
      rw[abT]at Ql;obtain⟨I,y,rfl,Yh,hy⟩:=Bj Ql;refine⟨λσ' H'=>∃O ys,σ' = [some (.ref b),some (.int (n:Int)),some (.ref L),some (.ref p),some (.ref M),v5]/\aq H1 H'/\fO a.ay H' p d q n ((f2,m2)::hs2) O/\H' M=some (.lst ys)/\Paired (lg q M n H') ys hs2.reverse,λσ' H' ⟨Gz,I,e1,e2,e3,e4,e5⟩=>⟨_,abb _,_,_,Gz,I,e1,e2,e3,e4,e5,rfl⟩,?_⟩
      obtain⟨Q9,_,_,_,_,Ra,_⟩:=U.ob;refine(au rfl ⟨p,Q9,_,rfl,Ra,gP (by decide +kernel) (by decide +kernel) (by decide +kernel) (by decide +kernel),p,d,q,n,st,(f2,m2),hs2,e,dd2,rfl,U,λHA Rb SA=>?_⟩)
      have sA:=wY s9 Rb hp Z wF;have Vr:=kF U Rb Vp Q7;have Yi:=lg.kept U Rb hy;have Yj:Paired (lg q M n HA) I hs2.reverse:=Paired.imp' (λ_ _ z=>lg.kept U Rb z) Yh
      have gA:=SA.ch.ok.yo SA.p1 SA.p2;obtain⟨Yk,_,_,_,e0,Yl,_⟩:=SA.ob;cases e0;have Vs:=s1.trans sA;refine(au rfl ⟨p,Yk,_,rfl,Yl,gP (by decide +kernel) (by decide +kernel) (by decide +kernel) (by decide +kernel),p,d,q,n,f2,m2,hs2,dd2,gA,rfl,SA,Vs _ _ yt,Vs _ _ yu,λD rs HB hD sB Ym lb pw lr=>?_⟩)
      have TQ:=sB _ _ Vr;refine(au rfl ⟨.inl ⟨rfl,_,aV.of TQ⟩,M,_,y,rfl,rfl,TQ,by simp,?_⟩)
      rw[List.dropLast_concat];obtain⟨c2,TF,g2,rfl,ZY,Yn,ar,NZ,Qi,TH⟩:=Yi;obtain rfl:rs=TF:=EV lb NZ pw Qi lr TH;have TM:D≠M:=aaq (aF Vr hD);have SC:=(SA.same sB).list (ys:=I) TQ Q7;have aw:upd HB M (.lst I) D=some (.lst ((rs.map (lenOf (m2.map (·.2)))).map V.int)):=by rw[ae TM];exact Ym
      have ax:upd HB M (.lst I) c2=some (.lst ((rs.map (lenOf (m2.map (·.2)))).map V.int)):=by rw[ae Yn];exact sB _ _ ar
      have Yo:Paired (lg q M n (upd HB M (.lst I))) I hs2.reverse:=Paired.imp' (λ_ _ z=>(z.same sB).put) Yj
      refine⟨_,_,.lst (aV.of aw) (gD _),.lst (aV.of ax) (gD _),shaped_ints _,shaped_ints _,_,rfl,?_⟩;rw[SeqAt.eqv_refl _ (uN _)];exact jR ⟨dd2,I,rfl,(sA.trans sB).put Vl,SC,af,Yo⟩
   ·have h1 : ¬(0:Int)<((ys.length:Nat):Int):=λz=>h1 (fG z)
    obtain rfl:hs=[]:=aba (by lia)
    obtain rfl:O=[]:=aba (by rw[abA]at IB;lia)
    obtain rfl:st=(0,[]):=by cases U.ch with|nil=>rfl
    have g9:=U.ch.ok.yo U.p1 U.p2;obtain⟨Q9,_,_,_,e0,Ra,_⟩:=U.ob;cases e0;refine(au rfl ⟨p,Q9,_,rfl,Ra,gP (by decide +kernel) (by decide +kernel) (by decide +kernel) (by decide +kernel),p,d,q,n,0,[],[],[],g9,rfl,U,Vq _ _ yt,Vq _ _ yu,λD rs HA hD sA Yp lb pw lr=>⟨dl rfl,λl hl=>?_⟩⟩)
    obtain rfl:rs=[]:=aba lb.1.len;have sB:aq HA (upd HA l (.lst [])):=aq.new hl;refine⟨_,_,.lst (aV.of (sB _ _ Yp)) (gD []),.lst (aV.of af) (gD []),shaped_ints [],shaped_ints [],_,rfl,?_⟩;rw[SeqAt.eqv_refl _ (uN [])];have Vt:=sA.trans sB;refine lN (au rfl ⟨p,Q9,_,rfl,Vt _ _ Ra,gP (by decide +kernel) (by decide +kernel) (by decide +kernel) (by decide +kernel),p,d,q,n,_,[],rfl,U.same Vt,rfl,?_⟩)
    exact fin _
end
section
variable {l:PySem.W.OpenLaw}{w:World}{K:bH}{h:Heap}{mg:lE}{fa f0 f1 f2 f3 f4 f5 f6 f7 f8 f9 Vu Vv Vw Vx Vy Vz VA VB VC VD VE VF VG VH VI VJ VL VM VN VO VP VQ f32 VR VS VT VU VV VW VX VY Yq Rc Rf Rg Rh Ri Rj Rk Rl Rm Ao uP uQ qP Aq aX pB eE m8 dF:Addr}{d0 d1 d2 d3 d4 d5 d6 d7 d8 d9 Yr Ys Yt Yu Yv Yw Yx Yy Yz YA YB YC YD YE YF YG YH YI YJ YK YL YM YN YO YQ YR YS YT YU YV YW YX YY YZ Y0 Y3 Y4 Y5 Y6 Y7 Y8:FuncData}{ts:List Addr}{vz Ar EW:Tok}
open PySem.W
def all_mk(X:K.In h)(G:h.Ns mainGlobals mg)(Y9:mg "law"=some (.ref fa))(te:ts=[dF,eE])
 (d_BadWeb:nsIn K mainGlobals "BadWeb"=some (some (.ref Ao)))
 (d_BadSet:nsIn K mainGlobals "BadSet"=some (some (.ref uP)))
 (d_BadPoint:nsIn K mainGlobals "BadPoint"=some (some (.ref uQ)))
 (d_NoChord:nsIn K mainGlobals "NoChord"=some (some (.ref qP)))
 (d_NoDeed:nsIn K mainGlobals "NoDeed"=some (some (.ref Aq)))
 (d_Standing:nsIn K mainGlobals "Standing"=some (some (.ref aX)))
 (pg_Standing:plainGet K aX Str.empty=true) (hd_Standing:hasDictIn K aX=true) (po_Standing:plainOver K aX=true) (sa_Standing:findIn K (.ref aX) "__setattr__"=some (some (.builtin "object.__setattr__"))) (mk_Standing:makesIn K aX=true) (kc_Standing:keepIn K (.ref aX)=true)
 (na_points:findIn K (.ref aX) "points"=some none)
 (na_standing_ties:findIn K (.ref aX) "standing_ties"=some none)
 (na_next_name:findIn K (.ref aX) "next_name"=some none)
 (na_done:findIn K (.ref aX) "done"=some none)
 (xc_BadSet:excIn K uP [.type "ValueError",.type "Exception",.type "BaseException",.type "object"] "ValueError.__new__"=true)
 (xc_NoChord:excIn K qP [.type "ValueError",.type "Exception",.type "BaseException",.type "object"] "ValueError.__new__"=true)
 (ma42:findIn K (.ref aX) "__init__"=some (some (.ref Rc))) (mj42:isFn K (.ref Rc)=true) (a42:pJ K "__init__" "Standing.__init__" g7 Rc YY)
 (ma43:findIn K (.ref aX) "put"=some (some (.ref Rf))) (mj43:isFn K (.ref Rf)=true) (a43:pJ K "put" "Standing.put" ji Rf YZ)
 (ma44:findIn K (.ref aX) "drop"=some (some (.ref Rg))) (mj44:isFn K (.ref Rg)=true) (a44:pJ K "drop" "Standing.drop" hU Rg Y0)
 (ma45:findIn K (.ref aX) "back"=some (some (.ref Rh))) (mj45:isFn K (.ref Rh)=true) (a45:pJ K "back" "Standing.back" h8 Rh Y3)
 (ma46:findIn K (.ref aX) "names"=some (some (.ref Ri))) (mj46:isFn K (.ref Ri)=true) (a46:pJ K "names" "Standing.names" gh Ri Y4)
 (ma47:findIn K (.ref aX) "ties_now"=some (some (.ref Rj))) (mj47:isFn K (.ref Rj)=true) (a47:pJ K "ties_now" "Standing.ties_now" cO Rj Y5)
 (ma48:findIn K (.ref aX) "web_now"=some (some (.ref Rk))) (mj48:isFn K (.ref Rk)=true) (a48:pJ K "web_now" "Standing.web_now" ff Rk Y6)
 (ma49:findIn K (.ref aX) "lengths_now"=some (some (.ref Rl))) (mj49:isFn K (.ref Rl)=true) (a49:pJ K "lengths_now" "Standing.lengths_now" c6 Rl Y7)
 (ma50:findIn K (.ref aX) "deeds"=some (some (.ref Rm))) (mj50:isFn K (.ref Rm)=true) (a50:pJ K "deeds" "Standing.deeds" gi Rm Y8)
 (nt:noTabs K=true) (pn:([eE,dF]:List Addr).Nodup) (pi:∀p∈([eE,dF]:List Addr),p∈ts)
 (a0:Dk K "made_web" kU f0 d0)
 (a1:Dk K "made_tie" nC f1 d1)
 (a2:Dk K "has_tie" p8 f2 d2)
 (a3:Dk K "ties_in" mL f3 d3)
 (a4:Dk K "set_of" ug f4 d4)
 (a5:Dk K "all_ties" nE f5 d5)
 (a6:Dk K "is_set" uh f6 d6)
 (a7:Dk K "check_set" lX f7 d7)
 (a8:Dk K "triples_in" iH f8 d8)
 (a9:Dk K "length_of" jE f9 d9)
 (SG:Dk K "drawn_together" dX Vu Yr)
 (SH:Dk K "pieces" oR Vv Ys)
 (SJ:Dk K "rank" BB Vw Yt)
 (Za:Dk K "forest_trails" eU Vx Yu)
 (Zb:Dk K "forest" um Vy Yv)
 (Zc:Dk K "chords" uo Vz Yw)
 (Zd:Dk K "ring_closed" jU VA Yx)
 (Ze:Dk K "chord_ring" kW VB Yy)
 (VZ:MU K "by_length" jF VC Yz pB eE)
 (Zf:Dk K "common" uq VD YA)
 (Zg:Dk K "bears_oddly" jV VE YB)
 (Zh:Dk K "is_side" qb VF YC)
 (Zi:Dk K "cut_of" oU VG YD)
 (Zj:Dk K "side_of" mQ VH YE)
 (Zk:Dk K "steps_by_point" dY VI YF)
 (V0:MU K "least_ways" fR VJ YG m8 dF)
 (Zl:Dk K "length_of_way" gX VL YH)
 (Zm:Dk K "worths_of_ways" dZ VM YI)
 (Zn:Dk K "all_least_ways" eg VN YJ)
 (Zo:Dk K "worths_of_all" eV VO YK)
 (Zp:Dk K "least_odd" jG VP YL)
 (Zq:Dk K "least_rings" eR VQ YM)
 (a32:Dk K "lengths" mR f32 YN)
 (Zr:Dk K "_law_cell" nF VR YO)
 (Zs:Dk K "_law_turn" nG VS YQ)
 (Zt:Dk K "_law_near" nH VT YR)
 (Zu:Dk K "_law_deeds" lZ VU YS)
 (Zv:Dk K "_law_do" ux VV YT)
 (Zw:Dk K "_law_one_piece" gY VW YU)
 (Zx:Dk K "_law_grown" jH VX YV)
 (Zy:Dk K "_law_step_good" gZ VY YW)
 (O:Dk K "law" Hz Yq YX)
 (ym:Ng K "ValueError")
 (As:Ng K "enumerate")
 (Qm:Ng K "len")
 (Nm:Ng K "list")
 (Qn:Ng K "max")
 (Qo:Ng K "min")
 (KI:Ng K "range")
 (IC:Ng K "sorted")
 (Qp:Ng K "sum")
 (KJ:Ng K "tuple")
 (Qq:Ng K "zip")
 (vA:nsIn K mainGlobals "MOST_POINTS"=some (some (.int 10 vz)))
 (Au:nsIn K mainGlobals "MOST_TIES"=some (some (.int 24 Ar)))
 (EX:nsIn K mainGlobals "LONGEST"=some (some (.int 1000000000000000000000000000000 EW)))
 : ∃(fd:FuncData) (tb:rD),((tb.map (·.1)).Nodup/\noTabs K=true/\∀p∈tb,p.1∈ts/\∃c,codeHdIn K c p.1=true)/\(∀(s:Shared) (v:Value),BindsTo s fd ⟨[v],[]⟩ [("script",v)])/\∀base:Heap,K.In base->base.Ns mainGlobals mg->fF l.prog w K mg base sO 14 fa fd ["script"] (yl K tb):=by
 have e:=Y9.symm.trans (mg_of X G O.n);cases e;have T:∀base,Txt l.prog w base K mg ⟨f0,_,f1,_,f2,_,f3,_,f4,_,f5,_,f6,_,f7,_,f8,_,f9,_,Vu,_,Vv,_,Vw,_,Vx,_,Vy,_,Vz,_,VA,_,VB,_,VC,_,VD,_,VE,_,VF,_,VG,_,VH,_,VI,_,VJ,_,VL,_,VM,_,VN,_,VO,_,VP,_,VQ,_,f32,_,VR,_,VS,_,VT,_,VU,_,VV,_,VW,_,VX,_,VY,_,fa,_,Rc,_,Rf,_,Rg,_,Rh,_,Ri,_,Rj,_,Rk,_,Rl,_,Rm,_,Ao,uP,uQ,qP,Aq,aX,pB,eE,m8,dF⟩:=λ_=>⟨ud X G a0,ud X G a1,ud X G a2,Ef X G a3,ud X G a4,Ef X G a5,ud X G a6,ud X G a7,ud X G a8,ud X G a9,QU X G SG,ud X G SH,Ef X G SJ,Ef X G Za,Ef X G Zb,Ef X G Zc,QU X G Zd,ud X G Ze,Xk X G VZ,ud X G Zf,ud X G Zg,ud X G Zh,ud X G Zi,ud X G Zj,ud X G Zk,Xl X G V0,Ef X G Zl,Ef X G Zm,ud X G Zn,Ef X G Zo,ud X G Zp,Ef X G Zq,Ef X G a32,ud X G Zr,Ef X G Zs,ud X G Zt,ud X G Zu,ud X G Zv,QU X G Zw,QU X G Zx,ud X G Zy,Ef X G O,a42,⟨mk_Standing,ma42,mj42,kc_Standing⟩,a42.binds (λ_ _ _ _ _ _ us I=>by obtain⟨_,_,rfl⟩:=Mh us I;rfl),a43,⟨ma43,mj43,a43.kp⟩,a43.binds (λ_ _ _ _ _ _ us I=>by obtain⟨_,_,_,_,rfl⟩:=R7 us I;rfl),a44,⟨ma44,mj44,a44.kp⟩,a44.binds (λ_ _ _ _ _ _ us I=>by obtain⟨_,_,rfl⟩:=Mh us I;rfl),a45,⟨ma45,mj45,a45.kp⟩,a45.binds (λ_ _ _ _ _ _ us I=>by obtain⟨_,rfl⟩:=A2 us I;rfl),a46,⟨ma46,mj46,a46.kp⟩,a46.binds (λ_ _ _ _ _ _ us I=>by obtain⟨_,rfl⟩:=A2 us I;rfl),a47,⟨ma47,mj47,a47.kp⟩,a47.binds (λ_ _ _ _ _ _ us I=>by obtain⟨_,rfl⟩:=A2 us I;rfl),a48,⟨ma48,mj48,a48.kp⟩,a48.binds (λ_ _ _ _ _ _ us I=>by obtain⟨_,rfl⟩:=A2 us I;rfl),a49,⟨ma49,mj49,a49.kp⟩,a49.binds (λ_ _ _ _ _ _ us I=>by obtain⟨_,rfl⟩:=A2 us I;rfl),a50,⟨ma50,mj50,a50.kp⟩,a50.binds (λ_ _ _ _ _ _ us I=>by obtain⟨_,rfl⟩:=A2 us I;rfl),abw X G ym.n,abw X G As.n,abw X G Qm.n,abw X G Nm.n,abw X G Qn.n,abw X G Qo.n,abw X G KI.n,abw X G IC.n,abw X G Qp.n,abw X G KJ.n,abw X G Qq.n,⟨_,mg_of X G vA⟩,⟨_,mg_of X G Au⟩,⟨_,mg_of X G EX⟩,mg_of X G d_BadWeb,mg_of X G d_BadSet,mg_of X G d_BadPoint,mg_of X G d_NoChord,mg_of X G d_NoDeed,mg_of X G d_Standing,⟨pg_Standing,hd_Standing,po_Standing,sa_Standing⟩,na_points,na_standing_ties,na_next_name,na_done,λh1 U Y=>F8 U Y d_BadSet xc_BadSet,λh1 U Y=>F8 U Y d_NoChord xc_NoChord⟩
 exact⟨_,[(eE,mW "by_length",c5),(dF,mW "least_ways",bS)],⟨pn,nt,λp Z=>⟨pi _ (aa8 (f:=(·.1)) Z),by simp only[aaa,abJ,or_false]at Z;rcases Z with rfl | rfl;all_goals first | exact⟨_,VZ.F.hd⟩ | exact⟨_,V0.F.hd⟩⟩⟩,MV O,λbase _ _=>Qj (T base)⟩
end
def walk{l:PySem.W.OpenLaw}{q:Program}{loose:List Str}{XP:(Str->Option Value)->Heap->Prop}{YP:World->Heap->Prop}{d:DefRec}{K:Params->bH}{ts:List Addr}(hn:l.most=some 63)(KR:d.params.defaults=[])
 (hY:∀(w:World) (h:Heap),YP w h->(K w.params).In h/\∀P∈ts,h.get? P=some (PySem.W.tabObj #[]))
 (F:∀(w:World) (mg:lE) (fa:Addr) (h:Heap),(K w.params).In h->h.Ns mainGlobals mg->mg d.name=some (.ref fa)->
  ∃(fd:FuncData) (tb:rD),((tb.map (·.1)).Nodup/\PySem.W.noTabs (K w.params)=true/\∀p∈tb,p.1∈ts/\∃c,PySem.W.codeHdIn (K w.params) c p.1=true)/\(∀(s:Shared) (u:Value),BindsTo s fd ⟨[u],[]⟩ [("script",u)])/\∀base:Heap,(K w.params).In base->base.Ns mainGlobals mg->fF l.prog w (K w.params) mg base sO 14 fa fd ["script"] (yl (K w.params) tb)) :
 PySem.W.WalkO q loose XP YP l.row.toRowW d [] (λf vs=>PySem.call f vs) :=
 L2.Hg (n:=63) (k:=14) (x:="script") (CX:=λ_=>sO) (sp:=λw=>yl (K w.params)) hn (by decide) KR ⟨rfl,by decide,by decide⟩ hY F (λ_ _ a ns tb I O U=>⟨a,ns,rfl,U,I,O,λ_=>rfl⟩) λ_ _ _ _ _ z=>z
end K56
namespace PySem.W.Fast
def tw11669315493676274934:=()
def tw18286140266307740613:=()
def tw9152157794683757916:=()
def tw5729129548623133535:=()
def tw8396358493332819776:=()
def tw5250568685649775694:=()
def tw1443322926281681791:=()
def tw5729725657962010625:=()
def tw8786530925018708111:=()
def tw6347603086091063296:=()
def tw9738526308606653225:=()
def tw1299083865816588730:=()
def tw14710345433459626898:=()
def tw18382018585448432983:=()
def tw5828532104156750942:=()
def tw14051414267134422537:=()
def tw17847537468466256956:=()
def tw4896479581523661315:=()
def tw122046323464438645:=()
def tw15912498355305634357:=()
def tw1921765030694288176:=()
def tw6432516570626905937:=()
def tw3193068531664532565:=()
def tw14834868068661981980:=()
def tw7128903354461524067:=()
def tw6633270081161590961:=()
def tw16269691249622287157:=()
def tw17538213779453241245:=()
def tw637412251501271286:=()
def tw5291340945942935705:=()
def tw14586285289293010188:=()
def tw13160761340726811438:=()
def tw13326418586877379158:=()
def tw11710831939147649705:=()
def tw7640959064182664799:=()
def tw5458273176831892403:=()
def tw1794206980013071633:=()
def tw4796342014253797095:=()
def tw10479609664311979810:=()
def tw14718218835071568849:=()
def tw1833541946121159207:=()
def tw13085842776565075618:=()
def tw14699720484286208296:=()
def tw11303362939272836555:=()
def tw18101858405945657667:=()
def tw8685655858779300325:=()
def tw16498781371793417237:=()
def tw2727955734810595372:=()
def tw13518172712858249296:=()
def tw12892760602056165233:=()
def tw2856667732603857603:=()
def tw17701143336898469968:=()
def tw10028580782858614340:=()
def tw5648440482863674166:=()
def tw5388852073253773702:=()
def tw14703303547551462468:=()
def tw4814933833539584462:=()
def tw14533485365710445632:=()
def tw6710305626595858303:=()
def tw9738967989317788371:=()
def tw5263500134127202908:=()
def tw13040409259871259821:=()
def tw16632842320400874578:=()
def tw2937362450009291376:=()
def tw9893169590552192639:=()
def tw8071060120401378987:=()
def tw3146276938871996148:=()
def tw5124481921217762282:=()
def tw12250766608538086745:=()
def tw675101791246122295:=()
def tw14613220662559450852:=()
def tw6726209126124771402:=()
def tw10297581698721647769:=()
def tw6445771566304416048:=()
def tw1121065036508713449:=()
def tw2236811957292937730:=()
def tw3361165074905992282:=()
def tw5042319980372079945:=()
def tw9705906474545594674:=()
def tw15774225943672993293:=()
def tw17903512270948971236:=()
def tw2358191091155919433:=()
end PySem.W.Fast
open PySem PySem.W PyProof.Rows
set_option maxRecDepth 100000 in
set_option maxHeartbeats 0 in
theorem PySem.Challenge.cw_ringbase_k56_whole_lengths_by_one_tie_holds : PySem.Challenge.rw_ringbase_k56_whole_lengths_by_one_tie.Holds := by
 w_on;o_law;k_head;(case hw=>w_witness2)
 k_fill
 refine K56.walk (l:=PySem.Challenge.rw_ringbase_k56_whole_lengths_by_one_tie) rfl rfl (fun w h Y=>⟨PySem.W.km_in_of Y,PySem.W.km_tabs_of Y⟩) ?F
 case F =>
  intro w mg fa h KX G hmg;refine' K56.all_mk KX G hmg ?te ?d_BadWeb ?d_BadSet ?d_BadPoint ?d_NoChord ?d_NoDeed ?d_Standing ?pg_Standing ?hd_Standing ?po_Standing ?sa_Standing ?mk_Standing ?kc_Standing ?na_points ?na_standing_ties ?na_next_name ?na_done ?xc_BadSet ?xc_NoChord ?ma42 ?mj42 ?a42 ?ma43 ?mj43 ?a43 ?ma44 ?mj44 ?a44 ?ma45 ?mj45 ?a45 ?ma46 ?mj46 ?a46 ?ma47 ?mj47 ?a47 ?ma48 ?mj48 ?a48 ?ma49 ?mj49 ?a49 ?ma50 ?mj50 ?a50 ?nt ?pn ?pi ..
  (case te=>exact rfl)
  (case d_BadWeb=>k_is)
  (case d_BadSet=>k_is)
  (case d_BadPoint=>k_is)
  (case d_NoChord=>k_is)
  (case d_NoDeed=>k_is)
  (case d_Standing=>k_is)
  (case ma42=>k_is)
  (case mj42=>k_is)
  (case ma43=>k_is)
  (case mj43=>k_is)
  (case ma44=>k_is)
  (case mj44=>k_is)
  (case ma45=>k_is)
  (case mj45=>k_is)
  (case ma46=>k_is)
  (case mj46=>k_is)
  (case ma47=>k_is)
  (case mj47=>k_is)
  (case ma48=>k_is)
  (case mj48=>k_is)
  (case ma49=>k_is)
  (case mj49=>k_is)
  (case ma50=>k_is)
  (case mj50=>k_is)
  (case a42=>refine' L2.jQ ?gl ?gc ?gk;(case gl=>k_is);(case gc=>k_is);(case gk=>k_is))
  (case a43=>refine' L2.jQ ?gl ?gc ?gk;(case gl=>k_is);(case gc=>k_is);(case gk=>k_is))
  (case a44=>refine' L2.jQ ?gl ?gc ?gk;(case gl=>k_is);(case gc=>k_is);(case gk=>k_is))
  (case a45=>refine' L2.jQ ?gl ?gc ?gk;(case gl=>k_is);(case gc=>k_is);(case gk=>k_is))
  (case a46=>refine' L2.jQ ?gl ?gc ?gk;(case gl=>k_is);(case gc=>k_is);(case gk=>k_is))
  (case a47=>refine' L2.jQ ?gl ?gc ?gk;(case gl=>k_is);(case gc=>k_is);(case gk=>k_is))
  (case a48=>refine' L2.jQ ?gl ?gc ?gk;(case gl=>k_is);(case gc=>k_is);(case gk=>k_is))
  (case a49=>refine' L2.jQ ?gl ?gc ?gk;(case gl=>k_is);(case gc=>k_is);(case gk=>k_is))
  (case a50=>refine' L2.jQ ?gl ?gc ?gk;(case gl=>k_is);(case gc=>k_is);(case gk=>k_is))
  any_goals (refine' L2.dk ?ga ?gl ?gc ?gk;(case ga=>k_is);(case gl=>k_is);(case gc=>k_is);(case gk=>k_is))
  any_goals (refine' L2.Xi ?ga ?gl ?gc ?gk ?gd;(case ga=>k_is);(case gl=>k_is);(case gd=>kernel_rfl);(case gc=>k_is);(case gk=>k_is))
  any_goals (refine' L2.Ng.mk ?ga;(case ga=>k_is))
  (case pg_Standing=>k_is)
  (case hd_Standing=>k_is)
  (case po_Standing=>k_is)
  (case sa_Standing=>k_is)
  (case mk_Standing=>k_is)
  (case kc_Standing=>k_is)
  (case na_points=>k_is)
  (case na_standing_ties=>k_is)
  (case na_next_name=>k_is)
  (case na_done=>k_is)
  (case xc_BadSet=>k_exc)
  (case xc_NoChord=>k_exc)
  (case nt=>kernel_rfl)
  (case pn=>decide)
  (case pi=>decide)
  any_goals k_is
