import PyProof.Rows.All
import Wide.All
import OpenK.AllK
import Wide.FinOn
import Lean
import PyProof.EqAt
import PyProof.EqKinds
import PyProof.TupleCall
import PySem.Challenge.RW_ringbase_k55_bases_of_now
set_option Elab.async false
set_option linter.all false
set_option maxRecDepth 100000
abbrev eG:=@decide_eq_true
abbrev gz:=@decide_eq_false
abbrev kK:=@of_decide_eq_true
abbrev jF:=@List.mem_append_right
abbrev pP:=@List.mem_cons_of_mem
abbrev jY:=@List.mem_of_getElem?
abbrev kL:=@List.getElem?_eq_some_iff
abbrev uQ:=@Option.map_eq_some_iff
abbrev aX:=List (PySem.Addr×PySem.Obj)
abbrev dD:=PySem.Value->PySem.Shared->Prop
abbrev nE:=PySem.Str->Option PySem.Value
abbrev bE:=PySem.W.Frag
abbrev aaa:=@List.length_map
abbrev aab:=@if_neg
abbrev aad:=@if_pos
abbrev aae:=@List.getD_eq_getElem?_getD
abbrev aaf:=@Nat.le_refl
abbrev aag:=@PySem.Heap.get?_push_of_some
abbrev aah:=@Bool.false_ne_true
abbrev aai:=@PySem.wpAny_pure
abbrev aaj:=@List.length_append
abbrev aak:=@List.getElem?_map
abbrev aal:=@Nat.testBit_xor
abbrev aam:=@List.getElem?_eq_getElem
abbrev aan:=@PySem.Heap.lt_size
abbrev aao:=@List.mem_cons
abbrev aap:=@Int.toNat_natCast
abbrev aaq:=@List.mem_cons_self
abbrev aar:=@List.map_append
abbrev aas:=@List.mem_map
abbrev aat:=@List.size_toArray
abbrev aau:=@Nat.lt_of_lt_of_le
abbrev aav:=@PySem.Heap.get?_push_size
abbrev aaw:=@Nat.testBit_two_pow
abbrev aax:=@List.mem_singleton
abbrev aay:=@List.map_cons
abbrev aaz:=@Nat.ne_of_lt
abbrev aaA:=@List.length_range
abbrev aaB:=@Nat.le_trans
abbrev aaC:=@List.mem_range
abbrev aaD:=@List.filter_cons
abbrev aaE:=@Ne.symm
abbrev aaF:=@Nat.zero_le
abbrev aaG:=@PySem.wpAny_mono
abbrev aaH:=@List.mem_append
abbrev aaI:=@List.length_filter_le
abbrev aaJ:=@Bool.and_eq_true
abbrev aaK:=@List.mem_filter
abbrev aaL:=@PySem.F.plainAttrs_list
abbrev aaM:=@List.take_add_one
abbrev aaN:=@List.getElem?_of_mem
abbrev aaO:=@congrArg
abbrev aaP:=@List.getElem?_append_left
abbrev aaQ:=@Classical.byContradiction
abbrev aaR:=@List.take_length
abbrev aaS:=@List.getElem?_append_right
abbrev aaT:=@PySem.F.slot_list_append
abbrev aaU:=@PySem.F.type_list_append
abbrev aaV:=@PySem.F.plain_min_loop
abbrev aaW:=@PySem.wpAny_holding
abbrev aaX:=@List.nodup_cons
abbrev aaY:=@PySem.Heap.SameBut.update
abbrev aaZ:=@List.length_cons
abbrev aa0:=@Nat.eq_of_testBit_eq
abbrev aa1:=@List.length_singleton
abbrev aa2:=@Nat.xor_lt_two_pow
abbrev aa3:=@List.length_take
abbrev aa4:=@Bool.eq_iff_iff
abbrev aa5:=@Nat.testBit_lt_two_pow
abbrev aa6:=@Nat.le_of_lt
abbrev aa7:=@List.map_map
abbrev aa8:=@PySem.mem_of_lookup
abbrev aa9:=@Nat.xor_assoc
abbrev aba:=@Nat.zero_xor
abbrev abb:=@Bool.xor_false
abbrev abc:=@List.lookup_cons
abbrev abd:=@Nat.le_succ
abbrev abe:=@List.range_succ
abbrev abf:=@Nat.not_lt_zero
abbrev abg:=@Bool.false_eq_true
abbrev abh:=@decide_eq_decide
abbrev abi:=@Nat.exists_testBit_of_ne_zero
abbrev abj:=@Nat.lt_irrefl
abbrev abk:=@Nat.xor_zero
abbrev abl:=@PySem.W.kia_one
abbrev abm:=@List.all_eq_true
abbrev abn:=@PySem.W.mg_none_of
abbrev abo:=@Bool.true_and
abbrev abp:=@Int.zero_add
abbrev abq:=@PySem.Heap.get?_update_other
abbrev abr:=@List.mem_map_of_mem
abbrev abt:=@Nat.two_pow_pos
abbrev abu:=@Nat.ble_eq
abbrev abv:=@List.length_replicate
abbrev abw:=@Nat.ne_of_gt
abbrev abx:=@List.filter_append
abbrev aby:=@PySem.wpAny_tryCatch
abbrev abA:=@PyProof.Rows.boot_tuple
abbrev abB:=@Nat.lt_succ_of_lt
abbrev abC:=@PyProof.Rows.callWith_type1
abbrev abD:=@List.replicate_succ
abbrev abE:=@Nat.xor_self
abbrev abF:=@Int.le_refl
abbrev abG:=@PySem.F.entry_min_loop
abbrev abH:=@Array.getElem?_eq_some_iff
abbrev abI:=@Nat.lt_succ_self
abbrev abJ:=@Nat.zero_testBit
abbrev abK:=@PySem.Heap.get?_update_self
abbrev abL:=@Nat.lt_of_le_of_lt
abbrev abM:=@Bool.false_xor
abbrev abN:=@Nat.pow_le_pow_right
abbrev abO:=@Nat.pow_lt_pow_right
abbrev abP:=@List.pairwise_map
abbrev abQ:=@Array.length_toList
abbrev abR:=@PyProof.Rows.boot_isinstance
abbrev abS:=@Nat.pow_succ
abbrev abT:=@List.append_nil
abbrev abU:=@List.foldl_cons
abbrev abV:=@Array.getElem?_toList
abbrev abW:=@Option.map_some
abbrev abX:=@Nat.mod_two_eq_zero_or_one
abbrev abY:=@List.foldl_append
abbrev abZ:=@PySem.F.slot_dict_keyiterator_next
abbrev ab0:=@Nat.le_add_right
abbrev ab1:=@List.getElem_mem
abbrev ab3:=@List.not_mem_nil
abbrev ab4:=@Nat.testBit_succ
abbrev ab5:=@List.Pairwise.imp_of_mem
abbrev ab6:=@List.getElem?_replicate
abbrev ab7:=@List.eraseIdx_cons_succ
abbrev ab8:=@Int.eq_ofNat_of_zero_le
abbrev ab9:=@List.mem_filterMap
abbrev acd:=@List.length_nil
abbrev ace:=@PySem.Obj.data_mapFields
abbrev acf:=@Nat.and_lt_two_pow
abbrev acg:=@List.find?_cons
abbrev ach:=@List.flatten_cons
abbrev aci:=@Bool.eq_false_iff
abbrev acj:=@Nat.le_of_eq
abbrev ack:=@PySem.Obj.isFreed_of_fields
abbrev acm:=@Bool.and_false
abbrev acn:=@PySem.F.slot_dict_pop
abbrev aco:=@Int.le_of_lt
abbrev acp:=@PyProof.Rows.boot_max
abbrev acq:=@PyProof.Rows.boot_all
abbrev acr:=@PySem.F.excBase_ValueError
abbrev acs:=@List.getElem?_range
abbrev acu:=@Nat.min_eq_left
abbrev acv:=@PySem.F.args_tuple_add_2
abbrev acw:=@Nat.le_total
abbrev acy:=@Nat.sub_self
abbrev acz:=@Nat.testBit_two_pow_self
abbrev acA:=@List.pairwise_cons
abbrev acB:=@PySem.Heap.size_push
abbrev acD:=@List.nodup_nil
abbrev acE:=@PySem.F.entry_tuple_add
abbrev acF:=@Nat.exists_eq_add_of_le
abbrev acH:=@PySem.F.plainAttrs_dict
abbrev acI:=@List.getElem?_set_self
abbrev acJ:=@PySem.F.slot_tuple_add
abbrev acK:=@List.take_of_length_le
abbrev acL:=@PyProof.Rows.bitAnd_pp
abbrev acM:=@List.filter_eq_nil_iff
abbrev acN:=@PyProof.Rows.boot_list
abbrev acO:=@List.any_cons
abbrev acP:=@Bool.and_true
abbrev acR:=@List.getElem_inj
abbrev acS:=@List.length_drop
abbrev acT:=@Nat.succ_ne_self
abbrev acU:=@Nat.max_eq_right
abbrev acV:=@Nat.min_eq_right
abbrev acX:=@PyProof.Rows.slot_int_bit_length
abbrev acY:=@PyProof.Rows.type_int_bit_length
abbrev acZ:=@List.lookup_cons_self
abbrev ac0:=@PySem.F.slot_dict_get
abbrev ac1:=@List.eraseIdxIfInBounds_toArray
abbrev ac2:=@Array.getElem?_setIfInBounds_ne
abbrev ac3:=@List.mem_append_left
abbrev ac4:=@List.getElem?_set_ne
abbrev ac5:=@beq_iff_eq
abbrev ac6:=@Nat.max_eq_left
abbrev ac7:=@List.Pairwise.filter
abbrev ac8:=@List.mem_of_mem_drop
abbrev ac9:=@List.eq_nil_of_length_eq_zero
abbrev ada:=@List.filterMap_cons
abbrev adb:=@PySem.W.plainGet_of
abbrev ade:=@Bool.false_and
abbrev adg:=@PySem.W.callWith_K
abbrev adh:=@decide_eq_true_iff
abbrev adi:=@Bool.xor_self
abbrev adj:=@List.filter_congr
abbrev adk:=@List.nodup_append
abbrev adl:=@List.reverse_cons
abbrev adn:=@List.nodup_range
abbrev ado:=@List.any_eq_true
abbrev adp:=@Nat.xor_comm
abbrev adq:=@Nat.testBit_zero
namespace L2
open PySem PySem.Spec PyProof.Rows
abbrev aW:=@wpAny_bind
abbrev Key:=Sum Int Str
def ux:Key->Value->Bool
 | .inl k,v=>Value.isInt k v
 | .inr x,v=>Value.isStrOf x v
def Xf(w:World):Key->Int
 | .inl k=>hashInt k
 | .inr x=>hashStr w x
def dc:∀{k:Key} {v:Value},ux k v=true->(∃i t,k=Sum.inl i/\v=Value.int i t)\/(∃x t,k=Sum.inr x/\v=Value.str x t)
 | .inl i,v,h=>by
   obtain⟨t,e⟩:=Value.isInt_shape (k:=i) (v:=v) h;exact .inl ⟨i,t,rfl,e⟩
 | .inr x,v,h=>by
   obtain⟨t,e⟩:=Value.isStrOf_shape (x:=x) (v:=v) h;exact .inr ⟨x,t,rfl,e⟩
def G9(i:Int)(t:Tok):ux (.inl i) (.int i t)=true:=by simp[ux,Value.isInt]
def Hf(x:Str)(t:Tok):ux (.inr x) (.str x t)=true:=by simp[ux,Value.isStrOf]
def Qg(a b:Int):decide ((Sum.inl a:Key)=Sum.inl b)=(a==b):=by
 by_cases e:a=b
 ·subst e;simp
 ·have h : ¬(Sum.inl a:Key)=Sum.inl b:=λq=>e (Sum.inl.inj q)
  rw[gz h];exact(beq_eq_false_iff_ne.mpr e).symm
def Qh(a b:Str):decide ((Sum.inr a:Key)=Sum.inr b)=decide (a=b):=by
 by_cases e:a=b
 ·subst e;simp
 ·have h : ¬(Sum.inr a:Key)=Sum.inr b:=λq=>e (Sum.inr.inj q)
  rw[gz h,gz e]
def Qi(a:Int)(b:Str):decide ((Sum.inl a:Key)=Sum.inr b)=false:=gz (λq=>nomatch q)
def Qj(a:Str)(b:Int):decide ((Sum.inr a:Key)=Sum.inl b)=false:=gz (λq=>nomatch q)
def cI(prog:Program)(w:World):PySem.KeyKind prog w Key where
 is:=ux
 hash:=Xf w
 inj:=λv a b ha hb=>by
  rcases dc ha with⟨i,t,rfl,rfl⟩|⟨x,t,rfl,rfl⟩
  ·rcases dc hb with⟨j,u,rfl,e⟩|⟨y,u,rfl,e⟩
   ·injection e with e1 _;rw[e1]
   ·exact nomatch e
  ·rcases dc hb with⟨j,u,rfl,e⟩|⟨y,u,rfl,e⟩
   ·exact nomatch e
   ·injection e with e1 _;rw[e1]
 byValue:=λk v h=>by
  rcases dc h with⟨i,t,rfl,rfl⟩|⟨x,t,rfl,rfl⟩<;>rfl
 pyHash:=λI h=>by
  rcases dc I with⟨i,t,rfl,rfl⟩|⟨x,t,rfl,rfl⟩
  ·exact wpAny_pyHash_int h
  ·exact wpAny_pyHash_str h
 eqBool:=λO I h=>by
  rcases dc O with⟨i,t,rfl,rfl⟩|⟨x,t,rfl,rfl⟩
  ·rcases dc I with⟨j,u,rfl,rfl⟩|⟨y,u,rfl,rfl⟩
   ·rw[Qg]at h;exact wpAny_eqBool_int h
   ·rw[Qi]at h;exact SeqAt.EqAt.int_str i t y u _ _ _ _ h
  ·rcases dc I with⟨j,u,rfl,rfl⟩|⟨y,u,rfl,rfl⟩
   ·rw[Qj]at h;exact SeqAt.EqAt.str_int x t j u _ _ _ _ h
   ·rw[Qh]at h;exact wpAny_eqBool_str h
 «strs»:=λk x t v h=>by
  rcases dc h with⟨i,u,rfl,e⟩|⟨y,u,rfl,e⟩
  ·exact nomatch e
  ·injection e with e1 _
   subst e1;cases v<;>rfl
def BQ(prog:Program)(w:World)(i:Int)(t:Tok):(cI prog w).is (.inl i) (.int i t)=true:=G9 i t
def BR(prog:Program)(w:World)(x:Str)(t:Tok):(cI prog w).is (.inr x) (.str x t)=true:=Hf x t
inductive V where
 | eF | bl (b:Bool) | int (i:Int) | str (x:Str) | JL (b:Array UInt8) | Qk (b:UInt64) | ref (a:Addr) | ty (n:String)
 deriving DecidableEq
def RelV:V->Value->Prop
 | .eF,u=>u=Value.none
 | .bl b,u=>u=Value.bool b
 | .int i,u=>∃t,u=Value.int i t
 | .str x,u=>∃t,u=Value.str x t
 | .JL b,u=>∃t,u=Value.bytes b t
 | .Qk b,u=>∃t,u=Value.float b t
 | .ref a,u=>u=Value.ref a
 | .ty n,u=>u=Value.type n
abbrev Vals:List V->List Value->Prop:=Paired RelV
def Vals.length{xs:List V}{us:List Value}(r:Vals xs us):xs.length=us.length:=Paired.length r
def Vals.get:∀{xs:List V} {us:List Value} {i:Nat} {x:V},Vals xs us->xs[i]?=some x->∃u,us[i]?=some u/\RelV x u
 | _,_,_,_,.nil,e=>by simp at e
 | _,_,0,_,.cons r _,e=>by simp at e;subst e;exact⟨_,rfl,r⟩
 | _,_,i+1,x,.cons _ t,e=>by
   obtain⟨u,h1,h2⟩:=Vals.get (i:=i) (x:=x) t (by simpa using e)
   exact⟨u,by simpa using h1,h2⟩
def Vals.set{x:V}{u:Value}(r:RelV x u):∀{xs:List V} {us:List Value} (i:Nat),Vals xs us->Vals (xs.set i x) (us.set i u)
 | _,_,_,.nil=>.nil
 | _,_,0,.cons _ t=>.cons r t
 | _,_,i+1,.cons q t=>.cons q (Vals.set r i t)
def Vals.append:∀{xs ys:List V} {us ws:List Value},Vals xs us->Vals ys ws->Vals (xs++ys) (us++ws)
 | _,_,_,_,.nil,s=>s
 | _,_,_,_,.cons r t,s=>.cons r (Vals.append t s)
def Vals.take:∀{xs:List V} {us:List Value} (n:Nat),Vals xs us->Vals (xs.take n) (us.take n)
 | _,_,0,_=>.nil
 | _,_,_+1,.nil=>.nil
 | _,_,n+1,.cons r t=>.cons r (Vals.take n t)
def Vals.drop:∀{xs:List V} {us:List Value} (n:Nat),Vals xs us->Vals (xs.drop n) (us.drop n)
 | _,_,0,r=>r
 | _,_,_+1,.nil=>.nil
 | _,_,n+1,.cons _ t=>Vals.drop n t
def lM:Option V->Option Value->Prop
 | some v,some u=>RelV v u
 | none,none=>True
 | _,_=>False
def KV{κ:Type}:List (κ×V)->List (κ×Value)->Prop:=Paired λ(p:κ×V) (q:κ×Value)=>p.1=q.1/\RelV p.2 q.2
def kV:Key->V
 | .inl i=>.int i
 | .inr x=>.str x
inductive HO where
 | lst (xs:List V)
 | tup (xs:List V)
 | dK (kvs:List (Key×V)) | dT (kvs:List (List Key×V))
 | set (S:Int->Bool) (n:Nat)
 | ins (C dx:Addr) (fs:List (Str×V))
 | own (x:Addr)
 | xd (fs:List (Str×V))
 | met (f x:Addr)
 | Hg (lo hi:Int)
 | mG (o:Obj) (u:HO)
 | jj (ps:Array Value)
 | ext (φ:Heap->Prop)
abbrev Hp:=Addr->Option HO
def upd(H:Hp)(a:Addr)(o:HO):Hp:=λb=>if b=a then some o else H b
def ae{H:Hp}{a:Addr}{o:HO}:upd H a o a=some o:=by unfold upd;rw[aad rfl]
def ah{H:Hp}{a b:Addr}{o:HO}(h:b≠a):upd H a o b=H b:=by unfold upd;rw[aab h]
def aP{H:Hp}{a b:Addr}{o u:HO}(h:H a=some o)(h' : H b=some u)(d:o≠u):a≠b:=by
 intro e;subst e;rw[h]at h';exact d (Option.some.inj h')
def aR{H:Hp}{a b:Addr}{o:HO}(h:H a=some o)(h' : H b=none):a≠b:=by
 intro e;subst e;rw[h]at h';cases h'
def Ni(qs:Array Value):Str:=match (qs[0]?:Option Value) with | some (Value.str q _)=>q | _=>""
section
variable (P:Program)(w:World)
def bz(H:Hp)(h:Heap)(a:Addr):HO->Prop
 | .lst xs=>xs.length<=sizeLine/\∃(I:List Value) (n:Nat),Vals xs I/\h.get? a=some { cls:=.type "list",data:=.seq I.toArray n}
 | .tup xs=>xs.length<=sizeLine/\∃I:List Value,Vals xs I/\IsTup h a I.toArray
 | .dK kvs=>kvs.length<=sizeLine/\(a==sysModules)=false/\∃vs,KV kvs vs/\h.DictOf (cI P w) a vs
 | .dT kvs=>kvs.length<=sizeLine/\(a==sysModules)=false/\∃xs:List (List Key×Addr×Value),
  Paired (λ(p:List Key×V) (q:List Key×Addr×Value)=>p.1=q.1/\H q.2.1=some (.tup (p.1.map kV))/\RelV p.2 q.2.2) kvs xs/\
  ∃o es ep,h.get? a=some o/\o.ExactDict/\o.data = .dict es ep/\es.toList=xs.map (entryOfKey (tupleKind (cI P w)))/\(xs.map (·.1)).Nodup
 | .set S n=>h.SetOf (intKind P w) a S n
 | .ins C dx fs=>H dx=some (.own a)/\fs.length<=1000/\dx≠a/\h.get? a=some (PySem.W.instObj C dx)/\
  ∃mA,h.Ns1 dx mA/\(∀f,lM (fs.lookup f) (mA f))/\PySem.Within mA (fs.map (·.1))
 | .own _=>∃o,h.get? a=some o
 | .xd fs=>∃mA,h.Ns1 a mA/\∀f,lM (fs.lookup f) (mA f)
 | .Hg lo hi=>∃t u v,h.get? a=some { cls:=.type "range",data:=.fields #[.int lo t,.int hi u,.int 1 v]}
 | .mG o u=>h.get? a=some o/\bz H h a u
 | .jj qs=>∃ps:Array Value,h.get? a=some { cls:=.none,data:=.fields ps}/\((qs.size=3/\(ps = #[]\/∃c,ps = #[qs.getD 1 .none,qs.getD 2 .none,.ref c]/\H c=some (.own a)/\h.CodeRec (.ref c) (Ni qs)))\/∃q l k,qs = #[q,l,k]++ps/\ps.size=3)
 | .met f x=>h.get? a=some (PySem.W.methodObj (.ref f) (.ref x))
 | .ext φ=>φ h/\(∃o,h.get? a=some o)/\∀h1 h2:Heap,φ h1->(∀o,h1.get? a=some o->h2.get? a=some o)->φ h2
def nF(H:Hp)(h:Heap):Prop:=∀a o,H a=some o->bz P w H h a o
end
section
variable {P:Program}{w:World}{H H' : Hp}{h h' : Heap}{a:Addr}{o:HO}
def bz.lt(x:bz P w H h a o):a<h.objs.size:=by
 cases o with
 | lst xs=>obtain⟨_,_,_,_,e⟩:=x;exact aan e
 | tup xs=>obtain⟨_,_,_,p⟩:=x;exact p.lt
 | dK kvs=>obtain⟨_,_,_,_,o,_,_,e,_⟩:=x;exact aan e
 | dT kvs=>obtain⟨_,_,_,_,o,_,_,e,_⟩:=x;exact aan e
 | set S n=>obtain⟨o,_,_,_,e,_⟩:=x;exact aan e
 | ins C dx fs=>obtain⟨_,_,_,e,_⟩:=x;exact aan e
 | own y=>obtain⟨_,e⟩:=x;exact aan e
 | xd fs=>obtain⟨_,⟨_,_,_,e,_⟩,_⟩:=x;exact aan e
 | Hg lo hi=>obtain⟨_,_,_,e⟩:=x;exact aan e
 | mG ob u=>obtain⟨e,_⟩:=x;exact aan e
 | jj ps=>obtain⟨_,e,_⟩:=x;exact aan e
 | met f y=>exact aan (show h.get? a=some _ from x)
 | ext φ=>obtain⟨_,⟨_,e⟩,_⟩:=x;exact aan e
def Paired.Ah{α β:Type}{F G:α->β->Prop}:∀{I:List α} {O:List β},Paired F I O->(∀a b,F a b->G a b)->Paired G I O
 | _,_,.nil,_=>.nil
 | _,_,.cons r t,f=>.cons (f _ _ r) (Paired.Ah t f)
def Paired.imp'{α β:Type}{F G:α->β->Prop}(f:∀a b,F a b->G a b){l₁:List α}{l₂:List β}(r:Paired F l₁ l₂):Paired G l₁ l₂:=Paired.Ah r f
def bz.stay(x:bz P w H h a o)(k:∀b u,(b=a\/H b=some (.own a))->h.get? b=some u->h'.get? b=some u)
 (ho:∀b,H b=some (.own a)->H' b=some (.own a)) (ht:∀b xs,H b=some (.tup xs)->H' b=some (.tup xs)):bz P w H' h' a o:=by
 induction o with
 | lst xs=>obtain⟨z,I,n,r,e⟩:=x;exact⟨z,I,n,r,k _ _ (.inl rfl) e⟩
 | tup xs=>obtain⟨z,I,r,ob,e,c⟩:=x;exact⟨z,I,r,ob,k _ _ (.inl rfl) e,c⟩
 | dK kvs=>obtain⟨z,y,vs,r,ob,es,ep,e,c⟩:=x;exact⟨z,y,vs,r,ob,es,ep,k _ _ (.inl rfl) e,c⟩
 | dT kvs =>
   obtain⟨z,y,xs,r,ob,es,ep,e,c⟩:=x;exact⟨z,y,xs,Paired.Ah r λp q z=>⟨z.1,ht _ _ z.2.1,z.2.2⟩,ob,es,ep,k _ _ (.inl rfl) e,c⟩
 | set S n=>obtain⟨ob,es,ep,t,e,c⟩:=x;exact⟨ob,es,ep,t,k _ _ (.inl rfl) e,c⟩
 | ins C dx fs =>
   obtain⟨d,z,ne,e,mA,⟨od,es,ep,O,c⟩,r⟩:=x;exact⟨ho _ d,z,ne,k _ _ (.inl rfl) e,mA,⟨od,es,ep,k _ _ (.inr d) O,c⟩,r⟩
 | own y=>obtain⟨ob,e⟩:=x;exact⟨ob,k _ _ (.inl rfl) e⟩
 | xd fs=>obtain⟨mA,⟨od,es,ep,e,c⟩,r⟩:=x;exact⟨mA,⟨od,es,ep,k _ _ (.inl rfl) e,c⟩,r⟩
 | Hg lo hi=>obtain⟨t,u,v,e⟩:=x;exact⟨t,u,v,k _ _ (.inl rfl) e⟩
 | mG ob u ih=>obtain⟨e,q⟩:=x;exact⟨k _ _ (.inl rfl) e,ih q⟩
 | jj qs =>
   obtain⟨ps,e,f⟩:=x;refine⟨ps,k _ _ (.inl rfl) e,?_⟩;rcases f with⟨hz,f|⟨c,e1,O,c',oc,vs,tq,hc,ho',hd,hv⟩⟩|f
   ·exact .inl ⟨hz,.inl f⟩
   ·cases hc;exact .inl ⟨hz,.inr ⟨c,e1,ho _ O,c,oc,vs,tq,rfl,k _ _ (.inr O) ho',hd,hv⟩⟩
   ·exact .inr f
 | met f y =>
   have e:h.get? a=some (PySem.W.methodObj (.ref f) (.ref y)):=x;show h'.get? a=some (PySem.W.methodObj (.ref f) (.ref y));exact k a _ (.inl rfl) e
 | ext φ=>obtain⟨p,⟨o,e⟩,st⟩:=x;exact⟨st _ _ p λo q=>k _ _ (.inl rfl) q,⟨o,k _ _ (.inl rfl) e⟩,st⟩
def nF.lt(x:nF P w H h)(e:H a=some o):a<h.objs.size:=(x a o e).lt
def nF.fresh(x:nF P w H h)(e:h.objs.size<=a):H a=none:=by
 cases q:H a with
 | none=>rfl
 | some u=>exact absurd (aau (x.lt q) e) (abj _)
def nF.kept(x:nF P w H h)(k:∀b u,h.get? b=some u->h'.get? b=some u):nF P w H h':=λa o e =>
 (x a o e).stay (λb u _ q=>k b u q) (λ_ q=>q) λ_ _ q=>q
def nF.laid(x:nF P w H h)(k:∀b u,h.get? b=some u->h'.get? b=some u)(hp:h.objs.size<=a)(new:bz P w (upd H a o) h' a o):nF P w (upd H a o) h':=λb u e=>by
 have hn:=x.fresh hp
 by_cases hb:b=a
 ·subst hb;rw[ae]at e;cases e;exact new
 ·rw[ah hb]at e;exact(x b u e).stay (λc v _ q=>k c v q) (λc q=>by rw[ah (aR q hn)];exact q) λc xs q=>by rw[ah (aR q hn)];exact q
end
def Rd(H:Hp)(a:Addr)(u:HO):Prop:=H a=some u\/∃o,H a=some (.mG o u)
def Rd.ok{P:Program}{w:World}{H:Hp}{h:Heap}{a:Addr}{u:HO}(r:Rd H a u)(x:nF P w H h):bz P w H h a u:=by
 rcases r with r|⟨o,r⟩
 ·exact x a u r
 ·obtain⟨_,q⟩:=x a _ r;exact q
def Tf:Option HO->Prop
 | some (.lst _)=>True
 | some (.dK _)=>True
 | some (.dT _)=>True
 | some (.set _ _)=>True
 | some (.ins _ _ _)=>True
 | some (.ext _)=>True
 | _=>False
section
variable {P:Program}{w:World}{H:Hp}{h h' : Heap}{x e:Addr}{o' : HO}
def nF.write(ok:nF P w H h)(mu:Tf (H x))(he:e=x\/H e=some (.own x))(k:∀b u,b≠e->h.get? b=some u->h'.get? b=some u)(Sn:∃u,h'.get? e=some u)
 (new:bz P w (upd H x o') h' x o'):nF P w (upd H x o') h':=λb u q=>by
 have O:∀c y,H c=some (.own y)->c≠x:=λc y r z=>by subst z;rw[r]at mu;exact mu
 have U:∀c xs,H c=some (.tup xs)->c≠x:=λc xs r z=>by subst z;rw[r]at mu;exact mu
 by_cases hb:b=x
 ·subst hb;rw[ae]at q;cases q;exact new
 ·rw[ah hb]at q
  by_cases I:b=e
  ·have q' : H b=some (.own x):=by
    rcases he with z|z
    ·exact absurd (I.trans z) hb
    ·rw[I];exact z
   rw[q]at q';cases q';obtain⟨v,Y⟩:=Sn;exact⟨v,by rw[I];exact Y⟩
  ·refine(ok b u q).stay (λc v hc r=>k c v ?_ r) (λc r=>by rw[ah (O c b r)];exact r) λc xs r=>by rw[ah (U c xs r)];exact r
   rcases hc with rfl|hc
   ·exact I
   ·rintro rfl;rcases he with z|z
    ·exact O c b hc z
    ·rw[hc]at z;cases z;exact hb rfl
end
structure Un(fs ex:List Addr)(H H' : Hp)(h h' : Heap):Prop where
 keep:∀b o,h.get? b=some o->H b=none->b∉fs->b∉ex->h'.get? b=some o
 slot:∀b o,h.get? b=some o->H b=none->b∈fs->b∉ex->∃sl,h'.get? b=some { o with slots:=sl}
 free:∀b o,h.get? b=some o->H b=none->b∉ex->H' b=none
 there:∀b o,h.get? b=some o->b∉ex->∃o',h'.get? b=some o'
 tups:∀b xs,H b=some (.tup xs)->H' b=some (.tup xs)
 mH:∀b o u,H b=some (.mG o u)->H' b=some (.mG o u)
 nG:∀b ps,H b=some (.jj ps)->∃more,H' b=some (.jj (ps++more))
section
variable {fs fs' ex ex' : List Addr}{H H1 H2:Hp}{h h1 h2 h' : Heap}{a x e:Addr}{o:HO}
def Un.any(u:Un fs ex H H1 h h1){b:Addr}{ob:Obj}(q:h.get? b=some ob)(n:H b=none)(hx:b∉ex):∃sl,h1.get? b=some { ob with slots:=sl}:=by
 by_cases hb:b∈fs
 ·exact u.slot b ob q n hb hx
 ·exact⟨ob.slots,u.keep b ob q n hb hx⟩
def Un.kept(k:∀b u,h.get? b=some u->h'.get? b=some u):Un fs ex H H h h' :=
 ⟨λb ob q _ _ _=>k b ob q,λb ob q _ _ _=>⟨ob.slots,k b ob q⟩,λ_ _ _ n _=>n,λb ob q _=>⟨ob,k b ob q⟩,λ_ _ q=>q,λ_ _ _ q=>q,λ_ ps q=>⟨#[],by rw[q];simp⟩⟩
def Un.refl:Un fs ex H H h h:=Un.kept λ_ _ q=>q
def Un.laid(k:∀b u,h.get? b=some u->h'.get? b=some u)(hp:h.objs.size<=a)(hn:H a=none):Un fs ex H (upd H a o) h h' where
 keep:=λb u q _ _ _=>k b u q
 slot:=λb u q _ _ _=>⟨u.slots,k b u q⟩
 free:=λb u q n _=>by rw[ah (aaz (aau (aan q) hp))];exact n
 there:=λb u q _=>⟨u,k b u q⟩
 tups:=λb xs q=>by rw[ah (aR q hn)];exact q
 mH:=λb u xs q=>by rw[ah (aR q hn)];exact q
 nG:=λb ps q=>⟨#[],by rw[ah (aR q hn),q];simp⟩
def Un.write(mu:Tf (H x))(he:e=x\/H e=some (.own x))(k:∀b u,b≠e->h.get? b=some u->h'.get? b=some u)(Sn:∃u,h'.get? e=some u):Un fs ex H (upd H x o) h h':=by
 have hx:∀b,H b=none->b≠x:=λb n z=>by subst z;rw[n]at mu;exact mu
 have hb:∀b,H b=none->b≠e:=λb n z=>by
  subst z;rcases he with r|r
  ·exact hx b n r
  ·rw[n]at r;cases r
 have hm:∀b u,H b=some u->¬ Tf (some u)->b≠x:=λb u q nm z=>by subst z;rw[q]at mu;exact nm mu
 refine⟨λb u q n _ _=>k b u (hb b n) q,λb u q n _ _=>⟨u.slots,k b u (hb b n) q⟩,λb u q n _=>by rw[ah (hx b n)];exact n,λb u q _=>?_,
  λb xs q=>by rw[ah (hm b _ q λz=>z)];exact q,λb u xs q=>by rw[ah (hm b _ q λz=>z)];exact q,λb ps q=>⟨#[],by rw[ah (hm b _ q λz=>z),q];simp⟩⟩
 by_cases I:b=e
 ·subst I;exact Sn
 ·exact⟨u,k b u I q⟩
end
def So(h:Heap)(H:Hp):List Addr:=(List.range h.objs.size).filter λa=>(H a).isSome
def BS(h:Heap)(H:Hp):Heap:=PySem.W.hideAll h (So h H)
def Hh(h:Heap)(H:Hp):(BS h H).objs.size=h.objs.size:=PySem.W.hideAll_size _ _
def vJ{h:Heap}{H:Hp}{b:Addr}{o:Obj}(e:h.get? b=some o)(n:H b=none):(BS h H).get? b=some o :=
 PySem.W.hideAll_get _ e λhm=>by
  have q:(H b).isSome=true:=(aaK.mp hm).2;rw[n]at q;simp at q
def Nj{h:Heap}{H:Hp}{b:Addr}{o:Obj}(e:(BS h H).get? b=some o):h.get? b=some o/\H b=none:=by
 have e' : h.get? b=some o:=PySem.W.of_hideAll (So h H) e;refine⟨e',?_⟩;cases q:H b with
 | none=>rfl
 | some x =>
   have hm:b∈So h H:=aaK.mpr ⟨aaC.mpr (aan e'),by simp[q]⟩
   have z:(BS h H).get? b=none:=PySem.W.hideAll_none (So h H) hm;rw[z]at e;cases e
structure Mod(K:bE)(mg:nE)(base:Heap):Prop where
 Sq:K.In base
 glob:base.Ns mainGlobals mg
 blt:∃mb,base.Ns builtinsNs mb/\∀x:Str,x≠"__name__"->mb x=bootBuiltins x
 nolimit:base.NoLimit
 bmain:∃bm ob,mg "__builtins__"=some (.ref bm)/\bm≠builtinsNs/\base.get? bm=some ob/\ob.cls = .type "module"/\ob.dict=some builtinsNs/\ob.data = .plain
structure Cx where
 prog:Program
 w:World
 K:bE
 mg:Str->Option Value
 base:Heap
 A:Around
 N:List Str
 s₀:Shared
 H₀:Hp
 env:Env
 outer:List Env
 stack:List Env
 ex:List Addr
 fn:Str->Bool
 calm:Bool
 pn:aX
 xe:Value->Shared->Prop
def frs(l:List Env):List Addr:=l.filterMap (·.frame)
abbrev Cx.fs(X:Cx):List Addr:=frs X.outer
def V6(sc:Scope)(x:Str):Prop:=sc.names.lookup x=some .local\/sc.names.lookup x=some .cell\/sc.names.lookup x=some .free
def Loc(sc:Scope)(x:Str):Prop:=sc.names.lookup x=some .local\/sc.names.lookup x=some .cell
def Look(env:Env)(h:Heap)(m:nE)(x:Str)(u:Value):Prop :=
 (env.kindOf x=some .local/\m x=some u)\/((env.kindOf x=some .cell\/env.kindOf x=some .free)/\∃c,env.cells.lookup x=some c/\h.IsCell c (some u))
structure Cx.Ok(X:Cx):Prop where
 mod:Mod X.K X.mg X.base
 kind:X.env.scope.kind = .function
 glob:X.env.globals=mainGlobals
 blt:X.env.builtins=builtinsNs
 above:X.s₀.heap.objs.size<=X.env.locals
 inj:∀x y c,X.env.cells.lookup x=some c->X.env.cells.lookup y=some c->x=y
 has:∀x,(X.env.kindOf x=some .cell\/X.env.kindOf x=some .free)->∃c,X.env.cells.lookup x=some c
 Ss:∀x c,X.fn x=true->X.env.cells.lookup x=some c->X.s₀.heap.objs.size<=c
 hd:X.calm=true->X.A.handled=none
 frames:X.A.frames=some X.stack
 M0:X.stack=X.outer\/(X.stack=X.env::X.outer/\X.env.frame=some X.env.locals)
 Xh:∀b∈X.ex,b≠X.env.locals/\∀x c,X.env.cells.lookup x=some c->c≠b
 bs:∀b o,X.base.get? b=some o->X.s₀.heap.get? b=some o/\X.H₀ b=none
 M3:X.base.objs.size<=X.s₀.heap.objs.size
 Hi:∀b o,X.base.get? b=some o->b∉X.ex
 JV:∀b∈X.ex,b∉X.fs
 funs:X.s₀.heap.FunFrames X.base X.outer
 Nk:∀b∈X.fs,X.H₀ b=none
structure Inv(X:Cx)(pq:aX)(σ:List (Option V))(H:Hp)(s:Shared):Prop where
 ok:X.Ok
 os:s.os=X.s₀.os
 bare:AllBare s.gens
 base:Un X.fs X.ex X.H₀ H X.s₀.heap s.heap
 loc:∃m,s.heap.Ns X.env.locals m/\∀(i:Nat) (x:Str) (v:V),X.N[i]?=some x->σ[i]?=some (some v)->V6 X.env.scope x->∃u,RelV v u/\Look X.env s.heap m x u
 cell:∀x c,X.env.cells.lookup x=some c->∃v,s.heap.IsCell c v
 free:H X.env.locals=none
 fO:∀x c,X.env.cells.lookup x=some c->H c=none
 pin:∀p∈X.pn++pq,s.heap.get? p.1=some p.2/\H p.1=none/\p.1≠X.env.locals/\p.1∉X.fs/\∀v,p.2.data≠.cell v
 hok:nF X.prog X.w H s.heap
 len:σ.length=X.N.length
section
variable {X:Cx}{pq:aX}{σ:List (Option V)}{H H' : Hp}{s:Shared}{h' : Heap}
def Cx.Ok.Xi(ok:X.Ok){b:Addr}{o:Obj}(e:X.base.get? b=some o):b∉X.fs:=λhb=>by
 have:=(ok.funs.mem hb).1;rw[e]at this;cases this
def Inv.bs(I:Inv X pq σ H s):∀b o,X.base.get? b=some o->s.heap.get? b=some o/\H b=none:=λb o e =>
 ⟨I.base.keep b o (I.ok.bs b o e).1 (I.ok.bs b o e).2 (I.ok.Xi e) (I.ok.Hi b o e),I.base.free b o (I.ok.bs b o e).1 (I.ok.bs b o e).2 (I.ok.Hi b o e)⟩
def Inv.bk(I:Inv X pq σ H s):∀b o,X.base.get? b=some o->s.heap.get? b=some o:=λb o e=>(I.bs b o e).1
def Inv.mod(I:Inv X pq σ H s):Mod X.K X.mg X.base:=I.ok.mod
def Inv.uy(I:Inv X pq σ H s):X.K.In s.heap:=I.ok.mod.Sq.keeps I.bk
def Inv.nolimit(I:Inv X pq σ H s):s.heap.NoLimit:=I.ok.mod.nolimit.keeps I.bk
def Inv.lt(I:Inv X pq σ H s):X.env.locals<s.heap.objs.size:=let⟨_,hn,_⟩:=I.loc;hn.lt
def Inv.sz(I:Inv X pq σ H s):X.s₀.heap.objs.size<=s.heap.objs.size:=aaB I.ok.above (aa6 I.lt)
def Inv.Th(I:Inv X pq σ H s){a:Addr}(h:s.heap.objs.size<=a):a∉X.fs:=λhb=>by
 obtain⟨_,o,O,_⟩:=I.ok.funs.mem hb;exact absurd (aau (aan O) (aaB I.sz h)) (abj _)
def Inv.Qm(I:Inv X pq σ H s):∀x c,X.env.cells.lookup x=some c->c≠X.env.locals:=λx c e z=>by
 obtain⟨v,o,O,hd⟩:=I.cell x c e;obtain⟨m,⟨o',es,ep,ho',hd',_⟩,_⟩:=I.loc;rw[z,ho']at O;cases O;rw[hd']at hd;cases hd
def Inv.funs(I:Inv X pq σ H s):s.heap.FunFrames X.base X.outer:=by
 have all:∀(l:List Env),(∀b∈frs l,b∈X.fs)->X.s₀.heap.FunFrames X.base l->s.heap.FunFrames X.base l:=by
  intro l
  induction l with
  | nil=>intro _ _;trivial
  | cons env r U =>
    intro hs Y;obtain⟨hk,⟨L,o,hf,hn,Z,hd⟩,hr⟩:=Y;have O:L∈X.fs:=hs L (by unfold frs;rw[ada,hf];exact aaq)
    obtain⟨sl,e⟩:=I.base.slot L o Z (I.ok.Nk L O) O λz=>I.ok.JV L z O
    exact⟨hk,⟨L,_,hf,hn,e,hd⟩,U (λb hb=>hs b (by unfold frs;rw[ada,hf];exact pP _ hb)) hr⟩
 exact all X.outer (λ_ hb=>hb) I.ok.funs
def Inv.stack(I:Inv X pq σ H s):s.heap.FunFrames X.base X.stack:=by
 rcases I.ok.M0 with e|⟨e,hf⟩
 ·rw[e];exact I.funs
 ·rw[e];obtain⟨m,hn,_⟩:=I.loc;refine .cons (by rw[I.ok.kind];decide) hf hn ?_ I.funs
  exact Heap.get?_none_of_le (aaB I.ok.M3 I.ok.above)
def Inv.vK(I:Inv X pq σ H s):∀b∈frs X.stack,b∈X.env.locals::X.fs:=λb hb=>by
 rcases I.ok.M0 with e|⟨e,hf⟩
 ·rw[e]at hb;exact pP _ hb
 ·rw[e]at hb;unfold frs at hb;rw[ada,hf]at hb;exact hb
def Inv.Ai(I:Inv X pq σ H s):∀b∈frs X.stack,H b=none:=λb hb=>by
 rcases aao.mp (I.vK b hb) with e|hb
 ·rw[e];exact I.free
 ·obtain⟨_,o,O,_⟩:=I.ok.funs.mem hb;exact I.base.free b o O (I.ok.Nk b hb) λz=>I.ok.JV b z hb
def Inv.step{g' : Array GenState}{t' : Nat}{d' : Drawn}{ch:List Addr}(I:Inv X pq σ H s)
 (hch:∀b∈ch,(b∈X.ex\/X.s₀.heap.objs.size<=b)/\b≠X.env.locals/\(∀x c,X.env.cells.lookup x=some c->c≠b)/\∀p∈X.pn++pq,p.1≠b)
 (keep:∀b o,b≠X.env.locals->b∉X.fs->b∉ch->s.heap.get? b=some o->H b=none->h'.get? b=some o)
 (slot:∀b o,b≠X.env.locals->b∈X.fs->b∉ch->s.heap.get? b=some o->H b=none->∃sl,h'.get? b=some { o with slots:=sl}) (free:∀b o,b∉ch->s.heap.get? b=some o->H b=none->H' b=none)
 (there:∀b o,b∉ch->s.heap.get? b=some o->∃o',h'.get? b=some o')
 (tups:∀b xs,H b=some (.tup xs)->H' b=some (.tup xs)) (mH:∀b o u,H b=some (.mG o u)->H' b=some (.mG o u)) (nG:∀b ps,H b=some (.jj ps)->∃more,H' b=some (.jj (ps++more)))
 (ns:∀m,s.heap.Ns X.env.locals m->h'.Ns X.env.locals m) (hok:nF X.prog X.w H' h') (hg:AllBare g') :
 Inv X pq σ H' { s with heap:=h',gens:=g',drawn:=d',toks:=t'}:=by
 have Zh:∀b o,X.s₀.heap.get? b=some o->b≠X.env.locals:=λb o e=>aaz (aau (aan e) I.ok.above)
 have V7:∀b o,X.s₀.heap.get? b=some o->b∉X.ex->b∉ch:=λb o e hx hb=>by
  rcases(hch b hb).1 with z|z
  ·exact hx z
  ·exact absurd (aau (aan e) z) (abj _)
 have cellK:∀x c,X.env.cells.lookup x=some c->∀v,s.heap.IsCell c v->h'.IsCell c v:=λx c e v ⟨o,U,hd⟩=>by
  have Y:c∉ch:=λz=>(hch c z).2.2.1 x c e rfl
  by_cases hc:c∈X.fs
  ·obtain⟨sl,q⟩:=slot c o (I.Qm x c e) hc Y U (I.fO x c e);exact⟨_,q,hd⟩
  ·exact⟨o,keep c o (I.Qm x c e) hc Y U (I.fO x c e),hd⟩
 refine⟨I.ok,I.os,hg,⟨λb o e n hb hx=>?_,λb o e n hb hx=>?_,λb o e n hx=>?_,λb o e hx=>?_,λb xs e=>tups b xs (I.base.tups b xs e),λb o xs e=>mH b o xs (I.base.mH b o xs e),λb ps e=>?_⟩,?_,λx c e=>?_,?_,λx c e=>?_,λp hp=>?_,hok,I.len⟩
 ·exact keep b o (Zh b o e) hb (V7 b o e hx) (I.base.keep b o e n hb hx) (I.base.free b o e n hx)
 ·obtain⟨sl,O⟩:=I.base.slot b o e n hb hx;obtain⟨V8,Z⟩:=slot b _ (Zh b o e) hb (V7 b o e hx) O (I.base.free b o e n hx);exact⟨V8,Z⟩
 ·obtain⟨o',O⟩:=I.base.there b o e hx;exact free b o' (V7 b o e hx) O (I.base.free b o e n hx)
 ·obtain⟨o',O⟩:=I.base.there b o e hx;exact there b o' (V7 b o e hx) O
 ·obtain⟨m1,O⟩:=I.base.nG b ps e;obtain⟨m2,Z⟩:=nG b _ O;exact⟨m1++m2,by rw[Z,Array.append_assoc]⟩
 ·obtain⟨m,hn,hl⟩:=I.loc;refine⟨m,ns m hn,λi x v O Z e3=>?_⟩
  obtain⟨u,r,l⟩:=hl i x v O Z e3;refine⟨u,r,?_⟩;rcases l with l|⟨k,c,e,z⟩
  ·exact .inl l
  ·exact .inr ⟨k,c,e,cellK x c e _ z⟩
 ·obtain⟨v,z⟩:=I.cell x c e;exact⟨v,cellK x c e v z⟩
 ·obtain⟨m,⟨o,_,_,U,_⟩,_⟩:=I.loc;exact free _ o (λz=>(hch _ z).2.1 rfl) U I.free
 ·obtain⟨v,o,U,hd⟩:=I.cell x c e;exact free c o (λz=>(hch c z).2.2.1 x c e rfl) U (I.fO x c e)
 ·obtain⟨e,n,ne,nf,d⟩:=I.pin p hp;have Y:p.1∉ch:=λz=>(hch p.1 z).2.2.2 p hp rfl
  exact⟨keep p.1 p.2 ne nf Y e n,free p.1 p.2 Y e n,ne,nf,d⟩
def Inv.un{t' : Nat}(I:Inv X pq σ H s)(u:Un X.fs [] H H' s.heap h')(hok:nF X.prog X.w H' h'):Inv X pq σ H' { s with heap:=h',toks:=t'}:=by
 obtain⟨m,⟨o,es,ep,Y,r⟩,_⟩:=id I.loc;obtain⟨sl,hL⟩:=u.any Y I.free (by simp)
 exact I.step (g':=s.gens) (d':=s.drawn) (ch:=[]) (λ_ z=>nomatch z) (λb o _ hb _ e n=>u.keep b o e n hb (by simp)) (λb o _ hb _ e n=>u.slot b o e n hb (by simp)) (λb o _ e n=>u.free b o e n (by simp)) (λb o _ e=>u.there b o e (by simp)) u.tups u.mH u.nG (λm' hm=>by
  obtain⟨o',U,Z,O,r'⟩:=hm;rw[Y]at O;cases O;exact⟨_,U,Z,hL,r'⟩) hok I.bare
def Inv.call{g' : Array GenState}{t' : Nat}{d' : Drawn}{ch:List Addr}(I:Inv X pq σ H s)(u:Un (frs X.stack) ch H H' s.heap h')(hok:nF X.prog X.w H' h')(hg:AllBare g')
 (hch:∀b∈ch,(b∈X.ex\/X.s₀.heap.objs.size<=b)/\b≠X.env.locals/\(∀x c,X.env.cells.lookup x=some c->c≠b)/\∀p∈X.pn++pq,p.1≠b) :
 Inv X pq σ H' { s with heap:=h',gens:=g',drawn:=d',toks:=t'}:=by
 obtain⟨m,⟨o,es,ep,Z,r⟩,_⟩:=id I.loc;obtain⟨sl,U⟩:=u.any Z I.free λz=>(hch _ z).2.1 rfl
 exact I.step (ch:=ch) hch (λb o U hb hc e n=>u.keep b o e n (λz=>(aao.mp (I.vK b z)).elim U hb) hc) (λb o _ _ hc e n=>u.any e n hc) (λb o hc e n=>u.free b o e n hc) (λb o hc e=>u.there b o e hc) u.tups u.mH u.nG (λm' hm=>by
  obtain⟨o',Y,Hj,O,r'⟩:=hm;rw[Z]at O;cases O;exact⟨_,Y,Hj,U,r'⟩) hok hg
def Inv.turned{t' : Nat}{it:Addr}(I:Inv X pq σ H s)(k:∀b o,b≠it->s.heap.get? b=some o->h'.get? b=some o)(hn:H it=none)(hL:it≠X.env.locals)
 (h1:it∈X.ex\/X.s₀.heap.objs.size<=it) (h2:∀x c,X.env.cells.lookup x=some c->c≠it) (h3:∀p∈X.pn++pq,p.1≠it):Inv X pq σ H { s with heap:=h',toks:=t'}:=by
 have O:∀b u,H b=some u->b≠it:=λb u e z=>by rw[z,hn]at e;cases e
 refine I.step (g':=s.gens) (d':=s.drawn) (ch:=[it]) (λb hb=>?_) (λb o _ _ hc e _=>k b o (λz=>hc (by simp[z])) e) (λb o _ _ hc e _=>⟨o.slots,k b o (λz=>hc (by simp[z])) e⟩) (λ_ _ _ _ n=>n)
  (λb o hc e=>⟨o,k b o (λz=>hc (by simp[z])) e⟩) (λ_ _ e=>e) (λ_ _ _ e=>e) (λb ps e=>⟨#[],by rw[e];simp⟩) (λm hm=>?_) (λb u e=>?_) I.bare
 ·have e:b=it:=by simpa using hb
  subst e;exact⟨h1,hL,h2,h3⟩
 ·obtain⟨o,es,ep,U,r⟩:=hm;exact⟨o,es,ep,k _ o (aaE hL) U,r⟩
 ·refine(I.hok b u e).stay (λc v hc q=>k c v ?_ q) (λ_ q=>q) λ_ _ q=>q
  rcases hc with z|z
  ·rw[z];exact O b u e
  ·exact O c _ z
def Inv.tok(I:Inv X pq σ H s)(t:Nat):Inv X pq σ H { s with toks:=t}:=I.un (h':=s.heap) (t':=t) Un.refl I.hok
def Inv.kept{t' : Nat}(I:Inv X pq σ H s)(k:∀b u,s.heap.get? b=some u->h'.get? b=some u):Inv X pq σ H { s with heap:=h',toks:=t'}:=I.un (Un.kept k) (I.hok.kept k)
def Inv.laid{a:Addr}{o:HO}{t' : Nat}(I:Inv X pq σ H s)(k:∀b u,s.heap.get? b=some u->h'.get? b=some u)(hp:s.heap.objs.size<=a)(new:bz X.prog X.w (upd H a o) h' a o):
 Inv X pq σ (upd H a o) { s with heap:=h',toks:=t'}:=I.un (Un.laid k hp (I.hok.fresh hp)) (I.hok.laid k hp new)
def Inv.write{x e:Addr}{o:HO}{t' : Nat}(I:Inv X pq σ H s)(mu:Tf (H x))(he:e=x\/H e=some (.own x))(k:∀b u,b≠e->s.heap.get? b=some u->h'.get? b=some u)(Sn:∃u,h'.get? e=some u)
 (new:bz X.prog X.w (upd H x o) h' x o):Inv X pq σ (upd H x o) { s with heap:=h',toks:=t'}:=I.un (Un.write mu he k Sn) (I.hok.write mu he k Sn new)
def Inv.weak{σ' : List (Option V)}(I:Inv X pq σ H s)(hl:σ'.length=σ.length)(w:∀(i:Nat) v,σ'[i]?=some (some v)->σ[i]?=some (some v)):Inv X pq σ' H s :=
 ⟨I.ok,I.os,I.bare,I.base,let⟨m,hn,hl'⟩:=I.loc;⟨m,hn,λi x v O U Y=>hl' i x v O (w i v U) Y⟩,I.cell,I.free,I.fO,I.pin,I.hok,hl.trans I.len⟩
def Inv.gZ{Qn:aX}(I:Inv X pq σ H s)(h:∀p∈Qn,s.heap.get? p.1=some p.2/\H p.1=none/\p.1≠X.env.locals/\p.1∉X.fs/\∀v,p.2.data≠.cell v):Inv X Qn σ H s :=
 ⟨I.ok,I.os,I.bare,I.base,I.loc,I.cell,I.free,I.fO,λp O=>(aaH.mp O).elim (λz=>I.pin p (ac3 _ z)) (h p),I.hok,I.len⟩
def BU{N:List Str}(hN:N.Nodup){i j:Nat}{x:Str}(a:N[i]?=some x)(b:N[j]?=some x):i=j:=by
 obtain⟨h1,I⟩:=kL.mp a;obtain⟨h2,e2⟩:=kL.mp b;exact(acR hN).mp (I.trans e2.symm)
def Hl{M:Model}{A:Around}{E:dD}{i:Nat}{x:Str}{v:V}{u:Value}{Q:Unit->Shared->Prop}(I:Inv X pq σ H s)(hN:X.N.Nodup)(hi:X.N[i]?=some x)(hx:Loc X.env.scope x)(r:RelV v u)
 (h:∀s',Inv X pq (σ.set i (some v)) H s'->(∃a,Heap.SameBut a s.heap s'.heap/\(a=X.env.locals\/X.env.cells.lookup x=some a))->Q () s') (hf:X.fn x=true\/X.env.scope.names.lookup x=some .local:=by first | exact .inl rfl | exact .inr rfl | assumption):wpAny M A (storeName X.env x u) Q E s:=by
 obtain⟨m,hn,hl⟩:=id I.loc;have ab:(X.env.scope.kind == .class || (X.env.scope.kind == .module&&X.env.locals != X.env.globals))=false:=by rw[I.ok.kind];rfl
 have Zj:i<σ.length:=by rw[I.len];exact(kL.mp hi).1
 have Qm:=I.Qm;have tracked:∀{a:Addr} {h' : Heap},(∃o,s.heap.get? a=some o/\H a=none)->Heap.SameBut a s.heap h'->nF X.prog X.w H h':=λ{a h'} ha hs b ob e=>by
  obtain⟨_,_,U⟩:=ha;refine(I.hok b ob e).stay (λc w' hc q=>(hs.2 c ?_).trans q) (λ_ q=>q) λ_ _ q=>q
  rintro rfl;rcases hc with rfl|hc
  ·rw[U]at e;cases e
  ·rw[U]at hc;cases hc
 rcases hx with hk|hk
 ·refine wpAny_storeName_local hk hn (λh' ax hs=>?_) ab
  obtain⟨oL,_,_,Ho,_⟩:=id hn;refine h _ ⟨I.ok,I.os,I.bare,⟨λb o e n hb hx=>?_,λb o e n hb hx=>?_,I.base.free,λb o e hx=>?_,I.base.tups,I.base.mH,I.base.nG⟩,⟨_,ax,λj y v' O Y e3=>?_⟩,λy c e=>?_,I.free,I.fO,λp hp=>?_,tracked ⟨oL,Ho,I.free⟩ hs,by simpa using I.len⟩ ⟨_,hs,.inl rfl⟩
  ·exact(hs.2 b (aaz (aau (aan e) I.ok.above))).trans (I.base.keep b o e n hb hx)
  ·obtain⟨sl,O⟩:=I.base.slot b o e n hb hx;exact⟨sl,(hs.2 b (aaz (aau (aan e) I.ok.above))).trans O⟩
  ·obtain⟨o',O⟩:=I.base.there b o e hx;exact⟨o',(hs.2 b (aaz (aau (aan e) I.ok.above))).trans O⟩
  ·by_cases hj:j=i
   ·subst hj;rw[hi]at O;cases O;rw[acI Zj]at Y;cases Y;exact⟨u,r,.inl ⟨hk,by simp⟩⟩
   ·rw[ac4 (aaE hj)]at Y;obtain⟨u',r',q⟩:=hl j y v' O Y e3;refine⟨u',r',?_⟩;rcases q with⟨k,e⟩|⟨k,c,e,z⟩
    ·refine .inl ⟨k,?_⟩;have:y≠x:=λe=>hj (BU hN O (e▸hi))
     simp[this,e]
    ·exact .inr ⟨k,c,e,z.sameBut hs (Qm y c e)⟩
  ·obtain⟨w',z⟩:=I.cell y c e;exact⟨w',z.sameBut hs (Qm y c e)⟩
  ·obtain⟨e,n,ne,nf,d⟩:=I.pin p hp;exact⟨(hs.2 p.1 ne).trans e,n,ne,nf,d⟩
 ·have Z:X.fn x=true:=by
   rcases hf with z|z
   ·exact z
   ·rw[z]at hk;cases hk
  obtain⟨c,hc⟩:=I.ok.has x (.inl hk);obtain⟨w',z⟩:=I.cell x c hc;refine wpAny_storeName_cell I.ok.kind hk hc z (λh' ag hs=>?_)
  obtain⟨oc,ar,Xj⟩:=id z;refine h { s with heap:=h'} ⟨I.ok,I.os,I.bare,⟨λb o e n hb hx=>?_,λb o e n hb hx=>?_,I.base.free,λb o e hx=>?_,I.base.tups,I.base.mH,I.base.nG⟩,⟨m,hn.sameBut hs (aaE (Qm x c hc)),λj y v' O Y e3=>?_⟩,λy c' e=>?_,I.free,I.fO,λp hp=>?_,tracked ⟨oc,ar,I.fO x c hc⟩ hs,by simpa using I.len⟩ ⟨c,hs,.inr hc⟩
  ·exact(hs.2 b (aaz (aau (aan e) (I.ok.Ss x c Z hc)))).trans (I.base.keep b o e n hb hx)
  ·obtain⟨sl,O⟩:=I.base.slot b o e n hb hx;exact⟨sl,(hs.2 b (aaz (aau (aan e) (I.ok.Ss x c Z hc)))).trans O⟩
  ·obtain⟨o',O⟩:=I.base.there b o e hx;exact⟨o',(hs.2 b (aaz (aau (aan e) (I.ok.Ss x c Z hc)))).trans O⟩
  ·by_cases hj:j=i
   ·subst hj;rw[hi]at O;cases O;rw[acI Zj]at Y;cases Y;exact⟨u,r,.inr ⟨.inl hk,c,hc,ag⟩⟩
   ·rw[ac4 (aaE hj)]at Y;obtain⟨u',r',q⟩:=hl j y v' O Y e3;refine⟨u',r',?_⟩;rcases q with q|⟨k,c',e,z'⟩
    ·exact .inl q
    ·refine .inr ⟨k,c',e,z'.sameBut hs ?_⟩;rintro rfl;exact hj (BU hN O (I.ok.inj _ _ _ e hc▸hi))
  ·by_cases aw:c' = c
   ·subst aw;exact⟨_,ag⟩
   ·obtain⟨w2,z2⟩:=I.cell y c' e;exact⟨w2,z2.sameBut hs aw⟩
  ·obtain⟨e,n,ne,nf,d⟩:=I.pin p hp;refine⟨(hs.2 p.1 ?_).trans e,n,ne,nf,d⟩;intro q;rw[q,ar]at e;have q' : oc=p.2:=Option.some.inj e;exact d w' (by rw[<-q'];exact Xj)
def qP{M:Model}{A:Around}{E:dD}{i:Nat}{x:Str}{v:V}{u:Value}{Q:Unit->Shared->Prop}(I:Inv X pq σ H s)(hN:X.N.Nodup)(hi:X.N[i]?=some x)(hx:Loc X.env.scope x)(r:RelV v u)
 (h:∀s',Inv X pq (σ.set i (some v)) H s'->Q () s') (hf:X.fn x=true\/X.env.scope.names.lookup x=some .local:=by first | exact .inl rfl | exact .inr rfl | assumption):wpAny M A (storeName X.env x u) Q E s :=
 Hl I hN hi hx r (λs' O _=>h s' O) hf
def Inv.JW{s' : Shared}{ch:List Addr}(I:Inv X pq σ H s)(ho:s'.os=s.os)(u:Un (frs X.stack) ch H H' s.heap s'.heap)(hok:nF X.prog X.w H' s'.heap)(hg:AllBare s'.gens)
 (hch:∀b∈ch,(b∈X.ex\/X.s₀.heap.objs.size<=b)/\b≠X.env.locals/\(∀x c,X.env.cells.lookup x=some c->c≠b)/\∀p∈X.pn++pq,p.1≠b):Inv X pq σ H' s':=by
 obtain⟨h',g',d',t',o'⟩:=s';have e:o' = s.os:=ho;subst e;exact I.call (g':=g') (t':=t') (d':=d') u hok hg hch
end
abbrev XK:=Value->Option Addr->Hp->Prop
abbrev St:=List (Option V)
abbrev VK:=V->Hp->Prop
abbrev TE:=St->Hp->VK->Prop
abbrev TT:=St->Hp->(Bool->Hp->Prop)->Prop
abbrev TA:=St->Hp->(List V->Hp->Prop)->Prop
structure Ends where
 nx:St->Hp->Prop
 rt:VK
 bk:St->Hp->Prop:=λ_ _=>False
 ct:St->Hp->Prop:=λ_ _=>False
abbrev TS:=Ends->St->Hp->Prop
def EP(X:Cx)(pq:aX)(σ:St)(Q:VK)(u:Value)(s' : Shared):Prop:=∃v H',Inv X pq σ H' s'/\RelV v u/\Q v H'
def TP(X:Cx)(pq:aX)(σ:St)(Q:Bool->Hp->Prop)(b:Bool)(s' : Shared):Prop:=∃H',Inv X pq σ H' s'/\Q b H'
def AP(X:Cx)(pq:aX)(σ:St)(Q:List V->Hp->Prop)(us:List Value)(s' : Shared):Prop:=∃vs H',Inv X pq σ H' s'/\Vals vs us/\Q vs H'
def SP(X:Cx)(pq:aX)(D:Ends)(f:Flow)(s' : Shared):Prop :=
 match f with
 | .next=>∃σ' H',Inv X pq σ' H' s'/\D.nx σ' H'
 | .brk=>∃σ' H',Inv X pq σ' H' s'/\D.bk σ' H'
 | .cont=>∃σ' H',Inv X pq σ' H' s'/\D.ct σ' H'
 | .ret u=>∃v σ' H',Inv X pq σ' H' s'/\RelV v u/\D.rt v H'
def PE(X:Cx)(e:Expr)(t:TE):Prop :=
 ∀(pq:aX) (s:Shared) (σ:St) (H:Hp) (Q:VK),Inv X pq σ H s->t σ H Q->wpAny (model X.prog X.w) X.A (eval e X.env) (EP X pq σ Q) X.xe s
def PT(X:Cx)(e:Expr)(t:TT):Prop :=
 ∀(pq:aX) (s:Shared) (σ:St) (H:Hp) (Q:Bool->Hp->Prop),Inv X pq σ H s->t σ H Q->wpAny (model X.prog X.w) X.A (isTrue e X.env (eval e X.env)) (TP X pq σ Q) X.xe s
def PW(X:Cx)(e:Expr)(t:TT):Prop :=
 ∀(whole:Sem Value) (pq:aX) (s:Shared) (σ:St) (H:Hp) (Q:Bool->Hp->Prop),Inv X pq σ H s->t σ H Q->wpAny (model X.prog X.w) X.A (isTrue e X.env whole) (TP X pq σ Q) X.xe s
def PW.pt{X:Cx}{e:Expr}{t:TT}(h:PW X e t):PT X e t:=h _
def PA(X:Cx)(es:List Expr)(t:TA):Prop :=
 ∀(pos:Pos) (pq:aX) (s:Shared) (σ:St) (H:Hp) (Q:List V->Hp->Prop),Inv X pq σ H s->t σ H Q->wpAny (model X.prog X.w) X.A (spliced (backTo pos (starEach es X.env))) (AP X pq σ Q) X.xe s
def PS(X:Cx)(st:Stmt)(t:TS):Prop :=
 ∀(pq:aX) (s:Shared) (σ:St) (H:Hp) (D:Ends),Inv X pq σ H s->t D σ H->wpAny (model X.prog X.w) X.A (exec st X.env) (SP X pq D) X.xe s
def ym(X:Cx)(st:List Stmt)(t:TS):Prop :=
 ∀(pq:aX) (s:Shared) (σ:St) (H:Hp) (D:Ends),Inv X pq σ H s->t D σ H->wpAny (model X.prog X.w) X.A (execs st X.env) (SP X pq D) X.xe s
def cY{α:Type}{t:Sem α}{Q Q' : α->Shared->Prop}{M:Model}{A:Around}{E:dD}{s:Shared}(h:wpAny M A t Q E s)(hQ:∀a s,Q a s->Q' a s):wpAny M A t Q' E s:=aaG h hQ λ_ _ x=>x
section
variable {X:Cx}
def Tj(i:Nat):TE:=λσ H Q=>∃v,σ[i]?=some (some v)/\Q v H
def tC(v:V):TE:=λ_ H Q=>Q v H
def Qo{i:Nat}{x:Str}{pos:Pos}(hN:X.N[i]?=some x)(hv:V6 X.env.scope x)(hd:(x==("__debug__":Str))=false:=by decide)(hcd:(x==("__classdict__":Str))=false:=by decide):PE X (.Name x pos) (Tj i):=by
 intro pq s σ H Q I h;obtain⟨v,e,h⟩:=h;obtain⟨m,hn,hl⟩:=I.loc;obtain⟨u,r,l⟩:=hl i x v hN e hv;have fin:EP X pq σ Q u s:=⟨v,H,I,r,h⟩;rcases l with⟨hk,hm⟩|⟨hk,c,hc,hcell⟩
 ·exact wpAny_Name (wpAny_loadName_local I.ok.kind hk hn hm fin) hd
 ·rcases hk with hk|hk
  ·exact wpAny_Name (wpAny_loadName_cell I.ok.kind hk hc hcell fin) hd
  ·exact wpAny_Name (wpAny_loadName_free I.ok.kind hk hc hcell fin hcd) hd
def ak{i j pos}:PE X (.Constant (.int i) j pos) (tC (.int i)):=λ_ _ _ H _ I h=>wpAny_Constant_int ⟨.int i,H,I.tok _,⟨_,rfl⟩,h⟩
def gf{b j pos}:PE X (.Constant (.bool b) j pos) (tC (.bl b)):=λ_ _ _ H _ I h=>Constant_bool ⟨.bl b,H,I,rfl,h⟩
def iw{j pos}:PE X (.Constant .none j pos) (tC .eF):=λ_ _ _ H _ I h=>Constant_none ⟨.eF,H,I,rfl,h⟩
def mJ{x j pos}:PE X (.Constant (.str x) j pos) (tC (.str x)):=λ_ _ _ H _ I h=>Calls.Constant_str ⟨.str x,H,I.tok _,⟨_,rfl⟩,h⟩
def Gl(X:Cx)(x:Str):Prop:=X.env.kindOf x=some .globalImplicit
def vo{E:dD}{pq:aX}{s:Shared}{σ:St}{H:Hp}{x:Str}{u:Value}{pos:Pos}{Q:dD}(I:Inv X pq σ H s)(hg:Gl X x)(hm:X.mg x=some u)(h:Q u s)
 (hd:(x==("__debug__":Str))=false:=by decide):wpAny (model X.prog X.w) X.A (eval (.Name x pos) X.env) Q E s :=
 Calls.Name_function_global I.ok.kind hg (Calls.loadGlobal_global (by rw[I.ok.glob];exact I.mod.glob.keeps I.bk) hm h) hd
def mK{E:dD}{pq:aX}{s:Shared}{σ:St}{H:Hp}{x:Str}{u:Value}{pos:Pos}{Q:dD}(I:Inv X pq σ H s)(hg:Gl X x)(hm:X.mg x=none)(hv:bootBuiltins x=some u)(h:Q u s)
 (hn:x≠"__name__":=by decide) (hd:(x==("__debug__":Str))=false:=by decide):wpAny (model X.prog X.w) X.A (eval (.Name x pos) X.env) Q E s:=by
 obtain⟨mb,h1,h2⟩:=I.mod.blt;exact Calls.Name_function_global I.ok.kind hg (Calls.loadGlobal_builtin (by rw[I.ok.glob];exact I.mod.glob.keeps I.bk) hm (by rw[I.ok.blt];exact h1.keeps I.bk) ((h2 x hn).trans hv) h) hd
def Nl{x:Str}{v:V}{u:Value}{pos:Pos}(hg:Gl X x)(hm:X.mg x=some u)(r:RelV v u)(hd:(x==("__debug__":Str))=false:=by decide):PE X (.Name x pos) (tC v) :=
 λ_ _ _ H _ I h=>vo I hg hm ⟨v,H,I,r,h⟩ hd
def Nm{x:Str}{v:V}{u:Value}{pos:Pos}(hg:Gl X x)(hm:X.mg x=none)(hv:bootBuiltins x=some u)(r:RelV v u)(hn:x≠"__name__":=by decide)(hd:(x==("__debug__":Str))=false:=by decide):PE X (.Name x pos) (tC v) :=
 λ_ _ _ H _ I h=>mK I hg hm hv ⟨v,H,I,r,h⟩ hn hd
variable {a b:Expr}{ta tb:TE}{pos:Pos}
def PC(X:Cx)(op:CmpOp)(a b:Expr)(t:TE):Prop :=
 ∀(pq:aX) (s:Shared) (σ:St) (H:Hp) (Q:VK),Inv X pq σ H s->t σ H Q->
  wpAny (model X.prog X.w) X.A (eval a X.env) (λv I=>wpAny (model X.prog X.w) X.A (eval b X.env) (λu O=>wpAny (model X.prog X.w) X.A (compareOp op v u) (EP X pq σ Q) X.xe O) X.xe I) X.xe s
def tB(t:TE):TT:=λσ H Q=>t σ H λx H1=>∃c,x = .bl c/\Q c H1
def Qp{op:CmpOp}{t:TE}(h:PC X op a b t)(h1:behindInMarks op b=false:=by first | exact nobehind _ (by decide) (by decide) | rfl):PT X (.Compare a [op] [b] pos) (tB t):=by
 intro pq s σ H Q I hw;refine wpAny_isTrue_Compare1 (cY (h pq s σ H _ I hw) λv s1 h1=>cY h1 λu s2 h2=>cY h2 λc s3 ⟨x,H1,O,U,Y⟩=>?_) h1
 obtain⟨d,rfl,q⟩:=Y;cases U;exact wpAny_truthy_bool ⟨H1,O,q⟩
def cg{e:Expr}{t:TE}(h:PE X e t)(he:∀whole,isTrue e X.env whole=(do let v←whole;standAt e.pos;holding [v] (truthy v)):=by intro _;rfl):PT X e (tB t):=by
 intro pq s σ H Q I hw;refine isTrue_plain (cY (h pq s σ H _ I hw) λv s1 ⟨x,H1,O,U,Y⟩=>?_) (he _)
 obtain⟨d,rfl,q⟩:=Y;cases U;exact wpAny_truthy_bool ⟨H1,O,q⟩
variable {tA V9:TT}{rest:List Expr}
def Xk(t u:TT):TT:=λσ H Q=>t σ H λc H1=>if c=true then u σ H1 Q else Q false H1
def tOr(t u:TT):TT:=λσ H Q=>t σ H λc H1=>if c=true then Q true H1 else u σ H1 Q
def Xl(t:TT):TT:=λσ H Q=>t σ H λc H1=>Q (!c) H1
def Aj(ha:PT X a tA):PW X (.BoolOp .And [a] pos) tA:=by
 intro O pq s σ H Q I h;refine isTrue_and (cY (ha pq s σ H Q I h) λc s1 e=>?_)
 cases c with
 | true=>exact isTrue_and_nil e
 | false=>exact e
def jk(ha:PT X a tA):PW X (.BoolOp .Or [a] pos) tA:=by
 intro O pq s σ H Q I h;refine isTrue_or (cY (ha pq s σ H Q I h) λc s1 e=>?_)
 cases c with
 | false=>exact isTrue_or_nil e
 | true=>exact e
def Ed(ha:PT X a tA)(hb:PW X (.BoolOp .And (b::rest) pos) V9):PW X (.BoolOp .And (a::b::rest) pos) (Xk tA V9):=by
 intro Y pq s σ H Q I h;refine isTrue_and (cY (ha pq s σ H _ I h) λc s1 ⟨H1,O,U⟩=>?_)
 cases c with
 | true=>exact hb Y pq s1 σ H1 Q O U
 | false=>exact⟨H1,O,U⟩
def lN(ha:PT X a tA)(hb:PW X (.BoolOp .Or (b::rest) pos) V9):PW X (.BoolOp .Or (a::b::rest) pos) (tOr tA V9):=by
 intro Y pq s σ H Q I h;refine isTrue_or (cY (ha pq s σ H _ I h) λc s1 ⟨H1,O,U⟩=>?_)
 cases c with
 | true=>exact⟨H1,O,U⟩
 | false=>exact hb Y pq s1 σ H1 Q O U
def eW(ha:PT X a tA):PT X (.UnaryOp .Not a pos) (Xl tA):=by
 intro pq s σ H Q I h;exact isTrue_not (ha pq s σ H (λc H1=>Q (!c) H1) I h)
def Tn(ta tb:TE):TE:=λσ H Q=>ta σ H λx H1=>∃c,x = .bl c/\if c=true then tb σ H1 Q else Q (.bl false) H1
def Xm(ta tb:TE):TE:=λσ H Q=>ta σ H λx H1=>∃c,x = .bl c/\if c=true then Q (.bl true) H1 else tb σ H1 Q
def To(ta:TE):TE:=λσ H Q=>ta σ H λx H1=>∃c,x = .bl c/\Q (.bl (!c)) H1
def nH{op}{t:TE}(h:PE X a t):PE X (.BoolOp op [a] pos) t:=λpq s σ H Q I hw=>BoolOp_one (h pq s σ H Q I hw)
def qk(ha:PE X a ta)(hb:PE X (.BoolOp .And (b::rest) pos) tb):PE X (.BoolOp .And (a::b::rest) pos) (Tn ta tb):=by
 intro pq s σ H Q I h;refine BoolOp_and (cY (ha pq s σ H _ I h) λv s1 ⟨x,H1,U,Y,O⟩=>?_)
 obtain⟨c,rfl,O⟩:=O;cases Y;refine wpAny_truthy_bool ?_;cases c with
 | true=>exact hb pq s1 σ H1 Q U O
 | false=>exact⟨.bl false,H1,U,rfl,O⟩
def Tp(ha:PE X a ta)(hb:PE X (.BoolOp .Or (b::rest) pos) tb):PE X (.BoolOp .Or (a::b::rest) pos) (Xm ta tb):=by
 intro pq s σ H Q I h;refine BoolOp_or (cY (ha pq s σ H _ I h) λv s1 ⟨x,H1,U,Y,O⟩=>?_)
 obtain⟨c,rfl,O⟩:=O;cases Y;refine wpAny_truthy_bool ?_;cases c with
 | false=>exact hb pq s1 σ H1 Q U O
 | true=>exact⟨.bl true,H1,U,rfl,O⟩
def Qq(ha:PE X a ta):PE X (.UnaryOp .Not a pos) (To ta):=by
 intro pq s σ H Q I h;refine UnaryOp_ (cY (ha pq s σ H _ I h) λv s1 ⟨x,H1,U,Y,O⟩=>?_)
 obtain⟨c,rfl,O⟩:=O;cases Y;exact not_of (wpAny_truthy_bool ⟨.bl (!c),H1,U,rfl,O⟩)
def tIf(t:TT)(ta tb:TE):TE:=λσ H Q=>t σ H λc H1=>if c=true then ta σ H1 Q else tb σ H1 Q
def lO{c:Expr}(hc:PT X c tA)(ha:PE X a ta)(hb:PE X b tb):PE X (.IfExp c a b pos) (tIf tA ta tb):=by
 intro pq s σ H Q I h;refine wpAny_IfExp (cY (hc pq s σ H _ I h) λd s1 ⟨H1,O,U⟩=>?_)
 cases d with
 | true=>exact ha pq s1 σ H1 Q O U
 | false=>exact hb pq s1 σ H1 Q O U
end
def aO(K:bE)(H:Hp)(a:Addr)(xs:List V):Prop :=
 Rd H a (.lst xs)\/
  ∃(o:Obj) (I:Array Value) (n:Nat),K.lookup a=some o/\o.cls = .type "list"/\o.dict=none/\o.data = .seq I n/\I.size<=sizeLine/\Vals xs I.toList
def aV(K:bE)(H:Hp)(a:Addr)(xs:List V):Prop :=
 Rd H a (.tup xs)\/
  ∃(o:Obj) (I:Array Value) (n:Nat),K.lookup a=some o/\o.cls = .type "tuple"/\o.data = .seq I n/\I.size<=sizeLine/\Vals xs I.toList
def Xn:Value->Option V
 | .none=>some .eF
 | .bool b=>some (.bl b)
 | .int i _=>some (.int i)
 | .str x _=>some (.str x)
 | .bytes b _=>some (.JL b)
 | .float b _=>some (.Qk b)
 | .ref a=>some (.ref a)
 | .type n=>some (.ty n)
 | _=>none
def RelV.abs{x:V}{u:Value}(r:RelV x u):Xn u=some x:=by
 cases x with
 | eF=>cases r;rfl
 | bl _=>cases r;rfl
 | int _=>obtain⟨t,rfl⟩:=r;rfl
 | str _=>obtain⟨t,rfl⟩:=r;rfl
 | JL _=>obtain⟨t,rfl⟩:=r;rfl
 | Qk _=>obtain⟨t,rfl⟩:=r;rfl
 | ref _=>cases r;rfl
 | ty _=>cases r;rfl
def RelV.inj{x y:V}{u:Value}(r:RelV x u)(q:RelV y u):x=y:=Option.some.inj (r.abs.symm.trans q.abs)
def Vals.inj:∀{xs ys:List V} {us:List Value},Vals xs us->Vals ys us->xs=ys
 | _,_,_,.nil,.nil=>rfl
 | _,_,_,.cons r t,.cons r' t'=>by rw[r.inj r',Vals.inj t t']
section
variable {X:Cx}{pq:aX}{σ:St}{H:Hp}{s:Shared}{a:Addr}{xs ys:List V}
def aO.of{K:bE}(h:H a=some (.lst xs)):aO K H a xs:=.inl (.inl h)
def aV.of{K:bE}(h:H a=some (.tup xs)):aV K H a xs:=.inl (.inl h)
def Inv.list(I:Inv X pq σ H s)(h:aO X.K H a xs):∃O:List Value,Vals xs O/\PlainL s.heap a O.toArray/\xs.length<=sizeLine:=by
 rcases h with h|⟨o,O,n,hk,hc,hd,hs,hz,r⟩
 ·obtain⟨z,O,n,r,e⟩:=h.ok I.hok;exact⟨O,r,⟨_,n,e,rfl,rfl,rfl⟩,z⟩
 ·refine⟨O.toList,r,⟨o,n,I.uy a o hk,hc,hd,by simpa using hs⟩,?_⟩
  have e:=r.length;simp only[abQ]at e
  lia
def Inv.tuple(I:Inv X pq σ H s)(h:aV X.K H a xs):∃O:List Value,Vals xs O/\IsTup s.heap a O.toArray/\xs.length<=sizeLine:=by
 rcases h with h|⟨o,O,n,hk,hc,hs,hz,r⟩
 ·obtain⟨z,O,r,p⟩:=h.ok I.hok;exact⟨O,r,p,z⟩
 ·refine⟨O.toList,r,⟨o,I.uy a o hk,hc,n,by simpa using hs⟩,?_⟩
  have e:=r.length;simp only[abQ]at e
  lia
def Inv.qQ(I:Inv X pq σ H s)(h:aO X.K H a xs)(h' : aO X.K H a ys):xs=ys:=by
 obtain⟨O,r,⟨o,n,e,_,_,d⟩,_⟩:=I.list h;obtain⟨its',r',⟨o',n',e',_,_,d'⟩,_⟩:=I.list h';rw[e]at e';cases e';rw[d]at d';injection d' with d1 _
 have:O=its':=by simpa using aaO Array.toList d1
 subst this;exact r.inj r'
def Inv.zd(I:Inv X pq σ H s)(h:aV X.K H a xs)(h' : aV X.K H a ys):xs=ys:=by
 obtain⟨O,r,⟨o,e,_,n,d⟩,_⟩:=I.tuple h;obtain⟨its',r',⟨o',e',_,n',d'⟩,_⟩:=I.tuple h';rw[e]at e';cases e';rw[d]at d';injection d' with d1 _
 have:O=its':=by simpa using aaO Array.toList d1
 subst this;exact r.inj r'
end
abbrev Cx.vL(X:Cx)(E:dD):Cx:={ X with xe:=E}
abbrev Cx.D8(X:Cx):Cx:=X.vL λ_ _=>False
def Cx.Ok.vL{X:Cx}(ok:X.Ok)(E:dD):(X.vL E).Ok :=
 ⟨ok.mod,ok.kind,ok.glob,ok.blt,ok.above,ok.inj,ok.has,ok.Ss,ok.hd,ok.frames,ok.M0,ok.Xh,ok.bs,ok.M3,ok.Hi,ok.JV,ok.funs,ok.Nk⟩
def Cx.Ok.jZ{X:Cx}{E:dD}(ok:(X.vL E).Ok):X.Ok :=
 ⟨ok.mod,ok.kind,ok.glob,ok.blt,ok.above,ok.inj,ok.has,ok.Ss,ok.hd,ok.frames,ok.M0,ok.Xh,ok.bs,ok.M3,ok.Hi,ok.JV,ok.funs,ok.Nk⟩
section
variable {X:Cx}{pq:aX}{σ:St}{H:Hp}{s:Shared}{E:dD}
def Inv.vL(I:Inv X pq σ H s)(E:dD):Inv (X.vL E) pq σ H s:=⟨I.ok.vL E,I.os,I.bare,I.base,I.loc,I.cell,I.free,I.fO,I.pin,I.hok,I.len⟩
def Inv.jZ(I:Inv (X.vL E) pq σ H s):Inv X pq σ H s:=⟨I.ok.jZ,I.os,I.bare,I.base,I.loc,I.cell,I.free,I.fO,I.pin,I.hok,I.len⟩
def SP.jZ{D:Ends}{f:Flow}{s' : Shared}(h:SP (X.vL E) pq D f s'):SP X pq D f s':=by
 cases f with
 | next=>obtain⟨σ',H',I,q⟩:=h;exact⟨σ',H',I.jZ,q⟩
 | brk=>obtain⟨σ',H',I,q⟩:=h;exact⟨σ',H',I.jZ,q⟩
 | cont=>obtain⟨σ',H',I,q⟩:=h;exact⟨σ',H',I.jZ,q⟩
 | ret u=>obtain⟨v,σ',H',I,r,q⟩:=h;exact⟨v,σ',H',I.jZ,r,q⟩
def ym.D8{st:List Stmt}{t:TS}(h:ym X.D8 st t):ym X st t:=λpq s σ H D I hw =>
 aaG (h pq s σ H D (I.vL _) hw) (λ_ _ q=>q.jZ) λ_ _ z=>False.elim z
end
section
variable {X:Cx}{st:Stmt}{rest:List Stmt}{t u:TS}{e:Expr}{te:TE}{pos:Pos}
def aS:TS:=λD σ H=>D.nx σ H
def Ends.on(D:Ends)(u:TS):Ends:={ D with nx:=u D}
def ay(t u:TS):TS:=λD σ H=>t (D.on u) σ H
def aU:ym X [] aS:=λ_ _ σ H _ I h=>wpAny_execs_nil ⟨σ,H,I,h⟩
def ai(h1:PS X st t)(h2:ym X rest u):ym X (st::rest) (ay t u):=by
 intro pq s σ H D I h;refine wpAny_execs_cons (cY (h1 pq s σ H { D with nx:=u D} I h) λf s1 q=>?_)
 cases f with
 | next =>
   obtain⟨σ',H',O,q⟩:=q;exact h2 pq s1 σ' H' D O q
 | ret v=>exact q
 | brk=>exact q
 | cont=>exact q
def av(h1:PS X st t):ym X [st] t:=by
 intro pq s σ H D I h;refine wpAny_execs_cons (cY (h1 pq s σ H D I h) λf s1 q=>?_)
 cases f with
 | next=>exact wpAny_execs_nil q
 | ret v=>exact q
 | brk=>exact q
 | cont=>exact q
def Inv.quiet{pq:aX}{σ:St}{H:Hp}{s:Shared}(I:Inv X pq σ H s):interactive X.env=false:=by simp[interactive,I.ok.kind]
def Tq(te:TE):TS:=λD σ H=>te σ H λ_ H1=>D.nx σ H1
def bF(he:PE X e te)(hs:swapsWith e none pos.line X.env=pure false:=by rfl):PS X (.Expr e pos) (Tq te):=by
 intro pq s σ H D I h;exact wpAny_Expr_any (cY (he pq s σ H _ I h) λv s1 ⟨x,H1,O,Y,U⟩=>⟨σ,H1,O,U⟩) I.quiet hs
def Xo(te:TE):TS:=λD σ H=>te σ H D.rt
def aC(he:PE X e te):PS X (.Return (some e) pos) (Xo te):=by
 intro pq s σ H D I h;exact wpAny_Return_some (cY (he pq s σ H _ I h) λv s1 ⟨x,H1,O,U,Y⟩=>⟨x,σ,H1,O,U,Y⟩)
def bh(c:TT)(t u:TS):TS:=λD σ H=>c σ H λb H1=>if b=true then t D σ H1 else u D σ H1
def bC{c:Expr}{a b:List Stmt}{tc:TT}(hc:PT X c tc)(ha:ym X a t)(hb:ym X b u):PS X (.If c a b pos) (bh tc t u):=by
 intro pq s σ H D I h;refine wpAny_If (cY (hc pq s σ H _ I h) λd s1 ⟨H1,O,U⟩=>?_)
 cases d with
 | true=>exact ha pq s1 σ H1 D O U
 | false=>exact hb pq s1 σ H1 D O U
def Qs:TS:=λ_ _ _=>False
def eN{sts:List Stmt}:ym X sts Qs:=λ_ _ _ _ _ _ h=>h.elim
end
abbrev TG:=V->St->Hp->(St->Hp->Prop)->Prop
abbrev M4:=List V->St->Hp->(St->Hp->Prop)->Prop
def PG(X:Cx)(target:Expr)(t:TG):Prop :=
 ∀(pq:aX) (s:Shared) (σ:St) (H:Hp) (v:V) (u:Value) (Q:St->Hp->Prop),Inv X pq σ H s->RelV v u->t v σ H Q->
  wpAny (model X.prog X.w) X.A (assign target X.env u) (λ_ s'=>∃σ' H',Inv X pq σ' H' s'/\Q σ' H') X.xe s
def Su(X:Cx)(ts:List Expr)(t:M4):Prop :=
 ∀(pq:aX) (s:Shared) (σ:St) (H:Hp) (vs:List V) (us:List Value) (Q:St->Hp->Prop),Inv X pq σ H s->Vals vs us->t vs σ H Q->
  wpAny (model X.prog X.w) X.A (assignInOrder ((assignEach ts X.env).map (·.2)) us) (λ_ s'=>∃σ' H',Inv X pq σ' H' s'/\Q σ' H') X.xe s
abbrev JX:=V->V->V->Hp->(Hp->Prop)->Prop
def Qt(X:Cx)(t:JX):Prop :=
 ∀(pq:aX) (s:Shared) (σ:St) (H:Hp) (o i v:V) (I O u:Value) (Q:Hp->Prop),Inv X pq σ H s->RelV o I->RelV i O->RelV v u->t o i v H Q->
  wpAny (model X.prog X.w) X.A (setItem I O u) (λ_ s'=>∃H',Inv X pq σ H' s'/\Q H') X.xe s
abbrev Tr:=V->V->Hp->VK->Prop
def Zk(X:Cx)(op:Operator)(t:Tr):Prop :=
 ∀(pq:aX) (s:Shared) (σ:St) (H:Hp) (x y:V) (v u:Value) (Q:VK),Inv X pq σ H s->RelV x v->RelV y u->t x y H Q->
  wpAny (model X.prog X.w) X.A (inplaceOp op v u) (EP X pq σ Q) X.xe s
section
variable {X:Cx}{pos:Pos}
def JY(i:Nat):TG:=λv σ H Q=>Q (σ.set i (some v)) H
def vp{i:Nat}{x:Str}(hN:X.N.Nodup)(hi:X.N[i]?=some x)(hx:Loc X.env.scope x)(hf:X.fn x=true\/X.env.scope.names.lookup x=some .local:=by first | exact .inl rfl | exact .inr rfl | assumption):PG X (.Name x pos) (JY i):=by
 intro pq s σ H v u Q I r h;exact wpAny_assign_Name (qP I hN hi hx r (λs' O=>⟨_,H,O,h⟩) hf)
def Xp:M4:=λvs σ H Q=>vs=[]/\Q σ H
def Tt(t:TG)(u:M4):M4:=λvs σ H Q=>∃v r,vs=v::r/\t v σ H λσ' H'=>u r σ' H' Q
def cJ:Su X [] Xp:=by
 intro pq s σ H vs us Q I r h;obtain⟨e,h⟩:=h;subst e;cases r;exact assignInOrder_nil ⟨σ,H,I,h⟩
def aJ{e:Expr}{es:List Expr}{t:TG}{u:M4}(h1:PG X e t)(h2:Su X es u)
 (hs:(assignEach (e::es) X.env).map (·.2)=assign e X.env::(assignEach es X.env).map (·.2):=by rfl):Su X (e::es) (Tt t u):=by
 intro pq s σ H vs us Q I r h;obtain⟨v,vr,O,h⟩:=h;subst O;cases r with
 | cons r U =>
   rw[hs];refine assignInOrder_cons (cY (h1 pq s σ H _ _ _ I r h) λ_ s1 ⟨σ1,H1,Y,Z⟩=>?_)
   exact h2 pq s1 σ1 H1 _ _ Q Y U Z
def Tu(K:bE)(n:Nat)(t:M4):TG:=λv σ H Q=>∃a xs,v = .ref a/\aV K H a xs/\xs.length=n/\t xs σ H Q
def Qu{es:List Expr}{k:Nat}{t:M4}{n:Nat}(hc:X.calm=true)(h:Su X es t)
 (hn:(assignEach es X.env).length=n:=by rfl) (hst:(assignEach es X.env).findIdx? (·.1)=none:=by rfl):PG X (.Tuple es k pos) (Tu X.K n t):=by
 intro pq s σ H v u Q I r hw;obtain⟨a,xs,O,U,Y,hw⟩:=hw;subst O;cases r;obtain⟨its,rv,ht,hz⟩:=I.tuple U;refine assign_Tuple_tuple (I.ok.hd hc) ht (by simp[hn,<-Y,rv.length]) hst λh' hx=>?_
 have Z:Inv X pq σ H { s with heap:=h'}:=I.kept (t':=s.toks) λb o e=>hx b o (aaz (aan e)) e
 exact h pq _ σ H xs _ Q Z (by simpa using rv) hw
def Xq(to ti:TE)(t:JX):TG:=λv σ H Q=>to σ H λo H1=>ti σ H1 λi H2=>t o i v H2 λH3=>Q σ H3
def Qv{o i:Expr}{to ti:TE}{t:JX}(ho:PE X o to)(hi:PE X i ti)(hs:Qt X t)
 (ha:∀v,assign (.Subscript o i pos) X.env v=(do
  let O←holding [v] (eval o X.env)
  let U←holding [v,O] (eval i X.env)
  standAt pos
  holding [v,O,U] (setItem O U v)
  release [v,O,U] []):=by intro _;rfl):PG X (.Subscript o i pos) (Xq to ti t):=by
 intro pq s σ H v u Q I r h;rw[ha];refine aW (aaW (cY (ho pq s σ H _ I h) λO s1 ⟨x,H1,Y,Z,q1⟩=>?_))
 refine aW (aaW (cY (hi pq s1 σ H1 _ Y q1) λU s2 ⟨y,H2,I2,r2,q2⟩=>?_))
 refine aW (wpAny_standAt (aW (aaW (cY (hs pq s2 σ H2 x y v O U u _ I2 Z r2 r q2) λ_ s3 ⟨H3,I3,q3⟩=>?_))))
 exact wpAny_release ⟨σ,H3,I3,q3⟩
def Tv(te:TE)(g:TG):TS:=λD σ H=>te σ H λx H1=>g x σ H1 D.nx
def JZ{tg e:Expr}{te:TE}{g:TG}(he:PE X e te)(hg:PG X tg g)(hs:swapsWithSole [tg] e pos.line X.env=pure false:=by rfl)(hw:swappedStores [tg] e X.env=pure none:=by rfl)
 (h1:(assignEach [tg] X.env).map (·.2)=[assign tg X.env]:=by rfl):PS X (.Assign [tg] e pos) (Tv te g):=by
 intro pq s σ H D I h;refine wpAny_Assign_stores (cY (he pq s σ H _ I h) λv s1 ⟨x,H1,O,U,Y⟩=>?_) hs hw
 rw[h1];exact cY (hg pq s1 σ H1 x v _ O U Y) λ_ s2 q=>q
def aN{i:Nat}{x:Str}{e:Expr}{te:TE}{pos' : Pos}(hN:X.N.Nodup)(hi:X.N[i]?=some x)(hx:Loc X.env.scope x)(he:PE X e te)(hs:swapsWith e (some (.Name x pos')) pos.line X.env=pure false:=by rfl)(hf:X.fn x=true\/X.env.scope.names.lookup x=some .local:=by first | exact .inl rfl | exact .inr rfl | assumption):
 PS X (.Assign [.Name x pos'] e pos) (Tv te (JY i)):=by
 intro pq s σ H D I h;refine wpAny_Assign_Name (cY (he pq s σ H _ I h) λv s1 ⟨y,H1,O,U,Y⟩=>?_) hs
 exact qP O hN hi hx U (λs2 Z=>⟨_,H1,Z,Y⟩) hf
def Xr(i:Nat)(te:TE)(ti:Tr):TS:=λD σ H=>∃x,σ[i]?=some (some x)/\te σ H λy H1=>ti x y H1 λz H2=>D.nx (σ.set i (some z)) H2
def Ak{i:Nat}{x:Str}{e:Expr}{te:TE}{op:Operator}{ti:Tr}{pos' : Pos}(hN:X.N.Nodup)(hi:X.N[i]?=some x)(hx:Loc X.env.scope x)(he:PE X e te)(ho:Zk X op ti)(hf:X.fn x=true\/X.env.scope.names.lookup x=some .local:=by first | exact .inl rfl | exact .inr rfl | assumption):
 PS X (.AugAssign (.Name x pos') op e pos) (Xr i te ti):=by
 intro pq s σ H D I h;obtain⟨v,Y,h⟩:=h;obtain⟨m,hn,hl⟩:=I.loc;have U:V6 X.env.scope x:=by rcases hx with k | k;exact .inl k;exact .inr (.inl k)
 obtain⟨u,r,l⟩:=hl i x v hi Y U;refine wpAny_AugAssign_Name ?_;have go:wpAny (model X.prog X.w) X.A (eval e X.env) (λw Z=>wpAny (model X.prog X.w) X.A (inplaceOp op u w) (λr s₃=>wpAny (model X.prog X.w) X.A (storeName X.env x r) (λ_=>SP X pq D .next) X.xe s₃) X.xe Z) X.xe s:=by
  refine cY (he pq s σ H _ I h) λw s1 ⟨y,H1,I1,r1,q1⟩=>?_
  refine cY (ho pq s1 σ H1 v y u w _ I1 r r1 q1) λz s2 ⟨zv,H2,I2,r2,q2⟩=>?_
  exact qP I2 hN hi hx r2 (λs3 I3=>⟨_,H2,I3,q2⟩) hf
 rcases l with⟨hk,hm⟩|⟨hk,c,hc,O⟩
 ·exact wpAny_loadName_local I.ok.kind hk hn hm go
 ·rcases hk with hk|hk
  ·exact wpAny_loadName_cell I.ok.kind hk hc O go
  ·rcases hx with k|k
   ·have:X.env.scope.names.lookup x=some .free:=hk;rw[k]at this;cases this
   ·have:X.env.scope.names.lookup x=some .free:=hk;rw[k]at this;cases this
def Tw(to ti te:TE)(Nn:V->V->Hp->VK->Prop)(Wa:Tr)(Np:JX):TS:=λD σ H=>to σ H λo H1=>ti σ H1 λi H2=>Nn o i H2 λx H3=>te σ H3 λy H4=>Wa x y H4 λz I=>Np o i z I λO=>D.nx σ O
def Tz(X:Cx)(t:V->V->Hp->VK->Prop):Prop :=
 ∀(pq:aX) (s:Shared) (σ:St) (H:Hp) (o i:V) (I O:Value) (Q:VK),Inv X pq σ H s->RelV o I->RelV i O->t o i H Q->
  wpAny (model X.prog X.w) X.A (getItem I O) (EP X pq σ Q) X.xe s
def Gg{o i e:Expr}{to ti te:TE}{Nn:V->V->Hp->VK->Prop}{Wa:Tr}{Np:JX}{op:Operator}{tpos:Pos}(ho:PE X o to)(hi:PE X i ti)(hg:Tz X Nn)(he:PE X e te)(hp:Zk X op Wa)(hs:Qt X Np)
 (ha:∀O U new,augStore i O U new=(do holding [new,O,U] (setItem O U new);release [new,O,U] [];pure .next):=by intros;rfl):PS X (.AugAssign (.Subscript o i tpos) op e pos) (Tw to ti te Nn Wa Np):=by
 intro pq s σ H D I h;refine wpAny_AugAssign_SubscriptAny (cY (ho pq s σ H _ I h) λO s1 ⟨Y,H1,I1,Z,q1⟩=>?_) ha
 refine cY (hi pq s1 σ H1 _ I1 q1) λU s2 ⟨x2,H2,I2,r2,q2⟩=>?_
 refine cY (hg pq s2 σ H2 Y x2 O U _ I2 Z r2 q2) λold s3 ⟨x3,H3,I3,r3,q3⟩=>?_
 refine cY (he pq s3 σ H3 _ I3 q3) λv s4 ⟨x4,H4,I4,r4,q4⟩=>?_
 refine cY (hp pq s4 σ H4 x3 x4 old v _ I4 r3 r4 q4) λnew s5 ⟨x5,H5,I5,r5,q5⟩=>?_
 exact cY (hs pq s5 σ H5 Y x2 x5 O U new _ I5 Z r2 r5 q5) λ_ s6 ⟨H6,I6,q6⟩=>⟨σ,H6,I6,q6⟩
def vM(c:TT)(tb:TS):TS:=λD σ H=>∃W:Nat->St->Hp->Prop,(∃m,W m σ H)/\∀m σ H,W m σ H->
 c σ H λb H1=>if b=true then ∃N:St->Hp->Prop,(∀σ' H',N σ' H'->∃m',m'<m/\W m' σ' H')/\tb { D with nx:=N,ct:=N,bk:=D.nx} σ H1 else D.nx σ H1
def BV{c:Expr}{body:List Stmt}{tc:TT}{tb:TS}(hp:PassesOwn (model X.prog X.w) X.A X.env X.xe)(hc:PT X c tc)(hb:ym X body tb):PS X (.While c body [] pos) (vM tc tb):=by
 intro pq s σ H D I h;obtain⟨W,⟨m0,w0⟩,turn⟩:=h;refine wpAny_While (codeAny_whileLoop (λn s'=>∃σ' H',Inv X pq σ' H' s'/\W n σ' H') ?_ m0 ⟨σ,H,I,w0⟩)
 rintro n s1 ⟨σ1,H1,I1,w1⟩;refine wpAny_passesOwn hp (cY (hc pq s1 σ1 H1 _ I1 (turn n σ1 H1 w1)) λb s2 ⟨H2,I2,O⟩=>?_)
 cases b with
 | true =>
   obtain⟨N,hN,O⟩:=O;rw[aad rfl];refine wpAny_passesOwn hp (cY (hb pq s2 σ1 H2 _ I2 O) λf s3 U=>?_)
   cases f with
   | next =>
     obtain⟨σ3,H3,Y,Z⟩:=U;obtain⟨m',hm,w3⟩:=hN σ3 H3 Z;exact⟨m',hm,σ3,H3,Y,w3⟩
   | cont =>
     obtain⟨σ3,H3,Y,Z⟩:=U;obtain⟨m',hm,w3⟩:=hN σ3 H3 Z;exact⟨m',hm,σ3,H3,Y,w3⟩
   | brk=>exact U
   | ret v=>exact U
 | false =>
   rw[aab aah];exact wpAny_execs_nil ⟨σ1,H2,I2,O⟩
end
structure It where
 go:Nat->Hp->Prop
 J0:Nat->Hp->V->Hp->Prop
 stop:Nat->Hp->Prop
def ql(X:Cx)(pq:aX)(H:Hp)(b:Addr):Prop :=
 H b=none/\b≠X.env.locals/\b∉X.fs/\(b∈X.ex\/X.s₀.heap.objs.size<=b)/\(∀x c,X.env.cells.lookup x=some c->c≠b)/\∀p∈X.pn++pq,p.1≠b
def Inv.Ef{X:Cx}{pq:aX}{σ:St}{H H' : Hp}{s:Shared}{b:Addr}(I:Inv X pq σ H s)(hb:s.heap.objs.size<=b)(hn:H' b=none):ql X pq H' b:=by
 refine⟨hn,abw (aau I.lt hb),I.Th hb,.inr (aaB I.sz hb),λx c e z=>?_,λp O z=>?_⟩
 ·obtain⟨v,q⟩:=I.cell x c e;exact absurd (aau q.lt (by rw[z];exact hb)) (abj _)
 ·exact absurd (aau (aan (I.pin p O).1) (by rw[z];exact hb)) (abj _)
structure Turn(P:Program)(w:World)(K:bE)(tg:Expr)(J:It)(fp:List Addr)(it:Addr)(tn:Nat->Heap->Prop):Prop where
 mem:it∈fp
 obj:∀i h,tn i h->∀b∈fp,∃o,h.get? b=some o/\∀v,o.data≠.cell v
 keep:∀i h h',tn i h->(∀b∈fp,∀o,h.get? b=some o->h'.get? b=some o)->tn i h'
 item:∀(X:Cx),X.prog=P->X.w=w->X.K=K->X.calm=true->∀(i:Nat) (pq:aX) (s:Shared) (σ:St) (H:Hp) (E:dD),Inv X pq σ H s->(∀b∈fp,ql X pq H b)->tn i s.heap->J.go i H->
  wpAny (model P w) X.A (pyNext (.ref it)) (λr s1=>∃u,r=some u/\
   wpAny (model P w) X.A (letOwnedTupleGo tg (.ref it) u) (λ_ s2=>∃x H',Inv X pq σ H' s2/\RelV x u/\J.J0 i H x H'/\tn (i+1) s2.heap/\∀b∈fp,H' b=none) E s1) E s
 done:∀(X:Cx),X.prog=P->X.w=w->X.K=K->X.calm=true->∀(i:Nat) (pq:aX) (s:Shared) (σ:St) (H:Hp) (E:dD),Inv X pq σ H s->(∀b∈fp,ql X pq H b)->tn i s.heap->J.stop i H->
  wpAny (model P w) X.A (pyNext (.ref it)) (λr s1=>r=none/\Inv X pq σ H s1) E s
 self:∀(A:Around) (i:Nat) (s:Shared) (Q:dD) (E:dD),tn i s.heap->Q (.ref it) s->wpAny (model P w) A (pyIter (.ref it)) Q E s
abbrev TI:=St->Hp->(It->Hp->Prop)->Prop
def Zl(X:Cx)(pq:aX)(σ:St)(tg:Expr)(R:It->Hp->Prop)(itv:Value)(s2:Shared):Prop :=
 ∃(it:Addr) (fp:List Addr) (tn:Nat->Heap->Prop) (J:It) (H' : Hp),itv = .ref it/\Inv X pq σ H' s2/\Turn X.prog X.w X.K tg J fp it tn/\tn 0 s2.heap/\(∀b∈fp,ql X pq H' b)/\R J H'
def PI(X:Cx)(tg iter:Expr)(wi:TI):Prop :=
 ∀(pq:aX) (s:Shared) (σ:St) (H:Hp) (R:It->Hp->Prop),Inv X pq σ H s->wi σ H R->
  wpAny (model X.prog X.w) X.A (eval iter X.env) (λv s1=>wpAny (model X.prog X.w) X.A (pyIter v) (Zl X pq σ tg R) X.xe s1) X.xe s
def J7{M:Model}{A:Around}{E:dD}{s:Shared}{tg:Expr}{it:Addr}{u:Value}{o:Obj}{n:String}{vs:Array Value}{Q:Unit->Shared->Prop}(ho:s.heap.get? it=some o)(hc:o.cls = .type n)(hd:o.data = .fields vs)
 (hn:["enumerate","zip","dict_itemiterator","dict_reverseitemiterator","odict_iterator","itertools.zip_longest","itertools.pairwise"].contains n=false) (hQ:Q () s):wpAny M A (letOwnedTupleGo tg (.ref it) u) Q E s:=by
 unfold letOwnedTupleGo;cases tg<;>first
  | exact aai hQ
  | (cases u<;>first
   | exact aai hQ
   | (refine aW (wpAny_load ho ?_)
      rw[hc,hd];show wpAny M A (if(["enumerate","zip","dict_itemiterator","dict_reverseitemiterator","odict_iterator","itertools.zip_longest","itertools.pairwise"].contains n&&vs[0]? == some (rawInt _))=true then _ else _) Q E s
      rw[aab (by intro h;rw[hn,ade]at h;cases h)]
      exact aai hQ))
def Nq(K:bE)(a:Addr):It :=
 ⟨λi H=>∃xs x,aO K H a xs/\xs[i]?=some x,λi H x H'=>H' = H/\∀xs,aO K H a xs->xs[i]?=some x,λi H=>∃xs,aO K H a xs/\xs.length<=i⟩
def Sv(K:bE)(a:Addr):It :=
 ⟨λi H=>∃xs x,aV K H a xs/\xs[i]?=some x,λi H x H'=>H' = H/\∀xs,aV K H a xs->xs[i]?=some x,λi H=>∃xs,aV K H a xs/\xs.length<=i⟩
def M5(lo:Int)(n:Nat):It:=⟨λi _=>i<n,λi H x H'=>H' = H/\x = .int (lo+i),λi _=>n<=i⟩
def Hq{P:Program}{w:World}{K:bE}{tg:Expr}(a it:Addr):Turn P w K tg (Nq K a) [it] it (λi h=>h.IsListIter it a i) where
 mem:=by simp
 obj:=λi h st b hb=>by
  have e:b=it:=by simpa using hb
  subst e;obtain⟨o,e,c,d⟩:=st;exact⟨o,e,λv z=>by rw[d]at z;cases z⟩
 keep:=λi h h' st k=>st.at λo e=>k it (by simp) o e
 item:=by
  intro X Y hw Z hc i pq s σ H E I hf st hg;subst Y hw Z;obtain⟨xs,x,U,hx⟩:=hg;obtain⟨its,rv,p,hz⟩:=I.list U;obtain⟨u,hu,ru⟩:=rv.get hx;obtain⟨f0,f1,f2,f3,f4,f5⟩:=hf it (by simp)
  refine wpAny_pyNext_list_item st p.isList (x:=u) (by simpa using hu) λh' O sb=>?_
  have I1:Inv X pq σ H { s with heap:=h'}:=I.turned (t':=s.toks) (λb o hb e=>(sb.2 b hb).trans e) f0 f1 f3 f4 f5
  obtain⟨o,e,c,d⟩:=id O;exact⟨u,rfl,J7 (s:={ s with heap:=h'}) e c d (by decide) ⟨x,H,I1,ru,⟨rfl,λys hy=>by rw[I.qQ hy U];exact hx⟩,O,λb hb=>(hf b hb).1⟩⟩
 done:=by
  intro X Y hw Z hc i pq s σ H E I hf st hg;subst Y hw Z;obtain⟨xs,U,hx⟩:=hg;obtain⟨its,rv,p,hz⟩:=I.list U;obtain⟨f0,f1,f2,f3,f4,f5⟩:=hf it (by simp)
  have hl:=rv.length;exact wpAny_pyNext_list_end (I.ok.hd hc) st p.isList (by simp;lia) λh' eb=>⟨rfl,I.turned (t':=s.toks) (λb o hb e=>eb b o hb e) f0 f1 f3 f4 f5⟩
 self:=λ_ _ _ _ _ st h=>wpAny_pyIter_listiter st h
def Eg{P:Program}{w:World}{K:bE}{tg:Expr}(a it:Addr):Turn P w K tg (Sv K a) [it] it (λi h=>h.IsTupleIter it a i) where
 mem:=by simp
 obj:=λi h st b hb=>by
  have e:b=it:=by simpa using hb
  subst e;obtain⟨o,e,c,d⟩:=st;exact⟨o,e,λv z=>by rw[d]at z;cases z⟩
 keep:=λi h h' st k=>st.at λo e=>k it (by simp) o e
 item:=by
  intro X Y hw Z hc i pq s σ H E I hf st hg;subst Y hw Z;obtain⟨xs,x,U,hx⟩:=hg;obtain⟨its,rv,p,hz⟩:=I.tuple U;obtain⟨u,hu,ru⟩:=rv.get hx;obtain⟨f0,f1,f2,f3,f4,f5⟩:=hf it (by simp)
  refine wpAny_pyNext_tuple_item st (show s.heap.IsTuple a its.toArray from p) (x:=u) (by simpa using hu) λh' O sb=>?_
  have I1:Inv X pq σ H { s with heap:=h'}:=I.turned (t':=s.toks) (λb o hb e=>(sb.2 b hb).trans e) f0 f1 f3 f4 f5
  obtain⟨o,e,c,d⟩:=id O;exact⟨u,rfl,J7 (s:={ s with heap:=h'}) e c d (by decide) ⟨x,H,I1,ru,⟨rfl,λys hy=>by rw[I.zd hy U];exact hx⟩,O,λb hb=>(hf b hb).1⟩⟩
 done:=by
  intro X Y hw Z hc i pq s σ H E I hf st hg;subst Y hw Z;obtain⟨xs,U,hx⟩:=hg;obtain⟨its,rv,p,hz⟩:=I.tuple U;obtain⟨f0,f1,f2,f3,f4,f5⟩:=hf it (by simp)
  have hl:=rv.length;exact wpAny_pyNext_tuple_end (I.ok.hd hc) st (show s.heap.IsTuple a its.toArray from p) (by simp;lia) λh' eb=>⟨rfl,I.turned (t':=s.toks) (λb o hb e=>eb b o hb e) f0 f1 f3 f4 f5⟩
 self:=λ_ _ _ _ _ st h=>wpAny_pyIter_tupleiter st h
def Eh{P:Program}{w:World}{K:bE}{tg:Expr}(it:Addr)(lo:Int)(n:Nat):Turn P w K tg (M5 lo n) [it] it (λi h=>IsRangeIter h it (lo+(i:Nat)*1) ((n:Int)-(i:Nat)) 1) where
 mem:=by simp
 obj:=λi h st b hb=>by
  have e:b=it:=by simpa using hb
  subst e;exact⟨_,st,λv z=>by
   have z' : Data.fields _=Data.cell v:=z;cases z'⟩
 keep:=λi h h' st k=>k it (by simp) _ st
 item:=by
  intro X U hw Y hc i pq s σ H E I hf st Z;subst U hw Y;obtain⟨f0,f1,f2,f3,f4,f5⟩:=hf it (by simp)
  have W:=Walks.range (prog:=X.prog) (w:=X.w) (I.ok.hd hc) it lo 1 n;refine W.item i s _ _ Z st λv h' tk hv O kk=>?_
  obtain⟨t,rfl⟩:=hv;have I1:Inv X pq σ H { s with heap:=h',toks:=tk}:=I.turned (λb o hb e=>kk b o (by simpa using hb) e) f0 f1 f3 f4 f5
  refine⟨_,rfl,J7 (s:={ s with heap:=h',toks:=tk}) (n:="range_iterator") O rfl rfl (by decide) ⟨.int (lo+i),H,I1,⟨t,?_⟩,⟨rfl,rfl⟩,O,λb hb=>(hf b hb).1⟩⟩
  rw[Int.mul_one]
 done:=by
  intro X U hw Y hc i pq s σ H E I hf st Z;subst U hw Y;obtain⟨f0,f1,f2,f3,f4,f5⟩:=hf it (by simp)
  exact wpAny_pyNext_range_end (I.ok.hd hc) st (by have:n<=i:=Z;lia) λh' eb=>⟨rfl,I.turned (t':=s.toks) (λb o hb e=>eb b o hb e) f0 f1 f3 f4 f5⟩
 self:=λ_ _ _ _ _ st h=>wpAny_pyIter_rangeiter st h
section
variable {X:Cx}{tg:Expr}
def Gh(K:bE)(tl:TE):TI:=λσ H R=>tl σ H λx H1=>∃a,x = .ref a/\(∃xs,aO K H1 a xs)/\R (Nq K a) H1
def Nr(K:bE)(tl:TE):TI:=λσ H R=>tl σ H λx H1=>∃a,x = .ref a/\(∃xs,aV K H1 a xs)/\R (Sv K a) H1
def Gi{l:Expr}{tl:TE}(hl:PE X l tl):PI X tg l (Gh X.K tl):=by
 intro pq s σ H R I h;refine cY (hl pq s σ H _ I h) λv s1 ⟨x,H1,O,U,Y⟩=>?_
 obtain⟨a,e,⟨xs,Z⟩,q⟩:=Y;subst e;cases U;obtain⟨its,rv,p,hz⟩:=O.list Z;refine wpAny_pyIter_list p.isList ?_;refine⟨s1.heap.objs.size,[s1.heap.objs.size],_,_,H1,rfl,O.kept (t':=s1.toks) λb o e=>aag _ e,Hq a _,⟨_,aav _ rfl,rfl,rfl⟩,λb hb=>?_,q⟩
 have e:b=s1.heap.objs.size:=by simpa using hb
 subst e;exact O.Ef (aaf _) (O.hok.fresh (aaf _))
def J8{l:Expr}{tl:TE}(hl:PE X l tl):PI X tg l (Nr X.K tl):=by
 intro pq s σ H R I h;refine cY (hl pq s σ H _ I h) λv s1 ⟨x,H1,O,U,Y⟩=>?_
 obtain⟨a,e,⟨xs,Z⟩,q⟩:=Y;subst e;cases U;obtain⟨its,rv,p,hz⟩:=O.tuple Z;refine wpAny_pyIter_tuple (show s1.heap.IsTuple a its.toArray from p) ?_
 refine⟨s1.heap.objs.size,[s1.heap.objs.size],_,_,H1,rfl,O.kept (t':=s1.toks) λb o e=>aag _ e,Eg a _,⟨_,aav _ rfl,rfl,rfl⟩,λb hb=>?_,q⟩
 have e:b=s1.heap.objs.size:=by simpa using hb
 subst e;exact O.Ef (aaf _) (O.hok.fresh (aaf _))
def J9{pq:aX}{σ:St}{H:Hp}{s:Shared}{R:It->Hp->Prop}{E:dD}{lo hi:Int}{t u v:Tok}{tk:Nat}(I:Inv X pq σ H s)(h1 : -(2^62)<=lo)(h2:lo<2^62)(h3 : -(2^62)<=hi)(h4:hi<2^62)
 (q:R (M5 lo (hi-lo).toNat) H):wpAny (model X.prog X.w) X.A (pyIter (.ref s.heap.objs.size)) (Zl X pq σ tg R) E { s with heap:=s.heap.push { cls:=.type "range",data:=.fields #[.int lo t,.int hi u,.int 1 v]},toks:=tk}:=by
 refine wpAny_pyIter_range (IsRange.new ..) (small_one h1 h2 h3 h4) ?_;have O:Inv X pq σ H { s with heap:=s.heap.push { cls:=.type "range",data:=.fields #[.int lo t,.int hi u,.int 1 v]},toks:=tk}:=I.kept λb o e=>aag _ e
 refine⟨(s.heap.push { cls:=.type "range",data:=.fields #[.int lo t,.int hi u,.int 1 v]}).objs.size,[(s.heap.push { cls:=.type "range",data:=.fields #[.int lo t,.int hi u,.int 1 v]}).objs.size],_,_,H,rfl,
  O.kept (t':=tk) λb o e=>aag _ e,Eh _ lo (hi-lo).toNat,?_,λb hb=>?_,q⟩
 ·have U:lo+((0:Nat):Int)*1=lo:=by simp
  have Y:(((hi-lo).toNat:Nat):Int)-((0:Nat):Int)=Builtin.Range.rangeSize lo hi 1:=by rw[rangeSize_one];split<;>lia
  show IsRangeIter _ _ (lo+((0:Nat):Int)*1) ((((hi-lo).toNat:Nat):Int)-((0:Nat):Int)) 1;rw[U,Y];exact aav _ rfl
 ·have e:b=(s.heap.push { cls:=.type "range",data:=.fields #[.int lo t,.int hi u,.int 1 v]}).objs.size:=by simpa using hb
  subst e;exact O.Ef (aaf _) (O.hok.fresh (aaf _))
def TF(ta:TA):TI:=λσ H R=>ta σ H λvs H1=>∃j:Int,vs=[.int j]/\-(2^62)<=j/\j<2^62/\R (M5 0 j.toNat) H1
def cA{a:Expr}{ta:TA}{p pos:Pos}(hg:Gl X "range")(hm:X.mg "range"=none)(ha:PA X [a] ta)(hs:starEach [a] X.env=[(false,eval a X.env)]:=by rfl):PI X tg (.Call (.Name "range" p) [a] [] pos) (TF ta):=by
 intro pq s σ H R I h;refine Call_ (mK I hg hm boot_range (abC (cY (ha pos pq s σ H _ I h) λus s1 ⟨vs,H1,U,Y,O⟩=>?_) hs rfl))
 obtain⟨j,e,O,Z,q⟩:=O;subst e;cases Y with
 | cons r rr =>
   cases rr;obtain⟨t,rfl⟩:=r;exact call_range_1 (J9 U (by lia) (by lia) O Z (by simpa using q))
def eI(wi:TI)(g:TG)(tb:TS):TS:=λD σ H=>wi σ H λJ H1=>∃W:Nat->Nat->St->Hp->Prop,(∃m,W 0 m σ H1)/\∀i m σ H,W i m σ H->
 (J.stop i H/\D.nx σ H)\/(J.go i H/\∃N:St->Hp->Prop,(∀σ' H',N σ' H'->∃m',m'<m/\W (i+1) m' σ' H')/\∀x H',J.J0 i H x H'->g x σ H' λσ2 H2=>tb { D with nx:=N,ct:=N,bk:=D.nx} σ2 H2)
def sr(fp:List Addr)(h:Heap):aX:=fp.filterMap λb=>(h.get? b).map λo=>(b,o)
def iy{fp:List Addr}{h:Heap}{b:Addr}{o:Obj}(hb:b∈fp)(e:h.get? b=some o):(b,o)∈sr fp h:=ab9.mpr ⟨b,hb,by rw[e];rfl⟩
def Hr{fp:List Addr}{h:Heap}{p:Addr×Obj}(hp:p∈sr fp h):p.1∈fp/\h.get? p.1=some p.2:=by
 obtain⟨b,hb,e⟩:=ab9.mp hp;cases q:h.get? b with
 | none=>rw[q]at e;cases e
 | some o =>
   rw[q]at e;have e' : (b,o)=p:=Option.some.inj e;subst e';exact⟨hb,q⟩
def Inv.pinned{pq:aX}{σ:St}{H:Hp}{s:Shared}{fp:List Addr}(I:Inv X pq σ H s)(hf:∀b∈fp,ql X pq H b)(ho:∀b∈fp,∃o,s.heap.get? b=some o/\∀v,o.data≠.cell v):Inv X (pq++sr fp s.heap) σ H s :=
 I.gZ λp O=>(aaH.mp O).elim (λz=>I.pin p (jF _ z)) λz=>by
  obtain⟨hb,e⟩:=Hr z;obtain⟨f0,f1,f2,_⟩:=hf p.1 hb;obtain⟨o,e',d⟩:=ho p.1 hb;rw[e]at e';cases e';exact⟨e,f0,f1,f2,d⟩
def Inv.j6{pq pl:aX}{σ:St}{H:Hp}{s:Shared}(I:Inv X (pq++pl) σ H s):Inv X pq σ H s:=I.gZ λp O=>I.pin p (jF _ (ac3 _ O))
def g7{iter:Expr}{body:List Stmt}{wi:TI}{g:TG}{tb:TS}{pos:Pos}(hp:PassesOwn (model X.prog X.w) X.A X.env X.xe)(hc:X.calm=true)(hi:PI X tg iter wi)(hg:PG X tg g)(hb:ym X body tb)
 (hs:∀x,foldedSetIterable iter X.env x=pure x:=by intro _;rfl):PS X (.For tg iter body [] pos) (eI wi g tb):=by
 intro pq s σ H D I h;refine wpAny_For (cY (hi pq s σ H _ I h) λv s1 h1=>cY h1 λag s2 h2=>?_) hs
 obtain⟨it,fp,tn,J,H2,e,I2,T,ab,f2,W,⟨m0,w0⟩,turn⟩:=h2;subst e;have Ei:∀{H' : Hp},(∀b∈fp,H' b=none)->∀b∈fp,ql X pq H' b:=λhn b hb=>⟨hn b hb,(f2 b hb).2⟩
 refine codeAny_forLoop_any (λn s'=>∃i σ' H',Inv X pq σ' H' s'/\tn i s'.heap/\(∀b∈fp,H' b=none)/\W i n σ' H') ?_ m0 ⟨0,σ,H2,I2,ab,λb hb=>(f2 b hb).1,w0⟩
 rintro n s3 ⟨i,σ3,H3,I3,Z,Pa,w3⟩;rcases turn i n σ3 H3 w3 with⟨stop,qn⟩|⟨go,N,hN,step⟩
 ·refine wpAny_passesOwn hp (cY (T.done X rfl rfl rfl hc i pq s3 σ3 H3 X.xe I3 (Ei Pa) Z stop) λr s4 ⟨hr,I4⟩=>?_)
  subst hr;exact wpAny_execs_nil ⟨σ3,H3,I4,qn⟩
 ·refine wpAny_passesOwn hp (cY (T.item X rfl rfl rfl hc i pq s3 σ3 H3 X.xe I3 (Ei Pa) Z go) λr s4 ⟨u,hr,h4⟩=>?_)
  subst hr;refine wpAny_passesOwn hp (cY h4 λ_ s5 ⟨x,H5,I5,r5,y5,Ka,TH⟩=>?_)
  have TJ:=I5.pinned (Ei TH) (T.obj _ _ Ka);refine wpAny_passesOwn hp (cY (hg _ s5 σ3 H5 x u _ TJ r5 (step x H5 y5)) λ_ s6 ⟨σ6,H6,I6,q6⟩=>?_)
  refine wpAny_passesOwn hp (cY (hb _ s6 σ6 H6 _ I6 q6) λf s7 Y=>?_)
  have again:∀{σ7:St} {O:Hp},Inv X (pq++sr fp s5.heap) σ7 O s7->N σ7 O->∃m,m<n/\∃i σ' H',Inv X pq σ' H' s7/\tn i s7.heap/\(∀b∈fp,H' b=none)/\W i m σ' H':=λ{σ7 O} U n7=>by
   obtain⟨m',hm,w7⟩:=hN σ7 O n7;refine⟨m',hm,i+1,σ7,O,U.j6,T.keep _ _ _ Ka λb hb o e=>(U.pin (b,o) (jF _ (jF _ (iy hb e)))).1,λb hb=>?_,w7⟩
   obtain⟨o,e,d⟩:=T.obj _ _ Ka b hb;exact(U.pin (b,o) (jF _ (jF _ (iy hb e)))).2.1
  cases f with
  | next=>obtain⟨σ7,O,U,n7⟩:=Y;exact again U n7
  | cont=>obtain⟨σ7,O,U,n7⟩:=Y;exact again U n7
  | brk=>obtain⟨σ7,O,U,Y⟩:=Y;exact⟨σ7,O,U.j6,Y⟩
  | ret v=>obtain⟨x7,σ7,O,U,r7,Y⟩:=Y;exact⟨x7,σ7,O,U.j6,r7,Y⟩
end
def vN{K:bE}{a:Addr}{xs:List V}{g:TG}{tb:TS}{D:Ends}{σ:St}{H:Hp}(Pv:Nat->St->Hp->Prop)(h0:Pv 0 σ H)(hl:∀i σ H,i<=xs.length->Pv i σ H->aO K H a xs)
 (hs:∀i x σ H,xs[i]?=some x->Pv i σ H->g x σ H λσ2 H2=>tb { D with nx:=Pv (i+1),ct:=Pv (i+1),bk:=D.nx} σ2 H2) (hd:∀σ H,Pv xs.length σ H->D.nx σ H) :
 ∃W:Nat->Nat->St->Hp->Prop,(∃m,W 0 m σ H)/\∀i m σ H,W i m σ H->
   ((Nq K a).stop i H/\D.nx σ H)\/((Nq K a).go i H/\∃N:St->Hp->Prop,(∀σ' H',N σ' H'->∃m',m'<m/\W (i+1) m' σ' H')/\∀x H',(Nq K a).J0 i H x H'->g x σ H' λσ2 H2=>tb { D with nx:=N,ct:=N,bk:=D.nx} σ2 H2):=by
 refine⟨λi m σ H=>m=xs.length-i/\i<=xs.length/\Pv i σ H,⟨xs.length,by simp,aaF _,h0⟩,?_⟩
 rintro i m σ H ⟨rfl,hi,p⟩;have q:=hl i σ H hi p
 by_cases I:i<xs.length
 ·refine .inr ⟨⟨xs,xs[i],q,by simp[I]⟩,Pv (i+1),λσ' H' O=>⟨xs.length-(i+1),by lia,rfl,I,O⟩,λx H' y=>?_⟩
  obtain⟨e,y⟩:=y;subst e;exact hs i x σ _ (y xs q) p
 ·have e:i=xs.length:=by lia
  subst e;exact .inl ⟨⟨xs,q,aaf _⟩,hd σ H p⟩
def Nt{K:bE}{a:Addr}{xs:List V}{g:TG}{tb:TS}{D:Ends}{σ:St}{H:Hp}(Pv:Nat->St->Hp->Prop)(h0:Pv 0 σ H)(hl:∀i σ H,i<=xs.length->Pv i σ H->aV K H a xs)
 (hs:∀i x σ H,xs[i]?=some x->Pv i σ H->g x σ H λσ2 H2=>tb { D with nx:=Pv (i+1),ct:=Pv (i+1),bk:=D.nx} σ2 H2) (hd:∀σ H,Pv xs.length σ H->D.nx σ H) :
 ∃W:Nat->Nat->St->Hp->Prop,(∃m,W 0 m σ H)/\∀i m σ H,W i m σ H->
   ((Sv K a).stop i H/\D.nx σ H)\/((Sv K a).go i H/\∃N:St->Hp->Prop,(∀σ' H',N σ' H'->∃m',m'<m/\W (i+1) m' σ' H')/\∀x H',(Sv K a).J0 i H x H'->g x σ H' λσ2 H2=>tb { D with nx:=N,ct:=N,bk:=D.nx} σ2 H2):=by
 refine⟨λi m σ H=>m=xs.length-i/\i<=xs.length/\Pv i σ H,⟨xs.length,by simp,aaF _,h0⟩,?_⟩
 rintro i m σ H ⟨rfl,hi,p⟩;have q:=hl i σ H hi p
 by_cases I:i<xs.length
 ·refine .inr ⟨⟨xs,xs[i],q,by simp[I]⟩,Pv (i+1),λσ' H' O=>⟨xs.length-(i+1),by lia,rfl,I,O⟩,λx H' y=>?_⟩
  obtain⟨e,y⟩:=y;subst e;exact hs i x σ _ (y xs q) p
 ·have e:i=xs.length:=by lia
  subst e;exact .inl ⟨⟨xs,q,aaf _⟩,hd σ H p⟩
def ze{lo:Int}{n:Nat}{g:TG}{tb:TS}{D:Ends}{σ:St}{H:Hp}(Pv:Nat->St->Hp->Prop)(h0:Pv 0 σ H)
 (hs:∀i σ H,i<n->Pv i σ H->g (.int (lo+i)) σ H λσ2 H2=>tb { D with nx:=Pv (i+1),ct:=Pv (i+1),bk:=D.nx} σ2 H2) (hd:∀σ H,Pv n σ H->D.nx σ H) :
 ∃W:Nat->Nat->St->Hp->Prop,(∃m,W 0 m σ H)/\∀i m σ H,W i m σ H->
   ((M5 lo n).stop i H/\D.nx σ H)\/((M5 lo n).go i H/\∃N:St->Hp->Prop,(∀σ' H',N σ' H'->∃m',m'<m/\W (i+1) m' σ' H')/\∀x H',(M5 lo n).J0 i H x H'->g x σ H' λσ2 H2=>tb { D with nx:=N,ct:=N,bk:=D.nx} σ2 H2):=by
 refine⟨λi m σ H=>m=n-i/\i<=n/\Pv i σ H,⟨n,by simp,aaF _,h0⟩,?_⟩
 rintro i m σ H ⟨rfl,hi,p⟩
 by_cases I:i<n
 ·refine .inr ⟨I,Pv (i+1),λσ' H' O=>⟨n-(i+1),by lia,rfl,I,O⟩,λx H' y=>?_⟩
  obtain⟨e,y⟩:=y;subst e y;exact hs i σ _ I p
 ·have e:i=n:=by lia
  subst e;exact .inl ⟨aaf _,hd σ H p⟩
abbrev R2:=V->V->Hp->VK->Prop
def lP(X:Cx)(f:Value->Value->Sem Value)(r:R2):Prop :=
 ∀(pq:aX) (s:Shared) (σ:St) (H:Hp) (x y:V) (v u:Value) (Q:VK),Inv X pq σ H s->RelV x v->RelV y u->r x y H Q->
  wpAny (model X.prog X.w) X.A (f v u) (EP X pq σ Q) X.xe s
def Xs(X:Cx)(f:Value->Sem Value)(r:V->Hp->VK->Prop):Prop :=
 ∀(pq:aX) (s:Shared) (σ:St) (H:Hp) (x:V) (v:Value) (Q:VK),Inv X pq σ H s->RelV x v->r x H Q->
  wpAny (model X.prog X.w) X.A (f v) (EP X pq σ Q) X.xe s
def g8(X:Cx)(f:Value)(r:List V->Hp->VK->Prop):Prop :=
 ∀(pq:aX) (s:Shared) (σ:St) (H:Hp) (xs:List V) (us:List Value) (Q:VK),Inv X pq σ H s->Vals xs us->r xs H Q->
  wpAny (model X.prog X.w) X.A (call f us) (EP X pq σ Q) X.xe s
def TL(r:R2)(ta tb:TE):TE:=λσ H Q=>ta σ H λx H1=>tb σ H1 λy H2=>r x y H2 Q
def tUn(r:V->Hp->VK->Prop)(ta:TE):TE:=λσ H Q=>ta σ H λx H1=>r x H1 Q
def rI(C:Int->Int->Prop)(g:Int->Int->V):R2:=λx y H Q=>∃i j,x = .int i/\y = .int j/\C i j/\Q (g i j) H
def Hs(g:Int->Int->V):R2:=λx y H Q=>∃i j,x = .int i/\y = .int j/\Q (g i j) H
def rU(g:Int->V):V->Hp->VK->Prop:=λx H Q=>∃i,x = .int i/\Q (g i) H
section
variable {X:Cx}{a b c:Expr}{ta tb tc:TE}{pos:Pos}
def Qw(ha:PE X a ta)(hb:PE X b tb){pq:aX}{s:Shared}{σ:St}{H:Hp}{R:V->V->Hp->Prop}(I:Inv X pq σ H s)
 (h:ta σ H λx H1=>tb σ H1 λy H2=>R x y H2) {Q:dD} {f:Value->Value->Sem Value}
 (hf:∀v u s2 x y H2,Inv X pq σ H2 s2->RelV x v->RelV y u->R x y H2->wpAny (model X.prog X.w) X.A (f v u) Q X.xe s2) :
 wpAny (model X.prog X.w) X.A (eval a X.env) (λv O=>wpAny (model X.prog X.w) X.A (eval b X.env) (λu U=>wpAny (model X.prog X.w) X.A (f v u) Q X.xe U) X.xe O) X.xe s:=by
 refine cY (ha pq s σ H _ I h) λv s1 ⟨x,H1,Y,Z,q1⟩=>?_
 refine cY (hb pq s1 σ H1 _ Y q1) λu s2 ⟨y,H2,I2,r2,q2⟩=>?_
 exact hf v u s2 x y H2 I2 Z r2 q2
def aQ{op:Operator}{r:R2}(ho:lP X (binaryOp op) r)(ha:PE X a ta)(hb:PE X b tb):PE X (.BinOp a op b pos) (TL r ta tb):=by
 intro pq s σ H Q I h;exact wpAny_BinOp (Qw ha hb I h λv u s2 x y H2 O rx U q=>ho pq s2 σ H2 x y v u Q O rx U q)
def Gj{op:UnaryOp}{r:V->Hp->VK->Prop}(ho:Xs X (unaryOp op) r)(ha:PE X a ta):PE X (.UnaryOp op a pos) (tUn r ta):=by
 intro pq s σ H Q I h;exact UnaryOp_ (cY (ha pq s σ H _ I h) λv s1 ⟨x,H1,O,U,Y⟩=>ho pq s1 σ H1 x v Q O U Y)
def Sw{f:Value->Value->Sem Value}{C:Int->Int->Prop}{g:Int->Int->Int}
 (rule:∀(i j:Int) (t u:Tok) (s:Shared) (Q:dD) (E:dD),C i j->Q (.int (g i j) s.toks) { s with toks:=s.toks+1}->wpAny (model X.prog X.w) X.A (f (.int i t) (.int j u)) Q E s) :
 lP X f (rI C λi j=>.int (g i j)):=by
 intro pq s σ H x y v u Q I rx O h;obtain⟨i,j,rfl,rfl,hc,q⟩:=h;obtain⟨t,rfl⟩:=rx;obtain⟨t',rfl⟩:=O;exact rule i j t t' s _ _ hc ⟨.int (g i j),H,I.tok _,⟨_,rfl⟩,q⟩
def Ej{f:Value->Value->Sem Value}{g:Int->Int->Int}
 (rule:∀(i j:Int) (t u:Tok) (s:Shared) (Q:dD) (E:dD),Q (.int (g i j) s.toks) { s with toks:=s.toks+1}->wpAny (model X.prog X.w) X.A (f (.int i t) (.int j u)) Q E s) :
 lP X f (Hs λi j=>.int (g i j)):=by
 intro pq s σ H x y v u Q I rx O h;obtain⟨i,j,rfl,rfl,q⟩:=h;obtain⟨t,rfl⟩:=rx;obtain⟨t',rfl⟩:=O;exact rule i j t t' s _ _ ⟨.int (g i j),H,I.tok _,⟨_,rfl⟩,q⟩
def Nu{f:Value->Value->Sem Value}{g:Int->Int->Bool}
 (rule:∀(i j:Int) (t u:Tok) (s:Shared) (Q:dD) (E:dD),Q (.bool (g i j)) s->wpAny (model X.prog X.w) X.A (f (.int i t) (.int j u)) Q E s) :
 lP X f (Hs λi j=>.bl (g i j)):=by
 intro pq s σ H x y v u Q I rx O h;obtain⟨i,j,rfl,rfl,q⟩:=h;obtain⟨t,rfl⟩:=rx;obtain⟨t',rfl⟩:=O;exact rule i j t t' s _ _ ⟨.bl (g i j),H,I,rfl,q⟩
def Qx(i j:Int):Prop:=0<j/\j<1073741824
def TM(i j:Int):Prop:=0<=j/\j<=1000000/\i.natAbs<2^64
def Qy(i j:Int):Prop:=(-(2^64)<i/\i<2^64)\/(-(2^64)<j/\j<2^64)
def Qy.ok{i j:Int}(h:Qy i j):IntMulOk i j:=by
 rcases h with⟨h1,h2⟩|⟨h1,h2⟩
 ·exact .of_left (intBits_le_64 h1 h2)
 ·exact .of_right (intBits_le_64 h1 h2)
def Ek(k:Nat):(0:Int)<=2^k:=by
 rw[two_pow_cast];exact Int.natCast_nonneg _
def iz:lP X (binaryOp .Add) (Hs λi j=>.int (i+j)):=Ej λ_ _ _ _ _ _ _ q=>add_int q
def qm:lP X (binaryOp .Sub) (Hs λi j=>.int (i-j)):=Ej λ_ _ _ _ _ _ _ q=>sub_int q
def El:lP X (binaryOp .Mult) (rI Qy λi j=>.int (i*j)):=Sw λ_ _ _ _ _ _ _ hc q=>mul_int q hc.ok
def mL:lP X (binaryOp .FloorDiv) (rI Qx λi j=>.int (i/j)):=Sw λi j _ _ _ _ _ hc q=>by
 have h1:(0:Int)<j:=hc.1;have h2:j<1073741824:=hc.2;exact floordiv_int (by lia) (by rw[Int.fdiv_eq_ediv_of_nonneg i (by lia)];exact q) (.inl (PyProof.noPylong_small (by lia)))
def fP:lP X (binaryOp .Mod) (rI (λ_ j=>0<j) λi j=>.int (i%j)):=Sw λi j _ _ _ _ _ hc q=>by
 have h1:(0:Int)<j:=hc;exact mod_int' (by lia) (by rw[Int.fmod_eq_emod_of_nonneg i (by lia)];exact q)
def Kc:lP X (binaryOp .Pow) (rI TM λi j=>.int (i^j.toNat)):=Sw λ_ _ _ _ _ _ _ hc q=>pow_int_small hc.1 hc.2.1 hc.2.2 q
def qo:lP X (binaryOp .LShift) (rI TM λi j=>.int (i*2^j.toNat)):=Sw λ_ _ _ _ _ _ _ hc q=>lshift_int_small hc.1 hc.2.1 hc.2.2 q
def Qz:lP X (binaryOp .RShift) (rI (λ_ j=>0<=j) λi j=>.int (i/2^j.toNat)):=Sw λi j _ _ _ _ _ hc q =>
 rshift_int hc (by rw[Int.fdiv_eq_ediv_of_nonneg i (Ek _)];exact q)
def Kd:lP X (binaryOp .BitAnd) (Hs λi j=>.int (Builtin.bitAnd i j)):=Ej λ_ _ _ _ _ _ _ q=>and_int q
def iA:lP X (binaryOp .BitXor) (Hs λi j=>.int (Builtin.bitXor i j)):=Ej λ_ _ _ _ _ _ _ q=>xor_int q
def Gk:lP X (inplaceOp .Add) (Hs λi j=>.int (i+j)):=Ej λ_ _ _ _ _ _ _ q=>iadd_int q
def Ke:lP X (inplaceOp .BitOr) (Hs λi j=>.int (Builtin.bitOr i j)):=Ej λ_ _ _ _ _ _ _ q=>ior_int q
def Gm:lP X (inplaceOp .BitXor) (Hs λi j=>.int (Builtin.bitXor i j)):=Ej λ_ _ _ _ _ _ _ q=>ixor_int q
def unI{f:Value->Sem Value}{g:Int->Int}
 (rule:∀(i:Int) (t:Tok) (s:Shared) (Q:dD) (E:dD),Q (.int (g i) s.toks) { s with toks:=s.toks+1}->wpAny (model X.prog X.w) X.A (f (.int i t)) Q E s) :
 Xs X f (rU λi=>.int (g i)):=by
 intro pq s σ H x v Q I rx h;obtain⟨i,rfl,q⟩:=h;obtain⟨t,rfl⟩:=rx;exact rule i t s _ _ ⟨.int (g i),H,I.tok _,⟨_,rfl⟩,q⟩
def Al:Xs X (unaryOp .USub) (rU λi=>.int (-i)):=unI λ_ _ _ _ _ q=>neg_int q
end
def QA:V->V->Bool
 | .eF,.eF=>true | .eF,.int _=>true | .int _,.eF=>true | .eF,.bl _=>true | .bl _,.eF=>true | .eF,.str _=>true | .str _,.eF=>true
 | .int _,.int _=>true | .bl _,.bl _=>true | .str _,.str _=>true | .JL _,.JL _=>true
 | .int _,.str _=>true | .str _,.int _=>true | .bl _,.str _=>true | .str _,.bl _=>true
 | _,_=>false
def rEq:R2:=λx y H Q=>QA x y=true/\Q (.bl (decide (x=y))) H
def rNe:R2:=λx y H Q=>QA x y=true/\Q (.bl (!decide (x=y))) H
def Gn{i j:Int}:decide (V.int i=V.int j)=(i==j):=by
 rw[aa4];simp
def Kf{i j:Bool}:decide (V.bl i=V.bl j)=(i==j):=by
 rw[aa4];simp
def Gp{i j:Str}:decide (V.str i=V.str j)=(i==j):=by
 rw[aa4];simp
def Gq{i j:Array UInt8}:decide (V.JL i=V.JL j)=(i.toList==j.toList):=by
 rw[aa4];cases i;cases j;simp
section
variable {X:Cx}{a b c:Expr}{ta tb tc:TE}{pos:Pos}
def bJ{pq:aX}{σ:St}{H:Hp}{s:Shared}{Q:VK}{k k' : Bool}(I:Inv X pq σ H s)(q:Q (.bl k) H)(e:k=k'):EP X pq σ Q (.bool k') s:=by
 subst e;exact⟨.bl k,H,I,rfl,q⟩
def i8:lP X (compareOp .Eq) rEq:=by
 intro pq s σ H x y v u Q I rx O h;obtain⟨hs,q⟩:=h;cases x with
 | eF =>
   cases rx;cases y with
   | eF=>cases O;exact PySem.EqNone.eq_none_none (bJ I q (by simp))
   | bl j=>cases O;exact PySem.EqNone.eq_none_bool (bJ I q (by simp))
   | int j=>obtain⟨U,rfl⟩:=O;exact PySem.EqNone.eq_none_int (bJ I q (by simp))
   | str j=>obtain⟨U,rfl⟩:=O;exact PySem.EqNone.eq_none_str (bJ I q (by simp))
   | _=>exact absurd (show false=true from hs) aah
 | bl i =>
   cases rx;cases y with
   | eF=>cases O;exact PySem.EqNone.eq_bool_none (bJ I q (by simp))
   | bl j=>cases O;exact eq_bool (bJ I q Kf)
   | str j=>obtain⟨U,rfl⟩:=O;exact PySem.EqMixed.eq_bool_str (bJ I q (by simp))
   | _=>exact absurd (show false=true from hs) aah
 | int i =>
   obtain⟨t,rfl⟩:=rx;cases y with
   | eF=>cases O;exact PySem.EqNone.eq_int_none (bJ I q (by simp))
   | int j=>obtain⟨U,rfl⟩:=O;exact eq_int (bJ I q Gn)
   | str j=>obtain⟨U,rfl⟩:=O;exact PySem.EqMixed.eq_int_str (bJ I q (by simp))
   | _=>exact absurd (show false=true from hs) aah
 | str i =>
   obtain⟨t,rfl⟩:=rx;cases y with
   | eF=>cases O;exact PySem.EqNone.eq_str_none (bJ I q (by simp))
   | bl j=>cases O;exact PySem.EqMixed.eq_str_bool (bJ I q (by simp))
   | int j=>obtain⟨U,rfl⟩:=O;exact PySem.EqMixed.eq_str_int (bJ I q (by simp))
   | str j=>obtain⟨U,rfl⟩:=O;exact eq_str (bJ I q Gp)
   | _=>exact absurd (show false=true from hs) aah
 | JL i =>
   obtain⟨t,rfl⟩:=rx;cases y with
   | JL j=>obtain⟨U,rfl⟩:=O;exact PySem.W.eq_bytes (bJ I q Gq)
   | _=>exact absurd (show false=true from hs) aah
 | _=>cases y<;>exact absurd (show false=true from hs) aah
def BW:lP X (compareOp .NotEq) rNe:=by
 intro pq s σ H x y v u Q I rx O h;obtain⟨hs,q⟩:=h;cases x with
 | eF =>
   cases rx;cases y with
   | eF=>cases O;exact PySem.EqNone.ne_none_none (bJ I q (by simp))
   | bl j=>cases O;exact PySem.EqNone.ne_none_bool (bJ I q (by simp))
   | int j=>obtain⟨U,rfl⟩:=O;exact PySem.EqNone.ne_none_int (bJ I q (by simp))
   | str j=>obtain⟨U,rfl⟩:=O;exact PySem.EqNone.ne_none_str (bJ I q (by simp))
   | _=>exact absurd (show false=true from hs) aah
 | bl i =>
   cases rx;cases y with
   | eF=>cases O;exact PySem.EqNone.ne_bool_none (bJ I q (by simp))
   | bl j=>cases O;exact ne_bool (bJ I q (aaO not Kf))
   | str j=>obtain⟨U,rfl⟩:=O;exact PySem.EqMixed.ne_bool_str (bJ I q (by simp))
   | _=>exact absurd (show false=true from hs) aah
 | int i =>
   obtain⟨t,rfl⟩:=rx;cases y with
   | eF=>cases O;exact PySem.EqNone.ne_int_none (bJ I q (by simp))
   | int j=>obtain⟨U,rfl⟩:=O;exact ne_int (bJ I q (aaO not Gn))
   | str j=>obtain⟨U,rfl⟩:=O;exact PySem.EqMixed.ne_int_str (bJ I q (by simp))
   | _=>exact absurd (show false=true from hs) aah
 | str i =>
   obtain⟨t,rfl⟩:=rx;cases y with
   | eF=>cases O;exact PySem.EqNone.ne_str_none (bJ I q (by simp))
   | bl j=>cases O;exact PySem.EqMixed.ne_str_bool (bJ I q (by simp))
   | int j=>obtain⟨U,rfl⟩:=O;exact PySem.EqMixed.ne_str_int (bJ I q (by simp))
   | str j=>obtain⟨U,rfl⟩:=O;exact ne_str (bJ I q (aaO not Gp))
   | _=>exact absurd (show false=true from hs) aah
 | JL i =>
   obtain⟨t,rfl⟩:=rx;cases y with
   | JL j=>obtain⟨U,rfl⟩:=O;exact PySem.W.ne_bytes (bJ I q (aaO not Gq))
   | _=>exact absurd (show false=true from hs) aah
 | _=>cases y<;>exact absurd (show false=true from hs) aah
def zf:lP X (compareOp .Lt) (Hs λi j=>.bl (decide (i<j))):=Nu λ_ _ _ _ _ _ _ q=>lt_int q
def Kg:lP X (compareOp .LtE) (Hs λi j=>.bl (decide (i<=j))):=Nu λ_ _ _ _ _ _ _ q=>le_int q
def pZ:lP X (compareOp .Gt) (Hs λi j=>.bl (decide (j<i))):=Nu λ_ _ _ _ _ _ _ q=>gt_int q
def BX:lP X (compareOp .GtE) (Hs λi j=>.bl (decide (j<=i))):=Nu λ_ _ _ _ _ _ _ q=>ge_int q
def nJ:lP X (compareOp .Is) (λx y H Q=>y = .eF/\Q (.bl (decide (x = .eF))) H):=by
 intro pq s σ H x y v u Q I rx O h;obtain⟨rfl,q⟩:=h;cases O;refine is_none_gen (bJ I q ?_);cases x<;>first
  | (cases rx;rfl)
  | (obtain⟨t,rfl⟩:=rx;rfl)
def Nv:lP X (compareOp .IsNot) (λx y H Q=>y = .eF/\Q (.bl (!decide (x = .eF))) H):=by
 intro pq s σ H x y v u Q I rx O h;obtain⟨rfl,q⟩:=h;cases O;refine isnot_none_gen (bJ I q ?_);cases x<;>first
  | (cases rx;rfl)
  | (obtain⟨t,rfl⟩:=rx;rfl)
def aM(b:Expr){op:CmpOp}(h:op≠.In:=by decide)(h2:op≠.NotIn:=by decide):behindInMarks op b=false:=by
 have I:(op==CmpOp.In)=false:=by cases op<;>first | rfl | exact absurd rfl h
 have O:(op==CmpOp.NotIn)=false:=by cases op<;>first | rfl | exact absurd rfl h2
 cases b<;>simp[behindInMarks,I,O]
def dH{op:CmpOp}{r:R2}(ho:lP X (compareOp op) r)(ha:PE X a ta)(hb:PE X b tb)(hm:behindInMarks op b=false):PE X (.Compare a [op] [b] pos) (TL r ta tb):=by
 intro pq s σ H Q I h;exact wpAny_Compare1 (Qw ha hb I h λv u s2 x y H2 O rx U q=>ho pq s2 σ H2 x y v u Q O rx U q) hm
def TN(t:TE):TT:=λσ H Q=>t σ H λx H'=>∃k,x = .bl k/\Q k H'
def aL{op:CmpOp}{r:R2}(ho:lP X (compareOp op) r)(ha:PE X a ta)(hb:PE X b tb)(hm:behindInMarks op b=false):PT X (.Compare a [op] [b] pos) (TN (TL r ta tb)):=by
 intro pq s σ H Q I h;refine wpAny_isTrue_Compare1 (cY (ha pq s σ H _ I h) λv s1 ⟨x,H1,O,U,Y⟩=>cY (hb pq s1 σ H1 _ O Y) λu s2 ⟨y,H2,Z,r2,q2⟩ =>
  cY (ho pq s2 σ H2 x y v u _ Z U r2 q2) λc s3 ⟨z,H3,I3,r3,k,e,q3⟩=>?_) hm
 subst e;cases r3;exact wpAny_truthy_bool ⟨H3,I3,q3⟩
def su:(sizeLine:Nat)<2^63:=by rw[sizeLine_eq];decide
def vals1{x:V}{us:List Value}(r:Vals [x] us):∃u,us=[u]/\RelV x u:=by
 cases r with
 | cons I O=>cases O;exact⟨_,rfl,I⟩
def vals2{x y:V}{us:List Value}(r:Vals [x,y] us):∃u I,us=[u,I]/\RelV x u/\RelV y I:=by
 cases r with
 | cons O U =>
   cases U with
   | cons Y Z=>cases Z;exact⟨_,_,rfl,O,Y⟩
def Kh:g8 X (.builtin "abs") (λxs H Q=>∃i,xs=[.int i]/\Q (.int (if i<0 then -i else i)) H):=by
 intro pq s σ H xs us Q I r h;obtain⟨i,rfl,q⟩:=h;obtain⟨u,rfl,t,rfl⟩:=vals1 r;exact call_abs_int λu tk=>⟨.int (if i<0 then -i else i),H,I.tok _,⟨_,rfl⟩,q⟩
def oY(hc:X.calm=true):g8 X (.builtin "max") (λxs H Q=>∃i j,xs=[.int i,.int j]/\Q (.int (if j > i then j else i)) H):=by
 intro pq s σ H xs us Q I r h;obtain⟨i,j,rfl,q⟩:=h;obtain⟨u,w',rfl,⟨t,rfl⟩,⟨t',rfl⟩⟩:=vals2 r;refine max_two_ints (I.ok.hd hc) λh' tk k=>⟨_,H,I.kept k,?_,q⟩
 by_cases hj:j > i
 ·rw[aad hj,aad hj];exact⟨_,rfl⟩
 ·rw[aab hj,aab hj];exact⟨_,rfl⟩
def Ht(hc:X.calm=true):g8 X (.builtin "min") (λxs H Q=>∃i j,xs=[.int i,.int j]/\Q (.int (if j<i then j else i)) H):=by
 intro pq s σ H xs us Q I r h;obtain⟨i,j,rfl,q⟩:=h;obtain⟨u,w',rfl,⟨t,rfl⟩,⟨t',rfl⟩⟩:=vals2 r;refine min_two_ints (I.ok.hd hc) λh' tk k=>⟨_,H,I.kept k,?_,q⟩
 by_cases hj:j<i
 ·rw[aad hj,aad hj];exact⟨_,rfl⟩
 ·rw[aab hj,aab hj];exact⟨_,rfl⟩
end
structure Em(h:Heap)(x dx C:Addr)(mA:nE):Prop where
 obj:h.get? x=some (PySem.W.instObj C dx)
 ns:h.Ns1 dx mA
 ne:dx≠x
def Hu{h:Heap}{dx:Addr}{mA:nE}(n:h.Ns1 dx mA):∃od,h.get? dx=some od/\∀name,PySem.W.lookIn name od=some (mA name):=by
 obtain⟨o,es,ep,O,hd,hk,_,hm⟩:=n;refine⟨o,O,λname=>?_⟩
 have e:=hm name;unfold nsFind findBy at e;rw[<-Array.find?_toList]at e;unfold PySem.W.lookIn;rw[hd];dsimp only
 split
 ·rename_i y q
  rw[q]at e;exact aaO some e
 ·rename_i q
  rw[q]at e;have a:es.toList.any (·.refKey)=false:=by
   rw[List.any_eq_false];intro y U;obtain⟨z,t,I⟩:=hk y (Array.mem_toList_iff.mp U);simp[DictEntry.refKey,I]
  have Y : ¬ es.toList.any (·.refKey)=true:=by rw[a];exact aah
  rw[aab Y];exact aaO some e
def Em.look{h:Heap}{x dx C:Addr}{mA:nE}(I:Em h x dx C mA):∃od,PySem.W.InstAt h x (PySem.W.instObj C dx) C (some od)/\∀name,PySem.W.lookIn name od=some (mA name) :=
 let⟨od,ho,hl⟩:=Hu I.ns
 ⟨od,⟨I.obj,rfl,rfl,ho⟩,hl⟩
section
variable {prog:Program}{w:World}{A:Around}{E:dD}{s:Shared}{K:bE}{x dx C f:Addr}{mA:nE}{name:Str}{v:Value}
def get_map{expr:Bool}{Q:dD}(X:K.In s.heap)(I:Em s.heap x dx C mA)(hg:PySem.W.plainGet K C name=true)(hh:PySem.W.hasDictIn K C=true)
 (ha:PySem.W.findIn K (.ref C) name=some none) (hv:mA name=some v) (Hv:PySem.W.handedIn v=true) (h:Q v { s with toks:=s.toks+1}) :
 wpAny (model prog w) A (getAttr (.ref x) name expr) Q E s:=by
 obtain⟨od,J,O⟩:=I.look;exact PySem.W.get_value X J (adb hg).1 (PySem.W.findObj_own hh ha rfl (by rw[O,hv])) Hv h
def Kl{pl:Sem Bool}{Q:Value×List Value->Shared->Prop}(X:K.In s.heap)(I:Em s.heap x dx C mA)(hg:PySem.W.plainGet K C name=true)
 (hf:PySem.W.findIn K (.ref C) name=some (some (.ref f))) (ht:PySem.W.isFn K (.ref f)=true) (hv:mA name=none) (h:Q (.ref f,[.ref x]) s) :
 wpAny (model prog w) A (getMethod (.ref x) name pl) Q E s:=by
 obtain⟨od,J,O⟩:=I.look;exact PySem.W.method_fn X J (adb hg).1 (adb hg).2 hf (ac5.mp ht) (by show(PySem.W.lookIn name od).map (·.isSome)=some false;rw[O,hv];rfl) h
def Nx{ns:List Str}{Q:Unit->Shared->Prop}(X:K.In s.heap)(I:Em s.heap x dx C mA)
 (hs:PySem.W.findIn K (.ref C) "__setattr__"=some (some (.builtin "object.__setattr__"))) (hp:PySem.W.plainOver K C=true) (ht:PySem.W.takerIn K C name=some none) (hh:PySem.W.hasDictIn K C=true)
 (hw:PySem.Within mA ns) (hsz:ns.length<=sizeLine)
 (h:∀h',Em h' x dx C (λy=>if y=name then some v else mA y)->Heap.SameBut dx s.heap h'->Q () { s with heap:=h',toks:=s.toks+2}) :
 wpAny (model prog w) A (setAttr (.ref x) name v) Q E s:=by
 obtain⟨od,J,hl⟩:=I.look;refine PySem.W.set_plain X J hs (PySem.W.osa_open (s:={ s with toks:=s.toks+1}) (r:=none) X J hp ht λb=>?_)
 obtain⟨cd,hc,Y⟩:=PySem.W.any_some hh;have hx:s.heap.get? x=some ⟨.ref C,some dx,.plain,#[]⟩:=I.obj;refine aW (aai (aW (aW (wpAny_loadPart hx (aW (PySem.W.Looks.here (s:={ s with toks:=s.toks+1}) (PySem.W.looks_clsIn X hc) ?_))))))
 rw[Y];refine aai (a:=some dx) (aW (aai (aW ?_)));refine wpAny_nsSet1 (s:={ s with toks:=s.toks+1}) I.ns λh' O U=>?_
 obtain⟨oD,ag,ar,Z,ab,TQ⟩:=O.count (PySem.Within.cons name v hw);refine aW (wpAny_lookBehind Z (by rw[ab];exact pastItsLine_dict (aaB TQ (by rw[aaZ];lia))) ?_)
 exact aai (h _ ⟨(U.2 _ (aaE I.ne)).trans I.obj,O,I.ne⟩ U)
def Km{R:Result->Shared->Prop}{vs:List Value}{kw:List (Str×Value)}(X:K.In s.heap)(hm:PySem.W.makesIn K C=true)
 (hi:PySem.W.findIn K (.ref C) "__init__"=some (some (.ref f))) (hf:PySem.W.typeIn K (.ref f)=some (.type "function"))
 (h:codeAny (model prog w) (A.under (.builtin "type.__call__" ⟨.ref C::vs,kw⟩)) (.call (.ref f) ⟨.ref (s.heap.objs.size+1)::vs,kw⟩) (PySem.W.InitBack (s.heap.objs.size+1) R)
  { s with heap:=(s.heap.push PySem.W.emptyDict).push (PySem.W.instObj C s.heap.objs.size)}) :
 codeAny (model prog w) A (.call (.ref C) ⟨vs,kw⟩) R s:=by
 obtain⟨hh,g,d,t,os⟩:=s;exact PySem.W.make_core (PySem.W.makes_of X hm) (PySem.W.looks_findIn X hi) (λself=>PySem.W.bind_fn X self hf) (.inl rfl) h
end
def c7(f:Str)(v:V):List (Str×V)->List (Str×V)
 | []=>[(f,v)]
 | (g,x)::r=>if g=f then(g,v)::r else(g,x)::c7 f v r
def bu(f g:Str)(v:V):∀fs:List (Str×V),(c7 f v fs).lookup g=if g=f then some v else fs.lookup g
 | []=>by
   show List.lookup g [(f,v)]=_
   by_cases h:g=f
   ·have hb:(g==f)=true:=ac5.mpr h;simp only[List.lookup,hb,aad h]
   ·have hb:(g==f)=false:=beq_eq_false_iff_ne.mpr h;simp only[List.lookup,hb,aab h]
 | (k,x)::r=>by
   have I:=bu f g v r;rw[show c7 f v ((k,x)::r)=(if k=f then(k,v)::r else(k,x)::c7 f v r) from rfl]
   by_cases hk:k=f
   ·rw[aad hk]
    by_cases h:g=k
    ·have hb:(g==k)=true:=ac5.mpr h;simp only[List.lookup,hb,aad (h.trans hk)]
    ·have hb:(g==k)=false:=beq_eq_false_iff_ne.mpr h;simp only[List.lookup,hb,aab (λe:g=f=>h (e.trans hk.symm))]
   ·rw[aab hk]
    by_cases h:g=k
    ·have hb:(g==k)=true:=ac5.mpr h;simp only[List.lookup,hb,aab (λe:g=f=>hk (h.symm.trans e))]
    ·have hb:(g==k)=false:=beq_eq_false_iff_ne.mpr h;simp only[List.lookup,hb];exact I
def sy(f:Str)(v:V):∀fs:List (Str×V),f∈(c7 f v fs).map (·.1)/\∀g,g∈fs.map (·.1)->g∈(c7 f v fs).map (·.1)
 | []=>⟨by simp[c7],λg h=>by simp at h⟩
 | (k,x)::r=>by
   obtain⟨I,O⟩:=sy f v r;rw[show c7 f v ((k,x)::r)=(if k=f then(k,v)::r else(k,x)::c7 f v r) from rfl]
   by_cases hk:k=f
   ·rw[aad hk];subst hk;exact⟨by simp,λg h=>by simpa using h⟩
   ·rw[aab hk];refine⟨?_,λg h=>?_⟩
    ·rw[aay];exact pP _ I
    ·rw[aay]at h ⊢;rcases aao.mp h with e|e
     ·exact aao.mpr (.inl e)
     ·exact pP _ (O g e)
def i9(f:Str)(v:V):∀fs:List (Str×V),(c7 f v fs).length<=fs.length+1
 | []=>by simp[c7]
 | (k,x)::r=>by
   have I:=i9 f v r;rw[show c7 f v ((k,x)::r)=(if k=f then(k,v)::r else(k,x)::c7 f v r) from rfl]
   by_cases hk:k=f
   ·rw[aad hk,aaZ,aaZ];lia
   ·rw[aab hk,aaZ,aaZ];lia
def lM.some_of{v:V}{o:Option Value}(r:lM (some v) o):∃u,o=some u/\RelV v u:=by
 cases o with
 | none=>exact(show False from r).elim
 | some u=>exact⟨u,rfl,r⟩
def lM.none_of{o:Option Value}(r:lM none o):o=none:=by
 cases o with
 | none=>rfl
 | some u=>exact(show False from r).elim
def Hw{v:V}{u:Value}(r:RelV v u):PySem.W.handedIn u=true:=by
 cases v with
 | eF=>cases(show u=Value.none from r);rfl
 | bl b=>cases(show u=Value.bool b from r);rfl
 | int i=>obtain⟨t,e⟩:=(show ∃t,u=Value.int i t from r);cases e;rfl
 | str x=>obtain⟨t,e⟩:=(show ∃t,u=Value.str x t from r);cases e;rfl
 | JL b=>obtain⟨t,e⟩:=(show ∃t,u=Value.bytes b t from r);cases e;rfl
 | Qk b=>obtain⟨t,e⟩:=(show ∃t,u=Value.float b t from r);cases e;rfl
 | ref a=>cases(show u=Value.ref a from r);rfl
 | ty n=>cases(show u=Value.type n from r);rfl
section
variable {P:Program}{w:World}{H H' : Hp}{h h' : Heap}{a C dx:Addr}{fs fs' : List (Str×V)}
def vq(hok:nF P w H h)(e:H a=some (.ins C dx fs)):∃mA,Em h a dx C mA/\(∀f,lM (fs.lookup f) (mA f))/\PySem.Within mA (fs.map (·.1))/\fs.length<=1000/\H dx=some (.own a):=by
 obtain⟨d,z,ne,ob,mA,n,r,q⟩:=(show bz P w H h a (.ins C dx fs) from hok a _ e)
 exact⟨mA,⟨ob,n,ne⟩,r,q,z,d⟩
end
structure Kn(K:bE)(C:Addr):Prop where
 pg:PySem.W.plainGet K C Str.empty=true
 hd:PySem.W.hasDictIn K C=true
 po:PySem.W.plainOver K C=true
 sa:PySem.W.findIn K (.ref C) "__setattr__"=some (some (.builtin "object.__setattr__"))
def Kn.get{K:bE}{C:Addr}(c:Kn K C)(f:Str):PySem.W.plainGet K C f=true:=c.pg
def kZ(K:bE)(C:Addr)(f:Str):Prop:=PySem.W.findIn K (.ref C) f=some none
def kZ.TR{K:bE}{C:Addr}{f:Str}(n:kZ K C f):PySem.W.takerIn K C f=some none:=by
 unfold PySem.W.takerIn;rw[show PySem.W.findIn K (.ref C) f=some none from n]
 rfl
structure Meth(K:bE)(C:Addr)(m:Str)(f:Addr):Prop where
 at_:PySem.W.findIn K (.ref C) m=some (some (.ref f))
 fn:PySem.W.isFn K (.ref f)=true
 kp:PySem.W.keepIn K (.ref f)=true
section
variable {X:Cx}{pq:aX}{σ:St}{H:Hp}{s:Shared}{a C dx:Addr}{fs:List (Str×V)}{f:Str}{v:V}{A:Around}{E:dD}
def En{b:Bool}{Q:dD}(I:Inv X pq σ H s)(e:H a=some (.ins C dx fs))(c:Kn X.K C)(n:kZ X.K C f)(l:fs.lookup f=some v)
 (h:∀u s',Inv X pq σ H s'->RelV v u->Q u s'):wpAny (model X.prog X.w) A (getAttr (.ref a) f b) Q E s:=by
 obtain⟨mA,O,r,_,_,_⟩:=vq I.hok e;obtain⟨u,hu,ru⟩:=lM.some_of (v:=v) (o:=mA f) (by rw[<-l];exact r f)
 exact get_map I.uy O (c.get f) c.hd n hu (Hw ru) (h u _ (I.tok _) ru)
def vO{m:Str}{g:Addr}{pl:Sem Bool}{Q:Value×List Value->Shared->Prop}(I:Inv X pq σ H s)(e:H a=some (.ins C dx fs))(c:Kn X.K C)(k:Meth X.K C m g)(l:fs.lookup m=none)
 (h:Q (.ref g,[.ref a]) s):wpAny (model X.prog X.w) A (getMethod (.ref a) m pl) Q E s:=by
 obtain⟨mA,O,r,_,_,_⟩:=vq I.hok e;have hn:mA m=none:=lM.none_of (by rw[<-l];exact r m)
 exact Kl I.uy O (c.get m) k.at_ k.fn hn h
def Eo{y:V}{u:Value}{Q:Unit->Shared->Prop}(I:Inv X pq σ H s)(e:H a=some (.ins C dx fs))(c:Kn X.K C)(n:kZ X.K C f)(hl:fs.length<1000)(ry:RelV y u)
 (h:∀s',Inv X pq σ (upd H a (.ins C dx (c7 f y fs))) s'->Q () s'):wpAny (model X.prog X.w) A (setAttr (.ref a) f u) Q E s:=by
 obtain⟨mA,O,r,wi,_,Y⟩:=vq I.hok e;have hz:(fs.map (·.1)).length<=sizeLine:=by rw[aaa,sizeLine_eq];lia
 refine Nx I.uy O c.sa c.po n.TR c.hd wi hz λh' U Z=>h _ ?_
 have hd:∃o,h'.get? dx=some o:=let⟨o,_,_,e',_⟩:=U.ns;⟨o,e'⟩;refine I.write (x:=a) (e:=dx) (by rw[e];exact True.intro) (.inr Y) (λb q hb z=>(Z.2 b hb).trans z) hd ?_
 refine⟨by rw[ah O.ne];exact Y,?_,O.ne,U.obj,_,U.ns,λg=>?_,λg hg=>?_⟩
 ·have:=i9 f y fs;lia
 ·show lM ((c7 f y fs).lookup g) (if g=f then some u else mA g)
  rw[bu]
  by_cases q:g=f
  ·rw[aad q,aad q];exact ry
  ·rw[aab q,aab q];exact r g
 ·by_cases q:g=f
  ·rw[q];exact(sy f y fs).1
  ·refine(sy f y fs).2 g (wi g λz=>hg ?_)
   show(if g=f then some u else mA g)=none
   rw[aab q];exact z
def Inv.made(I:Inv X pq σ H s):Inv X pq σ (upd (upd H s.heap.objs.size (.own (s.heap.objs.size+1))) (s.heap.objs.size+1) (.ins C s.heap.objs.size []))
 { s with heap:=(s.heap.push PySem.W.emptyDict).push (PySem.W.instObj C s.heap.objs.size)}:=by
 have O:(s.heap.push PySem.W.emptyDict).get? s.heap.objs.size=some PySem.W.emptyDict:=aav s.heap rfl;have U:((s.heap.push PySem.W.emptyDict).push (PySem.W.instObj C s.heap.objs.size)).get? (s.heap.objs.size+1)=some (PySem.W.instObj C s.heap.objs.size):=by
  have:=aav (s.heap.push PySem.W.emptyDict) (o:=PySem.W.instObj C s.heap.objs.size) rfl
  rwa [acB]at this
 have Y:(s.heap.push PySem.W.emptyDict).Ns s.heap.objs.size (λ_=>none):=⟨PySem.W.emptyDict,#[],_,O,rfl,(λe he=>absurd he (by simp)),λ_=>rfl⟩
 have Z:=I.laid (a:=s.heap.objs.size) (o:=.own (s.heap.objs.size+1)) (h':=s.heap.push PySem.W.emptyDict) (t':=s.toks) (λb u q=>aag _ q) (aaf _) ⟨_,O⟩
 refine Z.laid (a:=s.heap.objs.size+1) (o:=.ins C s.heap.objs.size []) (t':=s.toks) (λb u q=>aag _ q) (acj (acB _ _)) ?_
 have ne:s.heap.objs.size≠s.heap.objs.size+1:=aaz (abI _);refine⟨by rw[ah ne,ae],aaF _,ne,U,λ_=>none,(Heap.Ns1.of_empty Y).at λo q=>aag _ q,λ_=>True.intro,λy hy=>absurd rfl hy⟩
def Ny{prog:Program}{w:World}{env:Env}{e:Expr}{f:Str}{pos:Pos}{s:Shared}{Q:dD}(hb:attributeBase e f env (eval e env)=eval e env)
 (h:wpAny (model prog w) A (eval e env) (λo I=>wpAny (model prog w) A (getAttr o f true) Q E I) E s):wpAny (model prog w) A (eval (.Attribute e f pos) env) Q E s :=
 Attribute_any_ h (by rw[arm_eval_Attribute,hb])
end
def TU(K:bE)(ta:TE)(f:Str):TE:=λσ H Q=>ta σ H λx H1=>∃a C dx fs v,x = .ref a/\H1 a=some (.ins C dx fs)/\Kn K C/\kZ K C f/\fs.lookup f=some v/\Q v H1
def Xu(K:bE)(ta tv:TE)(f:Str):TS:=λD σ H=>tv σ H λy H1=>ta σ H1 λx H2=>∃a C dx fs,x = .ref a/\H2 a=some (.ins C dx fs)/\Kn K C/\kZ K C f/\fs.length<1000/\
 D.nx σ (upd H2 a (.ins C dx (c7 f y fs)))
section
variable {X:Cx}{o e value:Expr}{f:Str}{pos pos' tpos:Pos}{ta tv:TE}
def QB(he:PE X e ta)(hb:attributeBase e f X.env (eval e X.env)=eval e X.env):PE X (.Attribute e f pos) (TU X.K ta f):=by
 intro pq s σ H Q I h;refine Ny hb (cY (he pq s σ H _ I h) λu s1 ⟨x,H1,O,rx,a,C,dx,fs,v,ex,U,c,n,l,q⟩=>?_)
 subst ex;obtain rfl:u=Value.ref a:=rx;exact En O U c n l λu' s2 Y Z=>⟨v,H1,Y,Z,q⟩
def sD(ha:PE X o ta)(hv:PE X value tv)(hs:swapsWith value (some (.Attribute o f pos')) pos.line X.env=pure false):PS X (.Assign [.Attribute o f pos'] value pos) (Xu X.K ta tv f):=by
 intro pq s σ H D I h;refine plainObj_wpAny_Assign_Attribute (cY (hv pq s σ H _ I h) λu s1 ⟨y,H1,O,U,q⟩=>cY (ha pq s1 σ H1 _ O q) λY s2 ⟨x,H2,Z,rx,a,C,dx,fs,ex,ea,c,n,l,q2⟩=>?_) hs
 subst ex;obtain rfl:Y=Value.ref a:=rx;exact Eo Z ea c n l U λs3 I3=>⟨σ,_,I3,q2⟩
end
section
variable {X:Cx}{pq:aX}{σ:St}{H:Hp}{s:Shared}{A:Around}{E:dD}{Q:dD}{c:Value}{b:Bool}
inductive sE(K:bE)(H:Hp):V->Value->Prop where
 | eF:sE K H .eF (.type "NoneType")
 | bl (x:Bool):sE K H (.bl x) (.type "bool")
 | int (i:Int):sE K H (.int i) (.type "int")
 | str (x:Str):sE K H (.str x) (.type "str")
 | Qk (x:UInt64):sE K H (.Qk x) (.type "float")
 | lst {a:Addr} {xs:List V} (e:H a=some (.lst xs)):sE K H (.ref a) (.type "list")
 | mG {a:Addr} {o:Obj} {xs:List V} (e:H a=some (.mG o (.lst xs))):sE K H (.ref a) (.type "list")
 | tup {a:Addr} {xs:List V} (e:H a=some (.tup xs)):sE K H (.ref a) (.type "tuple")
 | dK {a:Addr} {kvs:List (Key×V)} (e:H a=some (.dK kvs)):sE K H (.ref a) (.type "dict")
 | dT {a:Addr} {kvs:List (List Key×V)} (e:H a=some (.dT kvs)):sE K H (.ref a) (.type "dict")
 | ins {a C dx:Addr} {fs:List (Str×V)} (e:H a=some (.ins C dx fs)) (cl:Kn K C) (ha:PySem.W.findIn K (.ref C) "__class__"=some (some (.builtin "object.__class__")))
  (hn:PySem.W.specialIn K (.builtin "object.__class__") "__get__"=some (some (.builtin "getset_descriptor.__get__"))) (htk:PySem.W.takesIn K (.builtin "object.__class__")=some true)
  (hm:PySem.W.mroIn K C (.type "object")=some true):sE K H (.ref a) (.ref C)
def Hx{x:V}{u t:Value}(I:Inv X pq σ H s)(rx:RelV x u)(ty:sE X.K H x t)(e:PySem.W.kitOne X.K t c=some b)(h:∀tk,Q (.bool b) { s with toks:=tk}):
 wpAny (model X.prog X.w) A (call (.builtin "isinstance") [u,c]) Q E s:=by
 cases ty with
 | eF=>cases(show u=Value.none from rx);exact abl PySem.W.kitx_none I.uy True.intro e (λz=>nomatch z) h
 | bl y=>cases(show u=Value.bool y from rx);exact abl PySem.W.kitx_bool I.uy True.intro e (λz=>nomatch z) h
 | int i=>obtain⟨t,q⟩:=(show ∃t,u=Value.int i t from rx);cases q;exact abl PySem.W.kitx_int I.uy True.intro e (λz=>nomatch z) h
 | str y=>obtain⟨t,q⟩:=(show ∃t,u=Value.str y t from rx);cases q;exact abl PySem.W.kitx_str I.uy True.intro e (λz=>nomatch z) h
 | Qk y=>obtain⟨t,q⟩:=(show ∃t,u=Value.float y t from rx);cases q;exact abl PySem.W.kitx_float I.uy True.intro e (λz=>nomatch z) h
 | @lst a xs ea =>
   cases(show u=Value.ref a from rx)
   obtain⟨_,_,n,_,h1⟩:=(show bz X.prog X.w H s.heap a (.lst xs) from I.hok a _ ea)
   exact abl PySem.W.kitx_list I.uy ⟨_,h1,rfl⟩ e (λz=>nomatch z) h
 | @mG a ob xs ea =>
   cases(show u=Value.ref a from rx)
   obtain⟨_,_,_,n,_,h1⟩:=(show bz X.prog X.w H s.heap a (.mG ob (.lst xs)) from I.hok a _ ea)
   exact abl PySem.W.kitx_list I.uy ⟨_,h1,rfl⟩ e (λz=>nomatch z) h
 | @tup a xs ea =>
   cases(show u=Value.ref a from rx)
   obtain⟨_,_,_,p⟩:=(show bz X.prog X.w H s.heap a (.tup xs) from I.hok a _ ea)
   obtain⟨o,h1,h2,_⟩:=p;exact abl PySem.W.kitx_tuple I.uy ⟨o,h1,h2⟩ e (λz=>nomatch z) h
 | @dK a kvs ea =>
   cases(show u=Value.ref a from rx)
   obtain⟨_,_,vs,_,p⟩:=(show bz X.prog X.w H s.heap a (.dK kvs) from I.hok a _ ea)
   obtain⟨o,es,ep,h1,h2,_⟩:=p;exact abl PySem.W.kitx_dict I.uy ⟨o,h1,h2.1⟩ e (λz=>nomatch z) h
 | @dT a kvs ea =>
   cases(show u=Value.ref a from rx)
   obtain⟨_,_,xs,_,o,es,ep,h1,h2,_⟩:=(show bz X.prog X.w H s.heap a (.dT kvs) from I.hok a _ ea)
   exact abl PySem.W.kitx_dict I.uy ⟨o,h1,h2.1⟩ e (λz=>nomatch z) h
 | @ins a C dx fs ea cl ha hn htk hm =>
   cases(show u=Value.ref a from rx)
   obtain⟨mA,O,_⟩:=vq I.hok ea;obtain⟨od,J,_⟩:=O.look;exact abl (PySem.W.kitx_own (cl.get _) cl.hd ha hn htk hm) I.uy J e (λz=>nomatch z) h
end
structure dU(k:Nat)(A:Around):Prop where
 hd:A.handled=none
 dp:A.depth+3*k+5<recursionLimit
 un:A.units+16*k+200<cLine
def dU.mono{j k:Nat}{A:Around}(r:dU k A)(h:j<=k):dU j A:=⟨r.hd,by have:=r.dp;lia,by have:=r.un;lia⟩
def dU.deeper{k:Nat}{A:Around}(r:dU (k+1) A)(env:Env):dU k (A.deeper env) :=
 ⟨r.hd,by have:=r.dp;show A.depth+1+3*k+5<_;lia,by have:=r.un;show A.units+3+16*k+200<_;lia⟩
def dU.in1{k:Nat}{A:Around}(r:dU (k+1) A):dU k A.in1 :=
 ⟨r.hd,by have:=r.dp;show A.depth+3*k+5<_;lia,by have:=r.un;show A.units+1+16*k+200<_;lia⟩
def Ep{A:Around}{C:Addr}{us:List Value}{kw:List (Str×Value)}:(A.under (.builtin "type.__call__" ⟨.ref C::us,kw⟩)).depth=A.depth+1:=by
 first | rfl | simp[Around.under,Code.weight,Code.isCreation,Code.isGuard,Code.isCaller,Code.frames,Code.isFrame,guardIds]
def Er{A:Around}{C:Addr}{us:List Value}{kw:List (Str×Value)}:(A.under (.builtin "type.__call__" ⟨.ref C::us,kw⟩)).units=A.units+1:=by
 first | rfl | simp[Around.under,Code.cUnits,Code.frames,Code.isFrame]
def dU.make{k:Nat}{A:Around}(r:dU (k+1) A)(C:Addr)(us:List Value)(kw:List (Str×Value)):dU k (A.under (.builtin "type.__call__" ⟨.ref C::us,kw⟩)) :=
 ⟨r.hd,by have:=r.dp;rw[Ep];lia,by have:=r.un;rw[Er];lia⟩
def dU.depth{k:Nat}{A:Around}(r:dU k A):A.depth<recursionLimit:=by have:=r.dp;lia
def dU.units{k:Nat}{A:Around}(r:dU k A):A.units+64<cLine:=by have:=r.un;lia
def dU.Es{k:Nat}{A:Around}(r:dU k A):A.units<cLine:=by have:=r.un;lia
def TV:TA:=λ_ H Q=>Q [] H
def TX(ta:TE)(tr:TA):TA:=λσ H Q=>ta σ H λx H1=>tr σ H1 λxs H2=>Q (x::xs) H2
section
variable {X:Cx}{e:Expr}{es:List Expr}{te:TE}{t:TA}{pos:Pos}
def af:PA X [] TV:=λ_ _ _ _ H Q I h=>Calls.spliced_nil ⟨[],H,I,.nil,h⟩
def aa(ha:PE X e te)(hr:PA X es t)(hs:starEach (e::es) X.env=(false,eval e X.env)::starEach es X.env:=by rfl):PA X (e::es) (TX te t):=by
 intro pos pq s σ H Q I h;rw[hs];show wpAny _ _ (spliced ((false,eval e X.env)::backTo pos (starEach es X.env))) _ _ s;refine Calls.spliced_cons (cY (ha pq s σ H _ I h) λu s1 ⟨x,H1,O,U,Y⟩=>?_)
 exact cY (hr pos pq s1 σ H1 _ O Y) λus s2 ⟨xs,H2,Z,r2,q2⟩=>⟨x::xs,H2,Z,.cons U r2,q2⟩
def Xv(t:TA):TE:=λσ H Q=>t σ H λxs H1=>xs.length<=sizeLine/\∀p,H1 p=none->Q (.ref p) (upd H1 p (.tup xs))
def Xw(t:TA):TE:=λσ H Q=>t σ H λxs H1=>xs.length<=sizeLine/\∀p,H1 p=none->Q (.ref p) (upd H1 p (.lst xs))
def cE{x1}(h:PA X es t):PE X (.Tuple es x1 pos) (Xv t):=by
 intro pq s σ H Q I U;refine wpAny_Tuple_spliced (cY (h pos pq s σ H _ I U) λus s1 ⟨xs,H1,O,r,z,q⟩=>⟨by rw[<-r.length];exact z,?_⟩)
 have hf:H1 s1.heap.objs.size=none:=O.hok.fresh (aaf _);refine⟨.ref s1.heap.objs.size,upd H1 s1.heap.objs.size (.tup xs),O.laid (t':=s1.toks) (λb u e=>aag _ e) (aaf _) ?_,rfl,q _ hf⟩
 exact⟨z,us,r,⟨_,aav _ rfl,rfl,_,rfl⟩⟩
def dX(h:PA X es t):PE X (.List es pos) (Xw t):=by
 intro pq s σ H Q I U;refine wpAny_List_spliced (cY (h pos pq s σ H _ I U) λus s1 ⟨xs,H1,O,r,z,q⟩=>⟨by rw[<-r.length];exact z,?_⟩)
 have hf:H1 s1.heap.objs.size=none:=O.hok.fresh (aaf _);refine⟨.ref s1.heap.objs.size,upd H1 s1.heap.objs.size (.lst xs),O.laid (t':=s1.toks) (λb u e=>aag _ e) (aaf _) ?_,rfl,q _ hf⟩
 exact⟨z,us,0,r,aav _ rfl⟩
end
abbrev Sp:=List V->Hp->VK->XK->Prop
abbrev JM:=List Env->Hp->Shared->XK->Value->Shared->Prop
structure Et(P:Program)(w:World)(K:bE)(mg:nE)(base:Heap)(A:Around)(outer:List Env)(s:Shared)(H:Hp):Prop where
 frames:A.frames=some outer
 mod:Mod K mg base
 bs:∀b o,base.get? b=some o->s.heap.get? b=some o/\H b=none
 M3:base.objs.size<=s.heap.objs.size
 funs:s.heap.FunFrames base outer
 Nk:∀b∈frs outer,H b=none
 hok:nF P w H s.heap
 bare:AllBare s.gens
def CE(outer:List Env)(P:Program)(w:World)(H:Hp)(s:Shared)(Q:VK)(u:Value)(s' : Shared):Prop :=
 ∃v H',s'.os=s.os/\AllBare s'.gens/\Un (frs outer) [] H H' s.heap s'.heap/\nF P w H' s'.heap/\RelV v u/\Q v H'
def CR(CX:JM)(outer:List Env)(P:Program)(w:World)(H:Hp)(s:Shared)(Q:VK)(E:XK)(r:Result)(s' : Shared):Prop :=
 match r with
 | .ok (.ret u)=>CE outer P w H s Q u s'
 | .ok _=>False
 | .error e=>CX outer H s E e s'
structure gY(P:Program)(w:World)(K:bE)(mg:nE)(base:Heap)(CX:JM)(k:Nat)(f:Addr)(fd:FuncData)(ps:List Str)(sp:Sp):Prop where
 len:∀vs H Q E,sp vs H Q E->vs.length=ps.length
 run:∀(A:Around) (outer:List Env) (s:Shared) (H:Hp) (args:Args) (us:List Value) (vs:List V) (Q:VK) (E:XK),dU k A->Et P w K mg base A outer s H->BindsTo s fd args (ps.zip us)->Vals vs us->sp vs H Q E->
  codeAny (model P w) A (.call (.ref f) args) (CR CX outer P w H s Q E) s
def Et.make{P:Program}{w:World}{K:bE}{mg:nE}{base:Heap}{A:Around}{outer:List Env}{s:Shared}{H:Hp}(e:Et P w K mg base A outer s H)(C:Addr)(us:List Value)(kw:List (Str×Value)):
 Et P w K mg base (A.under (.builtin "type.__call__" ⟨.ref C::us,kw⟩)) outer s H:=⟨by first | exact e.frames | (simpa[Around.under,Code.envs,Code.isFrame,pushEnvs]using e.frames),e.mod,e.bs,e.M3,e.funs,e.Nk,e.hok,e.bare⟩
section
variable {X:Cx}{pq:aX}{σ:St}{H:Hp}{s s' : Shared}
def Inv.TY(I:Inv X pq σ H s):Et X.prog X.w X.K X.mg X.base X.A X.stack s H :=
 ⟨I.ok.frames,I.ok.mod,I.bs,aaB I.ok.M3 I.sz,I.stack,I.Ai,I.hok,I.bare⟩
def Inv.after{Q:VK}{u:Value}(I:Inv X pq σ H s)(h:CE X.stack X.prog X.w H s Q u s'):EP X pq σ Q u s':=by
 obtain⟨v,H',os,bare,un,hok,r,q⟩:=h;obtain⟨hh,g,d,t,os'⟩:=s';obtain rfl:os' = s.os:=os;exact⟨v,H',I.call (h':=hh) (g':=g) (d':=d) (t':=t) (ch:=[]) un hok bare (λb z=>absurd z (by simp)),r,q⟩
end
def Pb(sp:Sp)(yn:List V)(E:XK)(t:TA):TE:=λσ H Q=>t σ H λvs H1=>sp (vs++yn) H1 Q E
def Pc(C:Addr)(m:Str)(sp:Sp)(yn:List V)(E:XK)(ta:TE)(t:TA):TE:=λσ H Q=>ta σ H λx H1=>∃a dx fs,x = .ref a/\H1 a=some (.ins C dx fs)/\fs.lookup m=none/\
 t σ H1 λvs H2=>sp (x::(vs++yn)) H2 Q E
def TZ(C:Addr)(sp:Sp)(yn:List V)(E:XK)(t:TA):TE:=λσ H Q=>t σ H λvs H1=>∀x dx,H1 x=none->H1 dx=none->dx≠x->
 sp (.ref x::(vs++yn)) (upd (upd H1 dx (.own x)) x (.ins C dx [])) (λv H2=>v = .eF/\Q (.ref x) H2) E
def Binds(K:bE)(fd:FuncData)(ps:List Str)(ds:List Value):Prop :=
 ∀(s:Shared) (us:List Value),K.In s.heap->(us++ds).length=ps.length->BindsTo s fd ⟨us,[]⟩ (ps.zip (us++ds))
def Binds.all{K:bE}{fd:FuncData}{ps:List Str}(h:∀us:List Value,us.length=ps.length->bindArgs fd ⟨us,[]⟩=pure (ps.zip us)):Binds K fd ps []:=λs us _ I=>by
 rw[abT]at I ⊢;exact .of_eq (h us I)
def Passes(CX:JM)(X:Cx)(E:XK):Prop:=∀(pq:aX) (σ:St) (H:Hp) (s:Shared) (e:Value) (s' : Shared),Inv X pq σ H s->CX X.stack H s E e s'->X.xe e s'
section
variable {X:Cx}{CX:JM}{k:Nat}{f C:Addr}{fd:FuncData}{ps:List Str}{sp:Sp}{yn:List V}{ds:List Value}{E:XK}{x m:Str}{p pos apos:Pos}{e o:Expr}{es:List Expr}{ta:TE}{t:TA}
def Eu{pq:aX}{σ:St}{H:Hp}{s:Shared}{Q:VK}{us:List Value}{vs:List V}(F:gY X.prog X.w X.K X.mg X.base CX k f fd ps sp)(hr:dU k X.A)(hb:Binds X.K fd ps ds)(hd:Vals yn ds)(hx:Passes CX X E)
 (I:Inv X pq σ H s) (r:Vals vs us) (h:sp (vs++yn) H Q E):wpAny (model X.prog X.w) X.A (call (.ref f) us) (EP X pq σ Q) X.xe s:=by
 have U:Vals (vs++yn) (us++ds):=r.append hd;have Y:(us++ds).length=ps.length:=by rw[<-U.length];exact F.len _ _ _ _ h
 refine wpAny_call (codeAny_mono (F.run X.A X.stack s H ⟨us,[]⟩ (us++ds) (vs++yn) Q E hr I.TY (hb s us I.uy Y) U h) λr s' O=>?_)
 cases r with
 | error e=>exact hx pq σ H s e s' I O
 | ok fl =>
   cases fl with
   | ret u=>exact I.after O
   | next=>exact False.elim O
   | brk=>exact False.elim O
   | cont=>exact False.elim O
def Nz(F:gY X.prog X.w X.K X.mg X.base CX k f fd ps sp)(hr:dU k X.A)(hg:Gl X x)(hm:X.mg x=some (.ref f))(hk:PySem.W.keepIn X.K (.ref f)=true)(hb:Binds X.K fd ps ds)(hd:Vals yn ds)(hx:Passes CX X E)
 (ha:PA X (e::es) t) (hdb:(x==("__debug__":Str))=false:=by decide) (he:starEach (e::es) X.env=(false,eval e X.env)::starEach es X.env:=by rfl) (hpl:(backTo pos (starEach es X.env)).any (·.1)=false:=by rfl) :
 PE X (.Call (.Name x p) (e::es) [] pos) (Pb sp yn E t):=by
 intro pq s σ H Q I h;refine wpAny_Call_Name_kw (vo I hg hm ?_ hdb);refine adg (h₀:=X.base) I.ok.mod.Sq hk (cY (ha pos pq s σ H _ I h) λus s1 ⟨vs,H1,O,r,q⟩=>⟨O.uy,?_⟩) he hpl
 exact Eu F hr hb hd hx O r q
def Am{pl:Sem Bool}(he:PE X o ta)(c:Kn X.K C)(hm:Meth X.K C m f)(F:gY X.prog X.w X.K X.mg X.base CX k f fd ps sp)(hr:dU k X.A)(hb:Binds X.K fd ps ds)(hd:Vals yn ds)(hx:Passes CX X E)(ha:PA X (e::es) t)
 (hst:starEach (e::es) X.env=(false,eval e X.env)::starEach es X.env:=by rfl) (hpl:(backTo pos (starEach es X.env)).any (·.1)=false:=by rfl)
 (ht:eval (.Call (.Attribute o m apos) (e::es) [] pos) X.env=(do
  let O←eval o X.env
  standAt apos.atName
  let(f,first)←holding [O] (getMethod O m pl)
  callWith pos f first (backTo pos (starEach (e::es) X.env)) (backToKw pos (keywordEach [] X.env))):=by rfl) :
 PE X (.Call (.Attribute o m apos) (e::es) [] pos) (Pc C m sp yn E ta t):=by
 intro pq s σ H Q I h;refine PySem.W.methodCall_KW (pl:=pl) (cY (he pq s σ H _ I h) λu s1 ⟨x,H1,U,rx,a,dx,fs,ex,Z,l,q⟩=>?_) ht
 subst ex;obtain rfl:u=Value.ref a:=rx;refine vO U Z c hm l ?_;refine adg (first:=[.ref a]) (h₀:=X.base) I.ok.mod.Sq hm.kp (cY (ha pos pq s1 σ H1 _ U q) λus s2 ⟨vs,H2,Y,r,q2⟩=>⟨Y.uy,?_⟩) hst hpl
 exact Eu (us:=.ref a::us) (vs:=.ref a::vs) F hr hb hd hx Y (.cons rfl r) q2
def fc{pl:Sem Bool}(he:PE X o ta)(c:Kn X.K C)(hm:Meth X.K C m f)(F:gY X.prog X.w X.K X.mg X.base CX k f fd ps sp)(hr:dU k X.A)(hb:Binds X.K fd ps ds)(hd:Vals yn ds)(hx:Passes CX X E)
 (ht:eval (.Call (.Attribute o m apos) [] [] pos) X.env=(do
  let U←eval o X.env
  standAt apos.atName
  let(f,first)←holding [U] (getMethod U m pl)
  callWith pos f first (backTo pos (starEach [] X.env)) (backToKw pos (keywordEach [] X.env))):=by rfl) :
 PE X (.Call (.Attribute o m apos) [] [] pos) (Pc C m sp yn E ta TV):=by
 intro pq s σ H Q I h;refine PySem.W.methodCall_KW (pl:=pl) (cY (he pq s σ H _ I h) λu s1 ⟨x,H1,O,rx,a,dx,fs,ex,Y,l,q⟩=>?_) ht
 subst ex;obtain rfl:u=Value.ref a:=rx;refine vO O Y c hm l ?_;exact PySem.W.callWith_K0 (first:=[.ref a]) O.uy hm.kp (Eu (us:=[.ref a]) (vs:=[.ref a]) F hr hb hd hx O (.cons rfl .nil) q)
structure Mk(K:bE)(C f:Addr):Prop where
 makes:PySem.W.makesIn K C=true
 init:PySem.W.findIn K (.ref C) "__init__"=some (some (.ref f))
 fn:PySem.W.isFn K (.ref f)=true
 kp:PySem.W.keepIn K (.ref C)=true
def Ko{pq:aX}{σ:St}{H:Hp}{s:Shared}{Q:VK}{us:List Value}{vs:List V}(M:Mk X.K C f)(F:gY X.prog X.w X.K X.mg X.base CX k f fd ps sp)(hr:dU (k+1) X.A)(hb:Binds X.K fd ps ds)(hd:Vals yn ds)
 (hx:Passes CX X E) (I:Inv X pq σ H s) (r:Vals vs us)
 (h:∀x dx,H x=none->H dx=none->dx≠x->sp (.ref x::(vs++yn)) (upd (upd H dx (.own x)) x (.ins C dx [])) (λv H2=>v = .eF/\Q (.ref x) H2) E) :
 wpAny (model X.prog X.w) X.A (call (.ref C) us) (EP X pq σ Q) X.xe s:=by
 have Y:=h (s.heap.objs.size+1) s.heap.objs.size (I.hok.fresh (abd _)) (I.hok.fresh (aaf _)) (aaz (abI _));have U:=Inv.made (C:=C) I;have Z:Vals (V.ref (s.heap.objs.size+1)::(vs++yn)) (Value.ref (s.heap.objs.size+1)::(us++ds)):=.cons rfl (r.append hd);have hl:(Value.ref (s.heap.objs.size+1)::us++ds).length=ps.length:=by
  have e:=Z.length;rw[F.len _ _ _ _ Y]at e;exact e.symm
 refine wpAny_call (Km (f:=f) I.uy M.makes M.init (ac5.mp M.fn) (codeAny_mono (F.run _ X.stack _ _ ⟨Value.ref (s.heap.objs.size+1)::us,[]⟩ (Value.ref (s.heap.objs.size+1)::(us++ds)) _ _ E (hr.make C us [])
  (U.TY.make C us []) (hb _ (Value.ref (s.heap.objs.size+1)::us) U.uy hl) Z Y) λr s' O=>?_))
 cases r with
 | error e=>exact hx pq σ _ _ e s' U O
 | ok fl =>
   cases fl with
   | ret u =>
     obtain⟨v,H',I3,rv,ev,q3⟩:=U.after O;subst ev;exact⟨rv,⟨V.ref (s.heap.objs.size+1),H',I3,rfl,q3⟩⟩
   | next=>exact False.elim O
   | brk=>exact False.elim O
   | cont=>exact False.elim O
def NB(M:Mk X.K C f)(F:gY X.prog X.w X.K X.mg X.base CX k f fd ps sp)(hr:dU (k+1) X.A)(hg:Gl X x)(hm:X.mg x=some (.ref C))(hb:Binds X.K fd ps ds)(hd:Vals yn ds)(hx:Passes CX X E)
 (ha:PA X (e::es) t) (hdb:(x==("__debug__":Str))=false:=by decide) (he:starEach (e::es) X.env=(false,eval e X.env)::starEach es X.env:=by rfl) (hpl:(backTo pos (starEach es X.env)).any (·.1)=false:=by rfl) :
 PE X (.Call (.Name x p) (e::es) [] pos) (TZ C sp yn E t):=by
 intro pq s σ H Q I h;refine wpAny_Call_Name_kw (vo I hg hm ?_ hdb);refine adg (h₀:=X.base) I.ok.mod.Sq M.kp (cY (ha pos pq s σ H _ I h) λus s1 ⟨vs,H1,O,r,q⟩=>⟨O.uy,?_⟩) he hpl
 exact Ko M F hr hb hd hx O r q
end
structure aA(N P:List Str)(sc:Scope):Prop where
 kind:sc.kind = .function
 co:sc.isCoroutine=false
 gen:sc.isGenerator=false
 nd:N.Nodup
 pre:N.take P.length=P
 par:∀x∈P,sc.names.lookup x=some .local\/sc.names.lookup x=some .cell
 QC:∀y∈sc.names,y.2≠.free
def zg{kindOf:Str->Option NameKind}{x:Str}:∀{binds:List (Str×Value)} {m:nE},(∀v,(x,v)∉binds)->bindL kindOf binds m x=m x
 | [],_,_=>rfl
 | (n,v)::r,m,h=>by
   unfold bindL;rw[zg λw hw=>h w (pP _ hw)]
   split
   ·have:x≠n:=by rintro rfl;exact h v aaq
    simp[this]
   ·rfl
def zh{kindOf:Str->Option NameKind}{x:Str}:∀{binds:List (Str×Value)} {m:nE},(∀v,(x,v)∉binds)->bindC kindOf binds m x=m x
 | [],_,_=>rfl
 | (n,v)::r,m,h=>by
   unfold bindC;rw[zh λw hw=>h w (pP _ hw)]
   split
   ·rfl
   ·have:x≠n:=by rintro rfl;exact h v aaq
    simp[this]
def zj{kindOf:Str->Option NameKind}{x:Str}{v:Value}:∀{P:List Str} {vs:List Value} {i:Nat} {m:nE},P.Nodup->P[i]?=some x->vs[i]?=some v->kindOf x=some .local->
 bindL kindOf (P.zip vs) m x=some v
 | [],_,_,_,_,h,_,_=>by simp at h
 | _::_,[],_,_,_,_,h,_=>by simp at h
 | p::P,w::vs,0,m,nd,h1,h2,hk=>by
   simp at h1 h2;subst h1;subst h2;show bindL kindOf ((p,w)::P.zip vs) m p=_;unfold bindL;rw[zg λv I=>(aaX.mp nd).1 (List.of_mem_zip I).1,aad hk]
   simp
 | p::P,w::vs,i+1,m,nd,h1,h2,hk=>by
   show bindL kindOf ((p,w)::P.zip vs) m x=_;unfold bindL;exact zj (i:=i) (aaX.mp nd).2 (by simpa using h1) (by simpa using h2) hk
def zk{kindOf:Str->Option NameKind}{x:Str}{v:Value}:∀{P:List Str} {vs:List Value} {i:Nat} {m:nE},P.Nodup->P[i]?=some x->vs[i]?=some v->kindOf x≠some .local->
 bindC kindOf (P.zip vs) m x=some v
 | [],_,_,_,_,h,_,_=>by simp at h
 | _::_,[],_,_,_,_,h,_=>by simp at h
 | p::P,w::vs,0,m,nd,h1,h2,hk=>by
   simp at h1 h2;subst h1;subst h2;show bindC kindOf ((p,w)::P.zip vs) m p=_;unfold bindC;rw[zh λv I=>(aaX.mp nd).1 (List.of_mem_zip I).1,aab hk]
   simp
 | p::P,w::vs,i+1,m,nd,h1,h2,hk=>by
   show bindC kindOf ((p,w)::P.zip vs) m x=_;unfold bindC;exact zk (i:=i) (aaX.mp nd).2 (by simpa using h1) (by simpa using h2) hk
def start(N:List Str)(vs:List V):St:=vs.map some++List.replicate (N.length-vs.length) none
def uR(CX:JM)(P:Program)(w:World)(K:bE)(mg:nE)(base:Heap)(N:List Str)(qual:Str)(scope:Scope)(f:Addr)(cd:Value)(A:Around)(outer:List Env)(s:Shared)(H:Hp)(E:XK):Cx where
 prog:=P
 w:=w
 K:=K
 mg:=mg
 base:=base
 A:=A.deeper (envOfC qual scope s.heap.objs.size f cd)
 N:=N
 s₀:=s
 H₀:=H
 env:=envOfC qual scope s.heap.objs.size f cd
 outer:=outer
 stack:=envOfC qual scope s.heap.objs.size f cd::outer
 ex:=[]
 calm:=true
 fn:=λ_=>true
 pn:=[]
 xe:=λe s'=>wpAny (model P w) (A.deeper (envOfC qual scope s.heap.objs.size f cd)) (leaving (envOfC qual scope s.heap.objs.size f cd) e) (λ_ s''=>CX outer H s E e s'') (λe' s''=>CX outer H s E e' s'') s'
def BY{sc:Scope}{n:Nat}{x:Str}(h:sc.names.lookup x=some .cell):∃c,(cellsFrom n sc.names []).lookup x=some c:=by
 have q:=PySem.W.cellsFrom_some sc.names n [] (.inl h);exact Option.isSome_iff_exists.mp q
def Hz{CX:JM}{P:Program}{w:World}{K:bE}{mg:nE}{base:Heap}{N ps:List Str}{qual:Str}{scope:Scope}{f:Addr}{cd:Value}{A:Around}{outer:List Env}{s s1:Shared}{H:Hp}{E:XK}{us:List Value}{vs:List V}
 (S:aA N ps scope) (hd:A.handled=none) (e0:Et P w K mg base A outer s H) (hl:vs.length=ps.length) (r:Vals vs us)
 (x:InCallC s s.heap.objs.size (bindL (envOfC qual scope s.heap.objs.size f cd).kindOf (ps.zip us) λ_=>none) (cellsFrom (s.heap.objs.size+1) scope.names []) (bindC (envOfC qual scope s.heap.objs.size f cd).kindOf (ps.zip us) λ_=>none) s1) :
 Inv (uR CX P w K mg base N qual scope f cd A outer s H E) [] (start N vs) H s1:=by
 have ab:ps.length<=N.length:=by have:=aaO List.length S.pre;rw[aa3]at this;lia
 obtain⟨h1,tk,rfl,hk⟩:=x.done;have U:∀b:Addr,b∉(uR CX P w K mg base N qual scope f cd A outer s H E).ex:=λb z=>absurd (show b∈([]:List Addr) from z) (by simp)
 refine⟨⟨e0.mod,S.kind,rfl,rfl,aaf _,λy z c h1 h2=>?_,λy I=>?_,λy c _ h=>?_,λ_=>hd,Around.frames_deeper e0.frames,.inr ⟨rfl,rfl⟩,λb z=>absurd z (U b),e0.bs,e0.M3,λb _ _=>U b,λb z=>absurd z (U b),e0.funs,e0.Nk⟩,
  rfl,e0.bare,Un.kept hk,⟨_,x.toInCall.ns,λi y v h1 h2 h3=>?_⟩,λy c h=>⟨_,x.cell y c h⟩,e0.hok.fresh (aaf _),λy c h=>?_,λp O=>absurd (show p∈([]:aX) from O) (by simp),e0.hok.kept hk,?_⟩
 ·exact name_of_addr x.apart (aa8 h1) (aa8 h2)
 ·have I:scope.names.lookup y=some .cell\/scope.names.lookup y=some .free:=I;rcases I with I|I
  ·exact BY I
  ·exact absurd rfl (S.QC _ (aa8 I))
 ·exact aa6 (x.above y c (aa8 h))
 ·have hi:i<vs.length:=by
   unfold start at h2
   by_cases hi:i<vs.length
   ·exact hi
   ·rw[aaS (by simpa using hi)]at h2
    rw[ab6]at h2
    split at h2<;>cases h2
  have ha:vs[i]?=some v:=by
   unfold start at h2;rw[aaP (by simpa using hi),aak]at h2
   cases e:vs[i]? with
   | none=>rw[e]at h2;cases h2
   | some a=>rw[e]at h2;cases h2;rfl
  obtain⟨u,Y,rv⟩:=r.get ha;have O:ps[i]?=some y:=by
   rw[<-S.pre,List.getElem?_take_of_lt (by lia)];exact h1
  have Z:ps.Nodup:=by rw[<-S.pre];exact S.nd.sublist (List.take_sublist _ _)
  refine⟨u,rv,?_⟩;rcases S.par y (jY O) with k|k
  ·exact .inl ⟨k,zj Z O Y k⟩
  ·obtain⟨c,e⟩:=BY (n:=s.heap.objs.size+1) k;refine .inr ⟨.inl k,c,e,?_⟩;have q:=x.cell y c e;rw[zk Z O Y (by show scope.names.lookup y≠_;rw[k];decide)]at q
   exact q
 ·exact e0.hok.fresh (aa6 (x.above y c (aa8 h)))
 ·unfold start;show _=N.length;rw[aaj,aaa,abv]
  lia
def Kp{CX:JM}{P:Program}{w:World}{K:bE}{mg:nE}{base:Heap}{k:Nat}{f:Addr}{name qual:Str}{params:Arguments}{body:List Stmt}{scope:Scope}{dV kV doc pm cdv ct oc:Value}{an od:Option Addr}
 {osl:Array (Option Value)} {N ps:List Str} {sp:Sp} (lk:K.lookup f=some ⟨oc,od,.func (PySem.W.fnOf name qual params body scope dV kV doc pm an cdv ct),osl⟩) (hcd:PySem.W.codeIn K cdv qual=true) (S:aA N ps scope)
 (len:∀vs H Q E,sp vs H Q E->vs.length=ps.length)
 (hbody:∀(A:Around) (outer:List Env) (s:Shared) (H:Hp) (vs:List V) (Q:VK) (E:XK),dU k (A.deeper (envOfC qual scope s.heap.objs.size f cdv))->sp vs H Q E->
  ∃t,ym (uR CX P w K mg base N qual scope f cdv A outer s H E) body t/\t { nx:=λ_ H'=>Q .eF H',rt:=Q} (start N vs) H) :
 gY P w K mg base CX (k+1) f (PySem.W.fnOf name qual params body scope dV kV doc pm an cdv ct) ps sp:=by
 refine⟨len,λA outer s H args us vs Q E hr U hb r Z=>?_⟩
 have hl:=len _ _ _ _ Z;have KX:K.In s.heap:=U.mod.Sq.keeps λb o e=>(U.bs b o e).1
 have lim:s.heap.NoLimit:=U.mod.nolimit.keeps λb o e=>(U.bs b o e).1
 have O:∀y∈ps.zip us,scope.names.lookup y.1=some .local\/(scope.names.lookup y.1=some .cell/\((cellsFrom (s.heap.objs.size+1) scope.names []).lookup y.1).isSome=true):=λ⟨n,v⟩ hy=>by
  rcases S.par n (List.of_mem_zip hy).1 with q|q
  ·exact .inl q
  ·exact .inr ⟨q,PySem.W.cellsFrom_some _ _ _ (.inl q)⟩
 refine codeAny_call_function hr.depth (KX _ _ lk) rfl S.co S.gen rfl (PySem.W.codeRec_of KX hcd) (hb _ _ _ _ ?_);refine wpAny_newFunctionEnv_cells S.kind O λenv he s1 x=>?_
 subst he;refine⟨lim.keeps x.toInCall.keep,codeAny_func ?_⟩;obtain⟨t,ht,hq⟩:=hbody A outer s H vs Q E (hr.deeper _) Z;have I:Inv (uR CX P w K mg base N qual scope f cdv A outer s H E) [] (start N vs) H s1:=Hz S hr.hd U hl r x;refine aaG (ht [] s1 (start N vs) H _ I hq) (λfl s' hs=>?_) λe s' hs=>hs
 have fin:∀{σ' : St} {H' : Hp} {v:V} {u:Value},Inv (uR CX P w K mg base N qual scope f cdv A outer s H E) [] σ' H' s'->RelV v u->Q v H'->CE outer P w H s Q u s' :=
  λ{σ' H' v u} J Y q=>⟨v,H',J.os,J.bare,J.base,J.hok,Y,q⟩
 cases fl with
 | ret u =>
   obtain⟨v,σ',H',J,Y,q⟩:=hs;exact fin J Y q
 | next =>
   obtain⟨σ',H',J,q⟩:=hs;exact fin (v:=V.eF) (u:=Value.none) J rfl q
 | brk =>
   obtain⟨_,_,_,q⟩:=hs;exact False.elim q
 | cont =>
   obtain⟨_,_,_,q⟩:=hs;exact False.elim q
section
variable {X:Cx}{x:Str}{p pos:Pos}{e:Expr}{es:List Expr}{t:TA}{id T:String}{r:List V->Hp->VK->Prop}
def Xy(r:List V->Hp->VK->Prop)(t:TA):TE:=λσ H Q=>t σ H λvs H1=>r vs H1 Q
def bQ(hc:g8 X (.builtin id) r)(hg:Gl X x)(hm:X.mg x=none)(hv:bootBuiltins x=some (.builtin id))(ha:PA X (e::es) t)(hn:x≠"__name__":=by decide)(hdb:(x==("__debug__":Str))=false:=by decide)
 (he:starEach (e::es) X.env=(false,eval e X.env)::starEach es X.env:=by rfl) (hpl:(backTo pos (starEach es X.env)).any (·.1)=false:=by rfl):PE X (.Call (.Name x p) (e::es) [] pos) (Xy r t):=by
 intro pq s σ H Q I h;refine wpAny_Call_Name_kw (mK I hg hm hv ?_ hn hdb);exact PyProof.Rows.callWith_builtin1 (cY (ha pos pq s σ H _ I h) λus s1 ⟨vs,H1,O,U,Y⟩=>hc pq s1 σ H1 vs us Q O U Y) he hpl
def fk(hc:g8 X (.type T) r)(hg:Gl X x)(hm:X.mg x=none)(hv:bootBuiltins x=some (.type T))(ha:PA X (e::es) t)(hn:x≠"__name__":=by decide)(hdb:(x==("__debug__":Str))=false:=by decide)
 (he:starEach (e::es) X.env=(false,eval e X.env)::starEach es X.env:=by rfl) (hpl:(backTo pos (starEach es X.env)).any (·.1)=false:=by rfl):PE X (.Call (.Name x p) (e::es) [] pos) (Xy r t):=by
 intro pq s σ H Q I h;refine wpAny_Call_Name_kw (mK I hg hm hv ?_ hn hdb);exact abC (cY (ha pos pq s σ H _ I h) λus s1 ⟨vs,H1,O,U,Y⟩=>hc pq s1 σ H1 vs us Q O U Y) he hpl
end
end L2
namespace HT
open PySem PyProof.Rows
def lexLt:List Int->List Int->Bool
 | [],[]=>false
 | [],_::_=>true
 | _::_,[]=>false
 | x::xs,y::ys=>if x=y then lexLt xs ys else decide (x<y)
def iB(x y:Int)(xs ys:List Int):lexLt (x::xs) (y::ys)=if x=y then lexLt xs ys else decide (x<y):=rfl
def p5:lexLt [] []=false:=rfl
def vP(y:Int)(ys:List Int):lexLt [] (y::ys)=true:=rfl
def g9(x:Int)(xs:List Int):lexLt (x::xs) []=false:=rfl
def BZ(A:Around)(s:Shared)(a:Int)(t:Tok)(c:Int)(u:Tok):∃e,SeqAt.EqAt A s (.int a t) (.int c u) e/\(e=true↔a=c) :=
 ⟨(a==c),SeqAt.EqAt.int_int a t c u,by simp⟩
def Kq(A:Around)(s:Shared)(a:Int)(t:Tok)(c:Int)(u:Tok)(prog:Program)(w:World)(E:dD)(Q:dD)(h:Q (.bool (decide (a<c))) s):
 wpAny (model prog w) A (richCompare .Lt (.int a t) (.int c u)) Q E s :=
 (PyProof.Rows.lt_int h:wpAny (model prog w) A (compareOp .Lt (.int a t) (.int c u)) Q E s)
section
open PySem.SeqAt
open PySem.AutoSeq1 (wpAny_loadPart')
open PySem.MeetsSeq PySem.MeetsSeq2 PySem.MeetsSeq3
def yo(l b:Addr)(items items2:Array Value)(n n2:Nat)(dd dd2:Option Addr)(sl sl2:Array (Option Value))(ns ms:List Int)(hi:IntsAre items.toList ns)(hj:IntsAre items2.toList ms):
 Meets (Builtin.«tuple.__lt__» ⟨[.ref l,.ref b],[]⟩)
  (λ_ R s=>s.heap.get? l=some { cls:=.type "tuple",dict:=dd,data:=.seq items n,slots:=sl}/\s.heap.get? b=some { cls:=.type "tuple",dict:=dd2,data:=.seq items2 n2,slots:=sl2}/\
   R (.ok (.ret (.bool (lexLt ns ms)))) s) :=
 .of_wp λprog w A R s h=>by
  obtain⟨hp,g,d,tk,os⟩:=s;obtain⟨hl,hb,h⟩:=h;have f2:=AutoSeq1.sub_tuple_tuple;have z1:items.size=ns.length:=by rw[<-hi.length];simp
  have z2:items2.size=ms.length:=by rw[<-hj.length];simp
  wp_walk using wpAny_loadPart' hl,wpAny_loadPart' hb,wpAny_forIn_list _ (λrest b s'=>b.1=none/\s' = ⟨hp,g,d,tk,os⟩/\∃(vs ws:List Value) (I O : List Int),rest=vs.zip ws/\
   IntsAre vs I/\IntsAre ws O/\I.length+items2.size=O.length+items.size/\R (.ok (.ret (.bool (lexLt I O)))) ⟨hp,g,d,tk,os⟩) _
  case turn =>
   rintro⟨y,x⟩ rest b s' ⟨Z,rfl,vs,ws,I,O,hz,Pd,U,hlen,Y⟩;cases Pd with
   | nil=>rw[List.zip_nil_left]at hz;cases hz
   | cons a t ab =>
     cases U with
     | nil=>rw[List.zip_nil_right]at hz;cases hz
     | cons c u ag =>
       rw[List.zip_cons_cons]at hz;injection hz with hyx hrest
       injection hyx with hy hx
       subst hy hx;rw[iB]at Y;simp only[aaZ]at hlen;obtain⟨e,he,Ks⟩:=BZ A.in1 ⟨hp,g,d,tk,os⟩ a t c u;refine wpAny_bind (he prog w _ _ ?_);cases e with
       | true =>
         rw[aad (Ks.mp rfl)]at Y
         wp_walk
         exact⟨rfl,rfl,_,_,_,_,hrest,ab,ag,by lia,Y⟩
       | false =>
         rw[aab (λq=>absurd (Ks.mpr q) aah)]at Y
         have B3:=Kq A.in1 ⟨hp,g,d,tk,os⟩ a t c u prog w
         wp_walk using B3
         exact⟨_,rfl,by simpa using Y⟩
  case fin =>
   rintro⟨b1,b2⟩ s' ⟨Z,rfl,vs,ws,I,O,hz,Pd,U,hlen,Y⟩;simp only at Z;subst Z;have hv:lexLt I O = decide (items.size<items2.size):=by
    cases Pd with
    | nil =>
      cases U with
      | nil =>
        simp only[acd]at hlen;rw[p5];exact(gz (by lia)).symm
      | cons c u hw =>
        simp only[acd,aaZ]at hlen;rw[vP];exact(eG (by lia)).symm
    | cons a t hv =>
      cases U with
      | nil =>
        simp only[acd,aaZ]at hlen;rw[g9];exact(gz (by lia)).symm
      | cons c u hw =>
        rw[List.zip_cons_cons]at hz;cases hz
   rw[hv]at Y
   wp_walk
   exact⟨_,rfl,by simpa[Builtin.Tuple.tupleCompareSizes]using Y⟩
  case h =>
   exact⟨rfl,rfl,items.toList,items2.toList,ns,ms,rfl,hi,hj,by lia,h⟩
end
section
variable {prog:Program}{w:World}{A:Around}{E:dD}{s:Shared}
def Ew{l b:Addr}{items items2:Array Value}{ns ms:List Int}{Q:dD}(hl:IsTup s.heap l items)(hb:IsTup s.heap b items2)(hi:IntsAre items.toList ns)(hj:IntsAre items2.toList ms)
 (hu:A.units<cLine) (h:Q (.bool (lexLt ns ms)) s):wpAny (model prog w) A (compareOp .Lt (.ref l) (.ref b)) Q E s:=by
 obtain⟨⟨cls,O,data,sl⟩,I,hc,n,hd⟩:=id hl;obtain⟨⟨NC,dd2,data2,sl2⟩,ho2,hc2,n2,hd2⟩:=id hb;simp only at hc hd hc2 hd2;subst hc hd hc2 hd2;exact richCompare_meets_room (op:=.Lt) ⟨_,I,rfl⟩ ⟨_,ho2,rfl⟩ PySem.F.slot_tuple_lt PySem.F.entry_tuple_lt (PySem.F.args_tuple_lt_2 _ _) (yo l b items items2 n n2 O dd2 sl sl2 ns ms hi hj)
  ⟨I,ho2,show Value.bool (lexLt ns ms)≠Value.notImplemented/\Q (.bool (lexLt ns ms)) s from⟨(λx=>nomatch x),h⟩⟩ hu
def ND{t b:Addr}{vs ws:List Value}{Q:dD}(ht:IsTup s.heap t vs.toArray)(hb:IsTup s.heap b ws.toArray)(hv:vs≠[])
 (h1:ws=[]->Q (.ref t) s) (h2:ws≠[]->Q (.ref s.heap.objs.size) { s with heap:=s.heap.push { cls:=.type "tuple",data:=.seq (vs++ws).toArray}})
 (hsz:vs.length+ws.length<=sizeLine):wpAny (model prog w) A (binaryOp .Add (.ref t) (.ref b)) Q E s:=by
 obtain⟨⟨cls,O,data,sl⟩,I,hc,n,hd⟩:=id ht;obtain⟨⟨NC,dd2,data2,sl2⟩,ho2,hc2,n2,hd2⟩:=id hb;simp only at hc hd hc2 hd2;subst hc hd hc2 hd2;have e:vs.toArray++ws.toArray=(vs++ws).toArray:=by simp
 by_cases hw:ws=[]
 ·exact concat_meets ⟨_,I,rfl⟩ ⟨_,ho2,rfl⟩ noFill_tuple_add seq_tuple_add acJ acE (acv _ _)
   (tuple_addW1 t b vs.toArray ws.toArray n n2 O dd2 sl sl2 (by simpa using hv) (by simp[hw])) ⟨I,ho2,h1 hw⟩
 ·refine concat_meets ⟨_,I,rfl⟩ ⟨_,ho2,rfl⟩ noFill_tuple_add seq_tuple_add acJ acE (acv _ _)
   (tuple_addW2 t b vs.toArray ws.toArray n n2 O dd2 sl sl2 (by simpa using hv) (by simpa using hw) (by rw[aat,aat];exact hsz)) ⟨I,ho2,?_⟩
  rw[e];exact h2 hw
def zo(n d:Nat):Option Int->Nat
 | none=>d
 | some v=>if v<0 then(v+(n:Int)).toNat else min v.toNat n
def Ku(n d:Nat):zo n d none=d:=rfl
def NF(n d k:Nat):zo n d (some (k:Int))=min k n:=by
 show(if(k:Int)<0 then((k:Int)+(n:Int)).toNat else min (k:Int).toNat n)=min k n
 rw[aab (by lia),aap]
end
end HT
namespace L2
open PySem PySem.Spec PyProof.Rows
abbrev TO:=St->Hp->(Option Int->Hp->Prop)->Prop
def PO(X:Cx)(e:Option Expr)(t:TO):Prop :=
 ∀(pq:aX) (s:Shared) (σ:St) (H:Hp) (Q:Option Int->Hp->Prop),Inv X pq σ H s->t σ H Q->
  wpAny (model X.prog X.w) X.A (evalPart e X.env) (λu s'=>∃o H',Inv X pq σ H' s'/\IsPart u o/\Q o H') X.xe s
def NG:TO:=λ_ H Q=>Q none H
def T3(t:TE):TO:=λσ H Q=>t σ H λx H1=>∃i,x = .int i/\Q (some i) H1
def intsAre_of{ns:List Int}:∀{us:List Value},Vals (ns.map V.int) us->IntsAre us ns:=by
 induction ns with
 | nil=>intro us r;rw[List.map_nil]at r;cases r;exact .nil
 | cons n ns I =>
   intro us r;rw[aay]at r;cases r with
   | cons O U =>
     obtain⟨t,e⟩:=O;subst e;exact .cons n t (I U)
section
variable {X:Cx}{e:Expr}{te:TE}{lo hi:Option Expr}{tl th:TO}{pos p2:Pos}
def NH:PO X none NG:=by
 intro pq s σ H Q I h;rw[evalPart_none];exact aai ⟨none,H,I,.none,h⟩
def An(h:PE X e te):PO X (some e) (T3 te):=by
 intro pq s σ H Q I hw;rw[evalPart_some];refine cY (h pq s σ H _ I hw) λu s1 ⟨x,H1,O,U,Y⟩=>?_
 obtain⟨i,rfl,q⟩:=Y;obtain⟨t,rfl⟩:=U;exact⟨some i,H1,O,.int i t,q⟩
def Xz(X:Cx)(r:V->Option Int->Option Int->Hp->VK->Prop):Prop :=
 ∀(pq:aX) (s:Shared) (σ:St) (H:Hp) (x:V) (v I O:Value) (lo hi:Option Int) (sl:Addr) (Q:VK),Inv X pq σ H s->RelV x v->s.heap.IsSliceOf sl I O .none->IsPart I lo->IsPart O hi->r x lo hi H Q->
  ∃T id,typeLookup (.type T) "__getitem__"=pure (some (.builtin id))/\s.TypeIs v T/\wpAny (model X.prog X.w) X.A (getItem v (.ref sl)) (EP X pq σ Q) X.xe s
def tSl(r:V->Option Int->Option Int->Hp->VK->Prop)(te:TE)(tl th:TO):TE:=λσ H Q=>te σ H λx H1=>tl σ H1 λl H2=>th σ H2 λu H3=>r x l u H3 Q
def B4{r:V->Option Int->Option Int->Hp->VK->Prop}(hr:Xz X r)(he:PE X e te)(hl:PO X lo tl)(hu:PO X hi th):PE X (.Subscript e (.Slice lo hi none p2) pos) (tSl r te tl th):=by
 intro pq s σ H Q I h;refine Subscript_ (cY (he pq s σ H _ I h) λv s1 ⟨x,H1,Y,Z,q1⟩=>?_)
 refine wpAny_Slice (cY (hl pq s1 σ H1 _ Y q1) λO s2 ⟨l,H2,I2,pl,q2⟩=>cY (hu pq s2 σ H2 _ I2 q2) λU s3 ⟨u,H3,I3,pu,q3⟩=>?_)
 rw[evalPart_none];refine aai ?_;have I4:Inv X pq σ H3 { s3 with heap:=s3.heap.push { cls:=.type "slice",data:=.fields #[O,U,.none]}}:=I3.kept (t':=s3.toks) λb ob q=>aag _ q
 obtain⟨T,id,hT,ht,hg⟩:=hr pq { s3 with heap:=s3.heap.push { cls:=.type "slice",data:=.fields #[O,U,.none]}} σ H3 x v O U l u s3.heap.objs.size Q I4 Z (Heap.IsSliceOf.new ..) pl pu q3
 show wpAny (model X.prog X.w) X.A (subscriptTail e (.Slice lo hi none p2) v (.ref s3.heap.objs.size)) (EP X pq σ Q) X.xe { s3 with heap:=s3.heap.push { cls:=.type "slice",data:=.fields #[O,U,.none]}}
 exact tail_any (ops:=[.ref s3.heap.objs.size,v]) ht hT hg (by with_unfolding_all rfl)
def yp(xs:List V)(lo hi:Option Int):List V:=(xs.drop (HT.zo xs.length 0 lo)).take (HT.zo xs.length xs.length hi-HT.zo xs.length 0 lo)
def B5(xs:List V)(lo hi:Option Int):(yp xs lo hi).length<=xs.length:=by
 unfold yp;rw[aa3,acS]
 lia
def T4(K:bE):R2:=λx y H Q=>∃a b xs ys,x = .ref a/\y = .ref b/\aV K H a xs/\aV K H b ys/\xs≠[]/\xs.length+ys.length<=sizeLine/\
 (ys=[]->Q (.ref a) H)/\(ys≠[]->∀p,H p=none->Q (.ref p) (upd H p (.tup (xs++ys))))
def Vals.Ao{xs:List V}{us:List Value}(r:Vals xs us):us=[]↔xs=[]:=by
 cases r with
 | nil=>simp
 | cons _ _=>simp
def NI:lP X (binaryOp .Add) (T4 X.K):=by
 intro pq s σ H x y v u Q I rx O h;obtain⟨a,b,xs,ys,rfl,rfl,ha,hb,hx,hz,U,Y⟩:=h;cases rx;cases O;obtain⟨its,r1,p1,_⟩:=I.tuple ha;obtain⟨its2,r2,p2,_⟩:=I.tuple hb;refine HT.ND p1 p2 (λz=>hx (r1.Ao.mp z)) (λz=>⟨.ref a,H,I,rfl,U (r2.Ao.mp z)⟩) (λz=>?_) (by rw[<-r1.length,<-r2.length];exact hz)
 refine⟨.ref s.heap.objs.size,_,I.laid (t':=s.toks) (o:=.tup (xs++ys)) (λb ob q=>aag _ q) (aaf _) ?_,rfl,Y (λw=>z (r2.Ao.mpr w)) _ (I.hok.fresh (aaf _))⟩
 exact⟨by rw[aaj];exact hz,_,r1.append r2,IsTup.new _ _⟩
end
def Kv(n:Nat)(i:Int):Option Nat:=if 0<=i then(if i<n then some i.toNat else none) else if -(n:Int)<=i then some (i+n).toNat else none
def Aq{α:Type}(xs:List α)(i:Int):Option α:=(Kv xs.length i).bind λj=>xs[j]?
def Gr{n:Nat}{i:Int}{j:Nat}(h:Kv n i=some j):seqIndex? i n=some j/\j<n/\-(n:Int)<=i/\i<n:=by
 unfold Kv at h
 by_cases h0:0<=i
 ·rw[aad h0]at h
  by_cases h1:i<n
  ·rw[aad h1]at h;have e:i.toNat=j:=Option.some.inj h;exact⟨by rw[seqIndex_of h0 h1,e],by lia,by lia,h1⟩
  ·rw[aab h1]at h;cases h
 ·rw[aab h0]at h
  by_cases h1 : -(n:Int)<=i
  ·rw[aad h1]at h;have e:(i+n).toNat=j:=Option.some.inj h;exact⟨by rw[seqIndex_neg (by lia) h1,e],by lia,h1,by lia⟩
  ·rw[aab h1]at h;cases h
def Ar{α:Type}{xs:List α}{i:Int}{v:α}(h:Aq xs i=some v):∃j,seqIndex? i xs.length=some j/\xs[j]?=some v/\j<xs.length/\-(xs.length:Int)<=i/\i<xs.length:=by
 unfold Aq at h;cases e:Kv xs.length i with
 | none=>rw[e]at h;cases h
 | some j =>
   rw[e]at h;obtain⟨h1,h2,I,O⟩:=Gr e;exact⟨j,h1,h,h2,I,O⟩
def ao{α:Type}{xs:List α}{j:Nat}{v:α}(h:xs[j]?=some v):Aq xs (j:Int)=some v:=by
 have hj:j<xs.length:=(kL.mp h).1;have e:Kv xs.length (j:Int)=some j:=by
  unfold Kv;rw[aad (by lia),aad (by lia)];simp
 unfold Aq;rw[e];exact h
def qR{α:Type}(xs:List α)(v:α):Aq (xs++[v]) (-1)=some v:=by
 have I:(xs++[v]).length=xs.length+1:=by simp
 have e:Kv (xs++[v]).length (-1)=some xs.length:=by
  unfold Kv;rw[I,aab (by decide),aad (by lia)]
  congr 1
  lia
 unfold Aq;rw[e];show(xs++[v])[xs.length]?=some v;simp
def Gs(b:Expr):Prop:=∀o i,subscripted b false o i=operate [o,i] (getItem o i)
def HD(X:Cx)(r:R2):Prop :=
 ∀(value slice:Expr) (pq:aX) (s:Shared) (σ:St) (H:Hp) (x y:V) (v u:Value) (Q:VK),Inv X pq σ H s->RelV x v->RelV y u->r x y H Q->
  subscripted slice false v u=operate [v,u] (getItem v u)->wpAny (model X.prog X.w) X.A (subscriptTail value slice v u) (EP X pq σ Q) X.xe s
def XA(X:Cx)(id:String)(r:V->List V->Hp->VK->Prop):Prop :=
 ∀(pq:aX) (s:Shared) (σ:St) (H:Hp) (x:V) (xs:List V) (v:Value) (us:List Value) (Q:VK),Inv X pq σ H s->RelV x v->Vals xs us->r x xs H Q->
  wpAny (model X.prog X.w) X.A (call (.builtin id) (v::us)) (EP X pq σ Q) X.xe s
section
variable {X:Cx}{a b:Expr}{ta tb:TE}{pos:Pos}
def HD.or{r r' : R2}(h:HD X r)(h' : HD X r'):HD X (λx y H Q=>r x y H Q\/r' x y H Q):=by
 intro value slice pq s σ H x y v u Q I rx O q hs;rcases q with q|q
 ·exact h value slice pq s σ H x y v u Q I rx O q hs
 ·exact h' value slice pq s σ H x y v u Q I rx O q hs
def T5{r:R2}(hr:HD X r)(ha:PE X a ta)(hb:PE X b tb)(hs:Gs b):PE X (.Subscript a b pos) (TL r ta tb):=by
 intro pq s σ H Q I h;exact Subscript_ (Qw ha hb I h λv u s2 x y H2 O rx U q=>hr a b pq s2 σ H2 x y v u Q O rx U q (hs _ _))
def QD(K:bE):R2:=λx y H Q=>∃p xs i v,x = .ref p/\y = .int i/\aO K H p xs/\Aq xs i=some v/\Q v H
def QE(K:bE):R2:=λx y H Q=>∃p xs i v,x = .ref p/\y = .int i/\aV K H p xs/\Aq xs i=some v/\Q v H
def T6:R2:=λx y H Q=>∃z i c,x = .str z/\y = .int i/\z.length<=sizeLine/\Aq z.cps.toList i=some c/\Q (.str ⟨#[c]⟩) H
def Gu:HD X (QD X.K):=by
 intro value slice pq s σ H x y v u Q I rx O h hs;obtain⟨p,xs,i,z,rfl,rfl,U,he,q⟩:=h;cases rx;obtain⟨t,rfl⟩:=O;obtain⟨its,r,pl,hz⟩:=I.list U;obtain⟨j,h1,h2,h3,h4,h5⟩:=Ar he;obtain⟨w,ew,rw'⟩:=r.get h2;have Y:=r.length;have hn:=su;have fin:EP X pq σ Q w s:=⟨z,H,I,rw',q⟩
 by_cases h0:0<=i
 ·have hj:i.toNat=j:=by
   rw[seqIndex_of h0 h5]at h1;exact Option.some.inj h1
  exact item_listR pl.isList h0 (by lia) (by rw[hj];simpa using ew) fin hs
 ·have hj:(i+(its.toArray.size:Int)).toNat=j:=by
   rw[seqIndex_neg (by lia) h4]at h1
   rw[aat,<-Y];exact Option.some.inj h1
  exact subscriptTail_builtinR (x:=w) pl.isList.typeIs slot_list_getitem.lookup
   (wpAny_getItem_list_neg (Q:=λr s'=>r=w/\EP X pq σ Q r s') pl.isList (by lia) (by rw[aat]<;>lia) (by lia) (by rw[hj];simpa using ew) ⟨rfl,fin⟩) hs
def Kw:HD X (QE X.K):=by
 intro value slice pq s σ H x y v u Q I rx O h hs;obtain⟨p,xs,i,z,rfl,rfl,U,he,q⟩:=h;cases rx;obtain⟨t,rfl⟩:=O;obtain⟨its,r,pl,hz⟩:=I.tuple U;obtain⟨j,h1,h2,h3,h4,h5⟩:=Ar he;obtain⟨w,ew,rw'⟩:=r.get h2;have Y:=r.length;have hn:=su;have fin:EP X pq σ Q w s:=⟨z,H,I,rw',q⟩;exact subscriptTail_builtinR (x:=w) pl.typeIs slot_tuple_getitem.lookup
  (getItem_tuple (j:=j) (Q:=λr s'=>r=w/\EP X pq σ Q r s') pl (by lia) (by lia) (by rw[aat,<-Y];exact h1) (by simpa using ew) ⟨rfl,fin⟩) hs
def QF:HD X T6:=by
 intro value slice pq s σ H x y v u Q I rx O h hs;obtain⟨z,i,c,rfl,rfl,hz,he,q⟩:=h;obtain⟨t,rfl⟩:=rx;obtain⟨t',rfl⟩:=O;obtain⟨j,h1,h2,h3,h4,h5⟩:=Ar he;have U:z.cps.toList.length=z.length:=by simp[Str.length]
 rw[U]at h1 h4 h5;have hn:=su;exact tail_any (typeIs_str s z t) slot_str_getitem.lookup (getItem_str (c:=c) (by
  have Y:decide (i < -(2^63:Int))=false:=gz (by lia)
  have Z:decide (i ≥ 2^63)=false:=gz (by lia)
  rw[Y,Z,Bool.or_false]) (by rw[h1];simpa using h2) ⟨.str ⟨#[c]⟩,H,I.tok _,⟨_,rfl⟩,q⟩) hs
def XC(K:bE):R2:=λx y H Q=>QD K x y H Q\/QE K x y H Q\/T6 x y H Q
def QG:HD X (XC X.K):=Gu.or (Kw.or QF)
def Ex(its:List Value)(n j:Nat)(u:Value):Obj.mapSeq (·.setIfInBounds j u) { cls:=.type "list",data:=.seq its.toArray n}={ cls:=.type "list",data:=.seq (its.set j u).toArray n}:=by
 simp[Obj.mapSeq]
def Inv.lst{pq:aX}{σ:St}{H:Hp}{s:Shared}{p:Addr}{xs:List V}(I:Inv X pq σ H s)(h:H p=some (.lst xs)):
 ∃(O:List Value) (n:Nat),Vals xs O/\s.heap.get? p=some { cls:=.type "list",data:=.seq O.toArray n}/\xs.length<=sizeLine:=by
 obtain⟨z,O,n,r,e⟩:=I.hok p _ h;exact⟨O,n,r,e,z⟩
def Inv.QH{pq:aX}{σ:St}{H:Hp}{s:Shared}{p:Addr}{xs ys:List V}{its its' : List Value}{n n' : Nat}{f:Obj->Obj}(I:Inv X pq σ H s)(h:H p=some (.lst xs))
 (ho:s.heap.get? p=some { cls:=.type "list",data:=.seq its.toArray n}) (hf:f { cls:=.type "list",data:=.seq its.toArray n}={ cls:=.type "list",data:=.seq its'.toArray n'}) (r:Vals ys its') (hz:ys.length<=sizeLine) (t:Nat) :
 Inv X pq σ (upd H p (.lst ys)) { s with heap:=s.heap.update p f,toks:=t}:=by
 have e:(s.heap.update p f).get? p=some { cls:=.type "list",data:=.seq its'.toArray n'}:=by
  rw[abK f ho (by rw[hf]<;>rfl),hf]
 refine I.write (x:=p) (e:=p) (by rw[h];trivial) (.inl rfl) (λb u hb q=>(abq _ _ (aaE hb)).trans q) ⟨_,e⟩ ?_
 exact⟨hz,its',n',r,e⟩
def T7:V->V->V->Hp->(Hp->Prop)->Prop:=λo i v H Q=>∃p xs k j,o = .ref p/\i = .int k/\H p=some (.lst xs)/\Kv xs.length k=some j/\Q (upd H p (.lst (xs.set j v)))
def set_list:Qt X T7:=by
 intro pq s σ H o i v ov iv u Q I Z ri rv h;obtain⟨p,xs,k,j,rfl,rfl,U,hj,q⟩:=h;cases Z;obtain⟨t,rfl⟩:=ri;obtain⟨its,n,r,ho,hz⟩:=I.lst U;obtain⟨h1,h2,h3,h4⟩:=Gr hj;have O:=r.length;have hn:=su;have Y : Inv X pq σ (upd H p (.lst (xs.set j v))) { s with heap:=s.heap.update p (Obj.mapSeq (·.setIfInBounds j u))} :=
  I.QH U ho (Ex its n j u) (r.set rv j) (by rw[List.length_set];exact hz) s.toks
 by_cases h0:0<=k
 ·have hk:k.toNat=j:=by
   rw[seqIndex_of h0 h4]at h1;exact Option.some.inj h1
  exact PySem.W.ki_setAt ho h0 (by lia) (by rw[aat,<-O];exact h4) (by rw[hk];exact⟨_,Y,q⟩)
 ·have hk:(k+(its.toArray.size:Int)).toNat=j:=by
   rw[seqIndex_neg (by lia) h3]at h1
   rw[aat,<-O];exact Option.some.inj h1
  exact PySem.W.ki_setBack ho (by lia) (by rw[aat,<-O];exact h3) (by lia) (by rw[hk];exact⟨_,Y,q⟩)
def As(lo hi:Option Int)(n:Nat):(sliceBounds lo hi none n).1=((HT.zo n 0 lo:Nat):Int)/\(sliceBounds lo hi none n).2.1=((HT.zo n n hi:Nat):Int)/\(sliceBounds lo hi none n).2.2=1:=by
 refine⟨?_,?_,rfl⟩
 ·cases lo with
  | none=>simp[sliceBounds,HT.zo]
  | some i =>
    simp only[sliceBounds,HT.zo,Option.getD_none,show(1:Int) > 0 by decide,if_true]
    by_cases h:i<0
    ·simp only[h,if_true]<;>lia
    ·simp only[h,if_false]<;>lia
 ·cases hi with
  | none=>simp[sliceBounds,HT.zo]
  | some i =>
    simp only[sliceBounds,HT.zo,Option.getD_none,show(1:Int) > 0 by decide,if_true]
    by_cases h:i<0
    ·simp only[h,if_true]<;>lia
    ·simp only[h,if_false]<;>lia
def yq(its:List Value)(lo hi:Option Int):slicePick its.toArray lo hi none=((its.drop (HT.zo its.length 0 lo)).take (HT.zo its.length its.length hi-HT.zo its.length 0 lo)).toArray:=by
 obtain⟨h1,h2,I⟩:=As lo hi its.toArray.size;unfold slicePick;rw[h1,h2,I];simp only[sliceRange_one,pick_run,aat]<;>rfl
def T8(K:bE):V->Option Int->Option Int->Hp->VK->Prop:=λx lo hi H Q=>∃a xs,x = .ref a/\aO K H a xs/\∀p,H p=none->Q (.ref p) (upd H p (.lst (yp xs lo hi)))
def NJ:Xz X (T8 X.K):=by
 intro pq s σ H x v U Y lo hi sl Q I rx hs O pu h;obtain⟨a,xs,rfl,hx,q⟩:=h;cases rx;obtain⟨its,r,ht,hz⟩:=I.list hx;have hlen:=r.length;refine⟨"list",_,slot_list_getitem.lookup,ht.isList.typeIs,?_⟩;refine wpAny_getItem_list_slice ht.isList hs O pu .none (by simp) ?_ (by rw[aat]<;>lia)
 rw[yq,<-hlen];refine⟨.ref s.heap.objs.size,_,I.laid (t':=s.toks) (o:=.lst (yp xs lo hi)) (λb ob q=>aag _ q) (aaf _) ?_,rfl,q _ (I.hok.fresh (aaf _))⟩
 exact⟨aaB (B5 xs lo hi) hz,_,0,(r.drop (HT.zo xs.length 0 lo)).take (HT.zo xs.length xs.length hi-HT.zo xs.length 0 lo),aav _ rfl⟩
def qS:V->Bool
 | .eF=>true
 | .bl _=>true
 | .int _=>true
 | .str _=>true
 | _=>false
def NK:V->V->Bool
 | .eF,.eF=>true
 | .bl a,.bl b=>a==b
 | .bl a,.int b=>(if a then 1 else 0)==b
 | .int a,.bl b=>a==(if b then 1 else 0)
 | .int a,.int b=>a==b
 | .str a,.str b=>a==b
 | _,_=>false
def QI{A:Around}{s:Shared}{y x:V}{u v:Value}(ry:RelV y u)(rx:RelV x v)(fy:qS y=true)(fx:qS x=true):SeqAt.EqAt A s u v (NK y x):=by
 cases y with
 | eF =>
   cases ry;cases x with
   | eF=>cases rx;exact SeqAt.EqAt.same _
   | bl b=>cases rx;exact SeqAt.EqAt.none_bool b
   | int b=>obtain⟨t,rfl⟩:=rx;exact SeqAt.EqAt.none_int b t
   | str b=>obtain⟨t,rfl⟩:=rx;exact SeqAt.EqAt.none_str b t
   | _=>exact absurd (show false=true from fx) aah
 | bl a =>
   cases ry;cases x with
   | eF=>cases rx;exact SeqAt.EqAt.bool_none a
   | bl b=>cases rx;exact SeqAt.EqAt.bool_bool a b
   | int b=>obtain⟨t,rfl⟩:=rx;exact SeqAt.EqAt.bool_int a b t
   | str b=>obtain⟨t,rfl⟩:=rx;exact SeqAt.EqAt.bool_str a b t
   | _=>exact absurd (show false=true from fx) aah
 | int a =>
   obtain⟨I,rfl⟩:=ry;cases x with
   | eF=>cases rx;exact SeqAt.EqAt.int_none a I
   | bl b=>cases rx;exact SeqAt.EqAt.int_bool a I b
   | int b=>obtain⟨t,rfl⟩:=rx;exact SeqAt.EqAt.int_int a I b t
   | str b=>obtain⟨t,rfl⟩:=rx;exact SeqAt.EqAt.int_str a I b t
   | _=>exact absurd (show false=true from fx) aah
 | str a =>
   obtain⟨I,rfl⟩:=ry;cases x with
   | eF=>cases rx;exact SeqAt.EqAt.str_none a I
   | bl b=>cases rx;exact SeqAt.EqAt.str_bool a I b
   | int b=>obtain⟨t,rfl⟩:=rx;exact SeqAt.EqAt.str_int a I b t
   | str b=>obtain⟨t,rfl⟩:=rx;exact SeqAt.EqAt.str_str a I b t
   | _=>exact absurd (show false=true from fx) aah
 | _=>exact absurd (show false=true from fy) aah
def Ey(x:V)(u:Value):Bool:=match u with
 | .none=>NK .eF x
 | .bool b=>NK (.bl b) x
 | .int i _=>NK (.int i) x
 | .str z _=>NK (.str z) x
 | _=>false
def Kx{x y:V}{u:Value}(r:RelV y u)(f:qS y=true):Ey x u=NK y x:=by
 cases y with
 | eF=>cases r;rfl
 | bl b=>cases r;rfl
 | int i=>obtain⟨t,rfl⟩:=r;rfl
 | str z=>obtain⟨t,rfl⟩:=r;rfl
 | _=>exact absurd (show false=true from f) aah
def qT{x:V}:∀{xs:List V} {us:List Value},Vals xs us->xs.all qS=true->us.any (Ey x)=xs.any λy=>NK y x
 | _,_,.nil,_=>rfl
 | y::xs,u::us,.cons r t,f=>by
   rw[List.all_cons,aaJ]at f;rw[acO,acO,Kx r f.1,qT t f.2]
def nK{A:Around}{s:Shared}{x:V}{v:Value}(rx:RelV x v)(fx:qS x=true):∀{xs:List V} {us:List Value},Vals xs us->xs.all qS=true->∀u∈us,SeqAt.EqAt A s u v (Ey x u)
 | _,_,.nil,_=>λu I=>by cases I
 | y::xs,u::us,.cons r t,f=>λO I=>by
   rw[List.all_cons,aaJ]at f;rcases aao.mp I with rfl|I
   ·rw[Kx r f.1];exact QI r rx f.1 fx
   ·exact nK rx fx t f.2 O I
def Sx(x:V)(xs:List V):Bool:=xs.any λy=>NK y x
def Wc(K:bE)(neg:Bool):R2:=λx y H Q=>∃p xs,y = .ref p/\(aO K H p xs\/aV K H p xs)/\qS x=true/\xs.all qS=true/\Q (.bl (if neg then !Sx x xs else Sx x xs)) H
def HE:lP X (compareOp .In) (Wc X.K false):=by
 intro pq s σ H x y v u Q I rx ry h;obtain⟨p,xs,rfl,U,Z,fs,q⟩:=h;cases ry;rcases U with U|U
 ·obtain⟨O,r,Y,hz⟩:=I.list U;refine SeqAt.in_listAt (Ey x) Y.isList (λw hw=>nK rx Z r fs w (by simpa using hw)) ⟨.bl _,H,I,rfl,?_⟩
  rw[show O.toArray.any (Ey x)=O.any (Ey x) by simp,qT r fs]
  exact q
 ·obtain⟨O,r,Y,hz⟩:=I.tuple U;refine SeqAt.in_tupleAt (Ey x) Y (λw hw=>nK rx Z r fs w (by simpa using hw)) ⟨.bl _,H,I,rfl,?_⟩
  rw[show O.toArray.any (Ey x)=O.any (Ey x) by simp,qT r fs]
  exact q
def Au:lP X (compareOp .NotIn) (Wc X.K true):=by
 intro pq s σ H x y v u Q I rx ry h;obtain⟨p,xs,rfl,U,Z,fs,q⟩:=h;cases ry;rcases U with U|U
 ·obtain⟨O,r,Y,hz⟩:=I.list U;refine SeqAt.notIn_listAt (Ey x) Y.isList (λw hw=>nK rx Z r fs w (by simpa using hw)) ⟨.bl _,H,I,rfl,?_⟩
  rw[show O.toArray.any (Ey x)=O.any (Ey x) by simp,qT r fs]
  exact q
 ·obtain⟨O,r,Y,hz⟩:=I.tuple U;refine SeqAt.notIn_tupleAt (Ey x) Y (λw hw=>nK rx Z r fs w (by simpa using hw)) ⟨.bl _,H,I,rfl,?_⟩
  rw[show O.toArray.any (Ey x)=O.any (Ey x) by simp,qT r fs]
  exact q
def Av:g8 X (.builtin "len") (λxs H Q=>∃p ys,xs=[.ref p]/\(aO X.K H p ys\/aV X.K H p ys)/\Q (.int ys.length) H):=by
 intro pq s σ H xs us Q I r h;obtain⟨p,ys,rfl,O,q⟩:=h;obtain⟨u,rfl,rx⟩:=vals1 r;cases rx;have hn:=su;rcases O with O|O
 ·obtain⟨U,Y,Z,hz⟩:=I.list O;have hlen:=Y.length;exact Calls.call_len_list Z.isList (by simp only[aat]<;>lia) ⟨.int ys.length,H,I.tok _,⟨s.toks+1,by rw[aat,hlen]⟩,q⟩
 ·obtain⟨U,Y,Z,hz⟩:=I.tuple O;have hlen:=Y.length;exact len_tuple Z (by simp only[aat]<;>lia) ⟨.int ys.length,H,I.tok _,⟨s.toks+1,by rw[aat,hlen]⟩,q⟩
def yr:g8 X (.type "tuple") (λxs H Q=>∃p ys,xs=[.ref p]/\((aO X.K H p ys/\∀l,H l=none->Q (.ref l) (upd H l (.tup ys)))\/(aV X.K H p ys/\Q (.ref p) H))):=by
 intro pq s σ H xs us Q I r h;obtain⟨p,ys,rfl,h⟩:=h;obtain⟨u,rfl,rx⟩:=vals1 r;cases rx;rcases h with⟨U,q⟩|⟨U,q⟩
 ·obtain⟨O,Y,Z,hz⟩:=I.list U;have hlen:=Y.length;refine call_tuple_list Z.isList (λh' kp=>?_) (by simp only[aat]<;>lia)
  have I1:Inv X pq σ H { s with heap:=h'}:=I.kept (t':=s.toks) kp
  have I2:Inv X pq σ (upd H h'.objs.size (.tup ys)) { s with heap:=h'.push { cls:=.type "tuple",data:=.seq O.toArray}} :=
   I1.laid (t':=s.toks) (λb o e=>aag _ e) (aaf _) (show bz X.prog X.w _ _ _ (.tup ys) from⟨hz,O,Y,IsTup.new _ _⟩)
  exact⟨.ref h'.objs.size,_,I2,rfl,q _ (I1.hok.fresh (aaf _))⟩
 ·obtain⟨O,Y,Z,hz⟩:=I.tuple U;exact call_tuple_same Z ⟨.ref p,H,I,rfl,q⟩
def XD(K:bE)(T:String)(x:V)(H:Hp):Prop:=match x with
 | .str _=>T="str"
 | .int _=>T="int"
 | .ref p=>(T="list"/\∃xs,aO K H p xs)\/(T="tuple"/\∃o,K.lookup p=some o/\o.cls = .type "tuple"/\o.dict=none)\/
  (T="dict"/\((∃kvs,H p=some (.dK kvs))\/∃kvs,H p=some (.dT kvs)))\/(T="set"/\∃S n,H p=some (.set S n))
 | _=>False
def Ky{pq:aX}{σ:St}{H:Hp}{s:Shared}{T:String}{x:V}{v:Value}(I:Inv X pq σ H s)(r:RelV x v)(ty:XD X.K T x H):
 s.TypeIs v T/\∀a,v = .ref a->∃ob,s.heap.get? a=some ob/\ob.dict=none:=by
 cases x with
 | str z =>
   obtain⟨t,rfl⟩:=r;cases(show T="str" from ty)
   exact⟨typeIs_str s z t,λ_ e=>nomatch e⟩
 | int i =>
   obtain⟨t,rfl⟩:=r;cases(show T="int" from ty)
   exact⟨typeIs_int s i t,λ_ e=>nomatch e⟩
 | ref p =>
   cases r;rcases ty with⟨rfl,xs,Y⟩|⟨rfl,o,hk,hc,hd⟩|⟨rfl,hk⟩|⟨rfl,S,n,hk⟩
   ·obtain⟨Z,_,U,_⟩:=I.list Y;refine⟨U.isList.typeIs,λa e=>?_⟩
    cases e;obtain⟨o,n,e,c,hd,_⟩:=U;exact⟨o,e,hd⟩
   ·refine⟨⟨o,I.uy p o hk,hc⟩,λa e=>?_⟩
    cases e;exact⟨o,I.uy _ o hk,hd⟩
   ·have z:∃o,s.heap.get? p=some o/\o.ExactDict:=by
     rcases hk with⟨kvs,hk⟩|⟨kvs,hk⟩
     ·obtain⟨_,_,_,_,o,_,_,e,ex,_⟩:=I.hok p _ hk;exact⟨o,e,ex⟩
     ·obtain⟨_,_,_,_,o,_,_,e,ex,_⟩:=I.hok p _ hk;exact⟨o,e,ex⟩
    obtain⟨o,e,ex⟩:=z;refine⟨⟨o,e,ex.1⟩,λa O=>?_⟩
    cases O;exact⟨o,e,ex.2.1⟩
   ·obtain⟨o,_,_,_,e,ex,_⟩:=I.hok p _ hk;refine⟨⟨o,e,ex.1⟩,λa O=>?_⟩
    cases O;exact⟨o,e,ex.2.1⟩
 | _=>exact False.elim ty
def QJ(K:bE)(T:String)(r:V->List V->Hp->VK->Prop)(to:TE):TE:=λσ H Q=>to σ H λx H1=>XD K T x H1/\r x [] H1 Q
def XE(K:bE)(T:String)(r:V->List V->Hp->VK->Prop)(to:TE)(t:TA):TE:=λσ H Q=>to σ H λx H1=>XD K T x H1/\t σ H1 λxs H2=>r x xs H2 Q
variable {o e:Expr}{es:List Expr}{to:TE}{t:TA}{name:Str}{apos cpos:Pos}{T id:String}{r:V->List V->Hp->VK->Prop}
def Ez(pa:PlainAttrs T)(slot:Slot T name id)(hty:typeOf (.builtin id)=pure (.type "method_descriptor"))(hm:XA X id r)(ho:PE X o to)
 (hbase:attributeBase o name X.env (eval o X.env)=eval o X.env:=by rfl) (hline:(apos.endLine==cpos.line)=true:=by rfl):PE X (.Call (.Attribute o name apos) [] [] cpos) (QJ X.K T r to):=by
 intro pq s σ H Q I h;refine wpAny_Call_method0_late hbase hline (cY (ho pq s σ H _ I h) λv s1 ⟨x,H1,O,U,ty,Y⟩=>?_)
 obtain⟨h1,h2⟩:=Ky O U ty;exact⟨T,id,pa,slot,hty,h1,h2,Calls.callWith_builtin rfl (PySem.evalArgs_none (hm pq s1 σ H1 x [] v [] Q O U .nil Y))⟩
def kM(pa:PlainAttrs T)(slot:Slot T name id)(hty:typeOf (.builtin id)=pure (.type "method_descriptor"))(hm:XA X id r)(ho:PE X o to)(ha:PA X (e::es) t)
 (hbase:attributeBase o name X.env (eval o X.env)=eval o X.env:=by rfl)
 (hfew:((backTo cpos (starEach (e::es) X.env)).all (λx=>!x.1)&&(backToKw cpos (keywordEach [] X.env)).all (λx=>x.1.isSome)
  && decide ((e::es).length+([]:List Keyword).length+(if([]:List Keyword).isEmpty then 0 else 1)<30))=true:=by rfl)
 (hline:(apos.endLine==cpos.line)=true:=by rfl) (hs:starEach (e::es) X.env=(false,eval e X.env)::starEach es X.env:=by rfl) (hplain:(backTo cpos (starEach es X.env)).any (·.1)=false:=by rfl) :
 PE X (.Call (.Attribute o name apos) (e::es) [] cpos) (XE X.K T r to t):=by
 intro pq s σ H Q I h;refine wpAny_Call_method_late hbase hfew hline rfl (cY (ho pq s σ H _ I h) λv s1 ⟨x,H1,O,U,ty,Z⟩=>?_)
 obtain⟨h1,h2⟩:=Ky O U ty;refine⟨T,id,pa,slot,hty,h1,h2,?_⟩;have Y:=ha cpos pq s1 σ H1 _ O Z;rw[hs]at Y ⊢;refine Calls.callWith_builtin (by show(false || (backTo cpos (starEach es X.env)).any (·.1))=false;rw[hplain]<;>rfl) (Calls.evalArgs_plain ?_)
 exact cY Y λus s2 ⟨vs,H2,I2,r2,q2⟩=>hm pq s2 σ H2 x vs v us Q I2 U r2 q2
end
def XF(X:Cx)(id:String)(r:V->List V->Hp->VK->Prop):Prop :=
 ∀(pq:aX) (s:Shared) (σ:St) (H:Hp) (x:V) (xs:List V) (v:Value) (us:List Value) (Q:VK),Inv X pq σ H s->RelV x v->Vals xs us->r x xs H Q->
  wpAny (model X.prog X.w) X.A (call (.builtin id) (v::us)) (EP X pq σ Q) X.xe s
def Vals.one:∀{x:V} {us:List Value},Vals [x] us->∃u,us=[u]/\RelV x u
 | _,_,.cons r .nil=>⟨_,rfl,r⟩
def Vals.zero:∀{us:List Value},Vals [] us->us=[]
 | _,.nil=>rfl
def Vals.dropLast{xs:List V}{us:List Value}(h:Vals xs us):Vals xs.dropLast us.dropLast:=by
 induction h with
 | nil=>exact .nil
 | cons r t I =>
   cases t with
   | nil=>exact .nil
   | cons q O=>exact .cons r I
def Vals.eraseIdx:∀{xs:List V} {us:List Value} (i:Nat),Vals xs us->Vals (xs.eraseIdx i) (us.eraseIdx i)
 | _,_,_,.nil=>.nil
 | _,_,0,.cons _ t=>t
 | _,_,i+1,.cons r t=>.cons r (Vals.eraseIdx i t)
def Vals.rep{xs:List V}{us:List Value}(h:Vals xs us):∀k:Nat,Vals (List.replicate k xs).flatten (List.replicate k us).flatten
 | 0=>.nil
 | k+1=>by
   rw[abD,abD,ach,ach];exact Vals.append h (Vals.rep h k)
def EA{α:Type}(l:List α):l.eraseIdx (l.length-1)=l.dropLast:=by
 induction l with
 | nil=>rfl
 | cons a r I =>
   cases r with
   | nil=>rfl
   | cons b r =>
     have e:(a::b::r).length-1=((b::r).length-1)+1:=by
      have h1:(a::b::r).length=r.length+2:=rfl;have h2:(b::r).length=r.length+1:=rfl
      lia
     rw[e,ab7,I]
     all_goals rfl
def zp{α:Type}:∀(l:List α) (i:Nat),(l.eraseIdx i).length<=l.length
 | [],_=>aaf _
 | _::_,0=>abd _
 | _::r,i+1=>Nat.succ_le_succ (zp r i)
def foldl_rep(its:List Value):∀(k:Nat) (acc:List Value),
 List.foldl (λI O=>I++O) acc.toArray (List.replicate k its.toArray)=(acc++(List.replicate k its).flatten).toArray
 | 0,acc=>by simp
 | k+1,acc=>by
   have e:acc.toArray++its.toArray=(acc++its).toArray:=by simp
   have U:(acc++its)++(List.replicate k its).flatten=acc++(List.replicate (k+1) its).flatten:=by
    rw[abD,ach,List.append_assoc]
   rw[<-U,<-foldl_rep its k (acc++its),<-e,abD,abU]
section
variable {X:Cx}{pq:aX}{σ:St}{H:Hp}{s:Shared}{l b:Addr}{xs ys zs:List V}
def Inv.QK{its its' : List Value}{n:Nat}{f:Array Value->Array Value}{t' : Nat}(I:Inv X pq σ H s)(hH:H l=some (.lst xs))
 (e:s.heap.get? l=some { cls:=.type "list",data:=.seq its.toArray n}) (hf:f its.toArray=its'.toArray) (hv:Vals ys its') (hz:ys.length<=sizeLine) :
 Inv X pq σ (upd H l (.lst ys)) { s with heap:=s.heap.update l (Obj.mapSeq f),toks:=t'}:=by
 have q:=PySem.IsL.update e f;rw[hf]at q;refine I.write (x:=l) (e:=l) (by rw[hH];exact trivial) (.inl rfl) (λU u hb O=>(abq s.heap (Obj.mapSeq f) (aaE hb)).trans O) ⟨_,q⟩ ?_
 exact⟨hz,its',_,hv,q⟩
def Inv.T9{its:List Value}{t' : Nat}(I:Inv X pq σ H s)(hv:Vals ys its)(hz:ys.length<=sizeLine):
 Inv X pq σ (upd H s.heap.objs.size (.lst ys)) { s with heap:=s.heap.push { cls:=.type "list",data:=.seq its.toArray},toks:=t'} :=
 I.laid (λ_ _ q=>aag _ q) (aaf _) ⟨hz,its,0,hv,aav _ rfl⟩
def Inv.fresh(I:Inv X pq σ H s):H s.heap.objs.size=none:=I.hok.fresh (aaf _)
def Inv.NL(I:Inv X pq σ H s)(hH:H l=some (.lst xs)):xs.length<=sizeLine/\∃(O:List Value) (n:Nat),Vals xs O/\xs.length=O.length/\s.heap.get? l=some { cls:=.type "list",data:=.seq O.toArray n}:=by
 obtain⟨z,O,n,r,e⟩:=I.hok l _ hH;exact⟨z,O,n,r,r.length,e⟩
def Kz{n:Nat}(h:n<=sizeLine):Builtin.List.listTooLong n=false:=by
 unfold Builtin.List.listTooLong;exact gz (by lia)
end
section
variable {X:Cx}
def NO:V->List V->Hp->VK->Prop:=λx vs H Q=>∃l xs y,x = .ref l/\vs=[y]/\H l=some (.lst xs)/\xs.length<sizeLine/\Q .eF (upd H l (.lst (xs++[y])))
def cB:XF X "list.append" NO:=by
 intro pq s σ H x vs v us Q I rx U h;obtain⟨l,xs,y,rfl,rfl,O,hz,q⟩:=h;cases rx;obtain⟨u,rfl,ru⟩:=U.one;obtain⟨z,its,n,r,hl,e⟩:=I.NL O;refine call_meets F.slot_list_append ⟨_,e,rfl⟩ F.entry_list_append (F.args_list_append_2 _ _) (PySem.list_append l its.toArray n u (by rw[aat];lia)) ⟨e,?_⟩
 refine⟨.eF,_,I.QK (its':=its++[u]) O e (by simp) (r.append (.cons ru .nil)) ?_,rfl,q⟩
 rw[aaj,aa1]
 lia
def XG:V->List V->Hp->VK->Prop:=λx vs H Q=>∃l xs y,x = .ref l/\vs=[]/\H l=some (.lst xs)/\xs[xs.length-1]?=some y/\Q y (upd H l (.lst xs.dropLast))
def QL:XF X "list.pop" XG:=by
 intro pq s σ H x vs v us Q I rx Z h;obtain⟨l,xs,y,rfl,rfl,Y,hy,q⟩:=h;cases rx;have O:=Z.zero;subst O;obtain⟨z,its,n,r,hl,e⟩:=I.NL Y;obtain⟨u,hu,ru⟩:=r.get hy;have U : its.toArray[its.toArray.size-1]?=some u:=by
  show its.toArray[its.length-1]?=some u;rw[<-abV,<-hl];exact hu
 refine call_meets F.slot_list_pop ⟨_,e,rfl⟩ F.entry_list_pop (F.args_list_pop_1 _) (MeetsSeq.list_pop_last l its.toArray n u U (by rw[aat];lia)) ⟨e,?_⟩
 refine⟨y,_,I.QK (its':=its.dropLast) Y e ?_ r.dropLast ?_,ru,q⟩
 ·show its.toArray.eraseIdxIfInBounds (its.toArray.size-1)=its.dropLast.toArray;rw[aat,ac1,EA]
 ·rw[List.length_dropLast]
  lia
def QM:V->List V->Hp->VK->Prop:=λx vs H Q=>∃l xs i k y,x = .ref l/\vs=[.int i]/\H l=some (.lst xs)/\-(2^63)<=i/\i<2^63/\seqIndex? i xs.length=some k/\xs[k]?=some y/\Q y (upd H l (.lst (xs.eraseIdx k)))
def KA:XF X "list.pop" QM:=by
 intro pq s σ H x vs v us Q I rx U h;obtain⟨l,xs,i,k,y,rfl,rfl,O,h1,h2,hk,Y,q⟩:=h;cases rx;obtain⟨u,rfl,ru⟩:=U.one;obtain⟨t,rfl⟩:=ru;obtain⟨z,its,n,r,hl,e⟩:=I.NL O;obtain⟨w,hw,rw'⟩:=r.get Y;refine call_meets F.slot_list_pop ⟨_,e,rfl⟩ F.entry_list_pop (F.args_list_pop_2 _ _)
  (MeetsSeq.list_pop_at l its.toArray n i t k w (fitsIndex_both h1 h2) (by rw[aat,<-hl];exact hk) (by rw[<-abV];exact hw) (by rw[aat];lia)) ⟨e,?_⟩
 refine⟨y,_,I.QK (its':=its.eraseIdx k) O e ?_ (r.eraseIdx k) ?_,rw',q⟩
 ·show its.toArray.eraseIdxIfInBounds k=(its.eraseIdx k).toArray;rw[ac1]
 ·have:=zp xs k
  lia
def XH:R2:=λx y H Q=>∃l k xs,x = .ref l/\y = .int k/\H l=some (.lst xs)/\-(2^63)<=k/\k<2^63/\xs.length*k.toNat<=sizeLine/\
 ∀p,H p=none->Q (.ref p) (upd H p (.lst (List.replicate k.toNat xs).flatten))
def len_rep{α:Type}(xs:List α)(k:Nat):(List.replicate k xs).flatten.length=k*xs.length:=by
 induction k with
 | zero=>simp
 | succ k I=>rw[abD,ach,aaj,I,Nat.succ_mul,Nat.add_comm]
def KC:lP X (binaryOp .Mult) XH:=by
 intro pq s σ H x y v u Q I rx ry h;obtain⟨l,k,xs,rfl,rfl,hH,h1,h2,hz,q⟩:=h;cases rx;obtain⟨t,rfl⟩:=ry;obtain⟨z,its,n,r,hl,e⟩:=I.NL hH;have hlen:its.toArray.size*k.toNat<=sizeLine:=by rw[aat,<-hl];exact hz
 have XI : ¬ its.toArray.size*k.toNat > (2^63-1)/8:=by
  have:(sizeLine:Nat)<=(2^63-1)/8:=by decide
  lia
 have O : ¬(!Builtin.List.listFitsIndex k)=true:=by
  rw[fitsIndex_both h1 h2];exact aah
 have Ua : ¬ Builtin.List.listTooLong (its.toArray.size*k.toNat)=true:=by
  rw[Kz hlen];exact aah
 have Y:List.foldl (λZ x2=>Z++x2) #[] (List.replicate (if its.toArray.isEmpty=true then 0 else k.toNat) its.toArray)=(List.replicate k.toNat its).flatten.toArray:=by
  have f0:∀m:Nat,List.foldl (λZ x2=>Z++x2) #[] (List.replicate m its.toArray)=(List.replicate m its).flatten.toArray:=λm=>by
   have:=foldl_rep its m [];rw[List.nil_append]at this;exact this
  rw[f0];cases its with
  | nil=>simp
  | cons a r'=>rw[aab (by simp)]
 refine wpAny_binaryOp_repeat_ref (T:="list") (U:="int") (by decide) ⟨_,e,rfl⟩ (λs'=>typeIs_int s' k t) noFill_list_mul F.fills_int_mul F.slot_int_rmul repeat_list F.slot_int_index.lookup
  (call_meets F.slot_int_rmul (typeIs_int s k t) F.entry_int_rmul (F.args_int_rmul_2 _ _) (int___rmul___int_list k t l its.toArray n)
   ⟨e,rfl,⟨_,e,rfl⟩,call_meets F.slot_list_mul ⟨_,e,rfl⟩ F.entry_list_mul (F.args_list_mul_2 _ _) (AutoListH.list___mul___list_int_3 l its.toArray n k t O XI Ua) ⟨e,?_⟩⟩)
 rw[Y];exact⟨.ref _,_,I.T9 (t':=s.toks) (r.rep k.toNat) (by rw[len_rep,Nat.mul_comm];exact hz),rfl,q _ I.fresh⟩
end
end L2
namespace Att
open PySem PySem.W PySem.Calls PyProof.Rows
def uS{P:Params}{h:Heap}:∀(ns:List Int) (vs:List Value),WellAll P h vs (ns.map WData.int)->IntsAre vs ns:=by
 intro ns
 induction ns with
 | nil =>
   intro vs w;rw[List.map_nil]at w;cases w;exact .nil
 | cons n ns I =>
   intro vs w;rw[aay]at w;cases w with
   | cons a b =>
     cases a;exact .cons _ _ (I _ b)
def HF{l:OpenLaw}{n:Nat}(hn:l.most=some n){P:Params}{h:Heap}{args:List WData}{vals:List Value}
 (hpre:l.row.toRowW.claim.pre args=true) (XJ:WellAll P h vals args) :
 ∃a vs ns,vals=[Value.ref a]/\args=[WData.list (ns.map WData.int)]/\h.get? a=some { cls:=.type "list",data:=.seq vs.toArray}/\IntsAre vs ns/\ns.length<=n:=by
 have U:WShape.hasAll [] args [.list .int]=true:=(pre_splitW hpre).1;have hc:l.pre.holds [] { args:=args}=true:=(pre_splitW hpre).2;obtain⟨d,r,rfl,h1,h2⟩:=hasAllW_cons U;obtain rfl:=hasAllW_nil h2;obtain⟨xs,rfl,h3⟩:=hasW_list h1;obtain⟨ns,rfl⟩:=items_int h3;have hlen:ns.length<=n:=by
  unfold OpenLaw.pre at hc;have I:(WTm.not (.lt (.lit (.int (n:Int))) (.len (.arg 0)))).holds [] { args:=[.list (ns.map .int)]}=true:=by
   have I:=(holds_andW hc).1;rw[hn]at I;exact I
  have O:=condW_of I (w_not (w_lt w_lit (w_len_list (w_arg rfl))));rw[aaa]at O;refine Nat.le_of_not_lt λq=>?_
  have q' : (n:Int)<((ns.length:Nat):Int):=by lia
  first
   | (rw[eG q']at O;exact absurd O (by decide))
   | (simp at O;lia)
 cases XJ with
 | cons Y Z =>
   cases Z;cases Y with
   | list ho hall=>exact⟨_,_,ns,rfl,rfl,ho,uS ns _ hall,hlen⟩
def HG(l:OpenLaw)(args:List WData):l.row.toRowW.claim.post args (.bool true) args=true :=
 postW_of (r:=l.row.toRowW) (X:=(true==true))
  (show WShape.has [] (.bool true) .bool=true by first | rfl | decide | simp[WShape.has,WShape.arms,WShape.armsAll])
  (show(WTm.eq .res (.lit (.bool true))).value [] { args:=args,res:=some (.bool true),after:=args}=some (.bool (true==true)) from w_eq_bool (w_res rfl) w_lit) rfl
def B6{l:OpenLaw}{n:Nat}{q:Program}{loose:List Str}{XP:(Str->Option Value)->Heap->Prop}{YP:World->Heap->Prop}{d:DefRec}
 (hn:l.most=some n) (Ub:d.params.defaults=[])
 (call:∀(w:World) (s₀ I:Shared) (mg mb:nE) (fa:Addr) (o:Obj) (pm cd doc:Value) (a:Addr) (vs:List Value) (ns:List Int),
  Ground q loose [] XP w s₀ mg mb I.heap->YP w I.heap->
  I.heap.get? fa=some o->o.data = .func (docDef d.name d.params d.body d.scope pm cd doc)->I.heap.CodeRec cd d.name->mg d.name=some (.ref fa)->
  I.heap.get? a=some { cls:=.type "list",data:=.seq vs.toArray}->IntsAre vs ns->ns.length<=n->I.gens = #[]->
  codeAny (model l.prog w) callerA (.call (.ref fa) ⟨[.ref a],[]⟩) (λr s'=>r = .ok (.ret (.bool true))/\OldK I.heap s'.heap/\s'.os=I.os/\AllBare s'.gens) I) :
 WalkO q loose XP YP l.row.toRowW d [] (λf vs=>PySem.call f vs):=by
 intro w s₀ I mg mb G Y fa o pm cd doc dV kV ho hd U hD Z hg args vals as O ab ag XJ ar;obtain rfl:dV = .none:=Dflts.none hD Ub;obtain rfl:kV = .none:=Dflts.noKw hD;obtain⟨a,vs,ns,rfl,rfl,hobj,hints,hlen⟩:=HF hn O XJ;refine enter_call (codeAny_mono (call w s₀ I mg mb fa o pm cd doc a vs ns G Y ho (fd_plain hd) U Z hobj hints hlen hg) λr s' hq=>?_)
 obtain⟨rfl,h2,h3,h4⟩:=hq;exact⟨.inl ⟨.bool true,.bool true,[],rfl,λ_=>rfl,.bool true,HG l _,λ_=>⟨List.Pairwise.nil,λ_ hm=>(nomatch hm)⟩⟩,h2,h3,h4⟩
end Att
namespace L2
open PySem PySem.Spec PyProof.Rows
def zq:∀{vs:List Value} {ns:List Int},IntsAre vs ns->Vals (ns.map V.int) vs
 | _,_,.nil=>.nil
 | _,_,.cons n t h=>.cons ⟨t,rfl⟩ (zq h)
end L2
namespace L2
open PySem PySem.Spec PyProof.Rows
def inClass(s:Stmt)(j:Nat):Stmt:=match s with
 | .ClassDef _ _ _ body _ _ _ _ _ _ _=>body.getD j (.Pass ⟨0,0,0,0⟩)
 | _=>.Pass ⟨0,0,0,0⟩
def eZ(s:Stmt):Arguments:=match s with
 | .FunctionDef _ a _ _ _ _ _ _ _ _=>a
 | _=>{ posonlyargs:=[],args:=[],vararg:=none,kwonlyargs:=[],kw_defaults:=[],kwarg:=none,defaults:=[]}
def cC(s:Stmt):List Stmt:=match s with
 | .FunctionDef _ _ b _ _ _ _ _ _ _=>b
 | _=>[]
def aj(s:Stmt):Scope:=match s with
 | .FunctionDef _ _ _ _ _ _ sc _ _ _=>sc
 | _=>{ kind:=.function,names:=[],isGenerator:=false,isCoroutine:=false}
abbrev vQ:JM:=λ_ _ _ _ _ _=>False
abbrev E0:XK:=λ_ _ _=>False
def aI{X:Cx}:Passes vQ X E0:=λ_ _ _ _ _ _ _ h=>h.elim
structure sF(K:bE)(x qual:Str)(st:Stmt)(f:Addr)(fd:FuncData):Prop where
 ex:∃(oc:Value) (od:Option Addr) (kV doc pm:Value) (an:Option Addr) (cdv ct:Value) (osl:Array (Option Value)),
  fd=PySem.W.fnOf x qual (eZ st) (cC st) (aj st) .none kV doc pm an cdv ct/\K.lookup f=some ⟨oc,od,.func fd,osl⟩/\PySem.W.codeIn K cdv qual=true
 kp:PySem.W.keepIn K (.ref f)=true
section
variable {P:Program}{w:World}{K:bE}{mg:nE}{base:Heap}
def sF.ok{x qual:Str}{st:Stmt}{f:Addr}{fd:FuncData}{N ps:List Str}{k:Nat}{sp:Sp}(F:sF K x qual st f fd)(S:aA N ps (aj st))(len:∀vs H Q E,sp vs H Q E->vs.length=ps.length)
 (hbody:∀(cdv:Value) (A:Around) (outer:List Env) (s:Shared) (H:Hp) (vs:List V) (Q:VK) (E:XK),dU k (A.deeper (envOfC qual (aj st) s.heap.objs.size f cdv))->sp vs H Q E->
  ∃t,ym (uR vQ P w K mg base N qual (aj st) f cdv A outer s H E).D8 (cC st) t/\t { nx:=λ_ H'=>Q .eF H',rt:=Q} (start N vs) H):gY P w K mg base vQ (k+1) f fd ps sp:=by
 obtain⟨oc,od,kV,doc,pm,an,cdv,ct,osl,rfl,O,I⟩:=F.ex;refine Kp O I S len λA outer s H vs Q E hr U=>?_
 obtain⟨t,h,q⟩:=hbody cdv A outer s H vs Q E hr U;exact⟨t,h.D8,q⟩
def sF.binds{x qual:Str}{st:Stmt}{f:Addr}{fd:FuncData}{ps:List Str}(F:sF K x qual st f fd)
 (h:∀(kV doc pm:Value) (an:Option Addr) (cdv ct:Value) (us:List Value),us.length=ps.length->bindArgs (PySem.W.fnOf x qual (eZ st) (cC st) (aj st) .none kV doc pm an cdv ct) ⟨us,[]⟩=pure (ps.zip us)):Binds K fd ps []:=by
 obtain⟨oc,od,kV,doc,pm,an,cdv,ct,osl,rfl,O,I⟩:=F.ex;exact .all (h kV doc pm an cdv ct)
def k6{x qual:Str}{st:Stmt}{f:Addr}{oc:Value}{od an:Option Addr}{osl:Array (Option Value)}{kV doc pm cdv ct:Value}(l:K.lookup f=some ⟨oc,od,.func (PySem.W.fnOf x qual (eZ st) (cC st) (aj st) .none kV doc pm an cdv ct),osl⟩)
 (c:PySem.W.codeIn K cdv qual=true) (k:PySem.W.keepIn K (.ref f)=true):sF K x qual st f (PySem.W.fnOf x qual (eZ st) (cC st) (aj st) .none kV doc pm an cdv ct):=⟨⟨oc,od,kV,doc,pm,an,cdv,ct,osl,rfl,l,c⟩,k⟩
end
def qU{A:Around}{k:Nat}(hr:dU k A):A.units+1<cLine:=abL (Nat.add_le_add_left (by decide:1<=64) _) hr.units
def bS{n:Nat}(h:n<=1000):n<sizeLine:=abL h (by decide)
section
variable {X:Cx}
def pv(i:Nat){x:Str}{pos:Pos}(hN:X.N[i]?=some x:=by rfl)(hv:V6 X.env.scope x:=by first | exact Or.inl rfl | exact Or.inr (Or.inl rfl) | exact Or.inr (Or.inr rfl))(hd:(x==("__debug__":Str))=false:=by decide)
 (hcd:(x==("__classdict__":Str))=false:=by decide):PE X (.Name x pos) (Tj i):=Qo hN hv hd hcd
end
def cO{A B:Prop}(h:B):if false=true then A else B:=by
 rw[aab aah];exact h
def fb{A B:Prop}(h:A):if true=true then A else B:=by
 rw[aad rfl];exact h
def qV{c A B:Prop}[Decidable c](h1:c->A)(h2 : ¬ c->B):if c then A else B:=by
 by_cases h:c
 ·rw[aad h];exact h1 h
 ·rw[aab h];exact h2 h
def Gv{c A B:Prop}[Decidable c](hc:c)(h:B):if(!decide c)=true then A else B:=by
 rw[eG hc];exact cO h
def au(H H' : Hp):Prop:=∀b o,H b=some o->H' b=some o
def au.refl(H:Hp):au H H:=λ_ _ h=>h
def au.trans{H H1 H2:Hp}(a:au H H1)(b:au H1 H2):au H H2:=λc o h=>b c o (a c o h)
def au.free{H H' : Hp}(e:au H H'){l:Addr}(h:H' l=Option.none):H l=Option.none:=by
 cases q:H l with
 | none=>rfl
 | some o =>
   rw[e l o q]at h;cases h
def au.seq{K:bE}{H H' : Hp}{a:Addr}{xs:List V}(e:au H H')(h:aO K H a xs):aO K H' a xs:=by
 rcases h with(h|⟨o,h⟩) | h
 ·exact .inl (.inl (e _ _ h))
 ·exact .inl (.inr ⟨o,e _ _ h⟩)
 ·exact .inr h
def dM(cells:List (Str×Addr)):List (Str×NameKind)->List (Str×Addr)->List (Str×Addr)
 | [],cs=>cs
 | (n,k)::r,cs=>dM cells r (if(k==NameKind.free)=true then(n,(cells.lookup n).getD 0)::cs else cs)
def vR{env:Env}{f:Str×NameKind->List (Str×Addr)->Sem (ForInStep (List (Str×Addr)))}
 (hf1:∀n k cs c,(k==NameKind.free)=true->env.cells.lookup n=some c->f (n,k) cs=pure (.yield ((n,c)::cs)))
 (hf2:∀n k cs,(k==NameKind.free)=false->f (n,k) cs=pure (.yield cs)) :
 ∀(names:List (Str×NameKind)) (cs:List (Str×Addr)),(∀n k,(n,k)∈names->(k==NameKind.free)=true->∃c,env.cells.lookup n=some c)->
  forIn names cs f=(pure (dM env.cells names cs):Sem (List (Str×Addr)))
 | [],cs,_=>by rw[List.forIn_nil];rfl
 | (n,k)::r,cs,h=>by
   have I:=λcs=>vR hf1 hf2 r cs λm j hm=>h m j (pP _ hm)
   rw[List.forIn_cons];cases e:(k==NameKind.free) with
   | true =>
     obtain⟨c,hc⟩:=h n k aaq e;rw[hf1 n k cs c e hc,pure_bind];show forIn r ((n,c)::cs) f=_;rw[I]
     conv=>rhs;unfold dM
     rw[aad e,hc];rfl
   | false =>
     rw[hf2 n k cs e,pure_bind];show forIn r cs f=_;rw[I]
     conv=>rhs;unfold dM
     rw[aab (by rw[e];exact aah)]
def qp{scope:Scope}{env:Env}(h:∀n k,(n,k)∈scope.names->(k==NameKind.free)=true->∃c,env.cells.lookup n=some c):closureFor scope env=pure (dM env.cells scope.names []):=by
 simp only[closureFor];rw[vR (env:=env) ?_ ?_ scope.names [] h]
 ·rfl
 ·intro n k cs c e hc;show(if(k==NameKind.free)=true then _ else _)=_
  rw[aad e];unfold cellOf;rw[hc];rfl
 ·intro n k cs e;show(if(k==NameKind.free)=true then _ else _)=_
  rw[aab (by rw[e];exact aah)]
def kO{cells:List (Str×Addr)}{x:Str}{c:Addr}:∀{names:List (Str×NameKind)} {cs:List (Str×Addr)},(dM cells names cs).lookup x=some c->cs.lookup x=some c\/((x,NameKind.free)∈names/\(cells.lookup x).getD 0=c)
 | [],cs,h=>.inl h
 | (n,k)::r,cs,h=>by
   unfold dM at h;rcases kO h with q|⟨I,O⟩
   ·by_cases e:(k==NameKind.free)=true
    ·rw[aad e]at q
     by_cases hx:x=n
     ·subst hx;rw[acZ]at q;have hk:k=NameKind.free:=eq_of_beq e;exact .inr ⟨by rw[hk];exact aaq,Option.some.inj q⟩
     ·have hb:(x==n)=false:=beq_eq_false_iff_ne.mpr hx;simp only[abc,hb]at q;exact .inl q
    ·rw[aab e]at q;exact .inl q
   ·exact .inr ⟨pP _ I,O⟩
def j7{cells:List (Str×Addr)}{x:Str}:∀{names:List (Str×NameKind)} {cs:List (Str×Addr)},((x,NameKind.free)∈names\/∃c,cs.lookup x=some c)->∃c,(dM cells names cs).lookup x=some c
 | [],cs,h=>by
   rcases h with h|h
   ·cases h
   ·exact h
 | (n,k)::r,cs,h=>by
   unfold dM;apply j7;rcases h with h|⟨c,h⟩
   ·rcases aao.mp h with h|h
    ·cases h
     right
     rw[aad (by rfl)]
     exact⟨_,acZ⟩
    ·exact .inl h
   ·right
    by_cases e:(k==NameKind.free)=true
    ·rw[aad e]
     by_cases hx:x=n
     ·subst hx;exact⟨_,acZ⟩
     ·have hb:(x==n)=false:=beq_eq_false_iff_ne.mpr hx;exact⟨c,by simp only[abc,hb];exact h⟩
    ·rw[aab e];exact⟨c,h⟩
def mO{env:Env}{x:Str}{k:NameKind}:∀{names:List (Str×NameKind)},
 (names.map λ(n,k)=>if(k==NameKind.free&&env.scope.kind == .function&&env.kindOf n==some .cell) then(n,NameKind.cell) else(n,k)).lookup x=some k->
  ∃k0,names.lookup x=some k0/\(k=k0\/(k0 = .free/\k = .cell))
 | [],h=>by cases h
 | (n,j)::r,h=>by
   have I:=@mO env x k r
   replace h:List.lookup x ((if(j==NameKind.free&&env.scope.kind == .function&&env.kindOf n==some .cell)=true then(n,NameKind.cell) else(n,j))::_)=some k:=h
   cases hx:x==n with
   | true =>
     by_cases hc:(j==NameKind.free&&env.scope.kind == .function&&env.kindOf n==some .cell)=true
     ·rw[aad hc]at h;simp only[abc,hx]at h ⊢;have hj:j=NameKind.free:=by
       rw[aaJ,aaJ]at hc;exact eq_of_beq hc.1.1
      exact⟨j,rfl,.inr ⟨hj,(Option.some.inj h).symm⟩⟩
     ·rw[aab hc]at h;simp only[abc,hx]at h ⊢;exact⟨j,rfl,.inl (Option.some.inj h).symm⟩
   | false =>
     by_cases hc:(j==NameKind.free&&env.scope.kind == .function&&env.kindOf n==some .cell)=true
     ·rw[aad hc]at h;simp only[abc,hx]at h ⊢;exact I h
     ·rw[aab hc]at h;simp only[abc,hx]at h ⊢;exact I h
def qW{env:Env}{x:Str}:∀{names:List (Str×NameKind)},names.lookup x=some .free->
 (names.map λ(n,k)=>if(k==NameKind.free&&env.scope.kind == .function&&env.kindOf n==some .cell) then(n,NameKind.cell) else(n,k)).lookup x=some .cell\/
 (names.map λ(n,k)=>if(k==NameKind.free&&env.scope.kind == .function&&env.kindOf n==some .cell) then(n,NameKind.cell) else(n,k)).lookup x=some .free
 | [],h=>by cases h
 | (n,j)::r,h=>by
   have I:=@qW env x r;show List.lookup x ((if(j==NameKind.free&&env.scope.kind == .function&&env.kindOf n==some .cell)=true then(n,NameKind.cell) else(n,j))::_)=_\/
    List.lookup x ((if(j==NameKind.free&&env.scope.kind == .function&&env.kindOf n==some .cell)=true then(n,NameKind.cell) else(n,j))::_)=_
   cases hx:x==n with
   | true =>
     simp only[abc,hx]at h;cases h
     by_cases hc:(NameKind.free==NameKind.free&&env.scope.kind == .function&&env.kindOf n==some .cell)=true
     ·rw[aad hc];simp only[abc,hx];exact .inl trivial
     ·rw[aab hc];simp only[abc,hx];exact .inr trivial
   | false =>
     simp only[abc,hx]at h
     by_cases hc:(j==NameKind.free&&env.scope.kind == .function&&env.kindOf n==some .cell)=true
     ·rw[aad hc];simp only[abc,hx];exact I h
     ·rw[aab hc];simp only[abc,hx];exact I h
def dN(X:Cx)(N:List Str)(scope:Scope)(xe:dD)(C:Addr)(s:Shared)(H:Hp)(fp:List Addr):Cx where
 prog:=X.prog
 w:=X.w
 K:=X.K
 mg:=X.mg
 base:=X.base
 A:=X.A
 N:=N
 s₀:=s
 H₀:=H
 env:=compEnvC scope (dM X.env.cells scope.names []) C X.env
 outer:=X.stack
 stack:=X.stack
 ex:=fp
 fn:=λ_=>false
 calm:=X.calm
 pn:=[]
 xe:=xe
def fQ(σ:St)(js:List Nat):St:=js.map λj=>(σ[j]?).getD none
structure eJ(X:Cx)(scope:Scope)(own fq:List Str)(js:List Nat):Prop where
 kind:scope.kind = .function
 Aw:∀y∈scope.names,y.2≠.cell
 names:∀y∈scope.names,y.2 = .local->scope.names.lookup y.1=some .local
 free:∀y∈scope.names,y.2 = .free->X.env.scope.names.lookup y.1=some .cell\/X.env.scope.names.lookup y.1=some .free
 at_:js.map (λj=>X.N[j]?)=fq.map some
 fr:∀x∈fq,scope.names.lookup x=some .free
def vS{σ:St}{js:List Nat}{i:Nat}{v:V}(h:(fQ σ js)[i]?=some (some v)):∃j,js[i]?=some j/\σ[j]?=some (some v):=by
 unfold fQ at h;rw[aak]at h;cases e:js[i]? with
 | none=>rw[e]at h;cases h
 | some j =>
   rw[e]at h;have h' : (σ[j]?).getD none=some v:=Option.some.inj h;refine⟨j,rfl,?_⟩;cases q:σ[j]? with
   | none=>rw[q]at h';cases h'
   | some o=>rw[q]at h';rw[show o=some v from h']
section
variable {X:Cx}
def iC{pq:aX}{σ:St}{H:Hp}{s:Shared}{scope:Scope}{own fq:List Str}{js:List Nat}(I:Inv X pq σ H s)(T:eJ X scope own fq js):
 ∀n k,(n,k)∈scope.names->(k==NameKind.free)=true->∃c,X.env.cells.lookup n=some c:=λn k hm e=>by
 have hk:k=NameKind.free:=eq_of_beq e;exact I.ok.has n (T.free (n,k) hm hk)
def KD{pq:aX}{σ:St}{H:Hp}{s:Shared}{scope:Scope}{own fq:List Str}{js:List Nat}{fp:List Addr}{D C:Addr}{h1:Heap}{t1:Nat}{m:nE}{xe:dD}
 (I:Inv X pq σ H s) (T:eJ X scope own fq js) (hf:∀b∈fp,ql X pq H b) (hfo:∀b∈fp,∃o,s.heap.get? b=some o) (hD:s.heap.objs.size<=D) (hC:s.heap.objs.size<=C) (hDC:D≠C)
 (old:∀b o,s.heap.get? b=some o->h1.get? b=some o) (hl:h1.get? D=some { cls:=.type "list",data:=.seq ([]:List Value).toArray 0}) (hn:h1.Ns C m) :
 Inv (dN X (own++fq) scope xe C s H fp) [] (List.replicate own.length none++fQ σ js) (upd H D (.lst [])) { s with heap:=h1,toks:=t1}:=by
 have cells:∀x c,(dM X.env.cells scope.names []).lookup x=some c->X.env.cells.lookup x=some c:=λx c h=>by
  rcases kO h with q|⟨q1,q2⟩
  ·cases q
  ·obtain⟨c',O⟩:=iC I T x .free q1 rfl;rw[O]at q2;rw[O];exact aaO some q2
 have Uc:∀b o,s.heap.get? b=some o->b<s.heap.objs.size:=λb o e=>aan e
 have ab:∀x c,X.env.cells.lookup x=some c->c<s.heap.objs.size:=λx c e=>by
  obtain⟨v,q⟩:=I.cell x c e;exact q.lt
 have aw:∀b∈frs X.stack,b<s.heap.objs.size:=λb hb=>by
  obtain⟨_,o,ho,_⟩:=I.stack.mem hb;exact aan ho
 have ag:H D=none:=I.hok.fresh hD;have QN:H C=none:=I.hok.fresh hC;refine⟨⟨I.ok.mod,T.kind,I.ok.glob,I.ok.blt,hC,λx y c a b=>I.ok.inj x y c (cells x c a) (cells y c b),λx hx=>?_,λx c z _=>(nomatch z),I.ok.hd,I.ok.frames,.inl rfl,λb hb=>⟨?_,λx c e z=>?_⟩,
  λb o e=>I.bs b o e,aaB I.ok.M3 I.sz,λb o e hb=>?_,λb hb z=>?_,I.stack,I.Ai⟩,
  rfl,I.bare,Un.laid old hD ag,⟨m,hn,λi x v Y e2 e3=>?_⟩,λx c e=>?_,?_,λx c e=>?_,λp hp=>absurd (show p∈([]:aX) from hp) (by simp),?_,?_⟩
 ·
  have hx:(relabel scope X.env).names.lookup x=some .cell\/(relabel scope X.env).names.lookup x=some .free:=hx;have ar:(x,NameKind.free)∈scope.names:=by
   rcases hx with hx|hx
   ·obtain⟨k0,q,r⟩:=mO hx;have hm:=aa8 q;rcases r with r|⟨r,_⟩
    ·exact absurd r.symm (T.Aw _ hm)
    ·rw[r]at hm;exact hm
   ·obtain⟨k0,q,r⟩:=mO hx;have hm:=aa8 q;rcases r with r|⟨_,r⟩
    ·rw[<-r]at hm;exact hm
    ·cases r
  exact j7 (.inl ar)
 ·
  obtain⟨o,ho⟩:=hfo b hb;exact aaz (aau (Uc b o ho) hC)
 ·exact(hf b hb).2.2.2.2.1 x c (cells x c e) z
 ·
  obtain⟨_,_,_,f3,_,_⟩:=hf b hb;rcases f3 with z|z
  ·exact I.ok.Hi b o e z
  ·exact absurd (aau (aan (I.ok.bs b o e).1) z) (abj _)
 ·
  obtain⟨_,f1,f2,_⟩:=hf b hb;rcases aao.mp (I.vK b z) with q|q
  ·exact f1 q
  ·exact f2 q
 ·
  by_cases hi:i<own.length
  ·rw[aaP (by simpa using hi),ab6,aad hi]at e2
   cases e2
  ·rw[aaS (by simpa using hi),abv]at e2
   replace Y:(own++fq)[i]?=some x:=Y
   rw[aaS (by lia)]at Y
   obtain⟨j,hj,hσ⟩:=vS e2;have hN:X.N[j]?=some x:=by
    have q:=aaO (λl=>l[i-own.length]?) T.at_
    simp only[aak,hj,Y,abW]at q;exact Option.some.inj q
   have Z:=T.fr x (jY Y);have hm:=aa8 Z;have hk:=T.free (x,.free) hm rfl;obtain⟨m0,ax,Gw⟩:=I.loc;obtain⟨u,r,l⟩:=Gw j x v hN hσ (by rcases hk with k|k;exact .inr (.inl k);exact .inr (.inr k))
   refine⟨u,r,.inr ⟨qW Z,?_⟩⟩;rcases l with⟨yt,_⟩|⟨_,c,hc,U⟩
   ·have yt:X.env.scope.names.lookup x=some .local:=yt;rcases hk with k|k<;>(rw[yt]at k;cases k)
   ·obtain⟨c',O⟩:=j7 (cells:=X.env.cells) (names:=scope.names) (cs:=[]) (x:=x) (.inl hm);have q:=cells x c' O;rw[hc]at q;cases q;exact⟨c,O,U.keeps old⟩
 ·
  obtain⟨v,q⟩:=I.cell x c (cells x c e);exact⟨v,q.keeps old⟩
 ·
  show upd H D (.lst []) C=none;rw[ah (aaE hDC)];exact QN
 ·show upd H D (.lst []) c=none;have e:=cells x c e;rw[ah (aaz (aau (ab x c e) hD))];exact I.fO x c e
 ·exact I.hok.laid old hD ⟨aaF _,[],0,.nil,hl⟩
 ·show _=(own++fq).length;have q:=aaO List.length T.at_;rw[aaa,aaa]at q;rw[aaj,aaj,abv];unfold fQ;rw[aaa,q]
def p7{pq:aX}{σ σ' : St}{H H' : Hp}{s s' : Shared}{scope:Scope}{N:List Str}{fp:List Addr}{C:Addr}{h' : Heap}{xe:dD}
 (I:Inv X pq σ H s) (hf:∀b∈fp,ql X pq H b) (hC:s.heap.objs.size<=C) (J:Inv (dN X N scope xe C s H fp) [] σ' H' s') (sb:Heap.SameBut C s'.heap h'):Inv X pq σ H' { s' with heap:=h'}:=by
 have O:H' C=none:=J.free;refine I.JW (ch:=fp) J.os ?_ ?_ J.bare (λb hb=>?_)
 ·have u:Un (frs X.stack) fp H H' s.heap s'.heap:=J.base;have ne:∀b o,s.heap.get? b=some o->b≠C:=λb o e=>aaz (aau (aan e) hC)
  refine⟨λb o e n hb hx=>(sb.2 b (ne b o e)).trans (u.keep b o e n hb hx),λb o e n hb hx=>?_,u.free,λb o e hx=>?_,u.tups,u.mH,u.nG⟩
  ·obtain⟨sl,q⟩:=u.slot b o e n hb hx;exact⟨sl,(sb.2 b (ne b o e)).trans q⟩
  ·obtain⟨o',q⟩:=u.there b o e hx;exact⟨o',(sb.2 b (ne b o e)).trans q⟩
 ·intro b ob e;refine(J.hok b ob e).stay (λc U hc q=>(sb.2 c ?_).trans q) (λ_ q=>q) λ_ _ q=>q
  rintro rfl;rcases hc with rfl|hc
  ·rw[O]at e;cases e
  ·rw[O]at hc;cases hc
 ·obtain⟨_,f1,_,f3,f4,f5⟩:=hf b hb;exact⟨f3,f1,f4,f5⟩
end
section
variable {prog:Program}{w:World}{A:Around}{R:Result->Shared->Prop}{s:Shared}
abbrev Gx(ifs:List Expr)(env:Env):Sem Bool:=forIn ifs true λc r=>if r=true then do let ok←isTrue c env (eval c env);pure (ForInStep.yield ok) else pure (ForInStep.yield r)
def Ax{elt target iter:Expr}{ifs:List Expr}{scope:Scope}{pos:Pos}{it acc:Value}{env:Env}(I:Nat->Shared->Prop)
 (turn:∀n s,I n s->wpAny (model prog w) A (pyNext it) (λr O=>match r with
  | none=>R (.ok .next) O
  | some v=>wpAny (model prog w) A (letOwnedTupleGo target it v) (λ_ s₀=>wpAny (model prog w) A (assign target env v) (λ_ Y =>
   wpAny (model prog w) A (Gx ifs env) (λok U =>
    if ok=true then wpAny (model prog w) A (eval elt env) (λx Z =>
     wpAny (model prog w) A (call (.builtin "list.append") [acc,x]) (λ_ s₅=>∃m,m<n/\I m s₅) (notedBy (model prog w) A env λe s'=>R (.error e) s') Z) (notedBy (model prog w) A env λe s'=>R (.error e) s') U
    else ∃m,m<n/\I m U) (notedBy (model prog w) A env λe s'=>R (.error e) s') Y) (notedBy (model prog w) A env λe s'=>R (.error e) s') s₀) (notedBy (model prog w) A env λe s'=>R (.error e) s') O) (notedBy (model prog w) A env λe s'=>R (.error e) s') s)
 (n:Nat) (h:I n s) :
 codeAny (model prog w) A (.compLoop (.ListComp elt [⟨target,iter,ifs,0⟩] scope pos) 0 it acc env) R s:=by
 refine codeAny_loop rfl I (λn s hI=>?_) n h
 show wpAny _ A ((compTurn (.ListComp elt [⟨target,iter,ifs,0⟩] scope pos) 0 it acc env).onRaise (λx=>do noteFrame x env;theTreesLotGoes x)) _ _ s
 refine wpAny_noted ?_;rw[compTurn_list];refine aW (wpAny_standAt (aW (aaG (turn n s hI) (λr O h₁=>?_) λ_ _ h'=>h')))
 cases r with
 | none=>exact aai h₁
 | some v =>
   refine aW (aaG h₁ (λ_ s₀ h₀=>?_) λ_ _ h'=>h')
   refine aW (aaG h₀ (λ_ Y h₂=>aW (aaG h₂ (λok U h₃=>?_) λ_ _ h'=>h')) λ_ _ h'=>h')
   cases ok with
   | false=>exact aai ⟨rfl,h₃⟩
   | true =>
     exact aW (aW (aaG h₃ (λx Z h₄=>aW (aaG h₄ (λ_ s₅ h₅=>aai (aai ⟨rfl,h₅⟩)) λ_ _ h'=>h')) λ_ _ h'=>h'))
end
def Ud(X:Cx)(ifs:List Expr)(t:TT):Prop :=
 ∀(pq:aX) (s:Shared) (σ:St) (H:Hp) (Q:Bool->Hp->Prop),Inv X pq σ H s->t σ H Q->wpAny (model X.prog X.w) X.A (Gx ifs X.env) (TP X pq σ Q) X.xe s
def Ue:TT:=λ_ H Q=>Q true H
def bV{X:Cx}:Ud X [] Ue:=λ_ _ _ H _ I h=>wpAny_tests_nil ⟨H,I,h⟩
def iU{X:Cx}{c:Expr}{t:TT}(h:PT X c t):Ud X [c] t:=λpq s σ H Q I q=>wpAny_tests_one (h pq s σ H Q I q)
def ja(J:It)(g:TG)(tt:TT)(te:TE)(n:Nat)(fr:St)(D:Addr)(Q:Hp->Prop)(H1:Hp):Prop :=
 ∃W:Nat->Nat->List V->Hp->Prop,(∃m,W 0 m [] H1)/\∀i m acc H,W i m acc H->H D=some (.lst acc)/\
   ((J.stop i H/\Q H)\/(J.go i H/\acc.length<sizeLine/\∃N:List V->Hp->Prop,(∀I H',N I H'->∃m',m'<m/\W (i+1) m' I H')/\
     ∀x H',J.J0 i H x H'->g x (List.replicate n none++fr) H' λσ2 H2=>σ2.drop n=fr/\tt σ2 H2 λb H3 =>
     if b=true then te σ2 H3 λv H4=>H4 D=some (.lst acc)/\N (acc++[v]) (upd H4 D (.lst (acc++[v])))
     else N acc H3))
def Pe(wi:TI)(g:TG)(tt:TT)(te:TE)(n:Nat)(js:List Nat):TE:=λσ H Q=>wi σ H λJ H1=>∀D,H1 D=none->ja J g tt te n (fQ σ js) D (λH2=>Q (.ref D) H2) (upd H1 D (.lst []))
structure Pf(A:Around)(cm:Bool)(P:Program)(w:World)(K:bE)(tg:Expr)(J:It)(fp:List Addr)(it:Addr)(tn:Nat->Heap->Prop):Prop where
 mem:it∈fp
 obj:∀i h,tn i h->∀b∈fp,∃o,h.get? b=some o/\∀v,o.data≠.cell v
 keep:∀i h h',tn i h->(∀b∈fp,∀o,h.get? b=some o->h'.get? b=some o)->tn i h'
 item:∀(X:Cx),X.prog=P->X.w=w->X.K=K->X.A=A->X.calm=cm->∀(i:Nat) (pq:aX) (s:Shared) (σ:St) (H:Hp) (E:dD),Inv X pq σ H s->(∀b∈fp,ql X pq H b)->tn i s.heap->J.go i H->
  wpAny (model P w) X.A (pyNext (.ref it)) (λr s1=>∃u,r=some u/\
   wpAny (model P w) X.A (letOwnedTupleGo tg (.ref it) u) (λ_ s2=>∃x H',Inv X pq σ H' s2/\RelV x u/\J.J0 i H x H'/\tn (i+1) s2.heap/\∀b∈fp,H' b=none) E s1) E s
 done:∀(X:Cx),X.prog=P->X.w=w->X.K=K->X.A=A->X.calm=cm->∀(i:Nat) (pq:aX) (s:Shared) (σ:St) (H:Hp) (E:dD),Inv X pq σ H s->(∀b∈fp,ql X pq H b)->tn i s.heap->J.stop i H->
  wpAny (model P w) X.A (pyNext (.ref it)) (λr s1=>r=none/\Inv X pq σ H s1) E s
 self:∀(A:Around) (i:Nat) (s:Shared) (Q:dD) (E:dD),tn i s.heap->Q (.ref it) s->wpAny (model P w) A (pyIter (.ref it)) Q E s
def Turn.x{A:Around}{cm:Bool}{P:Program}{w:World}{K:bE}{tg:Expr}{J:It}{fp:List Addr}{it:Addr}{tn:Nat->Heap->Prop}(T:Turn P w K tg J fp it tn)(hc:cm=true):Pf A cm P w K tg J fp it tn :=
 ⟨T.mem,T.obj,T.keep,λX a b c _ d=>T.item X a b c (d.trans hc),λX a b c _ d=>T.done X a b c (d.trans hc),T.self⟩
section
variable {X:Cx}{elt iter tg:Expr}{ifs:List Expr}{scope:Scope}{pos:Pos}{own fq:List Str}{js:List Nat}{wi:TI}{g:TG}{tt:TT}{te:TE}
def vU{pq:aX}{σ:St}{H2:Hp}{s2:Shared}{it:Addr}{fp:List Addr}{tn:Nat->Heap->Prop}{J:It}{E:dD}{RR:Value->Addr->Result->Shared->Prop}{QQ:Addr->Hp->Prop}
 (T:eJ X scope own fq js)
 (hg:∀C s H fp,PG (dN X (own++fq) scope (λ_ _=>False) C s H fp) tg g)
 (ht:∀C s H fp,Ud (dN X (own++fq) scope (λ_ _=>False) C s H fp) ifs tt)
 (he:∀C s H fp,PE (dN X (own++fq) scope (λ_ _=>False) C s H fp) elt te)
 (I2:Inv X pq σ H2 s2) (JN:Pf X.A X.calm X.prog X.w X.K tg J fp it tn) (st2:tn 0 s2.heap) (f2:∀b∈fp,ql X pq H2 b)
 (hl:∀D,H2 D=none->ja J g tt te own.length (fQ σ js) D (QQ D) (upd H2 D (.lst [])))
 (hRR:∀D C σ' H' s',s2.heap.objs.size<=C->Inv (dN X (own++fq) scope (λ_ _=>False) C s2 H2 fp) [] σ' H' s'->QQ D H'->RR (.ref D) C (.ok .next) s') :
 wpAny (model X.prog X.w) X.A (newList []) (λacc Y=>wpAny (model X.prog X.w) X.A (newFunctionEnv scope X.env.globals (dM X.env.cells scope.names []) [] X.env.qual none .none (some X.env)) (λI s₄ =>
  codeAny (model X.prog X.w) X.A (.compStart (.ListComp elt [⟨tg,iter,ifs,0⟩] scope pos) 0 (.ref it) acc { I with scope:=relabel scope X.env}) (RR acc I.locals) s₄) E Y) E s2:=by
 refine wpAny_newObj_type (wpAny_newFunctionEnv T.Aw (by intro y hy;simp at hy) (λh₁ QO NP=>?_) T.kind)
 dsimp only at QO NP ⊢;generalize NQ:s2.heap.push { cls:=.type "list",dict:=none,data:=.seq ([]:List Value).toArray}=G2 at QO NP ⊢;have hC:G2.objs.size=s2.heap.objs.size+1:=by rw[<-NQ,acB]
 have Z:s2.heap.objs.size≠G2.objs.size:=by rw[hC];exact aaz (abI _)
 have Ug:s2.heap.objs.size<=G2.objs.size:=by rw[hC];exact abd _
 have below:∀b,b<s2.heap.objs.size->b≠G2.objs.size:=λb hb=>by rw[hC];exact aaz (abB hb)
 have old:∀b o,s2.heap.get? b=some o->h₁.get? b=some o:=λb o e=>NP.extBut b o (below b (aan e)) (aag _ (NQ▸aag _ e))
 have ab:h₁.get? s2.heap.objs.size=some { cls:=.type "list",data:=.seq ([]:List Value).toArray 0}:=NP.extBut _ _ Z (aag _ (NQ▸aav _ rfl));have XM:∀b∈fp,∃o,s2.heap.get? b=some o:=λb hb=>let⟨o,e,_⟩:=JN.obj _ _ st2 b hb;⟨o,e⟩
 have ag:tn 0 h₁:=JN.keep _ _ _ st2 λb _ o e=>old b o e
 obtain⟨W,⟨m0,w0⟩,turn⟩:=hl s2.heap.objs.size (I2.hok.fresh (aaf _));have O:∀{H' : Hp},(∀b∈fp,H' b=none)->∀b∈fp,ql (dN X (own++fq) scope (λ_ _=>False) G2.objs.size s2 H2 fp) [] H' b:=λ{H'} hn b hb=>by
  obtain⟨_,f1,ax,_,f4,_⟩:=f2 b hb;obtain⟨o,ho⟩:=XM b hb;refine⟨hn b hb,below b (aan ho),λz=>?_,.inl hb,λx c e=>?_,λp hp=>absurd (show p∈([]:aX) from hp) (by simp)⟩
  ·rcases aao.mp (I2.vK b z) with q|q
   ·exact f1 q
   ·exact ax q
  ·rcases kO (show(dM X.env.cells scope.names []).lookup x=some c from e) with q|⟨q1,q2⟩
   ·cases q
   ·obtain⟨c',ar⟩:=iC I2 T x .free q1 rfl;rw[ar]at q2;have q2:c' = c:=q2;rw[<-q2];exact f4 x c' ar
 have aT:∀b∈fp,upd H2 s2.heap.objs.size (.lst []) b=none:=λb hb=>by
  obtain⟨o,ho⟩:=XM b hb;rw[ah (aaz (aan ho))];exact(f2 b hb).1
 have back:∀{σ6:St} {p6:aX} {H6:Hp} {s6:Shared},Inv (dN X (own++fq) scope (λ_ _=>False) G2.objs.size s2 H2 fp) p6 σ6 H6 s6->σ6.drop own.length=fQ σ js->
  Inv (dN X (own++fq) scope (λ_ _=>False) G2.objs.size s2 H2 fp) [] (List.replicate own.length none++fQ σ js) H6 s6:=λ{σ6 p6 H6 s6} I6 hd=>by
  have a3:σ6.length=(own++fq).length:=I6.len;have J6:=I6.gZ (Qn:=[]) λp hp=>absurd hp (by simp)
  refine J6.weak ?_ λi v e=>?_
  ·have q:=aaO List.length hd;rw[acS]at q;rw[aaj]at a3;rw[aaj,abv]
   lia
  ·by_cases hi:i<own.length
   ·rw[aaP (by simpa using hi),ab6,aad hi]at e
    cases e
   ·rw[aaS (by simpa using hi),abv,<-hd,List.getElem?_drop]at e
    rw[show own.length+(i-own.length)=i by lia]at e
    exact e
 have loop:∀Y:Shared,Y={ s2 with heap:=h₁,toks:=s2.toks+([]:List (Str×Value)).length}->
  codeAny (model X.prog X.w) X.A (.compLoop (.ListComp elt [⟨tg,iter,ifs,0⟩] scope pos) 0 (.ref it) (.ref s2.heap.objs.size) (compEnvC scope (dM X.env.cells scope.names []) G2.objs.size X.env))
   (RR (.ref s2.heap.objs.size) G2.objs.size) Y:=by
  rintro Y rfl;refine Ax (λn s'=>∃i acc H',Inv (dN X (own++fq) scope (λ_ _=>False) G2.objs.size s2 H2 fp) [] (List.replicate own.length none++fQ σ js) H' s'/\tn i s'.heap/\(∀b∈fp,H' b=none)/\W i n acc H') ?_ m0
   ⟨0,[],upd H2 s2.heap.objs.size (.lst []),KD I2 T f2 XM (aaf _) Ug Z old ab QO,ag,aT,w0⟩
  rintro n s3 ⟨i,acc,H3,I3,aw,Pa,w3⟩;obtain⟨zu,Uh⟩:=turn i n acc H3 w3;rcases Uh with⟨stop,qn⟩|⟨go,hz,NN,Zn,step⟩
  ·refine aaG (JN.done (dN X (own++fq) scope (λ_ _=>False) G2.objs.size s2 H2 fp) rfl rfl rfl rfl rfl i [] s3 _ H3 (λ_ _=>False) I3 (O Pa) aw stop) (λr s4 ⟨hr,I4⟩=>?_) λ_ _ z=>z.elim
   subst hr;exact hRR _ _ _ H3 s4 Ug I4 qn
  ·refine aaG (JN.item (dN X (own++fq) scope (λ_ _=>False) G2.objs.size s2 H2 fp) rfl rfl rfl rfl rfl i [] s3 _ H3 (λ_ _=>False) I3 (O Pa) aw go) (λr s4 ⟨u,hr,h4⟩=>?_) λ_ _ z=>z.elim
   subst hr;refine aaG h4 (λ_ s5 ⟨x,H5,I5,r5,y5,Ka,TH⟩=>?_) λ_ _ z=>z.elim
   have TJ:=I5.pinned (O TH) (JN.obj _ _ Ka);refine aaG (hg _ _ _ _ _ s5 _ H5 x u _ TJ r5 (step x H5 y5)) (λ_ s6 ⟨σ6,H6,I6,Ui,q6⟩=>?_) λ_ _ z=>z.elim
   refine aaG (ht _ _ _ _ _ s6 σ6 H6 _ I6 q6) (λok s7 ⟨H7,I7,q7⟩=>?_) λ_ _ z=>z.elim
   have again:∀{U:Hp} {s8:Shared},Inv (dN X (own++fq) scope (λ_ _=>False) G2.objs.size s2 H2 fp) ([]++sr fp s5.heap) σ6 U s8->tn (i+1) s8.heap/\∀b∈fp,U b=none:=λ{U s8} I8=>by
    refine⟨JN.keep _ _ _ Ka λb hb o e=>(I8.pin (b,o) (jF _ (jF _ (iy hb e)))).1,λb hb=>?_⟩
    obtain⟨o,e,d⟩:=JN.obj _ _ Ka b hb;exact(I8.pin (b,o) (jF _ (jF _ (iy hb e)))).2.1
   cases ok with
   | false =>
     rw[aab aah];obtain⟨m',hm,w7⟩:=Zn _ _ q7;obtain⟨t7,n7⟩:=again I7;exact⟨m',hm,i+1,acc,H7,back I7 Ui,t7,n7,w7⟩
   | true =>
     rw[aad rfl];refine aaG (he _ _ _ _ _ s7 σ6 H7 _ I7 q7) (λxv s8 ⟨v,U,I8,r8,JO,q8⟩=>?_) λ_ _ z=>z.elim
     obtain⟨m',hm,w8⟩:=Zn _ _ q8;refine aaG (cB (X:=dN X (own++fq) scope (λ_ _=>False) G2.objs.size s2 H2 fp) _ s8 σ6 U (.ref s2.heap.objs.size) [v] (.ref s2.heap.objs.size) [xv] (λy H9=>y = .eF/\H9=upd U s2.heap.objs.size (.lst (acc++[v]))) I8 rfl (.cons r8 .nil) ⟨_,acc,v,rfl,rfl,JO,hz,rfl,rfl⟩)
      (λ_ s9 ⟨y,H9,I9,_,_,e9⟩=>?_) λ_ _ z=>z.elim
     subst e9;obtain⟨t9,n9⟩:=again I9;exact⟨m',hm,i+1,acc++[v],_,back I9 Ui,t9,n9,w8⟩
 exact codeAny_compStart_list (loop _ rfl) (JN.self _ 0 _ _ _ ag (loop _ rfl))
def bW(T:eJ X scope own fq js)(hc:X.calm=true)(hi:PI X tg iter wi)
 (hg:∀C s H fp,PG (dN X (own++fq) scope (λ_ _=>False) C s H fp) tg g)
 (ht:∀C s H fp,Ud (dN X (own++fq) scope (λ_ _=>False) C s H fp) ifs tt)
 (he:∀C s H fp,PE (dN X (own++fq) scope (λ_ _=>False) C s H fp) elt te)
 (hs:∀x,foldedSetIterable iter X.env x=pure x:=by intro _;rfl) :
 PE X (.ListComp elt [⟨tg,iter,ifs,0⟩] scope pos) (Pe wi g tt te own.length js):=by
 intro pq s σ H Q I h;rw[eval_ListComp];refine wpAny_comprehension_free (use:=none) rfl hs (qp (iC I T)) T.kind T.names ?_;refine aaG (hi pq s σ H _ I h) (λv s1 h1=>aaG h1 (λZ s2 h2=>?_) λ_ _ z=>z) λ_ _ z=>z
 obtain⟨it,fp,tn,J,H2,e,U,JN,O,f2,hl⟩:=h2;subst e;refine vU (QQ:=λD H'=>Q (.ref D) H') T hg ht he U (JN.x hc) O f2 hl λD C σ' H' s' hC Y q=>?_
 obtain⟨m,hn,_⟩:=Y.loc;exact⟨m,hn,λh' sb=>⟨.ref D,H',p7 U f2 hC Y sb,rfl,q⟩⟩
def KG(i:Nat)(wi:TI)(g:TG)(tt:TT)(te:TE)(n:Nat)(js:List Nat):TS:=λD σ H=>Pe wi g tt te n js σ H λv H1=>D.nx (σ.set i (some v)) H1
def iV{i:Nat}{x:Str}{pos' spos:Pos}(hN:X.N.Nodup)(hix:X.N[i]?=some x)(hx:X.env.scope.names.lookup x=some .local)(T:eJ X scope own fq js)(hc:X.calm=true)(hi:PI X tg iter wi)
 (hg:∀C s H fp,PG (dN X (own++fq) scope (λ_ _=>False) C s H fp) tg g)
 (ht:∀C s H fp,Ud (dN X (own++fq) scope (λ_ _=>False) C s H fp) ifs tt)
 (he:∀C s H fp,PE (dN X (own++fq) scope (λ_ _=>False) C s H fp) elt te)
 (hsw:swapsWith (.ListComp elt [⟨tg,iter,ifs,0⟩] scope pos) (some (.Name x pos')) spos.line X.env=pure true:=by rfl)
 (hs:∀x,foldedSetIterable iter X.env x=pure x:=by intro _;rfl) :
 PS X (.Assign [.Name x pos'] (.ListComp elt [⟨tg,iter,ifs,0⟩] scope pos) spos) (KG i wi g tt te own.length js):=by
 intro pq s σ H D I h;rw[exec_Assign_Name_used _ _ _ _ hsw];refine aW (wpAny_standAt (aW ?_));show wpAny _ X.A (do let _←comprehension (.ListComp elt [⟨tg,iter,ifs,0⟩] scope pos) scope X.env _ (newList []) false (eval iter X.env) (some (assign (.Name x pos') X.env))) _ _ s
 refine aW (aaG (wpAny_comprehension_free (use:=some (assign (.Name x pos') X.env)) (Q:=λ_ s'=>SP X pq D .next s') rfl hs (qp (iC I T)) T.kind T.names ?_) (λ_ s' hq=>aai (aai hq)) λ_ _ e=>e)
 refine aaG (hi pq s σ H _ I h) (λv s1 h1=>aaG h1 (λag s2 h2=>?_) λ_ _ z=>z) λ_ _ z=>z
 obtain⟨it,fp,tn,J,H2,e,O,JN,Z,f2,hl⟩:=h2;subst e;refine vU (QQ:=λY H'=>D.nx (σ.set i (some (.ref Y))) H') T hg ht he O (JN.x hc) Z f2 hl λY C σ' H' s' U J' q=>?_
 have I3:Inv X pq σ H' s':=by
  obtain⟨hh,gg,dd,ar,oo⟩:=s';exact p7 O f2 U J' (Heap.SameBut.refl ..)
 obtain⟨m,hn,_⟩:=J'.loc;obtain⟨oC,es,ep,hoC,Zo,rest⟩:=id hn;have QN:H' C=none:=J'.free;have Zp:C≠X.env.locals:=abw (aau O.lt U);have ab:C∉X.fs:=λz=>by
  obtain⟨_,o,ho,_⟩:=O.funs.mem z;exact absurd (aau (aan ho) U) (abj _)
 have I4:Inv X (pq++[(C,oC)]) σ H' s':=I3.gZ λp hp=>(aaH.mp hp).elim (λz=>I3.pin p (jF _ z)) λz=>by
  have e:p=(C,oC):=by simpa using z
  subst e;exact⟨hoC,QN,Zp,ab,λv z=>by have z' : oC.data = .cell v:=z;rw[Zo]at z';cases z'⟩
 show wpAny _ X.A (assign (.Name x pos') X.env (.ref Y)) _ _ _;refine wpAny_assign_Name (qP (v:=.ref Y) I4 hN hix (.inl hx) rfl (λs5 I5=>?_) (.inr hx))
 have e5:s5.heap.get? C=some oC:=(I5.pin (C,oC) (jF _ (jF _ (by simp)))).1
 refine⟨m,⟨oC,es,ep,e5,Zo,rest⟩,λh' sb=>⟨_,H',?_,q⟩⟩
 have I6:Inv X pq (σ.set i (some (.ref Y))) H' s5:=I5.j6;refine I6.turned (t':=s5.toks) (λb o hb e=>(sb.2 b hb).trans e) QN Zp (.inr (aaB O.sz U)) (λy c e=>?_) (λp hp z=>?_)
 ·obtain⟨v,qc⟩:=O.cell y c e;exact aaz (aau qc.lt U)
 ·have JP:=(O.pin p hp).1;exact absurd (aau (aan JP) (by rw[z];exact U)) (abj _)
end
section
variable {K:bE}{a:Addr}{xs:List V}{g:TG}{tt:TT}{te:TE}{n:Nat}{fr:St}{D:Addr}{Q:Hp->Prop}{H1:Hp}
def bX(Pv:Nat->List V->Hp->Prop)(h0:Pv 0 [] H1)(hl:∀i acc H,i<=xs.length->Pv i acc H->aO K H a xs/\H D=some (.lst acc)/\acc.length<=i)(hz:xs.length<=sizeLine)
 (hs:∀i x acc H,xs[i]?=some x->Pv i acc H->g x (List.replicate n none++fr) H λσ2 H2=>σ2.drop n=fr/\tt σ2 H2 λb H3 =>
  if b=true then te σ2 H3 λv H4=>H4 D=some (.lst acc)/\Pv (i+1) (acc++[v]) (upd H4 D (.lst (acc++[v]))) else Pv (i+1) acc H3)
 (hd:∀acc H,Pv xs.length acc H->Q H):ja (Nq K a) g tt te n fr D Q H1:=by
 refine⟨λi m acc H=>m=xs.length-i/\i<=xs.length/\Pv i acc H,⟨xs.length,by simp,aaF _,h0⟩,?_⟩
 rintro i m acc H ⟨rfl,hi,p⟩;obtain⟨q,U,ha⟩:=hl i acc H hi p;refine⟨U,?_⟩
 by_cases I:i<xs.length
 ·refine .inr ⟨⟨xs,xs[i],q,by simp[I]⟩,by lia,Pv (i+1),λO H' Y=>⟨xs.length-(i+1),by lia,rfl,I,Y⟩,λx H' y=>?_⟩
  obtain⟨e,y⟩:=y;subst e;exact hs i x acc _ (y xs q) p
 ·have e:i=xs.length:=by lia
  subst e;exact .inl ⟨⟨xs,q,aaf _⟩,hd acc H p⟩
def nL(Pv:Nat->List V->Hp->Prop)(h0:Pv 0 [] H1)(hl:∀i acc H,i<=xs.length->Pv i acc H->aV K H a xs/\H D=some (.lst acc)/\acc.length<=i)(hz:xs.length<=sizeLine)
 (hs:∀i x acc H,xs[i]?=some x->Pv i acc H->g x (List.replicate n none++fr) H λσ2 H2=>σ2.drop n=fr/\tt σ2 H2 λb H3 =>
  if b=true then te σ2 H3 λv H4=>H4 D=some (.lst acc)/\Pv (i+1) (acc++[v]) (upd H4 D (.lst (acc++[v]))) else Pv (i+1) acc H3)
 (hd:∀acc H,Pv xs.length acc H->Q H):ja (Sv K a) g tt te n fr D Q H1:=by
 refine⟨λi m acc H=>m=xs.length-i/\i<=xs.length/\Pv i acc H,⟨xs.length,by simp,aaF _,h0⟩,?_⟩
 rintro i m acc H ⟨rfl,hi,p⟩;obtain⟨q,U,ha⟩:=hl i acc H hi p;refine⟨U,?_⟩
 by_cases I:i<xs.length
 ·refine .inr ⟨⟨xs,xs[i],q,by simp[I]⟩,by lia,Pv (i+1),λO H' Y=>⟨xs.length-(i+1),by lia,rfl,I,Y⟩,λx H' y=>?_⟩
  obtain⟨e,y⟩:=y;subst e;exact hs i x acc _ (y xs q) p
 ·have e:i=xs.length:=by lia
  subst e;exact .inl ⟨⟨xs,q,aaf _⟩,hd acc H p⟩
def dY{lo:Int}{m:Nat}(Pv:Nat->List V->Hp->Prop)(h0:Pv 0 [] H1)(hl:∀i acc H,i<=m->Pv i acc H->H D=some (.lst acc)/\acc.length<=i)(hz:m<=sizeLine)
 (hs:∀i acc H,i<m->Pv i acc H->g (.int (lo+i)) (List.replicate n none++fr) H λσ2 H2=>σ2.drop n=fr/\tt σ2 H2 λb H3 =>
  if b=true then te σ2 H3 λv H4=>H4 D=some (.lst acc)/\Pv (i+1) (acc++[v]) (upd H4 D (.lst (acc++[v]))) else Pv (i+1) acc H3)
 (hd:∀acc H,Pv m acc H->Q H):ja (M5 lo m) g tt te n fr D Q H1:=by
 refine⟨λi k acc H=>k=m-i/\i<=m/\Pv i acc H,⟨m,by simp,aaF _,h0⟩,?_⟩
 rintro i k acc H ⟨rfl,hi,p⟩;obtain⟨U,ha⟩:=hl i acc H hi p;refine⟨U,?_⟩
 by_cases I:i<m
 ·refine .inr ⟨I,by lia,Pv (i+1),λO H' Y=>⟨m-(i+1),by lia,rfl,I,Y⟩,λx H' y=>?_⟩
  obtain⟨e,y⟩:=y;subst e y;exact hs i acc _ I p
 ·have e:i=m:=by lia
  subst e;exact .inl ⟨aaf _,hd acc H p⟩
end
def B7(scope Uj:Scope)(N fq:List Str)(js:List Nat):Bool :=
 decide (scope.kind = .function)&&scope.names.all (λy=>decide (y.2≠.cell))&&scope.names.all (λy=>decide (y.2 = .local->scope.names.lookup y.1=some .local)) &&
 scope.names.all (λy=>decide (y.2 = .free->Uj.names.lookup y.1=some .cell\/Uj.names.lookup y.1=some .free))&&decide (js.map (λj=>N[j]?)=fq.map some)&&fq.all (λx=>decide (scope.names.lookup x=some .free))
def aF{X:Cx}{scope:Scope}{own fq:List Str}{js:List Nat}(Uj:Scope)(N:List Str)(h1:X.env.scope=Uj:=by rfl)(h2:X.N=N:=by rfl)(h:B7 scope Uj N fq js=true:=by decide +kernel):eJ X scope own fq js:=by
 unfold B7 at h;simp only[aaJ,decide_eq_true_eq,abm]at h;obtain⟨⟨⟨⟨⟨a,b⟩,c⟩,d⟩,e⟩,f⟩:=h;exact⟨a,b,c,by rw[h1];exact d,by rw[h2];exact e,f⟩
mutual
inductive qX(K:bE)(H:Hp):V->PyData->Prop
 | eF:qX K H .eF .none
 | bl (b:Bool):qX K H (.bl b) (.bool b)
 | int (i:Int):qX K H (.int i) (.int i)
 | str (x:Str):qX K H (.str x) (.str x)
 | lst {a:Addr} {xs:List V} {ds:List PyData} (h:aO K H a xs) (r:DatVs K H xs ds):qX K H (.ref a) (.list ds)
 | tup {a:Addr} {xs:List V} {ds:List PyData} (h:aV K H a xs) (r:DatVs K H xs ds):qX K H (.ref a) (.tuple ds)
inductive DatVs(K:bE)(H:Hp):List V->List PyData->Prop
 | nil:DatVs K H [] []
 | cons {x:V} {d:PyData} {xs:List V} {ds:List PyData} (h:qX K H x d) (r:DatVs K H xs ds):DatVs K H (x::xs) (d::ds)
end
section
variable {X:Cx}{pq:aX}{σ:St}{H:Hp}{s:Shared}
mutual
def qX.reads(I:Inv X pq σ H s):∀{v:V} {d:PyData} {u:Value},qX X.K H v d->RelV v u->∃as,Reads s.heap u d as
 | _,_,u,.eF,r=>by cases(show u=Value.none from r);exact⟨_,.none⟩
 | _,_,u,.bl b,r=>by cases(show u=Value.bool b from r);exact⟨_,.bool b⟩
 | _,_,u,.int i,r=>by obtain⟨t,rfl⟩:=(show ∃t,u=Value.int i t from r);exact⟨_,.int i t⟩
 | _,_,u,.str x,r=>by obtain⟨t,rfl⟩:=(show ∃t,u=Value.str x t from r);exact⟨_,.str x t⟩
 | _,_,u,.lst (a:=a) h rs,r=>by
   cases(show u=Value.ref a from r)
   obtain⟨O,U,⟨o,n,e,c,_,d⟩,_⟩:=I.list h;obtain⟨as,q⟩:=DatVs.reads I rs U;exact⟨_,.list e c d (by simpa using q)⟩
 | _,_,u,.tup (a:=a) h rs,r=>by
   cases(show u=Value.ref a from r)
   obtain⟨O,U,⟨o,e,c,n,d⟩,_⟩:=I.tuple h;obtain⟨as,q⟩:=DatVs.reads I rs U;exact⟨_,.tuple e c d (by simpa using q)⟩
def DatVs.reads(I:Inv X pq σ H s):∀{vs:List V} {ds:List PyData} {us:List Value},DatVs X.K H vs ds->Vals vs us->∃as,ReadsAll s.heap us ds as
 | _,_,_,.nil,.nil=>⟨_,.nil⟩
 | _,_,_,.cons h r,.cons rv rr=>by
   obtain⟨as,q⟩:=qX.reads I h rv;obtain⟨bs,q2⟩:=DatVs.reads I r rr;exact⟨_,.cons q q2⟩
end
end
section
variable {X:Cx}
def Uk(K:bE):R2:=λx y H Q=>∃d e,qX K H x d/\qX K H y e/\SeqAt.shaped d=true/\SeqAt.shaped e=true/\Q (.bl (PyData.eqv d e)) H
def Ul(K:bE):R2:=λx y H Q=>∃d e,qX K H x d/\qX K H y e/\SeqAt.shaped d=true/\SeqAt.shaped e=true/\Q (.bl (!PyData.eqv d e)) H
def QS(hu:X.A.units+64<cLine):lP X (compareOp .Eq) (Uk X.K):=by
 intro pq s σ H x y v u Q I rx O h;obtain⟨d,e,h1,h2,s1,s2,q⟩:=h;obtain⟨as,ra⟩:=h1.reads I rx;obtain⟨bs,rb⟩:=h2.reads I O;exact eq_dataH ra rb s1 s2 hu ⟨.bl _,H,I,rfl,q⟩
def QT(hu:X.A.units+64<cLine):lP X (compareOp .NotEq) (Ul X.K):=by
 intro pq s σ H x y v u Q I rx O h;obtain⟨d,e,h1,h2,s1,s2,q⟩:=h;obtain⟨as,ra⟩:=h1.reads I rx;obtain⟨bs,rb⟩:=h2.reads I O;exact ne_dataH ra rb s1 s2 hu ⟨.bl _,H,I,rfl,q⟩
def Um:V->Option Value
 | .ty n=>some (.type n)
 | .ref a=>some (.ref a)
 | _=>none
def NR{c:V}{u w:Value}(h:Um c=some u)(r:RelV c w):w=u:=by
 cases c with
 | ty n=>exact(show w=Value.type n from r).trans (Option.some.inj h)
 | ref a=>exact(show w=Value.ref a from r).trans (Option.some.inj h)
 | _=>cases h
def Uo(K:bE):List V->Hp->VK->Prop:=λxs H Q=>∃x c t u b,xs=[x,c]/\Um c=some u/\sE K H x t/\PySem.W.kitOne K t u=some b/\Q (.bl b) H
def KH:g8 X (.builtin "isinstance") (Uo X.K):=by
 intro pq s σ H xs us Q I r h;obtain⟨x,c,t,u,b,rfl,rc,ty,e,q⟩:=h;cases r with
 | cons U O =>
   cases O with
   | cons O Y =>
     cases Y;cases NR rc O;exact Hx I U ty e λtk=>⟨.bl b,H,I.tok tk,rfl,q⟩
def QU(K:bE):PySem.W.kitOne K (.type "int") (.type "int")=some true:=by with_unfolding_all rfl
def QV(K:bE):PySem.W.kitOne K (.type "int") (.type "bool")=some false:=by with_unfolding_all rfl
def QW(K:bE):PySem.W.kitOne K (.type "tuple") (.type "tuple")=some true:=by with_unfolding_all rfl
def QX(K:bE):PySem.W.kitOne K (.type "list") (.type "list")=some true:=by with_unfolding_all rfl
def Gy:XA X "int.bit_length" (λx xs H Q=>∃i,x = .int i/\xs=[]/\Q (.int (Builtin.Int.intBits i)) H):=by
 intro pq s σ H x xs v us Q I rx rs h;obtain⟨i,rfl,rfl,q⟩:=h;obtain⟨t,rfl⟩:=rx;cases rs;exact call_int_bit_length ⟨.int _,H,I.tok _,⟨_,rfl⟩,q⟩
def Ay{x:Str}{v:Int}{pos:Pos}(hg:Gl X x)(h:∃t,X.mg x=some (.int v t))(hd:(x==("__debug__":Str))=false:=by decide):PE X (.Name x pos) (tC (.int v)):=by
 obtain⟨t,e⟩:=h;exact Nl hg e ⟨t,rfl⟩ hd
def PI.or{tg l:Expr}{wi wj:TI}(h:PI X tg l wi)(h' : PI X tg l wj):PI X tg l (λσ H R=>wi σ H R\/wj σ H R):=by
 intro pq s σ H R I q;rcases q with q|q
 ·exact h pq s σ H R I q
 ·exact h' pq s σ H R I q
def QY{tg l:Expr}{tl:TE}(hl:PE X l tl):PI X tg l (λσ H R=>Gh X.K tl σ H R\/Nr X.K tl σ H R):=(Gi hl).or (J8 hl)
def sG{K:bE}{H:Hp}{p:Addr}{xs:List V}{i:Int}{v:V}{Q:VK}(h:aO K H p xs\/aV K H p xs)(e:Aq xs i=some v)(q:Q v H):XC K (.ref p) (.int i) H Q:=by
 rcases h with h|h
 ·exact .inl ⟨p,xs,i,v,rfl,rfl,h,e,q⟩
 ·exact .inr (.inl ⟨p,xs,i,v,rfl,rfl,h,e,q⟩)
end
def dl{n:Nat}(h:Nat.ble n 1000=true):n<=sizeLine:=aa6 (bS (Nat.le_of_ble_eq_true h))
def vV{j:Int}(h:decide (0<j)=true):0<j:=kK h
def k7{c A B:Prop}[Decidable c](h : ¬ c)(hb:B):if decide c=true then A else B:=by
 rw[gz h];exact cO hb
def HH{c A B:Prop}[Decidable c](h:c)(ha:A):if decide c=true then A else B:=by
 rw[eG h];exact fb ha
def au.new{H:Hp}{p:Addr}{o:HO}(h:H p=none):au H (upd H p o):=λb u e=>by
 rw[ah (aR e h)];exact e
def au.put{H H2:Hp}{D:Addr}{o:HO}(s:au H H2)(h:H D=none):au H (upd H2 D o):=λb u e=>by
 rw[ah (aR e h)];exact s b u e
def au.Zq{K:bE}{H H' : Hp}{a:Addr}{xs:List V}(e:au H H')(h:aV K H a xs):aV K H' a xs:=by
 rcases h with(h|⟨o,h⟩) | h
 ·exact .inl (.inl (e _ _ h))
 ·exact .inl (.inr ⟨o,e _ _ h⟩)
 ·exact .inr h
def bH(H H' : Hp):Prop:=∀b xs,H b=some (.tup xs)->H' b=some (.tup xs)
def au.tups{H H' : Hp}(s:au H H'):bH H H':=λb xs e=>s b _ e
def bH.trans{H H1 H2:Hp}(a:bH H H1)(b:bH H1 H2):bH H H2:=λc xs e=>b c xs (a c xs e)
def bH.put{H:Hp}{D:Addr}{o:HO}{ys:List V}(h:H D=some (.lst ys)):bH H (upd H D o):=λb xs e=>by
 rw[ah (aP e h (by intro z;cases z))]
 exact e
def Paired.lQ{α β:Type}{F:α->β->Prop}:∀{l:List α} {r:List β} {i:Nat} {x:α},Paired F l r->l[i]?=some x->∃y,r[i]?=some y/\F x y
 | _,_,_,_,.nil,e=>by simp at e
 | _,_,0,_,.cons h _,e=>by
   simp at e;subst e;exact⟨_,rfl,h⟩
 | _,_,i+1,x,.cons _ t,e=>by
   obtain⟨y,h1,h2⟩:=Paired.lQ (i:=i) (x:=x) t (by simpa using e)
   exact⟨y,by simpa using h1,h2⟩
def KI(ns:List Int)(lo hi:Option Int):yp (ns.map V.int) lo hi=((ns.drop (HT.zo ns.length 0 lo)).take (HT.zo ns.length ns.length hi-HT.zo ns.length 0 lo)).map V.int:=by
 unfold yp;rw[aaa,<-List.map_drop,<-List.map_take]
section
variable {X:Cx}{l:Expr}{tl:TE}{tg a b o e:Expr}{ta tb to:TE}{es:List Expr}
def EB(K:bE)(hu:X.A.units+64<cLine)(h:X.K=K:=by rfl):lP X (compareOp .Eq) (Uk K):=by subst h;exact QS hu
def vW(K:bE)(hu:X.A.units+64<cLine)(h:X.K=K:=by rfl):lP X (compareOp .NotEq) (Ul K):=by subst h;exact QT hu
def NS(K:bE)(h:X.K=K:=by rfl):g8 X (.builtin "isinstance") (Uo K):=by subst h;exact KH
def Uq(K:bE):List V->Hp->VK->Prop:=λxs H Q=>∃p ys,xs=[.ref p]/\(aO K H p ys\/aV K H p ys)/\Q (.int ys.length) H
def XN(K:bE)(h:X.K=K:=by rfl):g8 X (.builtin "len") (Uq K):=by subst h;exact Av
def Ur(K:bE):List V->Hp->VK->Prop:=λxs H Q=>∃p ys,xs=[.ref p]/\((aO K H p ys/\∀l,H l=none->Q (.ref l) (upd H l (.tup ys)))\/(aV K H p ys/\Q (.ref p) H))
def B8(K:bE)(h:X.K=K:=by rfl):g8 X (.type "tuple") (Ur K):=by subst h;exact yr
def nA(K:bE)(h:X.K=K:=by rfl):HD X (QD K):=by subst h;exact Gu
def c5(K:bE)(h:X.K=K:=by rfl):HD X (QE K):=by subst h;exact Kw
def Sy(K:bE)(h:X.K=K:=by rfl):HD X (XC K):=by subst h;exact QG
def Zr(K:bE)(h:X.K=K:=by rfl):Xz X (T8 K):=by subst h;exact NJ
def Zs(K:bE)(h:X.K=K:=by rfl):lP X (compareOp .In) (Wc K false):=by subst h;exact HE
def QZ(K:bE)(h:X.K=K:=by rfl):lP X (compareOp .NotIn) (Wc K true):=by subst h;exact Au
def vt(K:bE)(hl:PE X l tl)(h:X.K=K:=by rfl):PI X tg l (Gh K tl):=by subst h;exact Gi hl
def Us(K:bE)(hl:PE X l tl)(h:X.K=K:=by rfl):PI X tg l (Nr K tl):=by subst h;exact J8 hl
def piS(K:bE)(hl:PE X l tl)(h:X.K=K:=by rfl):PI X tg l (λσ H R=>Gh K tl σ H R\/Nr K tl σ H R):=by subst h;exact QY hl
def BO(K:bE){k:Nat}{t:M4}{n:Nat}{pos:Pos}(hc:X.calm=true)(hp:Su X es t)(hn:(assignEach es X.env).length=n:=by rfl)(hst:(assignEach es X.env).findIdx? (·.1)=none:=by rfl)(h:X.K=K:=by rfl):
 PG X (.Tuple es k pos) (Tu K n t):=by subst h;exact Qu hc hp hn hst
def Gz{x:Str}{T:String}{pos:Pos}(hg:Gl X x)(hm:X.mg x=none)(hv:bootBuiltins x=some (.type T))(hn:x≠"__name__":=by decide)(hd:(x==("__debug__":Str))=false:=by decide):PE X (.Name x pos) (tC (.ty T)) :=
 Nm hg hm hv rfl hn hd
end
def yu(od:Option Addr)(c:Value)(e:Addr)(h:Heap):Prop:=∃I vs,h.get? e=some I/\I.data = .fields vs/\vs[2]?=some c/\I.dict=od
def KJ(o:Obj)(f):(o.mapFields f).dict=o.dict:=by
 obtain⟨c,d,dt,sl⟩:=o;cases dt<;>rfl
section
variable {M:Model}{A:Around}{E:dD}{s:Shared}{B:Heap}{env:Env}{outer l:List Env}{L e:Addr}{cls a0:Value}{Q:Unit->Shared->Prop}{od:Option Addr}{c:Value}
def Az{h:Heap}{T:Addr}{oT:Obj}{ts:Array Value}(f:Obj->Obj)(hT:h.get? T=some oT)(hd:oT.data = .fields ts):h.UpToSlots (h.update T f):=λb o hb hn=>by
 have ne:T≠b:=λz=>by
  rw[<-z,hT]at hb;cases hb;exact hn ts hd
 exact⟨o.slots,(abq h f ne).trans hb⟩
def sH{h:Heap}{T:Addr}(f:Obj->Obj)(k:B.StaysIn h)(n:B.get? T=none):B.StaysIn (h.update T f):=λb o hb=>by
 have ne:T≠b:=λz=>by
  rw[<-z,n]at hb;cases hb
 exact(abq h f ne).trans (k b o hb)
def mP{h h' : Heap}(x:h.FunFrames B l)(u:h.UpToSlots h'):h'.FunFrames B l:=x.of_keeps λb o hb hn =>
 let⟨_,q⟩:=u b o hb hn
 ⟨_,q,rfl⟩
def Pg{fl:Value}(hk:B.StaysIn s.heap)(hn:B.get? e=none)(hl:s.heap.FunFrames B l)(ht:s.heap.TracedAtW B e cls a0 fl)(h2:yu od c e s.heap)
 (q:∀h',Heap.FlyingW B l e cls a0 h'->yu od c e h'->s.heap.UpToSlots h'->Q () { s with heap:=h'}):wpAny M A (setFlight (.ref e) none) Q E s:=by
 obtain⟨O,vs,T,oT,ts,ge,hc,U,f1,Y,Z,I,dT,f3⟩:=ht;have z3:3<ts.size:=(abH.mp f3).1;rw[setFlight];refine aW (wpAny_field ge U f1 ?_);rw[aad (by simp)]
 refine wpAny_setField I dT z3 ?_;have up:=Az (Obj.mapFields (·.setIfInBounds 3 ((none:Option Addr).elim Value.none λf=>rawInt f))) I dT
 have Wd:=(abq s.heap (Obj.mapFields (·.setIfInBounds 3 ((none:Option Addr).elim Value.none λf=>rawInt f))) Z).trans ge
 have Zt:=ace dT (·.setIfInBounds 3 ((none:Option Addr).elim Value.none λf=>rawInt f))
 refine q _ ⟨sH _ hk Y,hn,mP hl up,O,vs,T,_,_,Wd,hc,U,f1,Y,Z,abK _ I (ack Zt),Zt,by simp[z3]⟩ ?_ up
 obtain⟨o2,v2,g2,d2,k2,z2⟩:=h2;rw[ge]at g2;cases g2;exact⟨O,v2,Wd,d2,k2,z2⟩
def KL{oe:Obj}{vs:Array Value}{head:Value}{hadNext:Bool}(hfr:A.frames=some (env::outer))(hl:s.heap.FunFrames B (env::outer))(hf:env.frame=some L)(ge:s.heap.get? e=some oe)(hk:B.StaysIn s.heap)(hn:B.get? e=none)
 (de:oe.data = .fields vs) (hz:1<vs.size) (h0:vs[0]?=some a0) (h2:vs[2]?=some c) (hz2:oe.dict=od)
 (q:∀h',Heap.HeldW B (env::outer) e oe.cls a0 L h'->yu od c e h'->s.heap.UpToSlots h'->Q () { s with heap:=h'}) :
 wpAny M A (do let a←frameOf env;let I←entryPlaceOf L hadNext;let b←EntryCells.newEntry head a .none (rawInt L) .none I;setField (.ref e) 1 b) Q E s:=by
 have XO:e∉(env::outer).filterMap (·.frame):=λz=>by
  obtain⟨_,o,ho,nf⟩:=hl.mem z;rw[ge]at ho;cases ho;exact nf vs de
 refine aW (wpAny_frameOf_fun hfr hl hf λh1 U=>aW (wpAny_entryPlaceOf λI ip=>?_))
 rw[EntryCells.newEntry,newFields];refine aW (wpAny_newObj_type ?_ (ip.sizeOk5 _ _ _ _ _));generalize O:({ cls:=.type "traceback",dict:=none,data:=.fields ([head,.ref L,.none,rawInt L,.none]++(if I.isEmpty then List.replicate 6 Value.none else I)).toArray}:Obj)=nw
 have dn:nw.data = .fields ([head,.ref L,.none,rawInt L,.none]++(if I.isEmpty then List.replicate 6 Value.none else I)).toArray:=by rw[<-O]
 have ge1:h1.get? e=some oe:=(U.2.1 e XO).trans ge;have Y:=aag (h:=h1) nw ge1;have Te:h1.objs.size≠e:=abw (aan ge1);refine wpAny_setField Y de hz ?_;have Z:=ace de (·.setIfInBounds 1 (Value.ref h1.objs.size));have Zu:=abK (Obj.mapFields (·.setIfInBounds 1 (Value.ref h1.objs.size))) Y (ack Z);have ab:=(abq (h1.push nw) (Obj.mapFields (·.setIfInBounds 1 (Value.ref h1.objs.size))) (aaE Te)).trans (aav h1 (by rw[<-O];rfl))
 have up:s.heap.UpToSlots ((h1.push nw).update e (Obj.mapFields (·.setIfInBounds 1 (Value.ref h1.objs.size)))):=by
  have u1:s.heap.UpToSlots h1:=λb o hb _=>U.2.2 b o hb
  exact(u1.trans (.of_keeps λb o hb=>aag nw hb)).trans (Az _ Y de)
 have k1:B.StaysIn h1:=λb o hb=>(U.2.1 b λz=>by rw[(hl.mem z).1]at hb;cases hb).trans (hk b o hb)
 have k2:B.StaysIn (h1.push nw):=λb o hb=>aag nw (k1 b o hb)
 refine q _ ⟨sH _ k2 hn,hn,mP hl up,_,_,h1.objs.size,nw,_,Zu,⟨Obj.cls_mapFields _ _,by rw[ac2 (by decide)];exact h0⟩,Z,by simp[hz],k1.fresh,Te,ab,dn,?_⟩ ?_ up
 ·first | (simp;done) | (rcases ip with rfl | ⟨_,_,_,_,_,_,_,rfl⟩<;>simp)
 ·exact⟨_,_,Zu,Z,by rw[ac2 (by decide)];exact h2,(KJ _ _).trans hz2⟩
def Ut(hfr:A.frames=some (env::outer))(hf:env.frame=some L)(fl:Heap.FlyingW B (env::outer) e cls a0 s.heap)(h2:yu od c e s.heap)
 (q:∀h',Heap.HeldW B (env::outer) e cls a0 L h'->yu od c e h'->s.heap.UpToSlots h'->Q () { s with heap:=h'}):wpAny M A (noteFrame (.ref e) env) Q E s:=by
 obtain⟨hk,hn,U,oe,vs,T,oT,ts,ge,⟨hc,h0⟩,I,f1,Y,Z,O,dT,f3⟩:=fl;obtain⟨o2,v2,g2,d2,k2,z2⟩:=h2;rw[ge]at g2;cases g2;rw[I]at d2;cases d2;cases hc;rw[noteFrame];simp only[hf];refine aW (wpAny_field ge I f1 ?_);rw[aad (by simp)]
 refine aW (wpAny_field O dT f3 ?_);rw[aab (by simp[rawInt])]
 refine aW (wpAny_setField O dT (abH.mp f3).1 ?_);have up:=Az (Obj.mapFields (·.setIfInBounds 3 Value.none)) O dT;have Wd:=(abq s.heap (Obj.mapFields (·.setIfInBounds 3 Value.none)) Z).trans ge;exact KL (s:={ s with heap:=s.heap.update T (Obj.mapFields (·.setIfInBounds 3 Value.none))}) hfr (mP U up) hf Wd (sH _ hk Y) hn I (abH.mp f1).1 h0 k2 z2 λh' x1 x2 x3=>q h' x1 x2 (up.trans x3)
def Uu(x:Heap.FlyingW B (env::outer) e cls a0 s.heap):Heap.FlyingW B outer e cls a0 s.heap :=
 let⟨k1,k2,⟨_,_,k3⟩,k4⟩:=x
 ⟨k1,k2,k3,k4⟩
def leave_on2(hfr:A.frames=some (env::outer))(hf:env.frame=some L)(fl:Heap.FlyingW B (env::outer) e cls a0 s.heap)(h2:yu od c e s.heap)
 (q:∀h',Heap.FlyingW B outer e cls a0 h'->yu od c e h'->s.heap.UpToSlots h'->Q () { s with heap:=h'}):wpAny M A (leaving env (.ref e)) Q E s:=by
 rw[leaving];refine aW (Ut hfr hf fl h2 λh' O U Y=>?_)
 obtain⟨Z,y2,y3,y4⟩:=O;exact Pg (s:={ s with heap:=h'}) Z y2 y3 y4 U λI z1 z2 z3=>q I (Uu (s:={ s with heap:=I}) z1) z2 (Y.trans z3)
def leave_new{oe:Obj}{vs:Array Value}(hfr:A.frames=some (env::outer))(hf:env.frame=some L)(hk:B.StaysIn s.heap)(hn:B.get? e=none)(hl:s.heap.FunFrames B (env::outer))(ge:s.heap.get? e=some oe)(de:oe.data = .fields vs)
 (h0:vs[0]?=some a0) (h1:vs[1]?=some .none) (h2:vs[2]?=some c) (hz2:oe.dict=od)
 (q:∀h',Heap.FlyingW B outer e oe.cls a0 h'->yu od c e h'->s.heap.UpToSlots h'->Q () { s with heap:=h'}):wpAny M A (leaving env (.ref e)) Q E s:=by
 rw[leaving,noteFrame];simp only[hf];refine aW (aW (wpAny_field ge de h1 ?_));rw[aab (by decide)]
 refine KL (a0:=a0) hfr hl hf ge hk hn de (abH.mp h1).1 h0 h2 hz2 λh' O U Y=>?_
 obtain⟨Z,y2,y3,y4⟩:=O;exact Pg (s:={ s with heap:=h'}) Z y2 y3 y4 U λI z1 z2 z3=>q I (Uu (s:={ s with heap:=I}) z1) z2 (Y.trans z3)
end
section
variable {P:Program}{w:World}{H H0 H1:Hp}{h h0 h1 h2:Heap}{a:Addr}{o:HO}{fs:List Addr}{B:Heap}
def bz.thing(x:bz P w H h a o):∃ob,h.get? a=some ob:=by
 cases o with
 | lst xs=>obtain⟨_,_,_,_,e⟩:=x;exact⟨_,e⟩
 | tup xs=>obtain⟨_,_,_,ob,e,_⟩:=x;exact⟨ob,e⟩
 | dK kvs=>obtain⟨_,_,_,_,ob,_,_,e,_⟩:=x;exact⟨ob,e⟩
 | dT kvs=>obtain⟨_,_,_,_,ob,_,_,e,_⟩:=x;exact⟨ob,e⟩
 | set S n=>obtain⟨ob,_,_,_,e,_⟩:=x;exact⟨ob,e⟩
 | ins C dx fs=>obtain⟨_,_,_,e,_⟩:=x;exact⟨_,e⟩
 | own y=>exact x
 | xd fs=>obtain⟨_,⟨ob,_,_,e,_⟩,_⟩:=x;exact⟨ob,e⟩
 | Hg lo hi=>obtain⟨_,_,_,e⟩:=x;exact⟨_,e⟩
 | mG ob u=>obtain⟨e,_⟩:=x;exact⟨_,e⟩
 | jj ps=>obtain⟨_,e,_⟩:=x;exact⟨_,e⟩
 | met f y=>exact⟨_,(show h.get? a=some _ from x)⟩
 | ext φ=>obtain⟨_,e,_⟩:=x;exact e
def NT(B:Heap)(fs:List Addr)(h0:Heap)(H:Hp)(h:Heap):Prop:=∀b o,h.get? b=some o->(H b≠none\/∃o',h0.get? b=some o')->b∉fs->B.get? b=some o
def KN(un:Un fs [] H0 H1 h0 h1)(hok:nF P w H1 h1)(nof:∀b∈fs,H1 b=none)(fr:∀b∈fs,∀ob,h1.get? b=some ob->∀vs,ob.data≠.fields vs)(Ph:NT B fs h0 H1 h1)
 (hB:B.StaysIn h2) (up:h1.UpToSlots h2):Un fs [] H0 H1 h0 h2/\nF P w H1 h2/\NT B fs h0 H1 h2:=by
 have O:∀b ob,h1.get? b=some ob->(H1 b≠none\/∃o',h0.get? b=some o')->b∉fs->h2.get? b=some ob:=λb ob e c n=>hB b ob (Ph b ob e c n)
 have So:∀b u,H1 b=some u->b∉fs:=λb u e z=>by
  rw[nof b z]at e;cases e
 refine⟨⟨λb ob e n hb hx=>O b ob (un.keep b ob e n hb hx) (.inr ⟨ob,e⟩) hb,λb ob e n hb hx=>?_,un.free,λb ob e hx=>?_,un.tups,un.mH,un.nG⟩,λb u e=>?_,λb ob e c n=>?_⟩
 ·obtain⟨sl,q⟩:=un.slot b ob e n hb hx;obtain⟨Y,q'⟩:=up b _ q (fr b hb _ q);exact⟨Y,q'⟩
 ·obtain⟨o',q⟩:=un.there b ob e hx
  by_cases hb:b∈fs
  ·obtain⟨Y,q'⟩:=up b _ q (fr b hb _ q);exact⟨_,q'⟩
  ·exact⟨o',O b o' q (.inr ⟨ob,e⟩) hb⟩
 ·refine(hok b u e).stay (λc v hc q=>?_) (λ_ q=>q) λ_ _ q=>q
  have U:∃z,H1 c=some z:=by
   rcases hc with hc|hc
   ·rw[hc];exact⟨u,e⟩
   ·exact⟨_,hc⟩
  obtain⟨z,hz⟩:=U;exact O c v q (.inl (by rw[hz];simp)) (So c z hz)
 ·have ht:∃I,h1.get? b=some I:=by
   rcases c with c|⟨o',c⟩
   ·cases hz:H1 b with
    | none=>exact absurd hz c
    | some z=>exact(hok b z hz).thing
   ·exact un.there b o' c (by simp)
  obtain⟨I,q⟩:=ht;have Z:=Ph b I q c n;have q3:=hB b I Z;rw[e]at q3;rw[Option.some.inj q3];exact Z
end
def XT(ea:Addr)(cls:Value):HO:=.ext λh=>∃I vs,h.get? ea=some I/\I.cls=cls/\I.data = .fields vs/\vs[2]?=some .none
def Q0(E:XK)(cls:Value)(od:Option Addr)(c:Value)(H:Hp):Prop:=(c = .none/\(∃I:Addr,cls = .ref I)/\E cls od H)\/∃C e' O,cls = .ref C/\od=none/\c = .ref e'/\H e' = some (XT e' O)/\E (.int (C:Int) e') none H
def KO(P:Program)(w:World):JM:=λouter H s E e s'=>∃(I:Addr) (cls a0:Value) (od:Option Addr) (c:Value) (H' : Hp) (B:Heap),e = .ref I/\s'.os=s.os/\AllBare s'.gens/\Un (frs outer) [] H H' s.heap s'.heap/\nF P w H' s'.heap/\H' I=none/\
 NT B (frs outer) s.heap H' s'.heap/\Heap.FlyingW B outer I cls a0 s'.heap/\yu od c I s'.heap/\Q0 E cls od c H'
structure Out(X:Cx)(E:XK):Prop where
 M0:X.stack=X.env::X.outer
 fr:X.env.frame=some X.env.locals
 ex:X.ex=[]
 xe:∀e s',wpAny (model X.prog X.w) X.A (leaving X.env e) (λ_ s''=>KO X.prog X.w X.outer X.H₀ X.s₀ E e s'') (λe' s''=>KO X.prog X.w X.outer X.H₀ X.s₀ E e' s'') s'->X.xe e s'
def Zv(X:Cx)(E:XK):Prop:=∀(pq:aX) (σ:St) (H:Hp) (s:Shared) (h1:Heap) (I O:Addr) (vs:List Value),Inv X pq σ H s->Heap.MadeExcOf s.heap h1 I (.ref O) vs->E (.ref O) none H->X.xe (.ref I) { s with heap:=h1}
section
variable {X:Cx}{E:XK}{pq:aX}{σ:St}{H:Hp}{s:Shared}
def Inv.Q2(I:Inv X pq σ H s):∀b∈X.fs,∀ob,s.heap.get? b=some ob->∀vs,ob.data≠.fields vs:=λb hb ob e=>by
 obtain⟨_,o,U,O⟩:=I.funs.mem hb;rw[e]at U;cases U;exact O
def Inv.Q3(I:Inv X pq σ H s)(hx:X.ex=[]):∀b∈X.fs,H b=none:=λb hb=>by
 obtain⟨_,o,O,_⟩:=I.ok.funs.mem hb;exact I.base.free b o O (I.ok.Nk b hb) (by rw[hx];simp)
def NT.outer{B h0:Heap}{h:Heap}(I:Inv X pq σ H s)(Ph:NT B (frs X.stack) h0 H h)(k:∀b o,X.s₀.heap.get? b=some o->∃o',h0.get? b=some o'):NT B X.fs X.s₀.heap H h:=λb o e c n=>by
 refine Ph b o e (c.imp id λ⟨o',q⟩=>k b o' q) λz=>?_
 rcases aao.mp (I.vK b z) with q|q
 ·subst q;rcases c with c|⟨o',c⟩
  ·exact c I.free
  ·exact absurd (aau (aan c) I.ok.above) (abj _)
 ·exact n q
def GA(O:Out X E)(I:Inv X pq σ H s){B:Heap}{ea:Addr}{cls a0:Value}{od:Option Addr}{c:Value}{h2:Heap}(Ph:NT B X.fs X.s₀.heap H s.heap)(fl:Heap.FlyingW B X.outer ea cls a0 h2)(sc:yu od c ea h2)(up:s.heap.UpToSlots h2)(hn:H ea=none)(q:Q0 E cls od c H):
 KO X.prog X.w X.outer X.H₀ X.s₀ E (.ref ea) { s with heap:=h2}:=by
 have un:Un X.fs [] X.H₀ H X.s₀.heap s.heap:=by
  have u:=I.base;rw[O.ex]at u;exact u
 obtain⟨Y,U,Z⟩:=KN un I.hok (I.Q3 O.ex) I.Q2 Ph fl.1 up;exact⟨ea,cls,a0,od,c,H,B,rfl,I.os,I.bare,Y,U,hn,Z,fl,sc,q⟩
def Out.XU(O:Out X E){ea:Addr}{oe:Obj}{vs:Array Value}{a0 c:Value}(I:Inv X pq σ H s)(ge:s.heap.get? ea=some oe)(de:oe.data = .fields vs)(h0:vs[0]?=some a0)(h1:vs[1]?=some .none)(h2:vs[2]?=some c)
 (hn:H ea=none) (new:X.s₀.heap.get? ea=none) (q:Q0 E oe.cls oe.dict c H):X.xe (.ref ea) s:=by
 refine O.xe _ _ ?_;have U:X.A.frames=some (X.env::X.outer):=by rw[I.ok.frames,O.M0]
 have Y:s.heap.FunFrames (PySem.W.hideAll s.heap (ea::frs X.stack)) (X.env::X.outer):=by
  have z:=PySem.W.funFrames_hide (as:=ea::frs X.stack) I.stack λenv he b hb=>pP _ (ab9.mpr ⟨env,he,hb⟩)
  rw[O.M0]at z ⊢;exact z
 refine leave_new U O.fr (λb o e=>PySem.W.of_hideAll _ e) (PySem.W.hideAll_none _ (aaq ..)) Y ge de h0 h1 h2 rfl λh3 Z sc up=>?_
 refine GA O I (NT.outer I (h0:=X.s₀.heap) (λb o e c n=>?_) λb o e=>⟨o,e⟩) Z sc up hn q
 refine PySem.W.hideAll_get _ e λz=>?_
 rcases aao.mp z with z|z
 ·subst z;rcases c with c|⟨o',c⟩
  ·exact c hn
  ·rw[new]at c;cases c
 ·exact n z
def Out.XW(O:Out X E){ea:Addr}{oe:Obj}{vs:Array Value}{a0:Value}(I:Inv X pq σ H s)(ge:s.heap.get? ea=some oe)(de:oe.data = .fields vs)(h0:vs[0]?=some a0)(h1:vs[1]?=some .none)(h2:vs[2]?=some .none)
 (hn:H ea=none) (new:X.s₀.heap.get? ea=none) (hcl:∃U:Addr,oe.cls = .ref U) (q:E oe.cls oe.dict H):X.xe (.ref ea) s:=O.XU I ge de h0 h1 h2 hn new (.inl ⟨rfl,hcl,q⟩)
def Out.XX(O:Out X E):Zv X E:=by
 intro pq σ H s h1 U Z vs I mk q;have Y:Inv X pq σ H { s with heap:=h1}:=I.kept (t':=s.toks) mk.keeps
 have hn:H U=none:=by
  cases hz:H U with
  | none=>rfl
  | some z =>
    obtain⟨ob,e⟩:=(I.hok U z hz).thing;rw[mk.new]at e;cases e
 obtain⟨t,ge,_,_⟩:=mk.there;refine O.XW Y (a0:=.ref t) ge rfl rfl rfl rfl hn ?_ ⟨_,rfl⟩ q;cases hz:X.s₀.heap.get? U with
 | none=>rfl
 | some o =>
   obtain⟨o',e⟩:=I.base.there U o hz (by rw[O.ex];simp)
   rw[mk.new]at e;cases e
def Inv.Uv{H' : Hp}{s' : Shared}(I:Inv X pq σ H s)(os:s'.os=s.os)(bare:AllBare s'.gens)(un:Un (frs X.stack) [] H H' s.heap s'.heap)(hok:nF X.prog X.w H' s'.heap):Inv X pq σ H' s' :=
 I.JW (ch:=[]) os un hok bare λb z=>absurd z (by simp)
def Out.passes(O:Out X E):Passes (KO X.prog X.w) X E:=by
 intro pq σ H s e s' I q;obtain⟨ea,cls,a0,od,c,H',B,rfl,os,bare,un,hok,hn,Ph,Z,sc,qE⟩:=q;have I1:=I.Uv os bare un hok;refine O.xe _ _ ?_;have U:X.A.frames=some (X.env::X.outer):=by rw[I.ok.frames,O.M0]
 rw[O.M0]at Z;refine leave_on2 U O.fr Z sc λh2 Y Pj up=>?_
 exact GA O I1 (NT.outer I1 Ph λb o e=>I.base.there b o e (by rw[O.ex];simp)) Y Pj up hn qE
end
def gA{P:Program}{w:World}{K:bE}{mg:nE}{base:Heap}{N:List Str}{qual:Str}{scope:Scope}{f:Addr}{cd:Value}{A:Around}{outer:List Env}{s:Shared}{H:Hp}{E:XK}:
 Out (uR (KO P w) P w K mg base N qual scope f cd A outer s H E) E:=⟨rfl,rfl,rfl,λ_ _ h=>h⟩
def sF.GB{P:Program}{w:World}{K:bE}{mg:nE}{base:Heap}{x qual:Str}{st:Stmt}{f:Addr}{fd:FuncData}{N ps:List Str}{k:Nat}{sp:Sp}(F:sF K x qual st f fd)(S:aA N ps (aj st))
 (len:∀vs H Q E,sp vs H Q E->vs.length=ps.length)
 (hbody:∀(cdv:Value) (A:Around) (outer:List Env) (s:Shared) (H:Hp) (vs:List V) (Q:VK) (E:XK),dU k (A.deeper (envOfC qual (aj st) s.heap.objs.size f cdv))->sp vs H Q E->
  ∃t,ym (uR (KO P w) P w K mg base N qual (aj st) f cdv A outer s H E) (cC st) t/\t { nx:=λ_ H'=>Q .eF H',rt:=Q} (start N vs) H):gY P w K mg base (KO P w) (k+1) f fd ps sp:=by
 obtain⟨oc,od,kV,doc,pm,an,cdv,ct,osl,rfl,O,I⟩:=F.ex;exact Kp O I S len λA outer s H vs Q E hr U=>hbody cdv A outer s H vs Q E hr U
section
variable {X:Cx}{E:XK}
def Q4(C:Addr)(E:XK)(t:TA):TS:=λ_ σ H=>t σ H λvs H1=>vs.length<=sizeLine/\E (.ref C) none H1
def vX{x:Str}{C:Addr}{bm:List Value}{B newId initId:String}{e:Expr}{es:List Expr}{ta:TA}{np cpos pos:Pos}(th:Zv X E)(hc:X.calm=true)(hg:Gl X x)(O:∀h,X.K.In h->h.Ns mainGlobals X.mg->OwnCls x C bm newId X.mg h)
 (FB:ExcBaseFacts B newId initId bm) (ha:PA X (e::es) ta) (he:starEach (e::es) X.env=(false,eval e X.env)::starEach es X.env:=by rfl) (hpl:(backTo cpos (starEach es X.env)).any (·.1)=false:=by rfl)
 (hd:(x==("__debug__":Str))=false:=by decide):PS X (.Raise (some (.Call (.Name x np) (e::es) [] cpos)) none pos) (Q4 C E ta):=by
 intro pq s σ H D I h;have Z:=O _ I.mod.Sq I.mod.glob;obtain⟨tl,N,nm,q,bs,hdct,sn,sub,ab,col,dd,k0,k1,k2,k3,k5,mN,hC,hN,Y,T⟩:=Z.obj;refine wpAny_Raise_call_subT (C:=C) (nm:=nm) (q:=q) (N:=N) (bs:=bs) (bm:=tl) (hdct:=hdct) (sn:=sn) (sub:=sub) (ab:=ab) (col:=col) (dd:=dd) (k0:=k0) (k1:=k1) (k2:=k2) (k3:=k3) (k5:=k5)
  FB (mN:=mN) (T.hasType FB.hasBase) (I.ok.hd hc) (by rw[he];show(false || (backTo cpos (starEach es X.env)).any (·.1))=false;rw[hpl];rfl) Y (vo I hg Z.bound ⟨rfl,?_⟩ hd)
 have hA:=ha cpos pq s σ H _ I h;rw[he]at hA ⊢;refine Calls.evalArgs_plain (aaG hA (λus s1 ⟨vs,H1,U,r1,z,q1⟩=>?_) λ_ _ y=>y)
 exact⟨rfl,by rw[<-r1.length];exact z,U.bk _ _ hC,hN.keeps U.bk,T.keeps U.bk,λh' ea hm=>th pq σ H1 s1 h' ea _ us U hm q1⟩
end
section
variable {X:Cx}{pq:aX}{σ:St}{H:Hp}{s:Shared}
def Inv.Uw{A' : Around}{We Qn:aX}{cm:Bool}{Zw:dD}(I:Inv X pq σ H s)(hA:A'.frames=X.A.frames)(hcm:cm=true->A'.handled=none)(hp:∀p∈We++Qn,p∈X.pn++pq):
 Inv { X with A:=A',calm:=cm,pn:=We,xe:=Zw} Qn σ H s :=
 ⟨⟨I.ok.mod,I.ok.kind,I.ok.glob,I.ok.blt,I.ok.above,I.ok.inj,I.ok.has,I.ok.Ss,hcm,hA.trans I.ok.frames,I.ok.M0,I.ok.Xh,I.ok.bs,I.ok.M3,I.ok.Hi,I.ok.JV,I.ok.funs,I.ok.Nk⟩,
   I.os,I.bare,I.base,I.loc,I.cell,I.free,I.fO,λp z=>I.pin p (hp p z),I.hok,I.len⟩
end
open PySem PySem.Spec PySem.Calls PyProof.Rows PySem.W PySem.Builtin PySem.Builtin.ObjectAttr PySem.Builtin.Getset_descriptor
section
variable {X:Cx}
def Q5:lP X (compareOp .IsNot) (λx y H Q=>∃a b,x = .bl a/\y = .bl b/\Q (.bl (!(a==b))) H):=by
 intro pq s σ H x y v u Q I rx O h;obtain⟨a,b,rfl,rfl,q⟩:=h;cases rx;cases O;refine wpAny_isNot_plain rfl ⟨.bl _,H,I,?_,q⟩;cases a<;>cases b<;>rfl
def Ux(K:bE):V->V->Hp->VK->Prop:=λo i H Q=>∃p xs j v,o = .ref p/\i = .int ((j:Nat):Int)/\aO K H p xs/\xs[j]?=some v/\Q v H
def getL(K:bE)(hK:X.K=K:=by rfl):Tz X (Ux K):=by
 subst hK;intro pq s σ H o i Z iv Q I O U h;obtain⟨p,xs,j,v,rfl,rfl,Y,e,q⟩:=h;cases O;obtain⟨t,rfl⟩:=U;obtain⟨its,r,pl,hz⟩:=I.list Y;obtain⟨u,eu,ru⟩:=r.get e;have hj:j<xs.length:=(kL.mp e).1;have hn:=su;exact wpAny_getItem_list pl.isList (by lia) (by lia) (by simpa using eu) ⟨v,H,I,ru,q⟩
def Uy(K:bE):R2:=λx y H Q=>∃l b xs zs,x = .ref l/\y = .ref b/\aO K H l xs/\aO K H b zs/\xs.length+zs.length<=sizeLine/\∀p,H p=none->Q (.ref p) (upd H p (.lst (xs++zs)))
def XY(K:bE)(hK:X.K=K:=by rfl):lP X (binaryOp .Add) (Uy K):=by
 subst hK;intro pq s σ H x y v u Q I rx O h;obtain⟨l,b,xs,zs,rfl,rfl,U,Y,hz,q⟩:=h;cases rx;cases O;obtain⟨its,r,pl,_⟩:=I.list U;obtain⟨its2,r2,Wf,_⟩:=I.list Y;obtain⟨⟨cls,dd,data,sl⟩,n,e,hc,_,hd⟩:=pl;obtain⟨⟨NC,dd2,data2,sl2⟩,n2,e2,hc2,_,hd2⟩:=Wf;simp only at hc hd hc2 hd2;subst hc hd hc2 hd2;have l1:=r.length;have l2:=r2.length;have Z:its.toArray++its2.toArray=(its++its2).toArray:=by simp
 refine concat_meets ⟨_,e,rfl⟩ ⟨_,e2,rfl⟩ noFill_list_add seq_list_add PySem.F.slot_list_add PySem.F.entry_list_add (PySem.F.args_list_add_2 _ _)
  (list_addW l b its.toArray its2.toArray n n2 dd dd2 sl sl2 (by rw[aat,aat];lia)) ⟨e,e2,?_⟩
 rw[Z];exact⟨.ref _,_,I.T9 (t':=s.toks) (r.append r2) (by rw[aaj];lia),rfl,q _ I.fresh⟩
end
section
variable {X:Cx}{tg:Expr}
def qY{iter:Expr}{body:List Stmt}{wi:TI}{g:TG}{tb:TS}{pos:Pos}(hc:X.calm=true)(hi:PI X tg iter wi)(hg:PG X.D8 tg g)(hb:ym X.D8 body tb)(hs:∀x,foldedSetIterable iter X.env x=pure x:=by intro _;rfl):
 PS X (.For tg iter body [] pos) (eI wi g tb):=by
 intro pq s σ H D I h;refine wpAny_For (cY (hi pq s σ H _ I h) λv s1 h1=>cY h1 λag s2 h2=>?_) hs
 obtain⟨it,fp,tn,J,H2,e,I2,T,ab,f2,W,⟨m0,w0⟩,turn⟩:=h2;subst e;have Ei:∀{H' : Hp},(∀b∈fp,H' b=none)->∀b∈fp,ql X.D8 pq H' b:=λhn b hb=>⟨hn b hb,(f2 b hb).2⟩
 refine codeAny_forLoop_any (λn s'=>∃i σ' H',Inv X.D8 pq σ' H' s'/\tn i s'.heap/\(∀b∈fp,H' b=none)/\W i n σ' H') ?_ m0 ⟨0,σ,H2,I2.vL _,ab,λb hb=>(f2 b hb).1,w0⟩
 rintro n s3 ⟨i,σ3,H3,I3,Z,Pa,w3⟩;rcases turn i n σ3 H3 w3 with⟨stop,qn⟩|⟨go,N,hN,step⟩
 ·refine aaG (T.done X.D8 rfl rfl rfl hc i pq s3 σ3 H3 (λ_ _=>False) I3 (Ei Pa) Z stop) (λr s4 ⟨hr,I4⟩=>?_) λ_ _ z=>z.elim
  subst hr;exact wpAny_execs_nil ⟨σ3,H3,I4.jZ,qn⟩
 ·refine aaG (T.item X.D8 rfl rfl rfl hc i pq s3 σ3 H3 (λ_ _=>False) I3 (Ei Pa) Z go) (λr s4 ⟨u,hr,h4⟩=>?_) λ_ _ z=>z.elim
  subst hr;refine aaG h4 (λ_ s5 ⟨x,H5,I5,r5,y5,Ka,TH⟩=>?_) λ_ _ z=>z.elim
  have TJ:=I5.pinned (Ei TH) (T.obj _ _ Ka);refine aaG (hg _ s5 σ3 H5 x u _ TJ r5 (step x H5 y5)) (λ_ s6 ⟨σ6,H6,I6,q6⟩=>?_) λ_ _ z=>z.elim
  refine aaG (hb _ s6 σ6 H6 _ I6 q6) (λf s7 Y=>?_) λ_ _ z=>z.elim
  have again:∀{σ7:St} {O:Hp},Inv X.D8 (pq++sr fp s5.heap) σ7 O s7->N σ7 O->∃m,m<n/\∃i σ' H',Inv X.D8 pq σ' H' s7/\tn i s7.heap/\(∀b∈fp,H' b=none)/\W i m σ' H':=λ{σ7 O} U n7=>by
   obtain⟨m',hm,w7⟩:=hN σ7 O n7;refine⟨m',hm,i+1,σ7,O,U.j6,T.keep _ _ _ Ka λb hb o e=>(U.pin (b,o) (jF _ (jF _ (iy hb e)))).1,λb hb=>?_,w7⟩
   obtain⟨o,e,d⟩:=T.obj _ _ Ka b hb;exact(U.pin (b,o) (jF _ (jF _ (iy hb e)))).2.1
  cases f with
  | next=>obtain⟨σ7,O,U,n7⟩:=Y;exact again U n7
  | cont=>obtain⟨σ7,O,U,n7⟩:=Y;exact again U n7
  | brk=>obtain⟨σ7,O,U,Y⟩:=Y;exact⟨σ7,O,U.j6.jZ,Y⟩
  | ret v=>obtain⟨x7,σ7,O,U,r7,Y⟩:=Y;exact⟨x7,σ7,O,U.j6.jZ,r7,Y⟩
def qZ{P:Program}{w:World}{X:Cx}:Passes (KO P w) X (λ_ _ _=>False):=by
 intro pq σ H s e s' I q;obtain⟨_,_,_,_,_,_,_,_,_,_,_,_,_,_,_,_,z⟩:=q;rcases z with⟨_,_,z⟩|⟨_,_,_,_,_,_,_,z⟩
 ·exact z.elim
 ·exact z.elim
end
def EC{K:bE}{h:Heap}{mg:nE}{x:Str}{C:Addr}{bmB:List Value}{newId:String}(X:K.In h)(G:h.Ns mainGlobals mg)(e:PySem.W.nsIn K mainGlobals x=some (some (.ref C)))(q:PySem.W.excIn K C bmB newId=true):
 OwnCls x C bmB newId mg h:=by
 refine⟨PySem.W.mg_of X G e,?_⟩;unfold PySem.W.excIn at q
 split at q
 ·rename_i od cd sl look
  split at q
  ·rename_i Cx bm Z j1 j2 j3 nw j5 I O
   simp only[aaJ,ac5,Bool.not_eq_true']at q;obtain⟨⟨⟨⟨⟨rfl,rfl⟩,Uz⟩,ht⟩,hok⟩,U⟩:=q;obtain⟨nm,bs,mro,ns,qn,hd,sn,sub,ab,col,del⟩:=cd
   (dsimp only at I Uz hok U;subst I Uz)
   have Y:sl = #[Z,j1,j2,j3,some (.builtin nw),j5]:=by
    obtain⟨l⟩:=sl;simp only at O;rw[O]
   subst Y;exact⟨bm,ns,nm,qn,bs,hd,sn,sub,ab,col,od,Z,j1,j2,j3,j5,_,X _ _ look,.of_isNs (PySem.W.isNs_of_in X hok),PySem.W.nsMap_none_of_in X hok U,PySem.W.tail_of_in X ht⟩
  ·cases q
 ·cases q
def ED{α:Type}:∀us:List α,us.length=1->∃a,us=[a]
 | [_],_=>⟨_,rfl⟩
def Q6{α:Type}:∀us:List α,us.length=2->∃a b,us=[a,b]
 | [_,_],_=>⟨_,_,rfl⟩
def XZ{α:Type}:∀us:List α,us.length=3->∃a b c,us=[a,b,c]
 | [_,_,_],_=>⟨_,_,_,rfl⟩
def UA{α:Type}:∀us:List α,us.length=4->∃a b c d,us=[a,b,c,d]
 | [_,_,_,_],_=>⟨_,_,_,_,rfl⟩
section
variable {X:Cx}{pq:aX}{σ:St}{H:Hp}{s:Shared}{h' : Heap}
def Inv.yields{t' : Nat}{wr:List Addr}{T:Addr}{o:HO}(I:Inv X pq σ H s)(k:∀b u,b∉wr->s.heap.get? b=some u->h'.get? b=some u)(hf:∀b∈wr,ql X pq H b)(hT:s.heap.objs.size<=T)
 (new:bz X.prog X.w (upd H T o) h' T o):Inv X pq σ (upd H T o) { s with heap:=h',toks:=t'}:=by
 have U:H T=none:=I.hok.fresh hT;have O:∀b u,H b=some u->b≠T:=λb u e=>aR e U
 have nw:∀b u,H b=some u->b∉wr:=λb u e hb=>by rw[(hf b hb).1]at e;cases e
 refine I.step (g':=s.gens) (d':=s.drawn) (ch:=wr) (λb hb=>?_) (λb o _ _ hc e _=>k b o hc e) (λb o _ _ hc e _=>⟨o.slots,k b o hc e⟩) (λb u hc e n=>?_)
  (λb o hc e=>⟨o,k b o hc e⟩) (λb xs e=>?_) (λb ob xs e=>?_) (λb ps e=>⟨#[],?_⟩) (λm hm=>?_) (λb u e=>?_) I.bare
 ·obtain⟨_,f1,_,f3,f4,f5⟩:=hf b hb;exact⟨f3,f1,f4,f5⟩
 ·rw[ah (aaz (aau (aan e) hT))];exact n
 ·rw[ah (O b _ e)];exact e
 ·rw[ah (O b _ e)];exact e
 ·rw[ah (O b _ e),e];simp
 ·obtain⟨o,es,ep,Y,r⟩:=hm;exact⟨o,es,ep,k _ o (λhb=>(hf _ hb).2.1 rfl) Y,r⟩
 ·by_cases hb:b=T
  ·subst hb;rw[ae]at e;cases e;exact new
  ·rw[ah hb]at e;refine(I.hok b u e).stay (λc v hc q=>k c v ?_ q) (λc q=>by rw[ah (O c _ q)];exact q) λc xs q=>by rw[ah (O c _ q)];exact q
   rcases hc with z|z
   ·rw[z];exact nw b u e
   ·exact nw c _ z
def Inv.NU{t' : Nat}{wr:List Addr}(I:Inv X pq σ H s)(k:∀b u,b∉wr->s.heap.get? b=some u->h'.get? b=some u)(hf:∀b∈wr,ql X pq H b):Inv X pq σ H { s with heap:=h',toks:=t'}:=by
 have nw:∀b u,H b=some u->b∉wr:=λb u e hb=>by rw[(hf b hb).1]at e;cases e
 refine I.step (g':=s.gens) (d':=s.drawn) (ch:=wr) (λb hb=>?_) (λb o _ _ hc e _=>k b o hc e) (λb o _ _ hc e _=>⟨o.slots,k b o hc e⟩) (λ_ _ _ _ n=>n)
  (λb o hc e=>⟨o,k b o hc e⟩) (λ_ _ e=>e) (λ_ _ _ e=>e) (λb ps e=>⟨#[],by rw[e];simp⟩) (λm hm=>?_) (λb u e=>?_) I.bare
 ·obtain⟨_,f1,_,f3,f4,f5⟩:=hf b hb;exact⟨f3,f1,f4,f5⟩
 ·obtain⟨o,es,ep,O,r⟩:=hm;exact⟨o,es,ep,k _ o (λhb=>(hf _ hb).2.1 rfl) O,r⟩
 ·refine(I.hok b u e).stay (λc v hc q=>k c v ?_ q) (λ_ q=>q) λ_ _ q=>q
  rcases hc with z|z
  ·rw[z];exact nw b u e
  ·exact nw c _ z
end
def Sz(K:bE)(a:Addr):It :=
 ⟨λi H=>∃xs x,aO K H a xs/\xs[i]?=some x,λi H v H'=>∃T x,v = .ref T/\H T=none/\H' = upd H T (.tup [.int (i:Int),x])/\∀xs,aO K H a xs->xs[i]?=some x,λi H=>∃xs,aO K H a xs/\xs.length<=i⟩
def HJ{P:Program}{w:World}{K:bE}{elts:List Expr}{k:Nat}{pos:Pos}(a e it:Addr)(hne:e≠it):
 Turn P w K (.Tuple elts k pos) (Sz K a) [e,it] e (λi h=>(∃old,IsEnum h e it (i:Int) old)/\h.IsListIter it a i) where
 mem:=by simp
 obj:=λi h st b hb=>by
  obtain⟨⟨old,he⟩,o,Z,c,d⟩:=st;have O : b=e\/b=it:=by simpa using hb
  rcases O with rfl|rfl
  ·exact⟨_,he,λv z=>by cases z⟩
  ·exact⟨o,Z,λv z=>by rw[d]at z;cases z⟩
 keep:=λi h h' st k=>by
  obtain⟨⟨old,he⟩,hit⟩:=st;exact⟨⟨old,k e (by simp) _ he⟩,hit.at λo x=>k it (by simp) o x⟩
 item:=by
  intro X hP hw hK hc i pq s σ H E I hf st hg;subst hP hw hK;obtain⟨xs,x,Y,hx⟩:=hg;obtain⟨its,rv,p,hz⟩:=I.list Y;obtain⟨u,hu,ru⟩:=rv.get hx;obtain⟨⟨old,he⟩,hit⟩:=st;refine wpAny_pyNext_enum_item he hit p.isList (x:=u) (by simpa using hu) hne λh1 Z Q7 hT ag hk=>?_
  refine⟨_,rfl,wpAny_letOwnedTupleGo_enum Z λh2 SD U=>?_⟩
  have UB:s.heap.objs.size≠e:=abw (aan he);have ab:h2.get? s.heap.objs.size=some { cls:=.type "tuple",data:=.seq #[.int i s.toks,u]}:=(U.2 _ UB).trans hT;refine⟨.ref s.heap.objs.size,upd H s.heap.objs.size (.tup [.int (i:Int),x]),I.yields (wr:=[e,it]) (t':=s.toks+1) (λb o hb q=>?_) hf (aaf _) ?_,rfl,⟨_,x,rfl,I.fresh,rfl,λys hy=>by rw[I.qQ hy Y];exact hx⟩,⟨⟨u,by simpa using SD⟩,?_⟩,λb hb=>?_⟩
  ·have KP:b≠e:=λz=>hb (by simp[z])
   have Q8:b≠it:=λz=>hb (by simp[z])
   exact(U.2 b KP).trans (hk b o KP Q8 q)
  ·exact⟨dl rfl,[.int i s.toks,u],.cons ⟨_,rfl⟩ (.cons ru .nil),⟨_,ab,rfl,_,rfl⟩⟩
  ·exact Q7.at λo q=>(U.2 it (aaE hne)).trans q
  ·rw[ah]
   ·exact(hf b hb).1
   ·have O : b=e\/b=it:=by simpa using hb
    rcases O with rfl|rfl
    ·exact aaE UB
    ·obtain⟨o,q,_⟩:=hit;exact aaz (aan q)
 done:=by
  intro X hP hw hK hc i pq s σ H E I hf st hg;subst hP hw hK;obtain⟨xs,Y,hx⟩:=hg;obtain⟨its,rv,p,hz⟩:=I.list Y;obtain⟨⟨old,he⟩,hit⟩:=st;obtain⟨f0,f1,f2,f3,f4,f5⟩:=hf it (by simp)
  have hl:=rv.length;exact wpAny_pyNext_enum_end (I.ok.hd hc) he hit p.isList (by simp;lia) λh' eb=>⟨rfl,I.turned (t':=s.toks) (λb o hb e=>eb b o hb e) f0 f1 f3 f4 f5⟩
 self:=λ_ _ _ _ _ st h=>by
  obtain⟨⟨old,he⟩,_⟩:=st;exact wpAny_pyIter_enum he h
def X0(K:bE)(a b:Addr):It :=
 ⟨λi H=>∃xs ys x y,aO K H a xs/\aO K H b ys/\xs[i]?=some x/\ys[i]?=some y,
  λi H v H'=>∃T x y,v = .ref T/\H T=none/\H' = upd H T (.tup [x,y])/\(∀xs,aO K H a xs->xs[i]?=some x)/\∀ys,aO K H b ys->ys[i]?=some y,
  λi H=>∃xs ys,aO K H a xs/\aO K H b ys/\(xs.length<=i\/ys.length<=i)⟩
def KQ{P:Program}{w:World}{K:bE}{elts:List Expr}{k:Nat}{pos:Pos}(a b z TI TO i1 i2:Addr)(D:ZipApart z TI TO i1 i2 a b):
 Turn P w K (.Tuple elts k pos) (X0 K a b) [z,TI,TO,i1,i2] z (λi h=>IsZip h z TI TO .none/\IsPair h TI (.ref i1) (.ref i2)/\(∃u v,IsPair h TO u v)/\h.IsListIter i1 a i/\h.IsListIter i2 b i) where
 mem:=by simp
 obj:=λi h st c hc=>by
  obtain⟨hz,Y,⟨u,v,hO⟩,⟨o1,SE,_,d1⟩,o2,ab,_,d2⟩:=st;have O : c=z\/c=TI\/c=TO\/c=i1\/c=i2:=by simpa using hc
  rcases O with rfl|rfl|rfl|rfl|rfl
  ·exact⟨_,hz,λv z=>by cases z⟩
  ·exact⟨_,Y,λv z=>by cases z⟩
  ·exact⟨_,hO,λv z=>by cases z⟩
  ·exact⟨o1,SE,λv z=>by rw[d1]at z;cases z⟩
  ·exact⟨o2,ab,λv z=>by rw[d2]at z;cases z⟩
 keep:=λi h h' st k=>by
  obtain⟨hz,Y,⟨u,v,hO⟩,h1,h2⟩:=st;exact⟨k z (by simp) _ hz,k TI (by simp) _ Y,⟨u,v,k TO (by simp) _ hO⟩,h1.at λo e=>k i1 (by simp) o e,h2.at λo e=>k i2 (by simp) o e⟩
 item:=by
  intro X hP hw hK hc i pq s σ H E I hf st hg;subst hP hw hK;obtain⟨xs,ys,x,y,hq,Z,hx,hy⟩:=hg;obtain⟨its,rv,p,Wg⟩:=I.list hq;obtain⟨its2,Wh,p2,X3⟩:=I.list Z;obtain⟨u,hu,ru⟩:=rv.get hx;obtain⟨u2,hu2,ru2⟩:=Wh.get hy;obtain⟨hz,Y,⟨v1,v2,hO⟩,h1,h2⟩:=st;refine wpAny_pyNext_zip_item D hz Y hO h1 h2 p.isList p2.isList (x:=u) (y:=u2) (by simpa using hu) (by simpa using hu2) λh3 ag ar aw ax hT a3 hk=>?_
  refine⟨_,rfl,wpAny_letOwnedTupleGo_zip ag λh4 aT KR=>?_⟩
  have lt:∀{c o},s.heap.get? c=some o->s.heap.objs.size≠c:=λe=>abw (aan e)
  have M6:h4.get? s.heap.objs.size=some { cls:=.type "tuple",data:=.seq #[u,u2]}:=(KR.2 _ (lt hz)).trans hT;have kk:∀c o,c∉[z,TO,i1,i2]->s.heap.get? c=some o->h4.get? c=some o:=λc o hc q=>by
   have c1:c≠z:=λe=>hc (by simp[e])
   exact(KR.2 c c1).trans (hk c o c1 (λe=>hc (by simp[e])) (λe=>hc (by simp[e])) (λe=>hc (by simp[e])) q)
  have U:∀c∈[z,TO,i1,i2],c∈[z,TI,TO,i1,i2]:=λc hc=>by
   have O : c=z\/c=TO\/c=i1\/c=i2:=by simpa using hc
   rcases O with rfl|rfl|rfl|rfl<;>simp
  refine⟨.ref s.heap.objs.size,upd H s.heap.objs.size (.tup [x,y]),I.yields (wr:=[z,TO,i1,i2]) (t':=s.toks) kk (λc hc=>hf c (U c hc)) (aaf _) ?_,rfl,
   ⟨_,x,y,rfl,I.fresh,rfl,λzs hy=>by rw[I.qQ hy hq];exact hx,λzs hz=>by rw[I.qQ hz Z];exact hy⟩,⟨aT,(KR.2 _ D.TIz).trans (hk _ _ D.TIz D.TITO D.TIi1 D.TIi2 Y),⟨u,u2,(KR.2 _ D.TOz).trans ar⟩,?_,?_⟩,λc hc=>?_⟩
  ·exact⟨dl rfl,[u,u2],.cons ru (.cons ru2 .nil),⟨_,M6,rfl,_,rfl⟩⟩
  ·exact aw.at λo q=>(KR.2 _ D.i1z).trans q
  ·exact ax.at λo q=>(KR.2 _ D.i2z).trans q
  ·rw[ah]
   ·exact(hf c hc).1
   ·have O : c=z\/c=TI\/c=TO\/c=i1\/c=i2:=by simpa using hc
    rcases O with rfl|rfl|rfl|rfl|rfl
    ·exact aaE (lt hz)
    ·exact aaE (lt Y)
    ·exact aaE (lt hO)
    ·obtain⟨o,q,_⟩:=h1;exact aaE (lt q)
    ·obtain⟨o,q,_⟩:=h2;exact aaE (lt q)
 done:=by
  intro X hP hw hK hc i pq s σ H E I hf st hg;subst hP hw hK;obtain⟨xs,ys,hq,Z,hx⟩:=hg;obtain⟨its,rv,p,Wg⟩:=I.list hq;obtain⟨its2,Wh,p2,X3⟩:=I.list Z;obtain⟨hz,Y,⟨v1,v2,hO⟩,h1,h2⟩:=st;have hl:=rv.length;have a4:=Wh.length;have U:∀c∈[z,TO,i1,i2],c∈[z,TI,TO,i1,i2]:=λc hc=>by
   have O : c=z\/c=TO\/c=i1\/c=i2:=by simpa using hc
   rcases O with rfl|rfl|rfl|rfl<;>simp
  refine wpAny_pyNext_zip_end (I.ok.hd hc) D hz Y hO h1 h2 p.isList p2.isList (hx.imp (λq=>by simp;lia) λq=>by simp;lia) λh' kk=>⟨rfl,I.NU (wr:=[z,TO,i1,i2]) (t':=s.toks) (λc o hc q=>?_) λc hc=>hf c (U c hc)⟩
  exact kk c o (λe=>hc (by simp[e])) (λe=>hc (by simp[e])) (λe=>hc (by simp[e])) (λe=>hc (by simp[e])) q
 self:=λ_ _ _ _ _ st h=>wpAny_pyIter_zip st.1 h
def HK{n a b:Nat}(la:a<n)(lb:b<n):ZipApart (n+4) (n+2) (n+3) n (n+1) a b:=by
 have k:∀{x y:Nat},x<y\/y<x->x≠y:=λh=>by lia
 constructor<;>exact k (by lia)
section
variable {X:Cx}{elts:List Expr}{n:Nat}{tp:Pos}
def UC(K:bE)(ta:TA):TI:=λσ H R=>ta σ H λvs H1=>∃a,vs=[.ref a]/\(∃xs,aO K H1 a xs)/\R (Sz K a) H1
def X4(K:bE)(ta:TA):TI:=λσ H R=>ta σ H λvs H1=>∃a b,vs=[.ref a,.ref b]/\(∃xs,aO K H1 a xs)/\(∃ys,aO K H1 b ys)/\R (X0 K a b) H1
def AA(K:bE){a:Expr}{ta:TA}{p pos:Pos}(hg:Gl X "enumerate")(hm:X.mg "enumerate"=none)(ha:PA X [a] ta)(hs:starEach [a] X.env=[(false,eval a X.env)]:=by rfl)(hK:X.K=K:=by rfl):
 PI X (.Tuple elts n tp) (.Call (.Name "enumerate" p) [a] [] pos) (UC K ta):=by
 subst hK;intro pq s σ H R I h;refine Call_ (mK I hg hm boot_enumerate (abC (cY (ha pos pq s σ H _ I h) λus s1 ⟨vs,H1,O,Z,q1⟩=>?_) hs rfl))
 obtain⟨a,e,⟨xs,hq⟩,q⟩:=q1;subst e;cases Z with
 | cons r rr =>
   cases rr;cases r;obtain⟨ab,rv,pl,hz⟩:=O.list hq;refine call_enumerate_list pl.isList λh' he hit ag hk=>?_
   have I2:Inv X pq σ H1 { s1 with heap:=h'}:=O.kept (t':=s1.toks) hk
   refine wpAny_pyIter_enum he ⟨_,[s1.heap.objs.size+1,s1.heap.objs.size],_,_,H1,rfl,I2,HJ a _ _ (acT _),⟨⟨_,he⟩,hit⟩,λb hb=>?_,q⟩
   have U : b=s1.heap.objs.size+1\/b=s1.heap.objs.size:=by simpa using hb
   have Y:s1.heap.objs.size<=b:=by
    rcases U with rfl|rfl
    ·exact abd _
    ·exact aaf _
   exact O.Ef Y (O.hok.fresh Y)
def KS(K:bE){a b:Expr}{ta:TA}{p pos:Pos}(hg:Gl X "zip")(hm:X.mg "zip"=none)(ha:PA X [a,b] ta)(hs:starEach [a,b] X.env=[(false,eval a X.env),(false,eval b X.env)]:=by rfl)(hs2:starEach [b] X.env=[(false,eval b X.env)]:=by rfl)(hK:X.K=K:=by rfl):
 PI X (.Tuple elts n tp) (.Call (.Name "zip" p) [a,b] [] pos) (X4 K ta):=by
 subst hK;intro pq s σ H R I h;refine Call_ (mK I hg hm boot_zip (abC (cY (ha pos pq s σ H _ I h) λus s1 ⟨vs,H1,O,r1,q1⟩=>?_) (by rw[hs,hs2]) (by rw[hs2];rfl)))
 obtain⟨a,b,e,⟨xs,hq⟩,⟨ys,Y⟩,q⟩:=q1;subst e;cases r1 with
 | cons r Z =>
   cases Z with
   | cons r' Z =>
     cases Z;cases r;cases r';obtain⟨ag,rv,pl,hz⟩:=O.list hq;obtain⟨its2,Wh,Wf,hz2⟩:=O.list Y;refine call_zip_2 pl.isList Wf.isList λh' Zy hI hO h1 h2 ar hk=>?_
     have I2:Inv X pq σ H1 { s1 with heap:=h'}:=O.kept (t':=s1.toks) hk
     have la:a<s1.heap.objs.size:=by obtain⟨_,q,_⟩:=pl.isList;exact aan q
     have lb:b<s1.heap.objs.size:=by obtain⟨_,q,_⟩:=Wf.isList;exact aan q
     refine wpAny_pyIter_zip Zy ⟨_,[s1.heap.objs.size+4,s1.heap.objs.size+2,s1.heap.objs.size+3,s1.heap.objs.size,s1.heap.objs.size+1],_,_,H1,rfl,I2,
      KQ a b _ _ _ _ _ (HK la lb),⟨Zy,hI,⟨_,_,hO⟩,h1,h2⟩,λc hc=>?_,q⟩
     have ab : c=s1.heap.objs.size+4\/c=s1.heap.objs.size+2\/c=s1.heap.objs.size+3\/c=s1.heap.objs.size\/c=s1.heap.objs.size+1:=by simpa using hc
     have U:s1.heap.objs.size<=c:=by
      rcases ab with rfl|rfl|rfl|rfl|rfl
      ·exact ab0 _ _
      ·exact ab0 _ _
      ·exact ab0 _ _
      ·exact aaf _
      ·exact ab0 _ _
     exact O.Ef U (O.hok.fresh U)
end
section
variable {K:bE}{a b:Addr}{xs ys:List V}{g:TG}{tt:TT}{te:TE}{n:Nat}{fr:St}{D:Addr}{Q:Hp->Prop}{H1:Hp}
def B9{tb:TS}{D:Ends}{σ:St}{H:Hp}(Pv:Nat->St->Hp->Prop)(h0:Pv 0 σ H)(hl:∀i σ H,i<=xs.length->Pv i σ H->aO K H a xs)
 (hs:∀i x T σ H,xs[i]?=some x->Pv i σ H->H T=none->g (.ref T) σ (upd H T (.tup [.int (i:Int),x])) λσ2 H2=>tb { D with nx:=Pv (i+1),ct:=Pv (i+1),bk:=D.nx} σ2 H2) (hd:∀σ H,Pv xs.length σ H->D.nx σ H) :
 ∃W:Nat->Nat->St->Hp->Prop,(∃m,W 0 m σ H)/\∀i m σ H,W i m σ H->
   ((Sz K a).stop i H/\D.nx σ H)\/((Sz K a).go i H/\∃N:St->Hp->Prop,(∀σ' H',N σ' H'->∃m',m'<m/\W (i+1) m' σ' H')/\∀x H',(Sz K a).J0 i H x H'->g x σ H' λσ2 H2=>tb { D with nx:=N,ct:=N,bk:=D.nx} σ2 H2):=by
 refine⟨λi m σ H=>m=xs.length-i/\i<=xs.length/\Pv i σ H,⟨xs.length,by simp,aaF _,h0⟩,?_⟩
 rintro i m σ H ⟨rfl,hi,p⟩;have q:=hl i σ H hi p
 by_cases I:i<xs.length
 ·refine .inr ⟨⟨xs,xs[i],q,by simp[I]⟩,Pv (i+1),λσ' H' O=>⟨xs.length-(i+1),by lia,rfl,I,O⟩,λv H' y=>?_⟩
  obtain⟨T,x,rfl,U,rfl,y⟩:=y;exact hs i x T σ _ (y xs q) p U
 ·have e:i=xs.length:=by lia
  subst e;exact .inl ⟨⟨xs,q,aaf _⟩,hd σ H p⟩
def Ca(hxy:xs.length=ys.length)(Pv:Nat->List V->Hp->Prop)(h0:Pv 0 [] H1)(hl:∀i acc H,i<=xs.length->Pv i acc H->aO K H a xs/\aO K H b ys/\H D=some (.lst acc)/\acc.length<=i)(hz:xs.length<=sizeLine)
 (hs:∀i x y T acc H,xs[i]?=some x->ys[i]?=some y->Pv i acc H->H T=none->g (.ref T) (List.replicate n none++fr) (upd H T (.tup [x,y])) λσ2 H2=>σ2.drop n=fr/\tt σ2 H2 λb H3 =>
  if b=true then te σ2 H3 λv H4=>H4 D=some (.lst acc)/\Pv (i+1) (acc++[v]) (upd H4 D (.lst (acc++[v]))) else Pv (i+1) acc H3)
 (hd:∀acc H,Pv xs.length acc H->Q H):ja (X0 K a b) g tt te n fr D Q H1:=by
 refine⟨λi m acc H=>m=xs.length-i/\i<=xs.length/\Pv i acc H,⟨xs.length,by simp,aaF _,h0⟩,?_⟩
 rintro i m acc H ⟨rfl,hi,p⟩;obtain⟨q,O,Y,ha⟩:=hl i acc H hi p;refine⟨Y,?_⟩
 by_cases I:i<xs.length
 ·have Z:i<ys.length:=by lia
  refine .inr ⟨⟨xs,ys,xs[i],ys[i],q,O,by simp[I],by simp[Z]⟩,by lia,Pv (i+1),λU H' p'=>⟨xs.length-(i+1),by lia,rfl,I,p'⟩,λv H' y=>?_⟩
  obtain⟨T,x,z,rfl,hT,rfl,y1,y2⟩:=y;exact hs i x z T acc _ (y1 xs q) (y2 ys O) p hT
 ·have e:i=xs.length:=by lia
  subst e;exact .inl ⟨⟨xs,ys,q,O,.inl (aaf _)⟩,hd acc H p⟩
end
section
variable {X:Cx}
def Cb:g8 X (.type "range") (λxs H Q=>∃j:Int,xs=[.int j]/\∀p,H p=none->Q (.ref p) (upd H p (.Hg 0 j))):=by
 intro pq s σ H xs us Q I r h;obtain⟨j,rfl,q⟩:=h;obtain⟨u,rfl,t,rfl⟩:=vals1 r;refine call_range_1 ⟨.ref s.heap.objs.size,_,I.laid (t':=s.toks+1+1) (λb o e=>aag _ e) (aaf _) ?_,rfl,q _ I.fresh⟩
 exact⟨_,_,_,aav _ rfl⟩
def yv(n:Nat):List V:=(List.range n).map λi=>V.int ((i:Nat):Int)
def Pk(hc:X.calm=true):g8 X (.type "list") (λxs H Q=>∃p,∃n:Nat,xs=[.ref p]/\H p=some (.Hg 0 (n:Int))/\n<=900/\∀l,H l=none->Q (.ref l) (upd H l (.lst (yv n)))):=by
 intro pq s σ H xs us Q I r h;obtain⟨p,n,rfl,hp,hn,q⟩:=h;obtain⟨u,rfl,rx⟩:=vals1 r;cases rx;obtain⟨t,u,v,e⟩:=(show bz X.prog X.w H s.heap p (.Hg 0 (n:Int)) from I.hok p _ hp)
 have U:Builtin.Range.rangeSize 0 (n:Int) 1=(n:Int):=by rw[rangeSize_one];split<;>lia
 refine call_list_range (I.ok.hd hc) e (small_one (by lia) (by lia) (by lia) (by lia)) U (aaB hn (by decide)) λh' tk acc c kp e' O=>?_
 refine⟨.ref s.heap.objs.size,_,I.laid (t':=tk) kp (aaf _) ?_,rfl,q _ I.fresh⟩;have hl:acc.toList.length=n:=by rw[abQ];exact O.1
 have hz:(yv n).length<=sizeLine:=by
  unfold yv;rw[aaa,aaA];exact aa6 (bS (by lia))
 refine⟨hz,acc.toList,c,?_,by simpa using e'⟩
 have key:∀(ys:List Value) (k:Nat),(∀j v,ys[j]?=some v->∃t,v=Value.int (((k+j:Nat)):Int) t)->Vals ((List.range' k ys.length).map λi=>V.int ((i:Nat):Int)) ys:=by
  intro ys
  induction ys with
  | nil=>intro k _;exact .nil
  | cons y r ih =>
    intro k hy;obtain⟨t,ht⟩:=hy 0 y rfl;refine .cons ⟨t,by simpa using ht⟩ (ih (k+1) λj v Y=>?_)
    obtain⟨t',Z⟩:=hy (j+1) v (by simpa using Y)
    exact⟨t',by rw[Z];congr 2;lia⟩
 have z:=key acc.toList 0 λj v Y=>by
  obtain⟨t,ht⟩:=O.2 j v (by simpa using Y)
  exact⟨t,by rw[ht];congr 1;lia⟩
 rw[hl]at z;unfold yv;rw[List.range_eq_range'];exact z
def sumK(K:bE)(hc:X.calm=true)(hK:X.K=K:=by rfl):g8 X (.builtin "sum") (λxs H Q=>∃(p:Addr) (ns:List Int),xs=[.ref p]/\aO K H p (ns.map V.int)/\Q (.int ns.sum) H):=by
 subst hK;intro pq s σ H xs us Q I r h;obtain⟨p,ns,rfl,Z,q⟩:=h;obtain⟨u,rfl,rx⟩:=vals1 r;cases rx;obtain⟨O,rv,pl,hz⟩:=I.list Z;have hi:∀{ns:List Int} {O:List Value},Vals (ns.map V.int) O->∃xs:Array (Int×Tok),O.toArray=intItems xs/\xs.toList.map (·.1)=ns:=by
  intro ns
  induction ns with
  | nil=>intro O r;cases r;exact⟨#[],by simp[intItems],rfl⟩
  | cons a l ih =>
    intro O r;cases r with
    | cons r1 r2 =>
      obtain⟨t,rfl⟩:=r1;obtain⟨xs,h1,h2⟩:=ih r2;refine⟨#[(a,t)]++xs,?_,by simp[h2]⟩
      have Y:=aaO Array.toList h1;simp only[intItems,Array.toList_map,List.toList_toArray]at Y;simp[intItems,Y,Array.map_append]
 obtain⟨U,e1,e2⟩:=hi rv;have hl:s.heap.IsList p (intItems U):=e1▸pl.isList;refine sum_intListG (I.ok.hd hc) hl λh' tk t' hk=>?_
 have e3:preSum (numAt U) U.size=ns.sum:=by rw[preSum_eq,acK (by simp),e2]
 rw[e3];exact⟨.int ns.sum,H,I.kept hk,⟨t',rfl⟩,q⟩
end
def vY:∀{us:List Value} {ns:List Int},IntsAre us ns->Vals (ns.map V.int) us
 | _,_,.nil=>.nil
 | _,_,.cons n t r=>.cons ⟨t,rfl⟩ (vY r)
section
variable {X:Cx}
def sortedK(K:bE)(hK:X.K=K:=by rfl):g8 X (.builtin "sorted") (λxs H Q=>∃(p:Addr) (ns:List Int),xs=[.ref p]/\aO K H p (ns.map V.int)/\ns.length<64/\
 ∀(l:Addr) (O : List Int),H l=none->O.Perm ns->O.Pairwise (·<=·)->Q (.ref l) (upd H l (.lst (O.map V.int)))):=by
 subst hK;intro pq s σ H xs us Q I r h;obtain⟨p,ns,rfl,Y,hn,q⟩:=h;obtain⟨u,rfl,rx⟩:=vals1 r;cases rx;obtain⟨its,rv,pl,hz⟩:=I.list Y;have Z:=rv.length;rw[aaa]at Z;refine PyProof.Rows.sorted_ints pl.isList (intsAre_of rv) (by lia) λout O a1 a2 a3=>?_
 obtain⟨e,he⟩:=sortedAll_at s.heap its out;have U:H (s.heap.objs.size+1)=none:=I.hok.fresh (abd _);refine⟨.ref (s.heap.objs.size+1),_,I.laid (t':=s.toks) (λ_ _=>sortedAll_old) (abd _) ?_,rfl,q _ O U a2 a3⟩
 refine⟨?_,out.toList,e,vY a1,?_⟩
 ·rw[aaa,a2.length_eq];exact aa6 (bS (by lia))
 ·have:out.toList.toArray=out:=by simp
  rw[this];exact he
end
end L2
namespace Ring
open PySem
abbrev cP:=Int×Int×Int
def bit(S:Int)(k:Nat):Bool:=decide (S/2^k%2=1)
def bx(S:Int):List Nat:=(List.range (Builtin.Int.intBits S)).filter (bit S)
def bump(e:List Int)(i:Int):List Int:=e.set i.toNat (e.getD i.toNat 0+1)
def step(ts:List cP)(e:List Int)(k:Nat):List Int:=match ts[k]? with
 | some t=>bump (bump e t.1) t.2.1
 | none=>e
def k8(p:Nat)(ts:List cP)(S:Int):List Int:=(bx S).foldl (step ts) (List.replicate p 0)
def vZ(p:Nat)(ts:List cP)(S:Int):List Nat:=(List.range p).filter λi=>decide ((k8 p ts S).getD i 0%2=1)
def M7(ts:List cP)(k i:Nat):Int:=match ts[k]? with
 | some t=>(if t.1=(i:Int) then 1 else 0)+(if t.2.1=(i:Int) then 1 else 0)
 | none=>0
def lR(e:List Int)(i:Int):(bump e i).length=e.length:=by unfold bump;rw[List.length_set]
def KU(ts:List cP)(e:List Int)(k:Nat):(step ts e k).length=e.length:=by
 unfold step
 split
 ·rw[lR,lR]
 ·rfl
def Cc(e:List Int)(j:Int)(i:Nat)(h0:0<=j)(h1:j<e.length):(bump e j).getD i 0=e.getD i 0+if j=(i:Int) then 1 else 0:=by
 unfold bump;rw[aae,aae,aae]
 by_cases h:j=(i:Int)
 ·have hi:j.toNat=i:=by lia
  rw[aad h,hi,acI (by lia)]
  rfl
 ·have hi:j.toNat≠i:=by lia
  rw[aab h,ac4 hi]
  lia
structure GC(p:Nat)(ts:List cP):Prop where
 ends:∀t∈ts,0<=t.1/\t.1<(p:Int)/\0<=t.2.1/\t.2.1<(p:Int)
def step_get{p:Nat}{ts:List cP}(W:GC p ts)(e:List Int)(k i:Nat)(he:e.length=p):(step ts e k).getD i 0=e.getD i 0+M7 ts k i:=by
 unfold step M7;cases h:ts[k]? with
 | none=>simp
 | some t =>
   obtain⟨a0,a1,b0,b1⟩:=W.ends t (jY h);dsimp only;rw[Cc _ _ _ b0 (by rw[lR,he];exact b1),Cc _ _ _ a0 (by rw[he];exact a1)]
   lia
def sI(ts:List cP)(ks:List Nat)(i:Nat):Int:=(ks.map λk=>M7 ts k i).sum
def Cd{p:Nat}{ts:List cP}(W:GC p ts)(i:Nat):∀(ks:List Nat) (e:List Int),e.length=p->(ks.foldl (step ts) e).getD i 0=e.getD i 0+sI ts ks i
 | [],e,_=>by simp[sI]
 | k::r,e,he=>by
   rw[abU,Cd W i r _ (by rw[KU,he]),step_get W e k i he]
   unfold sI;rw[aay,List.sum_cons]
   lia
def KW{p:Nat}{ts:List cP}(W:GC p ts)(S:Int)(i:Nat):(k8 p ts S).getD i 0=sI ts (bx S) i:=by
 unfold k8;rw[Cd W i _ _ (by simp)]
 have e:(List.replicate p (0:Int)).getD i 0=0:=by
  rw[aae,ab6]
  split<;>rfl
 rw[e]
 lia
def iW(m k:Nat):bit (m:Int) k=m.testBit k:=by
 unfold bit;rw[Nat.testBit_eq_decide_div_mod_eq];have e:((m:Int)/2^k%2=1)↔(m/2^k%2=1):=by
  have h2:((2:Int)^k)=((2^k:Nat):Int):=by simp
  rw[h2,<-Int.natCast_ediv]
  lia
 simp only[e]
def wc(m:Nat):Builtin.Int.intBits (m:Int)=if m=0 then 0 else m.log2+1:=by
 unfold Builtin.Int.intBits
 by_cases h:m=0
 ·simp[h]
 ·simp[h]
def bits_le{m n:Nat}(h:m<2^n):Builtin.Int.intBits (m:Int)<=n:=by
 rw[wc]
 split
 ·exact aaF _
 ·rename_i h0
  exact(Nat.log2_lt h0).mpr h
def Ce{m k:Nat}(h:Builtin.Int.intBits (m:Int)<=k):bit (m:Int) k=false:=by
 rw[iW];rw[wc]at h
 by_cases h0:m=0
 ·simp[h0]
 ·rw[aab h0]at h;exact aa5 (aau Nat.lt_log2_self (abN (by decide) h))
def q9(f:Nat->Bool)(a:Nat):∀d,(∀k,a<=k->f k=false)->(List.range (a+d)).filter f=(List.range a).filter f
 | 0,_=>rfl
 | d+1,h=>by
   rw[<-Nat.add_assoc,abe,abx,q9 f a d h];have e:[a+d].filter f=[]:=by rw[aaD,aab (by rw[h _ (by lia)];simp)];rfl
   rw[e,abT]
def lS{m n:Nat}(h:m<2^n):bx (m:Int)=(List.range n).filter λk=>m.testBit k:=by
 unfold bx;have hb:=bits_le h;obtain⟨d,hd⟩:=acF hb;have e:(λk=>m.testBit k)=bit (m:Int):=funext λk=>(iW m k).symm
 rw[e]
 conv=>rhs;rw[hd]
 exact(q9 _ _ d λk hk=>Ce hk).symm
def vy{m n:Nat}(h:m<2^n){k:Nat}(hk:k∈bx (m:Int)):k<n:=by
 rw[lS h]at hk;exact aaC.mp (aaK.mp hk).1
def sum_filter(ts:List cP)(i:Nat)(f:Nat->Bool):∀ks:List Nat,sI ts (ks.filter f) i=(ks.map λk=>if f k=true then M7 ts k i else 0).sum
 | []=>rfl
 | k::r=>by
   have I:=sum_filter ts i f r;rw[aay,List.sum_cons,<-I];cases h:f k with
   | true =>
     rw[aaD,aad h];unfold sI;rw[aay,List.sum_cons];simp
   | false =>
     rw[aaD,aab (by rw[h];simp)]
     simp
def KY{a b x y:Nat}(q:x/2+2*(y/2)=a/2+b/2)(h:x%2+2*(y%2)=a%2+b%2):x+2*y=a+b:=by lia
def mod_one{u v:Nat}(hu:u=0\/u=1)(hv:v=0\/v=1):(u^^^v)+2*(u&&&v)=u+v:=by
 rcases hu with rfl|rfl<;>rcases hv with rfl|rfl<;>rfl
def NV:∀a b:Nat,(a^^^b)+2*(a&&&b)=a+b:=by
 intro a
 induction a using Nat.strongRecOn with
 | ind a ih =>
   intro b
   by_cases h:a=0
   ·subst h;simp
   ·have q:=ih (a/2) (by lia) (b/2)
    rw[<-Nat.xor_div_two,<-Nat.and_div_two]at q;refine KY q ?_;have I:(a^^^b)%2=a%2^^^b%2:=Nat.xor_mod_two_pow (n:=1);have O:(a&&&b)%2=a%2&&&b%2:=Nat.and_mod_two_pow (n:=1);rw[I,O];exact mod_one (abX a) (abX b)
def xor_int(a b:Nat):Builtin.bitXor (a:Int) (b:Int)=((a^^^b:Nat):Int):=by
 have h:(a:Int)+b-2*((a&&&b:Nat):Int)=((a^^^b:Nat):Int):=by
  have q:=NV a b
  lia
 have e:=PyProof.Rows.bitXor_and (a:Int) (b:Int);rw[e,acL (by lia) (by lia)]
 simpa using h
open PySem L2
def lT(t:cP):List V:=[.int t.1,.int t.2.1,.int t.2.2]
def TupAt(H:Hp)(x:V)(t:cP):Prop:=∃b,x = .ref b/\H b=some (.tup (lT t))
structure bK(H:Hp)(w:Addr)(p:Nat)(ts:List cP):Prop where
 ex:∃b xs,H w=some (.tup [.int (p:Int),.ref b])/\H b=some (.tup xs)/\Paired (TupAt H) xs ts
structure M8(p:Nat)(ts:List cP):Prop where
 X6:GC p ts
 len:ts.length<=24
 X7:p<=10
def TupAt.tups{H H' : Hp}(s:bH H H'){x:V}{t:cP}(h:TupAt H x t):TupAt H' x t:=by
 obtain⟨b,e,h⟩:=h;exact⟨b,e,s _ _ h⟩
def bK.tups{H H' : Hp}{w:Addr}{p:Nat}{ts:List cP}(s:bH H H')(h:bK H w p ts):bK H' w p ts:=by
 obtain⟨b,xs,h1,h2,I⟩:=h.ex;exact⟨b,xs,s _ _ h1,s _ _ h2,Paired.imp' (λ_ _ z=>z.tups s) I⟩
def bK.same{H H' : Hp}{w:Addr}{p:Nat}{ts:List cP}(s:au H H')(h:bK H w p ts):bK H' w p ts:=h.tups s.tups
def aB(l:List Nat):List V:=l.map λk=>V.int ((k:Nat):Int)
def gB(l:List Nat)(k:Nat):aB (l++[k])=aB l++[.int (k:Int)]:=by unfold aB;rw[aar];rfl
def aG(l:List Nat):(aB l).length=l.length:=by unfold aB;rw[aaa]
def iD{l:List Nat}{i:Nat}{x:V}(h:(aB l)[i]?=some x):∃k,l[i]?=some k/\x = .int (k:Int):=by
 unfold aB at h;rw[aak]at h;obtain⟨k,e,q⟩:=uQ.mp h;exact⟨k,e,q.symm⟩
def cD(f:Nat->Bool)(i:Nat):(List.range (i+1)).filter f=(List.range i).filter f++(if f i=true then[i] else[]):=by
 rw[abe,abx]
 congr 1
 cases h:f i with
 | true=>rw[aaD,aad h,aad rfl];rfl
 | false=>rw[aaD,aab (by rw[h];simp),aab (by simp)];rfl
def pQ(f:Nat->Bool)(H:Hp)(D:Addr)(i:Nat)(acc:List V)(H2:Hp):Prop:=au H H2/\H2 D=some (.lst acc)/\acc=aB ((List.range i).filter f)
section
variable {f:Nat->Bool}{H H2 H3:Hp}{D:Addr}{i:Nat}{acc:List V}
def pQ.start(hD:H D=none):pQ f H D 0 [] (upd H D (.lst [])):=⟨au.new hD,ae,rfl⟩
def pQ.len(p:pQ f H D i acc H2):H2 D=some (.lst acc)/\acc.length<=i:=by
 refine⟨p.2.1,?_⟩;rw[p.2.2,aG];exact aaB (aaI _ _) (by rw[aaA];exact aaf _)
def pQ.yes(p:pQ f H D i acc H2)(hD:H D=none)(s:au H2 H3)(hf:f i=true):H3 D=some (.lst acc)/\pQ f H D (i+1) (acc++[.int (i:Int)]) (upd H3 D (.lst (acc++[.int (i:Int)]))):=by
 refine⟨s _ _ p.2.1,(p.1.trans s).put hD,ae,?_⟩;rw[cD,aad hf,gB,<-p.2.2]
def pQ.no(p:pQ f H D i acc H2)(s:au H2 H3)(hf:f i=false):pQ f H D (i+1) acc H3:=by
 refine⟨p.1.trans s,s _ _ p.2.1,?_⟩;rw[cD,aab (by rw[hf];simp),abT]
 exact p.2.2
end
def bU(ts:List cP)(k:Nat):cP:=ts.getD k (0,0,0)
def stepT(e:List Int)(t:cP):List Int:=bump (bump e t.1) t.2.1
def zw{ts:List cP}:∀(ks:List Nat) (e:List Int),(∀k∈ks,k<ts.length)->(ks.map (bU ts)).foldl stepT e=ks.foldl (step ts) e
 | [],_,_=>rfl
 | k::r,e,h=>by
   rw[aay,abU,abU,zw r _ λj hj=>h j (pP _ hj)]
   have hk:=h k aaq;have I:ts[k]?=some (bU ts k):=by
    unfold bU;rw[aae];simp[hk]
   have O:step ts e k=stepT e (bU ts k):=by
    unfold step stepT;rw[I]
   rw[O]
def zx{p:Nat}{ts:List cP}{m:Nat}(h:m<2^ts.length):k8 p ts (m:Int)=((bx (m:Int)).map (bU ts)).foldl stepT (List.replicate p 0):=by
 unfold k8;rw[zw _ _ λk hk=>vy h hk]
def HM(e:List Int)(t:cP):(stepT e t).length=e.length:=by unfold stepT;rw[lR,lR]
def sJ:∀(l:List cP) (e:List Int),(l.foldl stepT e).length=e.length
 | [],_=>rfl
 | t::r,e=>by rw[abU,sJ r,HM]
def nM(l:List Int):List V:=l.map V.int
def sL{l:List Int}{i:Nat}(h:i<l.length):(nM l)[i]?=some (.int (l.getD i 0)):=by
 unfold nM;rw[aak,aae];simp[h]
def we(l:List Int)(i:Nat):(nM l).set i (.int (l.getD i 0+1))=nM (bump l (i:Int)):=by
 unfold nM bump;rw[aap,List.map_set]
def KZ(p:Nat):(List.replicate p [V.int 0]).flatten=nM (List.replicate p 0):=by
 induction p with
 | zero=>rfl
 | succ p I=>rw[abD,ach,I,abD];rfl
def AB{n j:Nat}(h:j<n):Kv n (j:Int)=some j:=by
 unfold Kv;rw[aad (by lia),aad (by lia),aap]
def qt(k:Nat):PyData:=.int (k:Int)
def lU{K:bE}{H:Hp}:∀l:List Nat,DatVs K H (aB l) (l.map qt)
 | []=>.nil
 | _::r=>.cons (.int _) (lU r)
def Cf:∀l:List Nat,PyData.canLayAll0 (l.map qt)=true
 | []=>rfl
 | _::r=>by
   have I:=Cf r;simp only[aay,PyData.canLayAll0,I,acP];rfl
def zy:∀l:List Nat,PyData.depthAll (l.map qt)=0
 | []=>rfl
 | _::r=>by
   have I:=zy r;show max (PyData.depth (PyData.int _)) (PyData.depthAll (r.map _))=0;rw[I];rfl
def jb(l:List Nat):SeqAt.shaped (.list (l.map qt))=true:=by
 unfold SeqAt.shaped;have e:(PyData.list (l.map qt)).canLay0=PyData.canLayAll0 (l.map qt):=by simp[PyData.canLay0]
 rw[e,Cf,abo];refine eG ?_;have I:PyData.depth (PyData.list (l.map qt))=PyData.depthAll (l.map qt)+1:=by simp[PyData.depth]
 rw[I,zy]
 decide
def NW(l:List Nat):PyData.eqv (.list (l.map qt)) (.list [])=decide (l=[]):=by
 cases l with
 | nil=>rfl
 | cons a r=>rfl
def Q9(S:Int)(k:Nat):decide (V.int (Builtin.bitAnd (S/2^k) 1)=V.int 1)=bit S k:=by
 unfold bit;rw[PyProof.Rows.bitAnd_m1];rw[aa4];simp
def NX(x:Int):decide (V.int x=V.int 1)=decide (x=1):=by
 rw[aa4];simp
structure iX(p:Int)(t:cP):Prop where
 a0:0<=t.1
 a1:t.1<p
 b0:0<=t.2.1
 b1:t.2.1<p
 ne:t.1≠t.2.1
 l0:1<=t.2.2
 l1:t.2.2<=1000000000000000000000000000000
structure aD(p:Nat)(ts:List cP):Prop where
 p1:1<=p
 p2:p<=10
 len:ts.length<=24
 wg:∀t∈ts,iX (p:Int) t
def aD.zz{p:Nat}{ts:List cP}(g:aD p ts):M8 p ts:=⟨⟨λt ht=>let z:=g.wg t ht;⟨z.a0,z.a1,z.b0,z.b1⟩⟩,g.len,g.p2⟩
def cZ{n:Nat}(h:n<=24):n<=sizeLine:=aa6 (bS (by lia))
def nN{n:Nat}(h:n<=900):n<sizeLine:=bS (by lia)
def NY{ns:List Int}{k:Nat}(h:k<ns.length):(ns.map V.int)[k]?=some (.int (ns.getD k 0)):=by
 rw[aak,aae];simp[h]
def p8(x m:Int)(h:0<m):0<=x%m/\x%m<m:=⟨Int.emod_nonneg _ (by lia),Int.emod_lt_of_pos _ h⟩
end Ring
namespace RM
def bZ(f:Nat->Bool):Nat->Bool
 | 0=>false
 | n+1=>bZ f n^^f n
def cj{f g:Nat->Bool}:∀{n:Nat},(∀k,k<n->f k=g k)->bZ f n=bZ g n
 | 0,_=>rfl
 | n+1,h=>by
   unfold bZ;rw[cj λk hk=>h k (by lia),h n (by lia)]
def j8(f g:Nat->Bool):∀n,bZ (λk=>f k^^g k) n=(bZ f n^^bZ g n)
 | 0=>rfl
 | n+1=>by
   unfold bZ;rw[j8 f g n];cases bZ f n<;>cases bZ g n<;>cases f n<;>cases g n<;>rfl
def qu:∀n,bZ (λ_=>false) n=false
 | 0=>rfl
 | n+1=>by unfold bZ;rw[qu n];rfl
def rf(c:Bool)(f:Nat->Bool):∀n,bZ (λk=>c&&f k) n=(c&&bZ f n)
 | 0=>by cases c<;>rfl
 | n+1=>by
   unfold bZ;rw[rf c f n];cases c<;>simp
def zA(f:Nat->Nat->Bool)(n:Nat):∀m,bZ (λx=>bZ (λk=>f x k) n) m=bZ (λk=>bZ (λx=>f x k) m) n
 | 0=>by
   show false=_;rw[<-qu n];rfl
 | m+1=>by
   show(bZ (λx=>bZ (λk=>f x k) n) m^^bZ (λk=>f m k) n)=_
   rw[zA f n m,<-j8];rfl
def jP{f:Nat->Bool}{n:Nat}(h:∀k,k<n->f k=false):bZ f n=false:=by
 rw[cj (g:=λ_=>false) h,qu]
def rh{f:Nat->Bool}{a:Nat}:∀{n:Nat},a<n->(∀k,k<n->k≠a->f k=false)->bZ f n=f a
 | 0,h,_=>absurd h (abf _)
 | n+1,h,z=>by
   unfold bZ
   by_cases e:a=n
   ·subst e;rw[jP λk hk=>z k (by lia) (by lia)]
    simp
   ·rw[rh (a:=a) (by lia) λk hk hn=>z k (by lia) hn,z n (by lia) (λq=>e q.symm)]
    simp
def j9(C:Nat->Bool){a m:Nat}(h:a<m):bZ (λx=>C x&&decide (a=x)) m=C a:=by
 rw[rh h λk _ hk=>by simp[aaE hk]]
 simp
structure Net where
 p:Nat
 n:Nat
 a:Nat->Nat
 b:Nat->Nat
 al:∀k,k<n->a k<p
 bl:∀k,k<n->b k<p
 ne:∀k,k<n->a k≠b k
variable (N:Net)
def Net.inc(k x:Nat):Bool:=decide (N.a k=x)^^decide (N.b k=x)
def Net.bd(m x:Nat):Bool:=bZ (λk=>m.testBit k&&N.inc k x) N.n
def Net.gh(m:Nat):Prop:=∀x,x<N.p->N.bd m x=false
variable {N}
def iE(m q x:Nat):N.bd (m^^^q) x=(N.bd m x^^N.bd q x):=by
 unfold Net.bd;rw[<-j8];refine cj λk _=>?_
 rw[aal];cases m.testBit k<;>cases q.testBit k<;>cases N.inc k x<;>rfl
def oZ(x:Nat):N.bd 0 x=false:=by
 unfold Net.bd;exact jP λk _=>by simp
def nO{k:Nat}(h:k<N.n)(x:Nat):N.bd (2^k) x=N.inc k x:=by
 unfold Net.bd;rw[rh h λj _ hj=>by simp[aaw,aaE hj]]
 simp[aaw]
def gh.xor{m q:Nat}(h:N.gh m)(h' : N.gh q):N.gh (m^^^q):=λx hx=>by rw[iE,h x hx,h' x hx];rfl
def gh.zero:N.gh 0:=λx _=>oZ x
def K0{m:Nat}(C:Nat->Bool)(h:∀k,k<N.n->m.testBit k=true->C (N.a k)=C (N.b k)):bZ (λx=>C x&&N.bd m x) N.p=false:=by
 have e:bZ (λx=>C x&&N.bd m x) N.p=bZ (λx=>bZ (λk=>C x&&(m.testBit k&&N.inc k x)) N.n) N.p :=
  cj λx _=>(rf (C x) _ N.n).symm
 rw[e,zA];refine jP λk hk=>?_
 have I:bZ (λx=>C x&&(m.testBit k&&N.inc k x)) N.p=(m.testBit k&&(C (N.a k)^^C (N.b k))):=by
  rw[<-j9 C (N.al k hk),<-j9 C (N.bl k hk),<-j8,<-rf];refine cj λx _=>?_
  unfold Net.inc;cases C x<;>cases m.testBit k<;>cases decide (N.a k=x)<;>cases decide (N.b k=x)<;>rfl
 rw[I];cases hb:m.testBit k with
 | false=>rfl
 | true=>rw[h k hk hb];simp
def join(L:Nat->Nat)(u v:Nat):Nat->Nat:=λx=>if L x=max (L u) (L v) then min (L u) (L v) else L x
def join_eq{L:Nat->Nat}{u v x y:Nat}(h:L x=L y):join L u v x=join L u v y:=by unfold join;rw[h]
def HN(L:Nat->Nat)(u v:Nat):join L u v u=join L u v v:=by
 unfold join
 split<;>split<;>lia
def zB{L:Nat->Nat}{u v:Nat}(h:L u=L v):join L u v=L:=by
 funext x
 unfold join;rw[h]
 split<;>lia
def EF{L:Nat->Nat}{u v x y:Nat}(h:join L u v x=join L u v y):L x=L y\/(L x=L u/\L y=L v)\/(L x=L v/\L y=L u):=by
 unfold join at h;have Y:(max (L u) (L v)=L u/\min (L u) (L v)=L v)\/(max (L u) (L v)=L v/\min (L u) (L v)=L u):=by
  rcases acw (L u) (L v) with q|q
  ·exact .inr ⟨acU q,acu q⟩
  ·exact .inl ⟨ac6 q,acV q⟩
 rcases Y with⟨O,U⟩|⟨O,U⟩
 ·rw[O,U]at h
  split at h
  ·rename_i hx
   split at h
   ·rename_i I
    exact .inl (hx.trans I.symm)
   ·exact .inr (.inl ⟨hx,h.symm⟩)
  ·split at h
   ·rename_i I
    exact .inr (.inr ⟨h,I⟩)
   ·exact .inl h
 ·rw[O,U]at h
  split at h
  ·rename_i hx
   split at h
   ·rename_i I
    exact .inl (hx.trans I.symm)
   ·exact .inr (.inr ⟨hx,h.symm⟩)
  ·split at h
   ·rename_i I
    exact .inr (.inl ⟨h,I⟩)
   ·exact .inl h
def join_le{L:Nat->Nat}{u v x:Nat}(h:L x<=x):join L u v x<=x:=by
 unfold join
 split<;>lia
def HP{L:Nat->Nat}{u v:Nat}(h:∀x,L (L x)=L x)(x:Nat):join L u v (join L u v x)=join L u v x:=by
 have O:=h u;have U:=h v;have hx:=h x;have I:L (min (L u) (L v))=min (L u) (L v):=by
  rcases acw (L u) (L v) with q|q
  ·rw[acu q];exact O
  ·rw[acV q];exact U
 unfold join
 split
 ·rw[I]
  split<;>lia
 ·rw[hx]
  split<;>lia
def Net.aY(N:Net)(S:Nat->Bool):Nat->Nat->Nat
 | 0=>λx=>x
 | k+1=>if S k=true then join (Net.aY N S k) (N.a k) (N.b k) else Net.aY N S k
variable {S:Nat->Bool}
def AD:∀(k x:Nat),N.aY S k x<=x
 | 0,_=>aaf _
 | k+1,x=>by
   unfold Net.aY
   split
   ·exact join_le (AD k x)
   ·exact AD k x
def fu:∀(k x:Nat),N.aY S k (N.aY S k x)=N.aY S k x
 | 0,_=>rfl
 | k+1,x=>by
   by_cases hs:S k=true
   ·have e:N.aY S (k+1)=join (N.aY S k) (N.a k) (N.b k):=by
     conv=>lhs;unfold Net.aY
     rw[aad hs]
    rw[e];exact HP (fu k) x
   ·have e:N.aY S (k+1)=N.aY S k:=by
     conv=>lhs;unfold Net.aY
     rw[aab hs]
    rw[e];exact fu k x
def zC{x y k:Nat}(h:N.aY S k x=N.aY S k y):∀d,N.aY S (k+d) x=N.aY S (k+d) y
 | 0=>h
 | d+1=>by
   have I:=zC h d;show N.aY S (k+d+1) x=N.aY S (k+d+1) y;unfold Net.aY
   split
   ·exact join_eq I
   ·exact I
def lV{j k:Nat}(h:j<k)(hs:S j=true):N.aY S k (N.a j)=N.aY S k (N.b j):=by
 obtain⟨d,rfl⟩:=acF (Nat.succ_le_of_lt h);refine zC ?_ d;show N.aY S (j+1) (N.a j)=N.aY S (j+1) (N.b j);unfold Net.aY;rw[aad hs];exact HN _ _ _
inductive Net.nB(N:Net)(S:Nat->Bool)(k u:Nat):Nat->Prop
 | refl:Net.nB N S k u u
 | fwd {j:Nat} (h:Net.nB N S k u (N.a j)) (hj:j<k) (hs:S j=true):Net.nB N S k u (N.b j)
 | bwd {j:Nat} (h:Net.nB N S k u (N.b j)) (hj:j<k) (hs:S j=true):Net.nB N S k u (N.a j)
def Net.nB.trans{k u v w:Nat}(h:N.nB S k u v)(h' : N.nB S k v w):N.nB S k u w:=by
 induction h' with
 | refl=>exact h
 | fwd _ hj hs ih=>exact .fwd ih hj hs
 | bwd _ hj hs ih=>exact .bwd ih hj hs
def Net.nB.mono{k l u v:Nat}(h:N.nB S k u v)(yt:k<=l):N.nB S l u v:=by
 induction h with
 | refl=>exact .refl
 | fwd _ hj hs ih=>exact .fwd ih (by lia) hs
 | bwd _ hj hs ih=>exact .bwd ih (by lia) hs
def c8:∀(k u v:Nat),N.aY S k u=N.aY S k v->N.nB S k u v
 | 0,u,v,h=>by
   have e:u=v:=h;subst e;exact .refl
 | k+1,u,v,h=>by
   unfold Net.aY at h
   split at h
   ·rename_i hs
    rcases EF h with q|⟨I,O⟩|⟨I,O⟩
    ·exact(c8 k u v q).mono (by lia)
    ·have U:=(c8 k u _ I).mono (abd k);have Y:=(c8 k _ v O.symm).mono (abd k);exact Net.nB.trans (.fwd U (by lia) hs) Y
    ·have U:=(c8 k u _ I).mono (abd k);have Y:=(c8 k _ v O.symm).mono (abd k);exact Net.nB.trans (.bwd U (by lia) hs) Y
   ·exact(c8 k u v h).mono (by lia)
def Net.fZ(N:Net)(k:Nat):Nat->Nat:=N.aY (λ_=>true) k
def Net.nQ(N:Net)(k:Nat):Bool:=!decide (N.fZ k (N.a k)=N.fZ k (N.b k))
def Cg(k:Nat):N.fZ (k+1)=if N.nQ k=true then join (N.fZ k) (N.a k) (N.b k) else N.fZ k:=by
 show N.aY (λ_=>true) (k+1)=_
 unfold Net.aY;rw[aad rfl];unfold Net.nQ
 by_cases h:N.fZ k (N.a k)=N.fZ k (N.b k)
 ·rw[aab (by simp[h])]
  exact zB h
 ·rw[aad (by simp[h])]
  rfl
def hU{m:Nat}(hf:∀k,m.testBit k=true->k<N.n/\N.nQ k=true)(he:N.gh m):m=0:=by
 by_cases h0:m=0
 ·exact h0
 exfalso
 have Y:m.testBit m.log2=true:=Nat.testBit_log2 h0;obtain⟨O,U⟩:=hf _ Y;generalize Z:m.log2=K at Y O U;have ab:m<2^(K+1):=by rw[<-Z];exact Nat.lt_log2_self
 have I:=K0 (N:=N) (m:=m^^^2^K) (λx=>decide (N.fZ K x=N.fZ K (N.a K))) λk hk hb=>by
  have ag:k<K:=by
   rw[aal,aaw]at hb
   by_cases e:K=k
   ·subst e;simp[Y]at hb
   ·have ar : m.testBit k=true:=by simpa[e]using hb
    have:k<K+1:=by
     by_cases q:k<K+1
     ·exact q
     ·have z:=aa5 (aau ab (abN (by decide) (show K+1<=k by lia)))
      rw[ar]at z;cases z
    lia
  have e:N.fZ K (N.a k)=N.fZ K (N.b k):=lV (S:=λ_=>true) ag rfl
  show decide (N.fZ K (N.a k)=_)=decide (N.fZ K (N.b k)=_);rw[e]
 have e:bZ (λx=>decide (N.fZ K x=N.fZ K (N.a K))&&N.bd (m^^^2^K) x) N.p=bZ (λx=>decide (N.fZ K x=N.fZ K (N.a K))&&N.inc K x) N.p :=
  cj λx hx=>by rw[iE,he x hx,nO O];simp
 rw[e]at I;have e2:bZ (λx=>decide (N.fZ K x=N.fZ K (N.a K))&&N.inc K x) N.p=(decide (N.fZ K (N.a K)=N.fZ K (N.a K))^^decide (N.fZ K (N.b K)=N.fZ K (N.a K))):=by
  rw[<-j9 (λx=>decide (N.fZ K x=N.fZ K (N.a K))) (N.al K O),<-j9 (λx=>decide (N.fZ K x=N.fZ K (N.a K))) (N.bl K O),<-j8]
  refine cj λx _=>?_
  unfold Net.inc;cases decide (N.fZ K x=N.fZ K (N.a K))<;>cases decide (N.a K=x)<;>cases decide (N.b K=x)<;>rfl
 rw[e2]at I;unfold Net.nQ at U;have aw : ¬ N.fZ K (N.b K)=N.fZ K (N.a K):=λq=>by rw[q]at U;simp at U
 simp[aw]at I
def Net.trail(N:Net):Nat->Nat->Nat
 | 0=>λ_=>0
 | k+1=>if N.nQ k=true then λv=>if N.fZ k v=max (N.fZ k (N.a k)) (N.fZ k (N.b k)) then Net.trail N k v^^^(Net.trail N k (N.a k)^^^Net.trail N k (N.b k)^^^2^k) else Net.trail N k v
   else Net.trail N k
def lW:∀(k v j:Nat),(N.trail k v).testBit j=true->j<k/\N.nQ j=true
 | 0,v,j,h=>by simp[Net.trail]at h
 | k+1,v,j,h=>by
   have I:=lW k;unfold Net.trail at h
   split at h
   ·rename_i hf
    dsimp only at h
    split at h
    ·rw[aal,aal,aal,aaw]at h
     by_cases e:k=j
     ·subst e;exact⟨by lia,hf⟩
     ·have z : ¬((N.trail k v).testBit j=false/\(N.trail k (N.a k)).testBit j=false/\(N.trail k (N.b k)).testBit j=false):=by
       rintro⟨O,U,Y⟩;simp[O,U,Y,e]at h
      cases h1:(N.trail k v).testBit j with
      | true=>obtain⟨q,r⟩:=I v j h1;exact⟨by lia,r⟩
      | false=>cases h2:(N.trail k (N.a k)).testBit j with
        | true=>obtain⟨q,r⟩:=I _ j h2;exact⟨by lia,r⟩
        | false=>cases h3:(N.trail k (N.b k)).testBit j with
          | true=>obtain⟨q,r⟩:=I _ j h3;exact⟨by lia,r⟩
          | false=>exact absurd ⟨h1,h2,h3⟩ z
    ·obtain⟨q,r⟩:=I v j h;exact⟨by lia,r⟩
   ·obtain⟨q,r⟩:=I v j h;exact⟨by lia,r⟩
def K1(a b c d e f g h:Bool)(hlh:(d^^f)=(g^^h)):((a^^g)^^(((c^^d)^^(e^^f))^^(c^^e)))=(a^^h):=by
 have I:(((c^^d)^^(e^^f))^^(c^^e))=(d^^f):=by cases c<;>cases d<;>cases e<;>cases f<;>rfl
 rw[I,hlh];cases a<;>cases g<;>cases h<;>rfl
def wk:∀(k:Nat),k<=N.n->∀v x,N.bd (N.trail k v) x=(decide (v=x)^^decide (N.fZ k v=x))
 | 0,_,v,x=>by
   show N.bd 0 x=(decide (v=x)^^decide (v=x));rw[oZ];simp
 | k+1,hk,v,x=>by
   have I:=wk k (by lia)
   rw[Cg];unfold Net.trail
   by_cases hf:N.nQ k=true
   ·rw[aad hf,aad hf]
    by_cases hm:N.fZ k v=max (N.fZ k (N.a k)) (N.fZ k (N.b k))
    ·have e:join (N.fZ k) (N.a k) (N.b k) v=min (N.fZ k (N.a k)) (N.fZ k (N.b k)):=by unfold join;rw[aad hm]
     show N.bd (if N.fZ k v=_ then _ else _) x=_
     rw[aad hm,e,iE,iE,iE,nO (by lia),I,I,I]
     unfold Net.inc;refine K1 _ false _ _ _ _ _ _ ?_;rw[hm];rcases acw (N.fZ k (N.a k)) (N.fZ k (N.b k)) with q|q
     ·rw[acU q,acu q,Bool.xor_comm]
     ·rw[ac6 q,acV q]
    ·have e:join (N.fZ k) (N.a k) (N.b k) v=N.fZ k v:=by unfold join;rw[aab hm]
     show N.bd (if N.fZ k v=_ then _ else _) x=_
     rw[aab hm,e,I]
   ·rw[aab hf,aab hf];exact I v x
def Net.ring(N:Net)(c:Nat):Nat:=N.trail N.n (N.a c)^^^N.trail N.n (N.b c)^^^2^c
def K2{c:Nat}(h:c<N.n):N.fZ N.n (N.a c)=N.fZ N.n (N.b c):=lV (S:=λ_=>true) h rfl
def o4{c:Nat}(h:c<N.n):N.gh (N.ring c):=λx _=>by
 unfold Net.ring;rw[iE,iE,nO h,wk _ (aaf _),wk _ (aaf _),K2 h];unfold Net.inc;cases decide (N.a c=x)<;>cases decide (N.b c=x)<;>cases decide (N.fZ N.n (N.b c)=x)<;>rfl
def nR{c j:Nat}(h:(N.ring c).testBit j=true):j=c\/(j<N.n/\N.nQ j=true):=by
 unfold Net.ring at h;rw[aal,aal,aaw]at h
 by_cases e:c=j
 ·exact .inl e.symm
 ·right
  cases h1:(N.trail N.n (N.a c)).testBit j with
  | true=>exact lW _ _ _ h1
  | false=>cases h2:(N.trail N.n (N.b c)).testBit j with
    | true=>exact lW _ _ _ h2
    | false=>simp[h1,h2,e]at h
def wm{c:Nat}(hf:N.nQ c=false):(N.ring c).testBit c=true:=by
 unfold Net.ring;rw[aal,aal,aaw];cases h1:(N.trail N.n (N.a c)).testBit c with
 | true=>obtain⟨_,q⟩:=lW _ _ _ h1;rw[hf]at q;cases q
 | false=>cases h2:(N.trail N.n (N.b c)).testBit c with
   | true=>obtain⟨_,q⟩:=lW _ _ _ h2;rw[hf]at q;cases q
   | false=>simp
def HQ{j:Nat}(h:j<N.n)(hf:N.nQ j=true):(N.trail N.n (N.a j)).testBit j=true\/(N.trail N.n (N.b j)).testBit j=true:=by
 have z:N.ring j=0:=hU (λk hk=>by
  rcases nR hk with rfl|q
  ·exact⟨h,hf⟩
  ·exact q) (o4 h)
 have b:(N.ring j).testBit j=false:=by rw[z];simp
 unfold Net.ring at b;rw[aal,aal,aaw]at b;cases h1:(N.trail N.n (N.a j)).testBit j with
 | true=>exact .inl rfl
 | false=>cases h2:(N.trail N.n (N.b j)).testBit j with
   | true=>exact .inr rfl
   | false=>simp[h1,h2]at b
def cnt(f:Nat->Bool):Nat->Nat
 | 0=>0
 | n+1=>cnt f n+(if f n=true then 1 else 0)
def lX{f g:Nat->Bool}:∀{n:Nat},(∀k,k<n->f k=g k)->cnt f n=cnt g n
 | 0,_=>rfl
 | n+1,h=>by
   unfold cnt;rw[lX λk hk=>h k (by lia),h n (by lia)]
def wq{f g:Nat->Bool}{h:Nat}(hg:g h=true):∀{p:Nat},h<p->(∀x,x<p->f x=(g x && !decide (x=h)))->cnt g p=cnt f p+1
 | 0,hh,_=>absurd hh (abf _)
 | p+1,hh,e=>by
   unfold cnt
   by_cases q:h=p
   ·subst q;have z:cnt g h=cnt f h:=lX λk hk=>by rw[e k (by lia)];simp[show k≠h by lia]
    rw[z,aad hg,e h (by lia)]
    simp
   ·rw[wq hg (by lia) λx hx=>e x (by lia),e p (by lia)]
    simp[aaE q]
    lia
def lY(f:Nat->Bool):∀n,((List.range n).filter f).length=cnt f n
 | 0=>rfl
 | n+1=>by
   rw[abe,abx,aaj,lY f n];show _=cnt f n+(if f n=true then 1 else 0)
   cases h:f n with
   | true=>rw[aaD,aad h];rfl
   | false=>rw[aaD,aab (by rw[h];simp)];rfl
def AE(f:Nat->Bool):∀n,cnt f n+cnt (λk=>!f k) n=n
 | 0=>rfl
 | n+1=>by
   have I:=AE f n;unfold cnt;cases h:f n<;>simp<;>lia
def AF{f:Nat->Bool}:∀{n:Nat},(∀k,k<n->f k=true)->cnt f n=n
 | 0,_=>rfl
 | n+1,h=>by
   unfold cnt;rw[AF λk hk=>h k (by lia),aad (h n (by lia))]
variable {N:Net}{S:Nat->Bool}
def Net.root(N:Net)(S:Nat->Bool)(k x:Nat):Bool:=decide (N.aY S k x=x)
def jQ(k:Nat):N.aY S (k+1)=if S k=true then join (N.aY S k) (N.a k) (N.b k) else N.aY S k:=by
 conv=>lhs;unfold Net.aY
def rm{k x:Nat}(h:x<N.p):N.aY S k x<N.p:=abL (AD k x) h
def HR{L:Nat->Nat}{u v:Nat}(hr:∀x,L (L x)=L x)(hne:L u≠L v)(x:Nat):decide (join L u v x=x)=(decide (L x=x) && !decide (x=max (L u) (L v))):=by
 have I:L (max (L u) (L v))=max (L u) (L v):=by
  rcases acw (L u) (L v) with q|q
  ·rw[acU q];exact hr v
  ·rw[ac6 q];exact hr u
 have O:L (min (L u) (L v))=min (L u) (L v):=by
  rcases acw (L u) (L v) with q|q
  ·rw[acu q];exact hr u
  ·rw[acV q];exact hr v
 unfold join
 by_cases h:L x=max (L u) (L v)
 ·rw[aad h];have h1 : ¬ min (L u) (L v)=x:=λz=>by
   rw[<-z,O]at h
   lia
  by_cases h2:x=max (L u) (L v)
  ·simp[h1,h2]
   lia
  ·have U : ¬ L x=x:=λz=>h2 (z.symm.trans h)
   simp[h1,U]
 ·rw[aab h];have h2 : ¬ x=max (L u) (L v):=λz=>h (by rw[z];exact I)
  simp[h2]
def wu{k:Nat}(hk:k<N.n):cnt (N.root S k) N.p=cnt (N.root S (k+1)) N.p+(if(S k && !decide (N.aY S k (N.a k)=N.aY S k (N.b k)))=true then 1 else 0):=by
 cases hs:S k with
 | false =>
   have e:N.root S (k+1)=N.root S k:=by unfold Net.root;rw[jQ,aab (by rw[hs];simp)]
   rw[e];simp
 | true =>
   by_cases h:N.aY S k (N.a k)=N.aY S k (N.b k)
   ·have e:N.root S (k+1)=N.root S k:=by unfold Net.root;rw[jQ,aad hs,zB h]
    rw[e];simp[h]
   ·have I:N.aY S k (max (N.aY S k (N.a k)) (N.aY S k (N.b k)))=max (N.aY S k (N.a k)) (N.aY S k (N.b k)):=by
     rcases acw (N.aY S k (N.a k)) (N.aY S k (N.b k)) with q|q
     ·rw[acU q];exact fu _ _
     ·rw[ac6 q];exact fu _ _
    have h1:=rm (S:=S) (k:=k) (N.al k hk);have h2:=rm (S:=S) (k:=k) (N.bl k hk);rw[wq (f:=N.root S (k+1)) (g:=N.root S k) (h:=max (N.aY S k (N.a k)) (N.aY S k (N.b k))) (eG I) (by lia) λx _=>by
     unfold Net.root;rw[jQ,aad hs];exact HR (fu k) h x]
    simp[h]
def rq:∀k,k<=N.n->cnt (N.root (λ_=>true) k) N.p+cnt N.nQ k=N.p
 | 0,_=>by
   show cnt (N.root (λ_=>true) 0) N.p+0=N.p
   rw[AF (f:=N.root (λ_=>true) 0) λx _=>eG rfl]
   rfl
 | k+1,hk=>by
   have I:=rq k (by lia)
   have st:=wu (N:=N) (S:=λ_=>true) (k:=k) (by lia)
   have e:((λ_=>true:Nat->Bool) k && !decide (N.aY (λ_=>true) k (N.a k)=N.aY (λ_=>true) k (N.b k)))=N.nQ k:=by rw[abo];rfl
   rw[e]at st;show cnt (N.root (λ_=>true) (k+1)) N.p+(cnt N.nQ k+if N.nQ k=true then 1 else 0)=N.p
   lia
def Ci:(N.n:Int)-N.p+cnt (N.root (λ_=>true) N.n) N.p=(cnt (λk=>!N.nQ k) N.n:Nat):=by
 have h:=rq (N:=N) N.n (aaf _);have h2:=AE N.nQ N.n
 lia
def Net.aZ(N:Net):List Nat:=(List.range N.n).filter λk=>!N.nQ k
def dZ{c:Nat}:c∈N.aZ↔c<N.n/\N.nQ c=false:=by
 unfold Net.aZ;rw[aaK,aaC];simp
def EG:N.aZ.length=cnt (λk=>!N.nQ k) N.n:=lY _ _
def dz{m n:Nat}(h:∀k,m.testBit k=true->k<n):m<2^n:=Nat.lt_pow_two_of_testBit m λk hk=>by
 cases q:m.testBit k with
 | false=>rfl
 | true=>exact absurd (h k q) (by lia)
def dh{m n k:Nat}(h:m<2^n)(hb:m.testBit k=true):k<n:=by
 by_cases q:k<n
 ·exact q
 ·have z:=aa5 (aau h (abN (by decide) (show n<=k by lia)))
  rw[hb]at z;cases z
def K3{m q:Nat}(hm:m<2^N.n)(hq:q<2^N.n)(em:N.gh m)(eq:N.gh q)(h:∀c,c<N.n->N.nQ c=false->m.testBit c=q.testBit c):m=q:=by
 have z:m^^^q=0:=hU (N:=N) (λk hk=>by
  have I:=dh (aa2 hm hq) hk;refine⟨I,?_⟩;cases hf:N.nQ k with
  | true=>rfl
  | false =>
    rw[aal,h k I hf]at hk;simp at hk) (gh.xor em eq)
 have e:m=m^^^q^^^q:=by rw[aa9,abE,abk]
 rw[e,z,aba]
def vz{c:Nat}(h:c<N.n):N.ring c<2^N.n:=dz λk hk=>by
 rcases nR hk with rfl|⟨q,_⟩
 ·exact h
 ·exact q
def qv{c d:Nat}(hc:N.nQ c=false)(hd:N.nQ d=false):(N.ring c).testBit d=decide (c=d):=by
 by_cases e:c=d
 ·subst e;rw[wm hc];simp
 ·cases q:(N.ring c).testBit d with
  | false=>simp[e]
  | true=>rcases nR q with rfl | ⟨_,r⟩
          ·exact absurd rfl e
          ·rw[hd]at r;cases r
end RM
namespace Ring
open PySem L2
def maskOf(f:Nat->Bool):Nat->Nat
 | 0=>0
 | n+1=>(if f n=true then 2^n else 0)+maskOf f n
def mask_lt(f:Nat->Bool):∀n,maskOf f n<2^n
 | 0=>by show 0<1;decide
 | n+1=>by
   have I:=mask_lt f n;have e:2^(n+1)=2^n+2^n:=by rw[abS];lia
   unfold maskOf
   split<;>lia
def mask_bit(f:Nat->Bool)(j:Nat):∀n,(maskOf f n).testBit j=(decide (j<n)&&f j)
 | 0=>by simp[maskOf]
 | n+1=>by
   have I:=mask_bit f j n;have O:=mask_lt f n;unfold maskOf
   by_cases h:f n=true
   ·rw[aad h];rcases Nat.lt_trichotomy j n with q|q|q
    ·rw[Nat.testBit_two_pow_add_gt q,I];simp[q,show j<n+1 by lia]
    ·subst q;rw[Nat.testBit_two_pow_add_eq,I];simp[h]
    ·have z:2^n+maskOf f n<2^j:=aau (show 2^n+maskOf f n<2^(n+1) by rw[abS];lia) (abN (by decide) q)
     rw[aa5 z];simp[show ¬ j<n+1 by lia]
   ·rw[aab h,Nat.zero_add,I]
    by_cases q:j=n
    ·subst q;have h' : f j=false:=by simpa using h
     simp[h']
    ·by_cases r:j<n
     ·simp[r,show j<n+1 by lia]
     ·simp[r,show ¬ j<n+1 by lia]
def K4(n:Nat):maskOf (λ_=>true) n=2^n-1:=by
 induction n with
 | zero=>rfl
 | succ n I =>
   unfold maskOf;rw[I,aad rfl,abS];have:=abt n
   lia
def GD(n j:Nat):(2^n-1).testBit j=decide (j<n):=by
 rw[<-K4,mask_bit];simp
def Ra{a b x y:Nat}(q:x/2+y/2=a/2+b/2)(h:x%2+y%2=a%2+b%2):x+y=a+b:=by lia
def Rb{u v:Nat}(hu:u=0\/u=1)(hv:v=0\/v=1):(u ||| v)+(u&&&v)=u+v:=by
 rcases hu with rfl|rfl<;>rcases hv with rfl|rfl<;>rfl
def Rc:∀a b:Nat,(a ||| b)+(a&&&b)=a+b:=by
 intro a
 induction a using Nat.strongRecOn with
 | ind a ih =>
   intro b
   by_cases h:a=0
   ·subst h;simp
   ·have q:=ih (a/2) (by lia) (b/2)
    rw[<-Nat.or_div_two,<-Nat.and_div_two]at q;refine Ra q ?_;have I:(a ||| b)%2=a%2 ||| b%2:=Nat.or_mod_two_pow (n:=1)
    have O:(a&&&b)%2=a%2&&&b%2:=Nat.and_mod_two_pow (n:=1);rw[I,O];exact Rb (abX a) (abX b)
def or_int(a b:Nat):Builtin.bitOr (a:Int) (b:Int)=((a ||| b:Nat):Int):=by
 have q:=Rc a b;rw[PyProof.Rows.bitOr_and,acL (by lia) (by lia)]
 have h:(a:Int)+b-((a&&&b:Nat):Int)=((a ||| b:Nat):Int):=by lia
 simpa using h
def rA(k:Nat):(1:Int)*2^(k:Int).toNat=((2^k:Nat):Int):=by
 rw[aap,Int.one_mul];simp
def fB{ts:List cP}{k:Nat}(h:k<ts.length):bU ts k∈ts:=by
 unfold bU;rw[aae];simp[h]
def sM{ts:List cP}{k:Nat}(h:k<ts.length):ts[k]?=some (bU ts k):=by
 unfold bU;rw[aae];simp[h]
def aD.N{p:Nat}{ts:List cP}(g:aD p ts):RM.Net where
 p:=p
 n:=ts.length
 a:=λk=>(bU ts k).1.toNat
 b:=λk=>(bU ts k).2.1.toNat
 al:=λk hk=>by
  have z:=g.wg _ (fB hk);have I:=z.a0;have O:=z.a1
  lia
 bl:=λk hk=>by
  have z:=g.wg _ (fB hk);have I:=z.b0;have O:=z.b1
  lia
 ne:=λk hk e=>by
  have z:=g.wg _ (fB hk);have I:=z.a0;have O:=z.b0;exact z.ne (by lia)
def GF{p:Nat}{ts:List cP}{g:aD p ts}{k:Nat}(h:k<ts.length):(bU ts k).1=((g.N.a k:Nat):Int):=by
 have z:=(g.wg _ (fB h)).a0;show _=(((bU ts k).1.toNat:Nat):Int)
 lia
def GG{p:Nat}{ts:List cP}{g:aD p ts}{k:Nat}(h:k<ts.length):(bU ts k).2.1=((g.N.b k:Nat):Int):=by
 have z:=(g.wg _ (fB h)).b0;show _=(((bU ts k).2.1.toNat:Nat):Int)
 lia
def NZ{p:Nat}{ts:List cP}{g:aD p ts}{k:Nat}(h:k<ts.length)(x:Nat):M7 ts k x%2=if g.N.inc k x=true then 1 else 0:=by
 unfold M7 RM.Net.inc;rw[sM h];dsimp only;rw[GF (g:=g) h,GG (g:=g) h];generalize g.N.a k=u;generalize g.N.b k=v
 by_cases h1:u=x
 ·by_cases h2:v=x
  ·simp[h1,h2]
  ·have I : ¬((v:Int)=(x:Int)):=by lia
   simp[h1,h2,I]
 ·have O : ¬((u:Int)=(x:Int)):=by lia
  by_cases h2:v=x
  ·simp[h1,h2,O]
  ·have I : ¬((v:Int)=(x:Int)):=by lia
   simp[h1,h2,O,I]
def K5{p:Nat}{ts:List cP}{g:aD p ts}(m x:Nat):∀n,n<=ts.length->((List.range n).map λk=>if m.testBit k=true then M7 ts k x else 0).sum%2=if RM.bZ (λk=>m.testBit k&&g.N.inc k x) n=true then 1 else 0
 | 0,_=>rfl
 | n+1,h=>by
   have I:=K5 (g:=g) m x n (by lia)
   have hd:=NZ (g:=g) (k:=n) (by lia) x
   rw[abe,aar,List.sum_append];show(_+((if m.testBit n=true then M7 ts n x else 0)+0))%2=if(RM.bZ _ n^^(m.testBit n&&g.N.inc n x))=true then 1 else 0
   generalize ((List.range n).map λk=>if m.testBit k=true then M7 ts k x else 0).sum=u at I ⊢
   generalize RM.bZ (λk=>m.testBit k&&g.N.inc k x) n=v at I ⊢
   generalize g.N.inc n x=i at hd ⊢;generalize M7 ts n x=d at hd ⊢;cases m.testBit n<;>cases v<;>cases i<;>simp at I hd ⊢ <;> lia
def GH{p:Nat}{ts:List cP}(g:aD p ts){m:Nat}(hm:m<2^ts.length){x:Nat}:decide ((k8 p ts (m:Int)).getD x 0%2=1)=g.N.bd m x:=by
 rw[KW g.zz.X6,lS hm,sum_filter];have h:=K5 (g:=g) m x ts.length (aaf _);rw[h];show _=RM.bZ _ ts.length;generalize RM.bZ (λk=>m.testBit k&&g.N.inc k x) ts.length=v
 cases v<;>simp
def Cj{p:Nat}{ts:List cP}(g:aD p ts){m:Nat}(hm:m<2^ts.length):vZ p ts (m:Int)=[]↔g.N.gh m:=by
 unfold vZ;rw[acM]
 constructor
 ·intro h x hx;have q:=h x (aaC.mpr hx);rw[GH g hm]at q
  simpa using q
 ·intro h x hx;rw[GH g hm,h x (aaC.mp hx)];simp
def jc(f:Nat->Nat)(n:Nat):List V:=(List.range n).map λx=>V.int ((f x:Nat):Int)
def h8(f:Nat->Nat)(n:Nat):(jc f n).length=n:=by unfold jc;rw[aaa,aaA]
def cG{f:Nat->Nat}{n x:Nat}(h:x<n):(jc f n)[x]?=some (.int ((f x:Nat):Int)):=by
 unfold jc;rw[aak,acs h];rfl
def vA{f:Nat->Nat}{n x:Nat}{v:V}(h:(jc f n)[x]?=some v):x<n/\v = .int ((f x:Nat):Int):=by
 have hx:x<n:=by
  have:=(kL.mp h).1
  rwa [h8]at this
 rw[cG hx]at h;exact⟨hx,(Option.some.inj h).symm⟩
def zD(f:Nat->Nat)(n:Nat):jc f (n+1)=jc f n++[.int ((f n:Nat):Int)]:=by
 unfold jc;rw[abe,aar];rfl
def K6(p:Nat):(List.replicate p [V.int 0]).flatten=jc (λ_=>0) p:=by
 induction p with
 | zero=>rfl
 | succ p I =>
   rw[zD,<-I,List.replicate_succ',List.flatten_append];rfl
def AG(f:Nat->Nat)(H:Hp)(D:Addr)(i:Nat)(acc:List V)(H2:Hp):Prop:=au H H2/\H2 D=some (.lst acc)/\acc=jc f i
section
variable {f:Nat->Nat}{H H2 H3:Hp}{D:Addr}{i:Nat}{acc:List V}{v:V}
def AG.start(hD:H D=none):AG f H D 0 [] (upd H D (.lst [])):=⟨au.new hD,ae,rfl⟩
def AG.len(p:AG f H D i acc H2):H2 D=some (.lst acc)/\acc.length<=i:=⟨p.2.1,by rw[p.2.2,h8];exact aaf _⟩
def AG.next(p:AG f H D i acc H2)(hD:H D=none)(s:au H2 H3)(hv:v = .int ((f i:Nat):Int)):H3 D=some (.lst acc)/\AG f H D (i+1) (acc++[v]) (upd H3 D (.lst (acc++[v]))):=by
 refine⟨s _ _ p.2.1,(p.1.trans s).put hD,ae,?_⟩;rw[zD,<-p.2.2,hv]
end
def zE{N:RM.Net}{m:Nat}:∀n,((List.range n).filter λk=>m.testBit k).foldl (λL k=>RM.join L (N.a k) (N.b k)) (λx=>x)=N.aY (λk=>m.testBit k) n
 | 0=>rfl
 | n+1=>by
   rw[cD,abY,zE n,RM.jQ]
   split<;>rfl
end Ring
namespace RM
def wA{N:Net}{S S' : Nat->Bool}:∀{n:Nat},(∀k,k<n->S k=S' k)->N.aY S n=N.aY S' n
 | 0,_=>rfl
 | n+1,h=>by rw[jQ,jQ,wA λk hk=>h k (by lia),h n (by lia)]
end RM
namespace Ring
open PySem L2
def pieceOf(L:Nat->Nat)(p s:Nat):List Nat:=(List.range p).filter λx=>decide (L x=s)
def fC(L:Nat->Nat)(p:Nat):List Nat:=(List.range p).filter λx=>decide (L x=x)
def Pn(D:Addr)(H0 H:Hp)(y:V)(l:List Nat):Prop:=∃b,y = .ref b/\b≠D/\H0 b=none/\H b=some (.lst (aB l))
def wB(L:Nat->Nat)(p:Nat)(H:Hp)(D:Addr)(i:Nat)(H2:Hp):Prop:=au H H2/\∃ys,H2 D=some (.lst ys)/\Paired (Pn D H H2) ys ((fC L i).map (pieceOf L p))/\ys.length<=i
section
variable {L:Nat->Nat}{p i:Nat}{H H2 H3:Hp}{D b:Addr}
def wB.start(hD:H D=none):wB L p H D 0 (upd H D (.lst [])):=⟨au.new hD,[],ae,.nil,aaf _⟩
def wC:fC L (i+1)=fC L i++(if L i=i then[i] else[]):=by
 unfold fC;rw[cD]
 by_cases h:L i=i<;>simp[h]
def wB.skip(h:wB L p H D i H2)(hn : ¬ L i=i):wB L p H D (i+1) H2:=by
 obtain⟨s,ys,hd,pr,I⟩:=h;refine⟨s,ys,hd,?_,by lia⟩
 rw[wC,aab hn,abT];exact pr
def wB.push(h:wB L p H D i H2)(hD:H D=none)(hr:L i=i)(s:au H2 H3)(hb:H2 b=none)(Wm:H3 b=some (.lst (aB (pieceOf L p i)))):
 ∃ys,H3 D=some (.lst ys)/\ys.length<=i/\wB L p H D (i+1) (upd H3 D (.lst (ys++[.ref b]))):=by
 obtain⟨s2,ys,hd,pr,O⟩:=h;have U:=s _ _ hd;have I:b≠D:=λe=>by rw[e,hd]at hb;cases hb
 refine⟨ys,U,O,(s2.trans s).put hD,ys++[.ref b],ae,?_,by rw[aaj,aa1];lia⟩
 rw[wC,aad hr,aar];refine Paired.snoc (Paired.imp' (λ_ _ ⟨e,he,hn,h0,q⟩=>⟨e,he,hn,h0,by rw[ah hn];exact s _ _ q⟩) pr) ?_
 exact⟨b,rfl,I,s2.free hb,by rw[ah I];exact Wm⟩
end
def uz(p:Nat)(ts:List cP)(g:aD p ts)(ks:List Nat):Nat->Nat:=ks.foldl (λL k=>RM.join L (g.N.a k) (g.N.b k)) λx=>x
def EH{p:Nat}{ts:List cP}{g:aD p ts}{ks:List Nat}{k:Nat}:uz p ts g (ks++[k])=RM.join (uz p ts g ks) (g.N.a k) (g.N.b k):=by
 unfold uz;rw[abY];rfl
def bT(p:Nat)(ts:List cP)(g:aD p ts)(m:Nat):Nat->Nat:=g.N.aY (λk=>m.testBit k) ts.length
def EI{p:Nat}{ts:List cP}{g:aD p ts}{m:Nat}(hm:m<2^ts.length):uz p ts g (bx (m:Int))=bT p ts g m:=by
 unfold uz bT;rw[lS hm];exact zE _
def N1{p:Nat}{ts:List cP}{g:aD p ts}:bT p ts g (2^ts.length-1)=g.N.fZ ts.length:=by
 unfold bT RM.Net.fZ;exact RM.wA λk hk=>by rw[GD];simp[hk]
def N2{p:Nat}{ts:List cP}{g:aD p ts}:(ts.length:Int)-(p:Int)+(fC (bT p ts g (2^ts.length-1)) p).length=(g.N.aZ.length:Int):=by
 have h:=RM.Ci (N:=g.N);rw[RM.EG];unfold fC;rw[RM.lY,N1];exact h
def N3(a b:Nat):(if(b:Int)<(a:Int) then(b:Int) else(a:Int))=((min a b:Nat):Int):=by
 split<;>lia
def GI(a b:Nat):(if(b:Int) > (a:Int) then(b:Int) else(a:Int))=((max a b:Nat):Int):=by
 split<;>lia
def o5(a b:Nat):decide (V.int (a:Int)=V.int (b:Int))=decide (a=b):=by
 rw[aa4];simp
 lia
end Ring
namespace RM
variable {N:Net}{S:Nat->Bool}
variable {pt r j:Nat}{l:List Nat}
def K7{l:List Nat}:∀{p:Nat},l.Nodup->(∀x∈l,x<p)->l.length<=p:=by
 intro p hn I;have O:l.Perm ((List.range p).filter λx=>decide (x∈l)):=by
  refine(List.perm_ext_iff_of_nodup hn (ac7 _ adn)).mpr λa=>?_
  rw[aaK,aaC];simp;exact λh=>I a h
 rw[O.length_eq];have:=aaI (λx=>decide (x∈l)) (List.range p)
 rwa [aaA]at this
end RM
namespace Ring
open PySem L2
def EJ{p:Nat}{f:Nat->Bool}:((List.range p).filter f).Pairwise (· < ·):=ac7 _ List.pairwise_lt_range
def gC(l:List Nat):aB l=(l.map λx=>((x:Nat):Int)).map V.int:=by unfold aB;rw[aa7];rfl
def wF(u:Nat)(l:List Nat):Sx (.int (u:Int)) (aB l)=decide (u∈l):=by
 unfold Sx aB;rw[List.any_map,aa4,ado];simp only[Function.comp,decide_eq_true_eq]
 constructor
 ·rintro⟨x,hx,h⟩;have e:((x:Nat):Int)=(u:Int):=eq_of_beq h;have:x=u:=by lia
  exact this▸hx
 ·intro h;exact⟨u,h,by simp[NK]⟩
def sN(l:List Nat):(aB l).all qS=true:=by
 unfold aB;rw[List.all_map,abm];intro x _;rfl
def and_int(a b:Nat):Builtin.bitAnd (a:Int) (b:Int)=((a&&&b:Nat):Int):=by
 rw[acL (by lia) (by lia)]
 simp
def SG(T:Nat->Nat):Nat->Nat
 | 0=>0
 | n+1=>SG T n ||| T n
def GJ(T:Nat->Nat)(j:Nat):∀n,(SG T n).testBit j=true↔∃x,x<n/\(T x).testBit j=true
 | 0=>by simp[SG]
 | n+1=>by
   unfold SG;rw[Nat.testBit_or,Bool.or_eq_true,GJ T j n]
   constructor
   ·rintro(⟨x,hx,h⟩|h)
    ·exact⟨x,by lia,h⟩
    ·exact⟨n,by lia,h⟩
   ·rintro⟨x,hx,h⟩
    by_cases e:x=n
    ·subst e;exact .inr h
    ·exact .inl ⟨x,by lia,h⟩
section
variable {p:Nat}{ts:List cP}{g:aD p ts}
def kP(p:Nat)(ts:List cP)(g:aD p ts):Nat:=maskOf g.N.nQ ts.length
def EK:SG (g.N.trail ts.length) p=kP p ts g:=by
 refine aa0 λj=>?_
 unfold kP;rw[mask_bit,aa4,GJ];simp only[aaJ,decide_eq_true_eq]
 constructor
 ·rintro⟨x,_,h⟩;exact RM.lW _ _ _ h
 ·rintro⟨h1,h2⟩;rcases RM.HQ (N:=g.N) h1 h2 with h|h
  ·exact⟨_,g.N.al j h1,h⟩
  ·exact⟨_,g.N.bl j h1,h⟩
def EL(j:Nat):((2^ts.length-1)^^^kP p ts g).testBit j=(decide (j<ts.length) && !g.N.nQ j):=by
 unfold kP;rw[aal,GD,mask_bit];cases decide (j<ts.length)<;>cases g.N.nQ j<;>rfl
def zF:(2^ts.length-1)^^^kP p ts g<2^ts.length:=aa2 (by have:=abt ts.length;lia) (mask_lt _ _)
def Ck:bx (((2^ts.length-1)^^^kP p ts g:Nat):Int)=g.N.aZ:=by
 rw[lS zF];unfold RM.Net.aZ;refine adj λk hk=>?_
 have:=aaC.mp hk;rw[EL];simp[this]
end
def N4(n:Nat):((2:Int)^n-1)=((2^n-1:Nat):Int):=by
 have h:((2:Int)^n)=((2^n:Nat):Int):=by simp
 have:=abt n
 lia
def Rf{S:Int}{l:List Nat}(h:∀c∈l,S≠((c:Nat):Int)):Sx (.int S) (aB l)=false:=by
 unfold Sx aB;rw[List.any_map,List.any_eq_false];intro x hx z;exact h x hx (eq_of_beq z).symm
def qa{c:Nat}:∀{n:Nat},c<n->(List.range n).filter (λk=>decide (k=c))=[c]
 | 0,h=>absurd h (abf _)
 | n+1,h=>by
   rw[cD]
   by_cases e:c=n
   ·subst e;have z:(List.range c).filter (λk=>decide (k=c))=[]:=by
     rw[acM];intro x hx;have:=aaC.mp hx;simp
     lia
    rw[z];simp
   ·rw[qa (by lia)]
    simp[aaE e]
def N5{l:List Nat}{i:Nat}{k:Nat}(h:l[i]?=some k):(aB l)[i]?=some (.int (k:Int)):=by
 unfold aB;rw[aak,h];rfl
def yw(f:Nat->Int)(l:List Nat)(H:Hp)(D:Addr)(i:Nat)(acc:List V)(H2:Hp):Prop:=au H H2/\H2 D=some (.lst acc)/\acc=((l.take i).map f).map V.int
section
variable {f:Nat->Int}{l:List Nat}{H H2 H3:Hp}{D:Addr}{i k:Nat}{acc:List V}{v:V}
def yw.start(hD:H D=none):yw f l H D 0 [] (upd H D (.lst [])):=⟨au.new hD,ae,rfl⟩
def yw.len(p:yw f l H D i acc H2):H2 D=some (.lst acc)/\acc.length<=i:=by
 refine⟨p.2.1,?_⟩;rw[p.2.2,aaa,aaa,aa3]
 lia
def yw.next(p:yw f l H D i acc H2)(hD:H D=none)(s:au H2 H3)(hk:l[i]?=some k)(hv:v = .int (f k)):H3 D=some (.lst acc)/\yw f l H D (i+1) (acc++[v]) (upd H3 D (.lst (acc++[v]))):=by
 refine⟨s _ _ p.2.1,(p.1.trans s).put hD,ae,?_⟩;rw[aaM,hk,aar,aar,<-p.2.2,hv];rfl
def yw.fin(p:yw f l H D l.length acc H2):H2 D=some (.lst ((l.map f).map V.int)):=by rw[p.2.1,p.2.2,aaR]
end
end Ring
namespace RM
def wG(f:Nat->Bool):∀n,bZ f n=decide (cnt f n%2=1)
 | 0=>rfl
 | n+1=>by
   unfold bZ cnt;rw[wG f n]
   by_cases h:f n=true
   ·rw[h,aad rfl]
    by_cases q:cnt f n%2=1
    ·have q' : ¬(cnt f n+1)%2=1:=by lia
     simp[q,q']
    ·have q' : (cnt f n+1)%2=1:=by lia
     simp[q,q']
   ·have h' : f n=false:=by simpa using h
    rw[h',aab (by decide)]
    simp
end RM
namespace Ring
open PySem L2
def lenOf(ts:List cP)(m:Nat):Int:=((bx (m:Int)).map λk=>(bU ts k).2.2).sum
def HS(ts:List cP)(f:Nat->Bool):Nat->Int
 | 0=>0
 | n+1=>HS ts f n+(if f n=true then(bU ts n).2.2 else 0)
def uA(ts:List cP)(f:Nat->Bool):∀n,(((List.range n).filter f).map λk=>(bU ts k).2.2).sum=HS ts f n
 | 0=>rfl
 | n+1=>by
   rw[cD,aar,List.sum_append,uA ts f n];show _=HS ts f n+(if f n=true then(bU ts n).2.2 else 0)
   split<;>simp
def HU{ts:List cP}{m:Nat}(hm:m<2^ts.length):lenOf ts m=HS ts (λk=>m.testBit k) ts.length:=by
 unfold lenOf;rw[lS hm];exact uA ts _ _
section
variable {p:Nat}{ts:List cP}(g:aD p ts)
include g
end
end Ring
namespace RM
def sm(f:Nat->Nat):Nat->Nat
 | 0=>0
 | n+1=>sm f n+f n
def jd{f g:Nat->Nat}:∀{n:Nat},(∀k,k<n->f k=g k)->sm f n=sm g n
 | 0,_=>rfl
 | n+1,h=>by
   show sm f n+f n=sm g n+g n;rw[jd λk hk=>h k (by lia),h n (by lia)]
def wH(f g:Nat->Nat):∀n,sm (λk=>f k+g k) n=sm f n+sm g n
 | 0=>rfl
 | n+1=>by
   show sm (λk=>f k+g k) n+(f n+g n)=sm f n+f n+(sm g n+g n)
   rw[wH f g n]
   lia
def vB:∀n,sm (λ_=>0) n=0
 | 0=>rfl
 | n+1=>by
   show sm (λ_=>0) n+0=0
   rw[vB n]
def GK(f:Nat->Nat->Nat)(n:Nat):∀p,sm (λx=>sm (λk=>f x k) n) p=sm (λk=>sm (λx=>f x k) p) n
 | 0=>(vB n).symm
 | p+1=>by
   show sm (λx=>sm (λk=>f x k) n) p+sm (λk=>f p k) n=sm (λk=>sm (λx=>f x k) p+f p k) n
   rw[GK f n p,wH]
def kc(f:Nat->Bool):∀n,cnt f n=sm (λk=>if f k=true then 1 else 0) n
 | 0=>rfl
 | n+1=>by
   show cnt f n+(if f n=true then 1 else 0)=sm (λk=>if f k=true then 1 else 0) n+(if f n=true then 1 else 0)
   rw[kc f n]
def GL{f g:Nat->Nat}:∀{n:Nat},(∀k,k<n->f k<=g k)->sm f n<=sm g n
 | 0,_=>aaf _
 | n+1,h=>by
   have h1:=GL (f:=f) (g:=g) (n:=n) λk hk=>h k (by lia)
   have h2:=h n (by lia)
   show sm f n+f n<=sm g n+g n
   lia
def Po{f g:Nat->Nat}{n:Nat}(h:∀k,k<n->f k<=g k)(e:sm f n=sm g n):∀k,k<n->f k=g k:=by
 induction n with
 | zero=>exact λk hk=>absurd hk (abf _)
 | succ n O =>
   intro k hk;have h1:=GL (f:=f) (g:=g) (n:=n) λk hk=>h k (by lia)
   have h2:=h n (by lia)
   have e:sm f n+f n=sm g n+g n:=e
   by_cases I:k=n
   ·subst I
    lia
   ·exact O (λj hj=>h j (by lia)) (by lia) k (by lia)
def K8{f g:Nat->Bool}{n:Nat}(h:∀k,k<n->f k=true->g k=true):cnt f n<=cnt g n:=by
 rw[kc,kc];refine GL λk hk=>?_
 by_cases hf:f k=true
 ·rw[aad hf,aad (h k hk hf)];exact aaf _
 ·rw[aab hf];exact aaF _
def Cm{f g:Nat->Bool}{n:Nat}(h:∀k,k<n->f k=true->g k=true)(e:cnt f n=cnt g n):∀k,k<n->g k=true->f k=true:=λk hk I=>by
 rw[kc,kc]at e;have q:=Po (n:=n) (λk hk=>by
  by_cases hf:f k=true
  ·rw[aad hf,aad (h k hk hf)];exact aaf _
  ·rw[aab hf];exact aaF _) e k hk
 rw[aad I]at q
 by_cases hf:f k=true
 ·exact hf
 ·rw[aab hf]at q
  lia
def rB{f:Nat->Bool}:∀{n:Nat},0<cnt f n->∃k,k<n/\f k=true
 | 0,h=>absurd h (abj _)
 | n+1,h=>by
   by_cases hf:f n=true
   ·exact⟨n,by lia,hf⟩
   ·have h:0<cnt f n+(if f n=true then 1 else 0):=h
    rw[aab hf]at h;obtain⟨k,hk,q⟩:=rB (f:=f) (n:=n) (by lia)
    exact⟨k,by lia,q⟩
def rC{f:Nat->Bool}{k:Nat}(hf:f k=true):∀{n:Nat},k<n->0<cnt f n
 | 0,h=>absurd h (abf _)
 | n+1,h=>by
   show 0<cnt f n+(if f n=true then 1 else 0)
   by_cases hk:k=n
   ·subst hk;rw[aad hf]
    lia
   ·have:=rC hf (n:=n) (by lia)
    lia
def rD{f:Nat->Bool}:∀{n:Nat},2<=cnt f n->∃c d,c<d/\d<n/\f c=true/\f d=true
 | 0,h=>absurd h (by show ¬ 2<=0;lia)
 | n+1,h=>by
   have h:2<=cnt f n+(if f n=true then 1 else 0):=h
   by_cases hf:f n=true
   ·rw[aad hf]at h;obtain⟨k,hk,q⟩:=rB (f:=f) (n:=n) (by lia)
    exact⟨k,n,hk,by lia,q,hf⟩
   ·rw[aab hf]at h;obtain⟨c,d,h1,h2,I,O⟩:=rD (f:=f) (n:=n) (by lia)
    exact⟨c,d,h1,by lia,I,O⟩
def AH{f:Nat->Bool}{u v:Nat}(hu:f u=true)(hv:f v=true)(ne:u≠v):∀{n:Nat},u<n->v<n->2<=cnt f n
 | 0,h,_=>absurd h (abf _)
 | n+1,h1,h2=>by
   show 2<=cnt f n+(if f n=true then 1 else 0)
   by_cases I:u=n
   ·subst I;have:=rC hv (n:=u) (by lia)
    rw[aad hu]
    lia
   ·by_cases O:v=n
    ·subst O;have:=rC hu (n:=v) (by lia)
     rw[aad hv]
     lia
    ·have:=AH hu hv ne (n:=n) (by lia) (by lia)
     lia
def AI(a:Nat):∀n,cnt (λx=>decide (a=x)) n=if a<n then 1 else 0
 | 0=>rfl
 | n+1=>by
   show cnt (λx=>decide (a=x)) n+(if decide (a=n)=true then 1 else 0)=_
   rw[AI a n]
   by_cases e:a=n
   ·subst e;simp
   ·have d:(if decide (a=n)=true then 1 else 0)=0:=aab (by simpa using e)
    rw[d]
    by_cases h:a<n
    ·rw[aad h,aad (by lia)]
    ·rw[aab h,aab (by lia)]
def AJ{f g:Nat->Bool}:∀{n:Nat},(∀x,x<n->¬(f x=true/\g x=true))->cnt (λx=>f x^^g x) n=cnt f n+cnt g n
 | 0,_=>rfl
 | n+1,h=>by
   show cnt (λx=>f x^^g x) n+(if(f n^^g n)=true then 1 else 0)=cnt f n+(if f n=true then 1 else 0)+(cnt g n+(if g n=true then 1 else 0))
   rw[AJ λx hx=>h x (by lia)]
   have q:=h n (by lia)
   cases hf:f n<;>cases hg:g n
   ·simp
   ·simp
    lia
   ·simp
    lia
   ·exact absurd ⟨hf,hg⟩ q
variable {N:Net}
def Net.dg(N:Net)(m x:Nat):Nat:=cnt (λk=>m.testBit k&&N.inc k x) N.n
def Pp(m x:Nat):N.bd m x=decide (N.dg m x%2=1):=wG _ _
def AK{m x:Nat}(e:N.gh m)(hx:x<N.p):N.dg m x%2=0:=by
 have h:=e x hx;rw[Pp]at h;have:=of_decide_eq_false h
 lia
def vC{k x:Nat}(hk:k<N.n):N.inc k x=true↔(N.a k=x\/N.b k=x):=by
 have ne:=N.ne k hk;unfold Net.inc
 by_cases h1:N.a k=x
 ·have h2 : ¬ N.b k=x:=λz=>ne (h1.trans z.symm)
  simp[h1,h2]
 ·by_cases h2:N.b k=x
  ·simp[h1,h2]
  ·simp[h1,h2]
def N6{k:Nat}(hk:k<N.n):cnt (N.inc k) N.p=2:=by
 have ne:=N.ne k hk;have e:cnt (N.inc k) N.p=cnt (λx=>decide (N.a k=x)^^decide (N.b k=x)) N.p:=rfl
 rw[e,AJ λx _ ⟨h1,h2⟩=>ne ((kK h1).trans (kK h2).symm),AI,AI,aad (N.al k hk),aad (N.bl k hk)]
def K9(m:Nat):sm (λx=>N.dg m x) N.p=2*cnt (λk=>m.testBit k) N.n:=by
 have e:sm (λx=>N.dg m x) N.p=sm (λx=>sm (λk=>if(m.testBit k&&N.inc k x)=true then 1 else 0) N.n) N.p:=jd λx _=>kc _ _
 rw[e,GK,kc];have d:∀n,2*sm (λk=>if m.testBit k=true then 1 else 0) n=sm (λk=>(if m.testBit k=true then 1 else 0)+(if m.testBit k=true then 1 else 0)) n:=λn=>by
  rw[wH]
  lia
 rw[d];refine jd λk hk=>?_
 by_cases h:m.testBit k=true
 ·rw[aad h];have q:=N6 hk;rw[kc]at q;show _=2;exact(jd λx _=>by rw[h,abo]).trans q
 ·rw[aab h];have h' : m.testBit k=false:=by simpa using h
  have:sm (λx=>if(m.testBit k&&N.inc k x)=true then 1 else 0) N.p=sm (λ_=>0) N.p:=jd λx _=>by rw[h'];rfl
  rw[this,vB]
def UE{q m:Nat}(h:∀k,q.testBit k=true->m.testBit k=true)(x:Nat):N.dg q x<=N.dg m x:=K8 λk _ I=>by
 rw[aaJ]at I ⊢;exact⟨h k I.1,I.2⟩
def Cn{m k x:Nat}(hk:k<N.n)(hb:m.testBit k=true)(hx:N.a k=x\/N.b k=x):0<N.dg m x:=rC (k:=k) (by rw[hb,abo];exact(vC hk).mpr hx) hk
def AL{m x:Nat}(h:0<N.dg m x):∃k,k<N.n/\m.testBit k=true/\(N.a k=x\/N.b k=x):=by
 obtain⟨k,hk,q⟩:=rB h;rw[aaJ]at q;exact⟨k,hk,q.1,(vC hk).mp q.2⟩
def alone{m x y:Nat}(h:N.dg m x=0)(c:N.nB (λk=>m.testBit k) N.n x y):y=x:=by
 induction c with
 | refl=>rfl
 | fwd _ hj hs ih=>exact absurd (Cn hj hs (.inl ih)) (by lia)
 | bwd _ hj hs ih=>exact absurd (Cn hj hs (.inr ih)) (by lia)
def HV{S:Nat->Bool}{k u v:Nat}(hk:k<=N.n)(c:N.nB S k u v):∃t,(∀j,t.testBit j=true->j<k/\S j=true)/\∀x,N.bd t x=(decide (u=x)^^decide (v=x)):=by
 induction c with
 | refl=>exact⟨0,λj hj=>by simp at hj,λx=>by rw[oZ];simp⟩
 | fwd _ hj hs ih =>
   rename_i j _
   obtain⟨t,h1,h2⟩:=ih;refine⟨t^^^2^j,λi hi=>?_,λx=>?_⟩
   ·rw[aal,aaw]at hi
    by_cases e:j=i
    ·subst e;exact⟨hj,hs⟩
    ·rw[gz e,abb]at hi;exact h1 i hi
   ·rw[iE,h2,nO (by lia)]
    unfold Net.inc;cases decide (u=x)<;>cases decide (N.a j=x)<;>cases decide (N.b j=x)<;>rfl
 | bwd _ hj hs ih =>
   rename_i j _
   obtain⟨t,h1,h2⟩:=ih;refine⟨t^^^2^j,λi hi=>?_,λx=>?_⟩
   ·rw[aal,aaw]at hi
    by_cases e:j=i
    ·subst e;exact⟨hj,hs⟩
    ·rw[gz e,abb]at hi;exact h1 i hi
   ·rw[iE,h2,nO (by lia)]
    unfold Net.inc;cases decide (u=x)<;>cases decide (N.a j=x)<;>cases decide (N.b j=x)<;>rfl
def Net.Ring(N:Net)(m:Nat):Prop:=m≠0/\N.gh m/\∀q,(∀k,q.testBit k=true->m.testBit k=true)->N.gh q->q=0\/q=m
section
variable {m s:Nat}
def N7(hm:m<2^N.n)(ev:N.gh m)(C:Nat->Bool)(hC:∀x,x<N.p->C x=decide (N.aY (λk=>m.testBit k) N.n x=s))(h2:2<=cnt C N.p)
 (X8:∀k,k<N.n->m.testBit k=true->C (N.a k)=true) (hl:cnt C N.p=cnt (λk=>m.testBit k) N.n):N.Ring m:=by
 have Pq:∀k,k<N.n->m.testBit k=true->C (N.a k)=true/\C (N.b k)=true:=λk hk hb=>by
  have h:=X8 k hk hb;refine⟨h,?_⟩;rw[hC _ (N.al k hk)]at h;rw[hC _ (N.bl k hk)];rw[lV (S:=λk=>m.testBit k) hk hb]at h
  exact h
 have pos:∀x,x<N.p->C x=true->0<N.dg m x:=λx hx hc=>by
  cases hz:N.dg m x with
  | succ d=>lia
  | zero =>
    exfalso
    obtain⟨y,hy,UG,ab⟩:∃y,y<N.p/\C y=true/\y≠x:=by
     obtain⟨c,d,h1,h3,Z,h5⟩:=rD h2
     by_cases e:c=x
     ·exact⟨d,h3,h5,by lia⟩
     ·exact⟨c,by lia,Z,e⟩
    rw[hC x hx]at hc;rw[hC y hy]at UG;exact ab (alone hz (c8 _ _ _ ((kK hc).trans (kK UG).symm)))
 have two:∀x,x<N.p->(if C x=true then 2 else 0)=N.dg m x:=by
  refine Po (λx hx=>?_) ?_
  ·by_cases hc:C x=true
   ·rw[aad hc];have h1:=pos x hx hc;have h3:=AK ev hx
    lia
   ·rw[aab hc];exact aaF _
  ·rw[K9,<-hl,kc];have d:∀n,2*sm (λk=>if C k=true then 1 else 0) n=sm (λk=>(if C k=true then 1 else 0)+(if C k=true then 1 else 0)) n:=λn=>by
    rw[wH]
    lia
   rw[d];exact jd λx _=>by split<;>rfl
 obtain⟨c0,ag,ar⟩:=rB (f:=C) (n:=N.p) (by lia)
 refine⟨λz=>?_,ev,λq Y eq=>?_⟩
 ·have h:=pos c0 ag ar;obtain⟨k,_,hb,_⟩:=AL h;rw[z]at hb;simp at hb
 ·by_cases wI:q=0
  ·exact .inl wI
  ·right
   have full:∀x,x<N.p->0<N.dg q x->∀k,k<N.n->m.testBit k=true->(N.a k=x\/N.b k=x)->q.testBit k=true:=λx hx h k hk hb Pu=>by
    have h1:=UE (N:=N) Y x;have h3:=AK eq hx;have Z:=two x hx;have h5:N.dg q x=N.dg m x:=by
     by_cases hc:C x=true
     ·rw[aad hc]at Z
      lia
     ·rw[aab hc]at Z
      lia
    have h6:=Cm (f:=λk=>q.testBit k&&N.inc k x) (g:=λk=>m.testBit k&&N.inc k x) (n:=N.n) (λk _ z=>by
     rw[aaJ]at z ⊢;exact⟨Y k z.1,z.2⟩) h5 k hk (by rw[hb,abo];exact(vC hk).mpr Pu)
    rw[aaJ]at h6;exact h6.1
   obtain⟨U,I⟩:∃k,q.testBit k=true:=abi wI;have O:U<N.n:=dh hm (Y U I);have spread:∀{y},N.nB (λk=>m.testBit k) N.n (N.a U) y->0<N.dg q y:=λ{y} c=>by
    induction c with
    | refl=>exact Cn O I (.inl rfl)
    | fwd _ hj hs ih=>exact Cn hj (full _ (N.al _ hj) ih _ hj hs (.inl rfl)) (.inr rfl)
    | bwd _ hj hs ih=>exact Cn hj (full _ (N.bl _ hj) ih _ hj hs (.inr rfl)) (.inl rfl)
   refine aa0 λk=>?_
   cases hb:m.testBit k with
   | false =>
     cases hz:q.testBit k with
     | false=>rfl
     | true =>
       have:=Y k hz;rw[hb]at this;cases this
   | true =>
     have hk:=dh hm hb;have e1:=(Pq k hk hb).1;have e2:=(Pq U O (Y U I)).1;rw[hC _ (N.al k hk)]at e1;rw[hC _ (N.al U O)]at e2;exact full _ (N.al k hk) (spread (c8 _ _ _ ((kK e2).trans (kK e1).symm))) k hk hb (.inl rfl)
def EM(hm:m<2^N.n)(r:N.Ring m):∃k0,k0<N.n/\m.testBit k0=true/\∀k,k<N.n->m.testBit k=true->N.aY (λk=>m.testBit k) N.n (N.a k)=N.aY (λk=>m.testBit k) N.n (N.a k0):=by
 obtain⟨h0,ev,O⟩:=r;obtain⟨k0,hb0⟩:=abi h0;have I:=dh hm hb0;refine⟨k0,I,hb0,?_⟩;generalize hs:N.aY (λk=>m.testBit k) N.n (N.a k0)=s
 have bit:∀k,(Ring.maskOf (λk=>m.testBit k&&decide (N.aY (λk=>m.testBit k) N.n (N.a k)=s)) N.n).testBit k=(decide (k<N.n)&&(m.testBit k&&decide (N.aY (λk=>m.testBit k) N.n (N.a k)=s))):=λk=>Ring.mask_bit _ k _
 have sub:∀k,(Ring.maskOf (λk=>m.testBit k&&decide (N.aY (λk=>m.testBit k) N.n (N.a k)=s)) N.n).testBit k=true->m.testBit k=true:=λk hk=>by
  rw[bit,aaJ,aaJ]at hk;exact hk.2.1
 have U:N.gh (Ring.maskOf (λk=>m.testBit k&&decide (N.aY (λk=>m.testBit k) N.n (N.a k)=s)) N.n):=λx hx=>by
  have e:N.bd (Ring.maskOf (λk=>m.testBit k&&decide (N.aY (λk=>m.testBit k) N.n (N.a k)=s)) N.n) x=(decide (N.aY (λk=>m.testBit k) N.n x=s)&&N.bd m x):=by
   unfold Net.bd;rw[<-rf];refine cj λk hk=>?_
   rw[bit,eG hk,abo];cases hb:m.testBit k with
   | false=>simp
   | true =>
     cases hi:N.inc k x with
     | false=>simp
     | true =>
       have Y:N.aY (λk=>m.testBit k) N.n (N.a k)=N.aY (λk=>m.testBit k) N.n x:=by
        rcases(vC hk).mp hi with z|z
        ·rw[z]
        ·rw[<-z];exact lV (S:=λk=>m.testBit k) hk hb
       rw[Y];simp
  rw[e,ev x hx,acm]
 rcases O _ sub U with q|q
 ·have:=bit k0;rw[q,hb0,hs,eG I]at this;simp at this
 ·intro k hk hb;have h:=bit k;rw[q,hb,eG hk]at h;exact kK (by simpa using h.symm)
def zG(S:Nat->Bool):∀k,k<=N.n->cnt (N.root S k) N.p+cnt (λj=>S j && !decide (N.aY S j (N.a j)=N.aY S j (N.b j))) k=N.p
 | 0,_=>by
   show cnt (N.root S 0) N.p+0=N.p;rw[AF (f:=N.root S 0) λx _=>eG rfl]
   rfl
 | k+1,hk=>by
   have I:=zG S k (by lia)
   have st:=wu (N:=N) (S:=S) (k:=k) (by lia)
   show cnt (N.root S (k+1)) N.p+(cnt (λj=>S j && !decide (N.aY S j (N.a j)=N.aY S j (N.b j))) k+if(S k && !decide (N.aY S k (N.a k)=N.aY S k (N.b k)))=true then 1 else 0)=N.p
   lia
def La(hm:m<2^N.n)(r:N.Ring m)(C:Nat->Bool)(hC:∀x,x<N.p->C x=decide (N.aY (λk=>m.testBit k) N.n x=s))
 (X8:∀k,k<N.n->m.testBit k=true->C (N.a k)=true):2<=cnt C N.p/\cnt C N.p=cnt (λk=>m.testBit k) N.n/\∀x,x<N.p->C x=false->N.aY (λk=>m.testBit k) N.n x=x/\∀y,N.aY (λk=>m.testBit k) N.n y=x->y=x:=by
 obtain⟨h0,ev,mn⟩:=r;obtain⟨k0,hb0⟩:=abi h0;have I:=dh hm hb0;have U:∀k,k<N.n->m.testBit k=true->C (N.a k)=true/\C (N.b k)=true:=λk hk hb=>by
  have h:=X8 k hk hb;refine⟨h,?_⟩;rw[hC _ (N.al k hk)]at h;rw[hC _ (N.bl k hk),<-lV (S:=λk=>m.testBit k) hk hb]
  exact h
 have h2:2<=cnt C N.p:=AH (U k0 I hb0).1 (U k0 I hb0).2 (N.ne k0 I) (N.al k0 I) (N.bl k0 I);have none:∀x,x<N.p->C x=false->N.dg m x=0:=λx hx hc=>by
  cases hz:N.dg m x with
  | zero=>rfl
  | succ d =>
    exfalso
    obtain⟨k,hk,hb,Pu⟩:=AL (N:=N) (m:=m) (x:=x) (by lia)
    rcases Pu with e|e
    ·have:=(U k hk hb).1;rw[e,hc]at this;cases this
    ·have:=(U k hk hb).2;rw[e,hc]at this;cases this
 have N8:∀x,x<N.p->C x=false->N.aY (λk=>m.testBit k) N.n x=x/\∀y,N.aY (λk=>m.testBit k) N.n y=x->y=x:=λx hx hc=>by
  have hz:=none x hx hc;have r1:N.aY (λk=>m.testBit k) N.n x=x:=alone hz (c8 _ _ _ (fu _ _).symm)
  exact⟨r1,λy hy=>alone hz (c8 _ _ _ (r1.trans hy.symm))⟩
 refine⟨h2,?_,N8⟩;have pos:∀x,x<N.p->C x=true->0<N.dg m x:=λx hx hc=>by
  cases hz:N.dg m x with
  | succ d=>lia
  | zero =>
    exfalso
    obtain⟨y,hy,UG,ag⟩:∃y,y<N.p/\C y=true/\y≠x:=by
     obtain⟨c,d,h1,h3,h4,h5⟩:=rD h2
     by_cases e:c=x
     ·exact⟨d,h3,h5,by lia⟩
     ·exact⟨c,by lia,h4,e⟩
    rw[hC x hx]at hc;rw[hC y hy]at UG;exact ag (alone hz (c8 _ _ _ ((kK hc).trans (kK UG).symm)))
 have ge:cnt C N.p<=cnt (λk=>m.testBit k) N.n:=by
  have h:sm (λx=>if C x=true then 2 else 0) N.p<=sm (λx=>N.dg m x) N.p:=GL λx hx=>by
   by_cases hc:C x=true
   ·rw[aad hc];have h1:=pos x hx hc;have h3:=AK ev hx
    lia
   ·rw[aab hc];exact aaF _
  rw[K9]at h;have d:sm (λx=>if C x=true then 2 else 0) N.p=2*cnt C N.p:=by
   rw[kc];have d:∀n,2*sm (λk=>if C k=true then 1 else 0) n=sm (λk=>(if C k=true then 1 else 0)+(if C k=true then 1 else 0)) n:=λn=>by
    rw[wH]
    lia
   rw[d];exact jd λx _=>by split<;>rfl
  lia
 refine Nat.le_antisymm ge (Nat.le_of_not_lt λmore=>?_)
 have Yb:=zG (N:=N) (λk=>m.testBit k) N.n (aaf _)
 have hr:cnt (N.root (λk=>m.testBit k) N.n) N.p+cnt C N.p=N.p+1:=by
  have Y:=(U k0 I hb0).1;rw[hC _ (N.al k0 I)]at Y;have hs:=kK Y;have zl:s<N.p:=by rw[<-hs];exact rm (N.al k0 I)
  have Z:N.aY (λk=>m.testBit k) N.n s=s:=by rw[<-hs];exact fu _ _
  have e:cnt (N.root (λk=>m.testBit k) N.n) N.p=cnt (λx=>!C x^^decide (s=x)) N.p:=lX λx hx=>by
   unfold Net.root;cases hc:C x with
   | false =>
     have ne : ¬ s=x:=λz=>by
      have:=hC x hx;rw[hc,<-z,Z]at this;simp at this
     rw[eG (N8 x hx hc).1,gz ne];rfl
   | true =>
     have h:=hC x hx;rw[hc]at h;have h:=kK h.symm;rw[h];simp
  rw[e,AJ λx hx ⟨z1,O⟩=>by
   have O:=kK O;have:=hC x hx;rw[<-O,Z]at this;rw[<-O,this]at z1;simp at z1,AI,aad zl]
  have:=AE C N.p
  lia
 have split:cnt (λk=>m.testBit k) N.n=cnt (λj=>m.testBit j && !decide (N.aY (λk=>m.testBit k) j (N.a j)=N.aY (λk=>m.testBit k) j (N.b j))) N.n+cnt (λj=>m.testBit j&&decide (N.aY (λk=>m.testBit k) j (N.a j)=N.aY (λk=>m.testBit k) j (N.b j))) N.n:=by
  rw[<-AJ λx _ ⟨z1,O⟩=>by
   rw[aaJ]at z1 O;have:=z1.2;rw[O.2]at this;cases this]
  refine lX λk _=>?_
  cases m.testBit k<;>cases decide (N.aY (λk=>m.testBit k) k (N.a k)=N.aY (λk=>m.testBit k) k (N.b k))<;>rfl
 obtain⟨c,d,aw,hd,ar,ab⟩:=rD (f:=λj=>m.testBit j&&decide (N.aY (λk=>m.testBit k) j (N.a j)=N.aY (λk=>m.testBit k) j (N.b j))) (n:=N.n) (by lia)
 have whole:∀j,j<N.n->(m.testBit j&&decide (N.aY (λk=>m.testBit k) j (N.a j)=N.aY (λk=>m.testBit k) j (N.b j)))=true->∀i,m.testBit i=true->i<=j:=λj hj h i hi=>by
  rw[aaJ]at h;obtain⟨t,t1,t2⟩:=HV (aa6 hj) (c8 _ _ _ (kK h.2));have own:(t^^^2^j).testBit j=true:=by
   rw[aal,aaw,eG rfl];cases hz:t.testBit j with
   | false=>rfl
   | true=>exact absurd (t1 j hz).1 (abj _)
  have sub:∀k,(t^^^2^j).testBit k=true->m.testBit k=true:=λk hk=>by
   rw[aal,aaw]at hk
   by_cases e:j=k
   ·subst e;exact h.1
   ·rw[gz e,abb]at hk;exact(t1 k hk).2
  have X9:N.gh (t^^^2^j):=λx hx=>by
   rw[iE,t2,nO hj];unfold Net.inc;cases decide (N.a j=x)<;>cases decide (N.b j=x)<;>rfl
  rcases mn _ sub X9 with q|q
  ·rw[q]at own;simp at own
  ·rw[<-q,aal,aaw]at hi
   by_cases e:j=i
   ·lia
   ·rw[gz e,abb]at hi;exact aa6 (t1 i hi).1
 have h1:m.testBit d=true:=by
  rw[aaJ]at ab;exact ab.1
 have:=whole c (by lia) ar d h1
 lia
end
end RM
namespace Ring
open PySem L2
def eO(L:Nat->Nat)(p:Nat):List Nat:=(fC L p).filter λs=>decide (1<(pieceOf L p s).length)
def Rg(L:Nat->Nat)(p k:Nat):List Nat->Bool
 | [s]=>decide ((pieceOf L p s).length=k)
 | _=>false
def uB(p:Nat)(ts:List cP)(g:aD p ts)(m:Nat):Bool:=decide (vZ p ts (m:Int)=[])&&Rg (bT p ts g m) p (bx (m:Int)).length (eO (bT p ts g m) p)
def jR(L:Nat->Nat)(p s:Nat):(pieceOf L p s).length=RM.cnt (λx=>decide (L x=s)) p:=RM.lY _ _
def wJ{m n:Nat}(hm:m<2^n):(bx (m:Int)).length=RM.cnt (λk=>m.testBit k) n:=by
 rw[lS hm];exact RM.lY _ _
def HW{f:Nat->Bool}{n c:Nat}(hc:c<n)(h:∀k,k<n->f k=decide (k=c)):(List.range n).filter f=[c]:=by
 rw[<-qa hc];exact adj λk hk=>h k (aaC.mp hk)
def HX{p:Nat}{ts:List cP}(g:aD p ts){m:Nat}(hm:m<2^ts.length):uB p ts g m=true↔g.N.Ring m:=by
 have U:bT p ts g m=g.N.aY (λk=>m.testBit k) g.N.n:=rfl
 have ep:g.N.p=p:=rfl
 constructor
 ·intro h;unfold uB at h;rw[aaJ]at h;obtain⟨h1,h2⟩:=h;have ev:=(Cj g hm).mp (kK h1);unfold Rg at h2
  split at h2
  ·rename_i s hs
   have h2:=kK h2;have I:s∈eO (bT p ts g m) p:=by rw[hs];exact aax.mpr rfl
   unfold eO at I;have hlen:=kK (aaK.mp I).2;refine RM.N7 (s:=s) hm ev (λx=>decide (bT p ts g m x=s)) (λx _=>by rw[U]) ?_ (λk hk hb=>?_) ?_
   ·rw[ep,<-jR];exact hlen
   ·
    have ZA:=g.N.al k hk;have Y:=g.N.bl k hk;have e:bT p ts g m (g.N.b k)=bT p ts g m (g.N.a k):=(RM.lV (S:=λk=>m.testBit k) hk hb).symm
    have hr:bT p ts g m (bT p ts g m (g.N.a k))=bT p ts g m (g.N.a k):=RM.fu _ _;have Z:bT p ts g m (g.N.a k)<p:=RM.rm ZA;have ht:bT p ts g m (g.N.a k)∈eO (bT p ts g m) p:=by
     unfold eO fC;refine aaK.mpr ⟨aaK.mpr ⟨aaC.mpr Z,eG hr⟩,eG ?_⟩;rw[jR];exact RM.AH (u:=g.N.a k) (v:=g.N.b k) (eG rfl) (eG e) (g.N.ne k hk) ZA Y
    rw[hs]at ht;exact eG (aax.mp ht)
   ·rw[ep,<-jR,h2];exact wJ hm
  ·cases h2
 ·intro r;obtain⟨k0,ab,ar,O⟩:=RM.EM hm r;generalize hs:g.N.aY (λk=>m.testBit k) g.N.n (g.N.a k0)=s at O
  obtain⟨h2,hl,N8⟩:=RM.La (s:=s) hm r (λx=>decide (bT p ts g m x=s)) (λx _=>by rw[U]) (λk hk hb=>eG (O k hk hb))
  have zl:s<p:=by rw[<-hs];exact RM.rm (g.N.al k0 ab)
  have ag:bT p ts g m s=s:=by rw[U,<-hs];exact RM.fu _ _
  have ht:eO (bT p ts g m) p=[s]:=by
   unfold eO fC;rw[List.filter_filter];refine HW zl λx hx=>?_
   by_cases e:x=s
   ·subst e;rw[eG ag,jR,eG rfl,acP];exact eG h2
   ·rw[gz e]
    by_cases Pu:bT p ts g m x=x
    ·have hc:decide (bT p ts g m x=s)=false:=gz (by rw[Pu];exact e)
     obtain⟨_,q⟩:=N8 x hx hc;have : ¬ 1<(pieceOf (bT p ts g m) p x).length:=λz=>by
      rw[jR]at z;obtain⟨c,d,h1,_,h3,h4⟩:=RM.rD z;have h3:=q c (kK h3);have h4:=q d (kK h4)
      lia
     rw[gz this,ade]
    ·rw[gz Pu,acm]
  unfold uB;rw[eG ((Cj g hm).mpr r.2.1),ht,abo];refine eG ?_;rw[jR,wJ hm];exact hl
def EN{p:Nat}{ts:List cP}{g:aD p ts}{m:Nat}(ev:vZ p ts (m:Int)=[]):uB p ts g m=Rg (bT p ts g m) p (bx (m:Int)).length (eO (bT p ts g m) p):=by
 unfold uB;rw[eG ev,abo]
def GN:∀l I : List Nat,PyData.eqvAll (l.map qt) (I.map qt)=decide (l=I)
 | [],[]=>rfl
 | [],_::_=>rfl
 | _::_,[]=>rfl
 | x::l,y::I=>by
   show(((x:Int)==(y:Int))&&PyData.eqvAll (l.map qt) (I.map qt))=decide (x::l=y::I);rw[GN l I,aa4];simp
   lia
def zH(l l' : List Nat):PyData.eqv (.list (l.map qt)) (.list (l'.map qt))=decide (l=l'):=GN l l'
def Rh(H:Hp)(y:V)(l:List Nat):Prop:=∃b,y = .ref b/\H b=some (.lst (aB l))
def wK(f:List Nat->Bool)(ls:List (List Nat))(H:Hp)(D:Addr)(i:Nat)(acc:List V)(H2:Hp):Prop:=au H H2/\H2 D=some (.lst acc)/\Paired (Rh H) acc ((ls.take i).filter f)
section
variable {f:List Nat->Bool}{ls:List (List Nat)}{H H2 H3:Hp}{D:Addr}{i:Nat}{acc:List V}{y:V}{l:List Nat}
def wK.start(hD:H D=none):wK f ls H D 0 [] (upd H D (.lst [])):=⟨au.new hD,ae,.nil⟩
def wK.len(h:wK f ls H D i acc H2):H2 D=some (.lst acc)/\acc.length<=i:=⟨h.2.1,by
 rw[h.2.2.length];exact aaB (aaI _ _) (by rw[aa3];lia)⟩
def wK.yes(h:wK f ls H D i acc H2)(hD:H D=none)(hl:ls[i]?=some l)(hf:f l=true)(hy:Rh H y l):H2 D=some (.lst acc)/\wK f ls H D (i+1) (acc++[y]) (upd H2 D (.lst (acc++[y]))):=by
 refine⟨h.2.1,h.1.put hD,ae,?_⟩;rw[aaM,hl,abx];show Paired _ _ (_++List.filter f [l]);rw[aaD,aad hf];exact Paired.snoc h.2.2 hy
def wK.no(h:wK f ls H D i acc H2)(hl:ls[i]?=some l)(hf:f l=false):wK f ls H D (i+1) acc H2:=by
 refine⟨h.1,h.2.1,?_⟩;rw[aaM,hl,abx];show Paired _ _ (_++List.filter f [l]);rw[aaD,aab (by rw[hf];exact aah)]
 simpa using h.2.2
end
end Ring
namespace L2
open PySem PySem.Spec PyProof.Rows
section
variable {prog:Program}{w:World}{A:Around}{E:dD}{s:Shared}
def EO{it t:Addr}{i:Nat}{items:Array Value}{x:Value}{Q:dD}(hit:s.heap.IsTupleIter it t i)(ht:s.heap.IsTuple t items)(hx:items[i]?=some x)
 (q:∀h',h'.IsTupleIter it t (i+1)->Heap.SameBut it s.heap h'->Q x { s with heap:=h'}):wpAny (model prog w) A (Builtin.SmallTypes.nextOf (.ref it)) Q E s:=by
 obtain⟨o,I,hc,hd⟩:=id hit;obtain⟨ot,Yc,_,nt,hdt⟩:=ht;rw[Builtin.SmallTypes.nextOf];refine aW (wpAny_callSpecial?_slot (name:=Str.ofString "__next__") hit.typeIs F.slot_tuple_iterator_next (wpAny_call_entry F.slot_tuple_iterator_next hit.typeIs F.entry_tuple_iterator_next ?_ (F.args_tuple_iterator_next_1 _)));show wpAny _ _ (field (.ref it) 0 >>= λ_=>_) _ _ s
 refine aW (wpAny_field I hd (x:=.ref t) rfl ?_);show wpAny _ _ (if(Value.ref t==Value.none)=true then _ else _) _ _ s
 rw[aab (by simp)]
 show wpAny _ _ (field (.ref it) 1 >>= λ_=>_) _ _ s
 refine aW (wpAny_field I hd (x:=.int i 0) rfl ?_);show wpAny _ _ (seqItems? (.ref t) >>= λ_=>_) _ _ s
 refine aW (wpAny_seqItems Yc hdt ?_);simp only[aap,hx];refine aW (wpAny_setField I hd (by simp) (aai ⟨x,rfl,aai (q _ ?_ (aaY ..))⟩))
 refine⟨_,abK _ I (ack (ace hd _)),(Obj.cls_mapFields ..).trans hc,?_⟩;rw[ace hd];simp[rawInt]
def HY{it t:Addr}{i:Nat}{items:Array Value}{Q:dD}(hh:A.handled=none)(hit:s.heap.IsTupleIter it t i)(ht:s.heap.IsTuple t items)(hx:items[i]?=none)
 (q:∀h' e,Heap.ExtBut it s.heap h'->(∃o,h'.get? e=some o/\o.cls = .type "StopIteration")->E (.ref e) { s with heap:=h'}):wpAny (model prog w) A (Builtin.SmallTypes.nextOf (.ref it)) Q E s:=by
 obtain⟨o,I,hc,hd⟩:=id hit;obtain⟨ot,Yc,_,nt,hdt⟩:=ht;rw[Builtin.SmallTypes.nextOf];refine aW (wpAny_callSpecial?_slot (name:=Str.ofString "__next__") hit.typeIs F.slot_tuple_iterator_next (wpAny_call_entry F.slot_tuple_iterator_next hit.typeIs F.entry_tuple_iterator_next ?_ (F.args_tuple_iterator_next_1 _)));show wpAny _ _ (field (.ref it) 0 >>= λ_=>_) _ _ s
 refine aW (wpAny_field I hd (x:=.ref t) rfl ?_);show wpAny _ _ (if(Value.ref t==Value.none)=true then _ else _) _ _ s
 rw[aab (by simp)]
 show wpAny _ _ (field (.ref it) 1 >>= λ_=>_) _ _ s
 refine aW (wpAny_field I hd (x:=.int i 0) rfl ?_);show wpAny _ _ (seqItems? (.ref t) >>= λ_=>_) _ _ s
 refine aW (wpAny_seqItems Yc hdt ?_);simp only[aap,hx];refine aW (wpAny_rule (aW (wpAny_setField I hd (by simp) ?_)))
 show wpAny _ _ (newExc (.type "StopIteration") [] >>= λ_=>_) _ _ _
 refine aW ?_;simp only[newExc,newTuple];refine aW (wpAny_newObj_type ?_ (by size_fits))
 refine aW (m:=firstArgMember _ _) (wpAny_of_eq (a:=Value.none) (by first | rfl | (simp only[firstArgMember];rfl)) (wpAny_newObj_type ?_ (by size_fits)))
 exact wpAny_raiseNew_none hh (q _ _ (((aaY ..).extBut.push _).push _) ⟨_,aav _ rfl,rfl⟩)
def uC(hh:A.handled=none)(it t:Addr)(hne:t≠it)(items:Array Value):
 Draws prog w A it [it,t] items.size (λi v=>items[i]?=some v) (λi h=>h.IsTupleIter it t i/\h.IsTuple t items) where
 live:=λ_ _ st=>let⟨o,ho,_⟩:=st.1;⟨o,ho⟩
 frame:=λ_ _ _ st hk=>⟨st.1.at λo e=>hk it (by simp) o e,st.2.at λo e=>hk t (by simp) o e⟩
 item:=λi s Q E hi st I=>EO st.1 st.2 (x:=items[i]) (by simp[hi]) λh' O hs'=>I _ h' s.toks (by simp[hi]) ⟨O,st.2.extBut hs'.extBut hne⟩ hs'
 done:=λs Q E st U=>HY hh st.1 st.2 (by simp) U
end
open AutoSeq1 (wpAny_loadPart') in
def sO(l:Addr)(items:Array Value)(n:Nat)(dct:Option Addr)(sl:Array (Option Value)):
 Meets (Builtin.«enumerate.__new__» ⟨[.type "enumerate",.ref l],[]⟩) (λ_ R s=>s.heap.get? l=some { cls:=.type "tuple",dict:=dct,data:=.seq items n,slots:=sl}/\
  R (.ok (.ret (.ref (s.heap.push { cls:=.type "tuple_iterator",data:=.fields #[.ref l,.int 0 0]}).objs.size)))
    { s with heap:=(s.heap.push { cls:=.type "tuple_iterator",data:=.fields #[.ref l,.int 0 0]}).push { cls:=.type "enumerate",data:=.fields #[.none,.bool false,.ref s.heap.objs.size,rawInt 0,.none,.none]}}) :=
 .of_wp λprog w A R s h=>by
  obtain⟨U,g,d,tk,os⟩:=s;obtain⟨hl,h⟩:=h;have O:=sub_enumerate;have I:Heap.IsTuple (Shared.heap ⟨U,g,d,tk,os⟩) l items:=⟨_,hl,rfl,n,rfl⟩
  wp_walk using wpAny_loadPart' hl
  refine wpAny_stack_any λst=>aai ?_
  split
  ·rename_i c _ _ _ _ _
   cases(c==Value.type "enumerate")
   ·wp_walk using wpAny_loadPart' hl,wpAny_pyIter_tuple I
    exact⟨_,rfl,h⟩
   ·wp_walk using wpAny_loadPart' hl,wpAny_pyIter_tuple I
    exact⟨_,rfl,h⟩
  ·wp_walk using wpAny_loadPart' hl,wpAny_pyIter_tuple I
   exact⟨_,rfl,h⟩
section
variable {prog:Program}{w:World}{A:Around}{E:dD}{s:Shared}
def ER{l:Addr}{items:Array Value}{Q:dD}(hL:s.heap.IsTuple l items)
 (h:∀h',IsEnum h' (s.heap.objs.size+1) s.heap.objs.size 0 .none->h'.IsTupleIter s.heap.objs.size l 0->h'.objs.size=s.heap.objs.size+2->(∀b o,s.heap.get? b=some o->h'.get? b=some o)->Q (.ref (s.heap.objs.size+1)) { s with heap:=h'}) :
 wpAny (model prog w) A (call (.type "enumerate") [.ref l]) Q E s:=by
 obtain⟨⟨c,I,dt,sl⟩,O,hc,n,hd⟩:=hL
 replace hc:c = .type "tuple":=hc
 replace hd:dt = .seq items n:=hd
 subst hc hd;refine callType_new F.called_enumerate (by decide) (F.typeCall_enumerate_1 _) (F.newCall_enumerate_1 _) (λobj=>F.args_object_init_2 obj _) F.entry_enumerate_new (sO l items n I sl) ⟨O,?_⟩
 have hz:(s.heap.push { cls:=.type "tuple_iterator",data:=.fields #[.ref l,.int 0 0]}).objs.size=s.heap.objs.size+1:=acB ..;show _/\_;rw[hz];have he:IsEnum ((s.heap.push { cls:=.type "tuple_iterator",data:=.fields #[.ref l,.int 0 0]}).push { cls:=.type "enumerate",data:=.fields #[.none,.bool false,.ref s.heap.objs.size,rawInt 0,.none,.none]}) (s.heap.objs.size+1) s.heap.objs.size 0 .none:=by
  have z:=aav (s.heap.push { cls:=.type "tuple_iterator",data:=.fields #[.ref l,.int 0 0]}) (o:={ cls:=.type "enumerate",data:=.fields #[.none,.bool false,.ref s.heap.objs.size,rawInt 0,.none,.none]}) rfl;rw[hz]at z;exact z
 exact⟨⟨_,he,rfl⟩,h _ he ⟨_,aag _ (aav _ rfl),rfl,rfl⟩ (by rw[acB,hz]) λb o x=>aag _ (aag _ x)⟩
end
def HZ(K:bE)(a:Addr):It :=
 ⟨λi H=>∃xs x,aV K H a xs/\xs[i]?=some x,λi H v H'=>∃T x,v = .ref T/\H T=none/\H' = upd H T (.tup [.int (i:Int),x])/\∀xs,aV K H a xs->xs[i]?=some x,λi H=>∃xs,aV K H a xs/\xs.length=i⟩
def ES{P:Program}{w:World}{K:bE}{elts:List Expr}{k:Nat}{pos:Pos}(a e it:Addr)(hne:e≠it):
 Turn P w K (.Tuple elts k pos) (HZ K a) [e,it] e (λi h=>(∃old,IsEnum h e it (i:Int) old)/\h.IsTupleIter it a i) where
 mem:=by simp
 obj:=λi h st b hb=>by
  obtain⟨⟨old,he⟩,o,ho,c,d⟩:=st;have O : b=e\/b=it:=by simpa using hb
  rcases O with rfl|rfl
  ·exact⟨_,he,λv z=>by cases z⟩
  ·exact⟨o,ho,λv z=>by rw[d]at z;cases z⟩
 keep:=λi h h' st k=>by
  obtain⟨⟨old,he⟩,hit⟩:=st;exact⟨⟨old,k e (by simp) _ he⟩,hit.at λo x=>k it (by simp) o x⟩
 item:=by
  intro X hP hw hK hc i pq s σ H E I hf st hg;subst hP hw hK;obtain⟨xs,x,hq,hx⟩:=hg;obtain⟨its,rv,p,hz⟩:=I.tuple hq;obtain⟨u,hu,ru⟩:=rv.get hx;obtain⟨⟨old,he⟩,hit⟩:=st;have Z:s.heap.IsTuple a its.toArray:=p;have U:a≠it:=λz=>by
   obtain⟨o1,h1,_,_,d1⟩:=Z;obtain⟨o2,h2,_,d2⟩:=hit;rw[z,h2]at h1;cases h1;rw[d2]at d1;cases d1
  have ab:e∉[it,a]:=λz=>by
   have z' : e=it\/e=a:=by simpa using z
   rcases z' with z' | z'
   ·exact hne z'
   ·obtain⟨o1,h1,_,_,d1⟩:=Z;rw[<-z',he]at h1;cases h1;cases d1
  refine wpAny_pyNext_enum_itemD (uC (A:=X.A.in1) (I.ok.hd hc) it a U its.toArray) he ⟨hit,Z⟩ (by have:=(kL.mp hu).1;simpa using this) hne ab λy h1 tk hy ho Q7 hT aw hk=>?_
  have ag:y=u:=by
   have z:its.toArray[i]?=some u:=by simpa using hu
   rw[hy]at z;exact Option.some.inj z
  subst ag;refine⟨_,rfl,wpAny_letOwnedTupleGo_enum ho λh2 SD Y=>?_⟩
  have UB:s.heap.objs.size≠e:=abw (aan he);have ar:h2.get? s.heap.objs.size=some { cls:=.type "tuple",data:=.seq #[.int i tk,y]}:=(Y.2 _ UB).trans hT;refine⟨.ref s.heap.objs.size,upd H s.heap.objs.size (.tup [.int (i:Int),x]),I.yields (wr:=[e,it]) (t':=tk+1) (λb o hb q=>?_) hf (aaf _) ?_,rfl,⟨_,x,rfl,I.fresh,rfl,λys hy=>by rw[I.zd hy hq];exact hx⟩,⟨⟨y,by simpa using SD⟩,?_⟩,λb hb=>?_⟩
  ·have KP:b≠e:=λz=>hb (by simp[z])
   have Q8:b≠it:=λz=>hb (by simp[z])
   exact(Y.2 b KP).trans (hk b o KP Q8 q)
  ·exact⟨dl rfl,[.int i tk,y],.cons ⟨_,rfl⟩ (.cons ru .nil),⟨_,ar,rfl,_,rfl⟩⟩
  ·exact Q7.1.at λo q=>(Y.2 it (aaE hne)).trans q
  ·rw[ah]
   ·exact(hf b hb).1
   ·have O : b=e\/b=it:=by simpa using hb
    rcases O with rfl|rfl
    ·exact aaE UB
    ·obtain⟨o,q,_⟩:=hit;exact aaz (aan q)
 done:=by
  intro X hP hw hK hc i pq s σ H E I hf st hg;subst hP hw hK;obtain⟨xs,hq,hx⟩:=hg;obtain⟨its,rv,p,hz⟩:=I.tuple hq;obtain⟨⟨old,he⟩,hit⟩:=st;have Z:s.heap.IsTuple a its.toArray:=p;have U:a≠it:=λz=>by
   obtain⟨o1,h1,_,_,d1⟩:=Z;obtain⟨o2,h2,_,d2⟩:=hit;rw[z,h2]at h1;cases h1;rw[d2]at d1;cases d1
  obtain⟨f0,f1,f2,f3,f4,f5⟩:=hf it (by simp)
  have hl:=rv.length;have hi:i=its.toArray.size:=by rw[aat];lia
  subst hi;exact wpAny_pyNext_enum_endD (uC (A:=X.A.in1) (I.ok.hd hc) it a U its.toArray) he ⟨hit,Z⟩ λh' eb=>⟨rfl,I.turned (t':=s.toks) (λb o hb e=>eb b o hb e) f0 f1 f3 f4 f5⟩
 self:=λ_ _ _ _ _ st h=>by
  obtain⟨⟨old,he⟩,_⟩:=st;exact wpAny_pyIter_enum he h
section
variable {X:Cx}{elts:List Expr}{n:Nat}{tp:Pos}
def Ri(K:bE)(ta:TA):TI:=λσ H R=>ta σ H λvs H1=>∃a,vs=[.ref a]/\(∃xs,aV K H1 a xs)/\R (HZ K a) H1
def wL(K:bE){a:Expr}{ta:TA}{p pos:Pos}(hg:Gl X "enumerate")(hm:X.mg "enumerate"=none)(ha:PA X [a] ta)(hs:starEach [a] X.env=[(false,eval a X.env)]:=by rfl)(hK:X.K=K:=by rfl):
 PI X (.Tuple elts n tp) (.Call (.Name "enumerate" p) [a] [] pos) (Ri K ta):=by
 subst hK;intro pq s σ H R I h;refine Call_ (mK I hg hm boot_enumerate (abC (cY (ha pos pq s σ H _ I h) λus s1 ⟨vs,H1,O,r1,q1⟩=>?_) hs rfl))
 obtain⟨a,e,⟨xs,hq⟩,q⟩:=q1;subst e;cases r1 with
 | cons r rr =>
   cases rr;cases r;obtain⟨U,rv,pl,hz⟩:=O.tuple hq;refine ER (show s1.heap.IsTuple a U.toArray from pl) λh' he hit ab hk=>?_
   have I2:Inv X pq σ H1 { s1 with heap:=h'}:=O.kept (t':=s1.toks) hk
   refine wpAny_pyIter_enum he ⟨_,[s1.heap.objs.size+1,s1.heap.objs.size],_,_,H1,rfl,I2,ES a _ _ (acT _),⟨⟨_,he⟩,hit⟩,λb hb=>?_,q⟩
   have Y : b=s1.heap.objs.size+1\/b=s1.heap.objs.size:=by simpa using hb
   have Z:s1.heap.objs.size<=b:=by
    rcases Y with rfl|rfl
    ·exact abd _
    ·exact aaf _
   exact O.Ef Z (O.hok.fresh Z)
end
section
variable {K:bE}{a:Addr}{xs:List V}{g:TG}{tt:TT}{te:TE}{n:Nat}{fr:St}{D:Addr}{Q:Hp->Prop}{H1:Hp}
def ET(Pv:Nat->List V->Hp->Prop)(h0:Pv 0 [] H1)(hl:∀i acc H,i<=xs.length->Pv i acc H->aV K H a xs/\H D=some (.lst acc)/\acc.length<=i)(hz:xs.length<=sizeLine)
 (hs:∀i x T acc H,xs[i]?=some x->Pv i acc H->H T=none->g (.ref T) (List.replicate n none++fr) (upd H T (.tup [.int (i:Int),x])) λσ2 H2=>σ2.drop n=fr/\tt σ2 H2 λb H3 =>
  if b=true then te σ2 H3 λv H4=>H4 D=some (.lst acc)/\Pv (i+1) (acc++[v]) (upd H4 D (.lst (acc++[v]))) else Pv (i+1) acc H3)
 (hd:∀acc H,Pv xs.length acc H->Q H):ja (HZ K a) g tt te n fr D Q H1:=by
 refine⟨λi m acc H=>m=xs.length-i/\i<=xs.length/\Pv i acc H,⟨xs.length,by simp,aaF _,h0⟩,?_⟩
 rintro i m acc H ⟨rfl,hi,p⟩;obtain⟨q,U,ha⟩:=hl i acc H hi p;refine⟨U,?_⟩
 by_cases I:i<xs.length
 ·refine .inr ⟨⟨xs,xs[i],q,by simp[I]⟩,by lia,Pv (i+1),λO H' Y=>⟨xs.length-(i+1),by lia,rfl,I,Y⟩,λv H' y=>?_⟩
  obtain⟨T,x,rfl,Z,rfl,y⟩:=y;exact hs i x T acc _ (y xs q) p Z
 ·have e:i=xs.length:=by lia
  subst e;exact .inl ⟨⟨xs,q,rfl⟩,hd acc H p⟩
end
end L2
namespace RM
variable {N:Net}
def Net.cut(N:Net)(C:Nat->Bool):Nat:=Ring.maskOf (λk=>C (N.a k)^^C (N.b k)) N.n
def Net.par(N:Net)(q m:Nat):Bool:=bZ (λk=>q.testBit k&&m.testBit k) N.n
def o6(q r m:Nat):N.par (q^^^r) m=(N.par q m^^N.par r m):=by
 unfold Net.par;rw[<-j8];refine cj λk _=>?_
 rw[aal];cases q.testBit k<;>cases r.testBit k<;>cases m.testBit k<;>rfl
def lZ(m:Nat):N.par 0 m=false:=jP λk _=>by simp
def GO{k:Nat}(h:k<N.n)(m:Nat):N.par (2^k) m=m.testBit k:=by
 unfold Net.par;rw[rh h λj _ hj=>by simp[aaw,aaE hj]]
 simp[aaw]
def AM(C:Nat->Bool)(k:Nat):(N.cut C).testBit k=(decide (k<N.n)&&(C (N.a k)^^C (N.b k))):=Ring.mask_bit _ k _
def Rj(C:Nat->Bool):N.cut C<2^N.n:=Ring.mask_lt _ _
def Ia{C D:Nat->Bool}(h:∀x,x<N.p->C x=D x):N.cut C=N.cut D:=by
 refine aa0 λk=>?_
 rw[AM,AM]
 by_cases hk:k<N.n
 ·rw[h _ (N.al k hk),h _ (N.bl k hk)]
 ·rw[gz hk];rfl
def Co{k:Nat}(hk:k<N.n)(hf:N.nQ k=true):N.ring k=0:=hU (λj hj=>by
 rcases nR hj with e|e
 ·subst e;exact⟨hk,hf⟩
 ·exact e) (o4 hk)
def Ib{m:Nat}(k:Nat):(m^^^N.cut λx=>N.par (N.trail N.n x) m).testBit k=if k<N.n then N.par (N.ring k) m else m.testBit k:=by
 rw[aal,AM]
 by_cases hk:k<N.n
 ·rw[aad hk,eG hk,abo];unfold Net.ring;rw[o6,o6,GO hk];cases m.testBit k<;>cases N.par (N.trail N.n (N.a k)) m<;>cases N.par (N.trail N.n (N.b k)) m<;>rfl
 ·rw[aab hk,gz hk];simp
def Cp{m k:Nat}(hm:m<2^N.n)(h:(m^^^N.cut λx=>N.par (N.trail N.n x) m).testBit k=true):k<N.n/\N.nQ k=false/\N.par (N.ring k) m=true:=by
 rw[Ib]at h
 by_cases hk:k<N.n
 ·rw[aad hk]at h;refine⟨hk,?_,h⟩;cases hf:N.nQ k with
  | false=>rfl
  | true =>
    rw[Co hk hf,lZ]at h;cases h
 ·rw[aab hk]at h;exact absurd (dh hm h) hk
end RM
namespace Ring
def orM(ks:List Nat):Nat:=ks.foldl (λm k=>m ||| 2^k) 0
def Lb(ks:List Nat)(j:Nat):∀m,(ks.foldl (λm k=>m ||| 2^k) m).testBit j=(m.testBit j || decide (j∈ks)):=by
 induction ks with
 | nil=>intro m;simp
 | cons k r I =>
   intro m;rw[abU,I,Nat.testBit_or,aaw]
   by_cases h:k=j
   ·subst h;simp
   ·have h' : ¬ j=k:=λz=>h z.symm
    simp[h,h']
def jG(ks:List Nat)(j:Nat):(orM ks).testBit j=decide (j∈ks):=by
 unfold orM;rw[Lb];simp
def Cq(ks:List Nat){t:Nat}(h:t∉ks):orM (ks++[t])=orM ks^^^2^t:=aa0 λj=>by
 rw[aal,jG,jG,aaw]
 by_cases e:t=j
 ·subst e;simp[h]
 ·have e' : ¬ j=t:=λz=>e z.symm
  simp[e,e']
def EU(f:Nat->Bool)(n:Nat):orM ((List.range n).filter f)=maskOf f n:=aa0 λj=>by
 rw[jG,mask_bit,aa4];simp
def Rk{ks:List Nat}{n:Nat}(h:∀k∈ks,k<n):orM ks<2^n:=RM.dz λk hk=>by
 rw[jG]at hk;exact h k (kK hk)
end Ring
namespace RM
variable {N:Net}
inductive Net.Walk(N:Net):List Nat->Nat->List Nat->Prop
 | one {v:Nat}:Net.Walk N [] v []
 | snoc {pre ks:List Nat} {v w t:Nat} (h:Net.Walk N pre v ks) (ht:t<N.n) (hn:t∉ks) (j:(N.a t=v/\N.b t=w)\/(N.b t=v/\N.a t=w)):Net.Walk N (pre++[v]) w (ks++[t])
def Net.Walk.len{pre ks:List Nat}{v:Nat}(h:N.Walk pre v ks):pre.length=ks.length:=by
 induction h with
 | one=>rfl
 | snoc _ _ _ _ ih=>rw[aaj,aaj,ih];rfl
def Net.Walk.lt{pre ks:List Nat}{v:Nat}(h:N.Walk pre v ks):∀t∈ks,t<N.n:=by
 induction h with
 | one=>exact λt ht=>nomatch ht
 | snoc _ ht _ _ ih =>
   intro s hs;rcases aaH.mp hs with q|q
   ·exact ih s q
   ·have e:=aax.mp q;rw[e];exact ht
def Net.Walk.bd{pre ks:List Nat}{v:Nat}(h:N.Walk pre v ks):∀i u,(pre++[v])[i]?=some u->∀x,N.bd (Ring.orM (ks.drop i)) x=(decide (u=x)^^decide (v=x)):=by
 induction h with
 | one =>
   rename_i v
   intro i u I x
   match i,I with
   | 0,I =>
     have e:v=u:=Option.some.inj I;subst e;show N.bd 0 x=_;rw[oZ];simp
   | i+1,I=>simp at I
 | snoc hw ht hn j ih =>
   rename_i pre ks v w t
   intro i u I x;have hl:=hw.len
   by_cases hi:i<(pre++[v]).length
   ·rw[aaP hi]at I;have U : i<=ks.length:=by rw[aaj]at hi;simp at hi;lia
    rw[List.drop_append_of_le_length U,Ring.Cq _ (λz=>hn (ac8 z)),iE,ih i u I x,nO ht]
    have e:N.inc t x=(decide (v=x)^^decide (w=x)):=by
     unfold Net.inc;rcases j with⟨Y,Z⟩|⟨Y,Z⟩
     ·rw[Y,Z]
     ·rw[Y,Z];exact Bool.xor_comm _ _
    rw[e];cases decide (u=x)<;>cases decide (v=x)<;>cases decide (w=x)<;>rfl
   ·have O:i=(pre++[v]).length:=by
     have:=(kL.mp I).1;rw[aaj]at this;simp at this hi ⊢
     lia
    rw[O,aaS (aaf _),acy]at I;have e:w=u:=Option.some.inj I;subst e;have:(ks++[t]).drop i=[]:=List.drop_eq_nil_of_le (by rw[O,aaj,aaj];simp;lia)
    rw[this];show N.bd 0 x=_;rw[oZ];simp
structure Way(N:Net)(jm:Nat)(pre:List Nat)(v:Nat)(ks:List Nat)(left:Nat):Prop where
 w:N.Walk pre v ks
 lt:jm<2^N.n
 ev:N.gh jm
 sub:∀t∈ks,jm.testBit t=true
 AN:left=jm^^^Ring.orM ks
 nd:pre.Nodup
 ZC:∀x∈pre++[v],x<N.p
 st:pre=[]->∃t,t<N.n/\jm.testBit t=true/\N.a t=v
section
variable {jm left v:Nat}{pre ks:List Nat}
def Way.start{t:Nat}(lt:jm<2^N.n)(ev:N.gh jm)(hb:jm.testBit t=true):Way N jm [] (N.a t) [] jm:=by
 have ht:=dh lt hb;refine⟨.one,lt,ev,(λ_ z=>nomatch z),?_,List.Pairwise.nil,λx hx=>?_,λ_=>⟨t,ht,hb,rfl⟩⟩
 ·show jm=jm^^^0;simp
 ·have e:x=N.a t:=by simpa using hx
  rw[e];exact N.al t ht
def Way.rE(h:Way N jm pre v ks left)(t:Nat):left.testBit t=(jm.testBit t && !decide (t∈ks)):=by
 rw[h.AN,aal,Ring.jG]
 by_cases hm:t∈ks
 ·rw[h.sub t hm,eG hm];rfl
 ·rw[gz hm];simp
def Way.N9(h:Way N jm pre v ks left):left<2^N.n:=dz λk hk=>by
 rw[h.rE,aaJ]at hk;exact dh h.lt hk.1
def Way.on(h:Way N jm pre v ks left)(hv:v∉pre):∃t,left.testBit t=true/\(N.a t=v\/N.b t=v):=by
 cases pre with
 | nil =>
   obtain⟨t,ht,hb,e⟩:=h.st rfl;have hk:ks=[]:=List.length_eq_zero_iff.mp (by rw[<-h.w.len];rfl)
   refine⟨t,?_,.inl e⟩;rw[h.rE,hb,hk];simp
 | cons u r =>
   have hb:=h.w.bd 0 u rfl v;rw[List.drop_zero]at hb;have Y : ¬ u=v:=λz=>hv (by rw[z];exact aaq)
   rw[gz Y,eG rfl]at hb;have I:v<N.p:=h.ZC v (jF _ (aax.mpr rfl));have U:N.bd left v=true:=by
    rw[h.AN,iE,h.ev v I,hb];rfl
   rw[Pp]at U;have Z:=kK U;obtain⟨k,hk,O,hx⟩:=AL (N:=N) (m:=left) (x:=v) (by lia)
   exact⟨k,O,hx⟩
def Way.go(h:Way N jm pre v ks left)(hv:v∉pre){t w:Nat}(hb:left.testBit t=true)(j:(N.a t=v/\N.b t=w)\/(N.b t=v/\N.a t=w)):
 Way N jm (pre++[v]) w (ks++[t]) (left^^^2^t):=by
 rw[h.rE,aaJ]at hb;have hn:t∉ks:=by simpa using hb.2
 have ht:=dh h.lt hb.1;refine⟨.snoc h.w ht hn j,h.lt,h.ev,λs hs=>?_,?_,?_,λx hx=>?_,λz=>?_⟩
 ·rcases aaH.mp hs with q|q
  ·exact h.sub s q
  ·rw[aax.mp q];exact hb.1
 ·rw[Ring.Cq _ hn,h.AN,aa9]
 ·refine adk.mpr ⟨h.nd,by simp,λx hx y O=>?_⟩
  have e:y=v:=by simpa using O
  rw[e];exact λz=>hv (z▸hx)
 ·rcases aaH.mp hx with q|q
  ·exact h.ZC x q
  ·have e:x=w:=by simpa using q
   rw[e];rcases j with⟨_,I⟩|⟨_,I⟩
   ·rw[<-I];exact N.bl t ht
   ·rw[<-I];exact N.al t ht
 ·simp at z
def Way.closes(h:Way N jm pre v ks left){i:Nat}(hi:pre[i]?=some v):Ring.orM (ks.drop i)≠0/\N.gh (Ring.orM (ks.drop i))/\Ring.orM (ks.drop i)<2^N.n/\∀k,(Ring.orM (ks.drop i)).testBit k=true->jm.testBit k=true:=by
 have U:=(kL.mp hi).1;have Y:=h.w.len;have O:∀k,(Ring.orM (ks.drop i)).testBit k=true->k∈ks:=λk hk=>by
  rw[Ring.jG]at hk;exact ac8 (kK hk)
 refine⟨λz=>?_,λx _=>?_,dz λk hk=>h.w.lt k (O k hk),λk hk=>h.sub k (O k hk)⟩
 ·have I:ks.drop i≠[]:=λq=>by
   have:=List.drop_eq_nil_iff.mp q
   lia
  obtain⟨k,hk⟩:=List.exists_mem_of_ne_nil _ I;have:=Ring.jG (ks.drop i) k;rw[z,eG hk]at this;simp at this
 ·rw[h.w.bd i v (by rw[aaP U];exact hi) x]
  simp
end
end RM
namespace Ring
open PySem L2
def AO{p:Nat}{ts:List cP}{g:aD p ts}{q m:Nat}(hm:m<2^ts.length):decide ((bx ((q&&&m:Nat):Int)).length%2=1)=g.N.par q m:=by
 rw[wJ (n:=ts.length) (acf q hm)];unfold RM.Net.par;rw[RM.wG];have e:RM.cnt (λk=>(q&&&m).testBit k) ts.length=RM.cnt (λk=>q.testBit k&&m.testBit k) g.N.n:=RM.lX λk _=>by rw[Nat.testBit_and]
 rw[e]
def xorL(rs:List Nat):Nat:=rs.foldl (λm r=>m^^^r) 0
def Ic(rs:List Nat):∀m,rs.foldl (λm r=>m^^^r) m=m^^^xorL rs:=by
 induction rs with
 | nil=>intro m;show m=m^^^0;simp
 | cons r rs I =>
   intro m;show rs.foldl (λm r=>m^^^r) (m^^^r)=m^^^rs.foldl (λm r=>m^^^r) (0^^^r)
   rw[I,I,aba,aa9]
def xorL_cons(rs:List Nat)(r:Nat):xorL (r::rs)=r^^^xorL rs:=by
 show rs.foldl (λm r=>m^^^r) (0^^^r)=_
 rw[Ic,aba]
def Lc(l:List Nat){i:Nat}(h:i<=l.length):yp (aB l) (some (i:Int)) none=aB (l.drop i):=by
 unfold yp;rw[HT.NF,HT.Ku,aG,acu h];unfold aB;rw[<-List.map_drop,<-List.map_take,acK (by rw[acS];lia)]
end Ring
namespace L2
open PySem PySem.Spec PyProof.Rows
section
variable {κ:Type}[DecidableEq κ]
def dF(kvs:List (κ×V))(k:κ):Option V:=(kvs.find? λkv=>decide (kv.1=k)).map (·.2)
def putK(kvs:List (κ×V))(k:κ)(v:V):List (κ×V) :=
 if(kvs.any λkv=>decide (kv.1=k))=true then kvs.map (λkv=>if kv.1=k then(kv.1,v) else kv) else kvs++[(k,v)]
def bL(kvs:List (κ×V))(k:κ):List (κ×V):=kvs.filter λkv=>decide (kv.1≠k)
def wM{k:κ}:dF ([]:List (κ×V)) k=none:=rfl
def cH{p:κ×V}{r:List (κ×V)}{k:κ}(e:p.1=k):dF (p::r) k=some p.2:=by simp[dF,acg,e]
def cf{p:κ×V}{r:List (κ×V)}{k:κ}(e : ¬ p.1=k):dF (p::r) k=dF r k:=by simp[dF,acg,e]
def je(k:κ):∀kvs:List (κ×V),(kvs.any λkv=>decide (kv.1=k))=(dF kvs k).isSome
 | []=>rfl
 | p::r=>by
   rw[acO]
   by_cases e:p.1=k
   ·simp only[cH e,eG e,Bool.true_or,Option.isSome_some]
   ·rw[cf e,gz e,Bool.false_or];exact je k r
def Cs(k j:κ)(y:V):∀kvs:List (κ×V),dF (kvs.map λkv=>if kv.1=k then(kv.1,y) else kv) j=(dF kvs j).map λx=>if j=k then y else x
 | []=>rfl
 | p::r=>by
   have I:=Cs k j y r;rw[aay]
   by_cases h:p.1=k
   ·rw[aad h]
    by_cases e:p.1=j
    ·rw[cH (p:=(p.1,y)) e,cH e,abW,aad (e.symm.trans h)]
    ·rw[cf (p:=(p.1,y)) e,cf e,I]
   ·rw[aab h]
    by_cases e:p.1=j
    ·rw[cH (p:=p) e,cH e,abW,aab (λz=>h (e.trans z))]
    ·rw[cf (p:=p) e,cf e,I]
def zI(k j:κ)(y:V):∀kvs:List (κ×V),dF kvs k=none->dF (kvs++[(k,y)]) j=if j=k then some y else dF kvs j
 | [],_=>by
   by_cases e:k=j
   ·rw[aad e.symm];exact cH (p:=(k,y)) e
   ·rw[aab (λz=>e z.symm)];exact cf (p:=(k,y)) e
 | p::r,hn=>by
   rw[List.cons_append];have hk : ¬ p.1=k:=λz=>by rw[cH z]at hn;cases hn
   rw[cf hk]at hn;have I:=zI k j y r hn
   by_cases e:p.1=j
   ·rw[cH e,cH e,aab (λz=>hk (e.trans z))]
   ·rw[cf e,cf e,I]
def Ld(kvs:List (κ×V))(k j:κ)(y:V):dF (putK kvs k y) j=if j=k then some y else dF kvs j:=by
 unfold putK
 by_cases a:(kvs.any λkv=>decide (kv.1=k))=true
 ·rw[aad a,Cs];rw[je]at a
  by_cases e:j=k
  ·obtain⟨x,hx⟩:=Option.isSome_iff_exists.mp a;rw[aad e,e,hx,abW,aad rfl]
  ·rw[aab e];cases dF kvs j with
   | none=>rfl
   | some x=>rw[abW,aab e]
 ·rw[aab a];refine zI k j y kvs ?_;rw[je]at a;cases q:dF kvs k with
  | none=>rfl
  | some x=>rw[q]at a;exact(a rfl).elim
def uD(kvs:List (κ×V))(k:κ)(v:V):(putK kvs k v).length<=kvs.length+1:=by
 unfold putK
 split
 ·rw[aaa];lia
 ·rw[aaj,aaZ,acd];lia
def wN{kvs:List (κ×V)}{k:κ}(v:V)(h:dF kvs k=none):putK kvs k v=kvs++[(k,v)]:=by
 unfold putK;rw[je,h];exact aab (by decide)
def lM.sP{o:Option V}{u:Option Value}(r:lM o u):o.isSome=u.isSome:=by
 cases o with
 | none=>cases u with
   | none=>rfl
   | some _=>exact(show False from r).elim
 | some _=>cases u with
   | none=>exact(show False from r).elim
   | some _=>rfl
def lM.getD{o:Option V}{u:Option Value}{d:V}{d' : Value}(r:lM o u)(rd:RelV d d'):RelV (o.getD d) (u.getD d'):=by
 cases o with
 | none=>cases u with
   | none=>exact rd
   | some _=>exact(show False from r).elim
 | some _=>cases u with
   | none=>exact(show False from r).elim
   | some _=>exact r
def KV.val{kvs:List (κ×V)}{vs:List (κ×Value)}(r:KV kvs vs)(k:κ):lM (dF kvs k) (valueAt vs k):=by
 unfold KV at r
 induction r with
 | nil=>exact True.intro
 | @cons p q ps qs h t ih =>
   obtain⟨h1,h2⟩:=h
   by_cases e:p.1=k
   ·have e' : q.1=k:=h1.symm.trans e;have b:valueAt (q::qs) k=some q.2:=by simp[valueAt,acg,e']
    rw[cH e,b];exact h2
   ·have e' : ¬ q.1=k:=λz=>e (h1.trans z)
    have b:valueAt (q::qs) k=valueAt qs k:=by simp[valueAt,acg,e']
    rw[cf e,b];exact ih
def KV.any{kvs:List (κ×V)}{vs:List (κ×Value)}(r:KV kvs vs)(k:κ):(kvs.any λkv=>decide (kv.1=k))=vs.any λkv=>decide (kv.1=k):=by
 unfold KV at r
 induction r with
 | nil=>rfl
 | cons h t I=>rw[acO,acO,I,h.1]
def KV.repl{kvs:List (κ×V)}{vs:List (κ×Value)}(r:KV kvs vs)(k:κ){y:V}{u:Value}(ry:RelV y u):
 KV (kvs.map λkv=>if kv.1=k then(kv.1,y) else kv) (vs.map λkv=>if kv.1=k then(kv.1,u) else kv):=by
 unfold KV at r ⊢
 induction r with
 | nil=>exact .nil
 | @cons p q ps qs h t ih =>
   rw[aay,aay];refine .cons ?_ ih;obtain⟨h1,h2⟩:=h
   by_cases e:p.1=k
   ·rw[aad e,aad (h1.symm.trans e)];exact⟨h1,ry⟩
   ·rw[aab e,aab (λz=>e (h1.trans z))];exact⟨h1,h2⟩
def KV.put{kvs:List (κ×V)}{vs:List (κ×Value)}(r:KV kvs vs)(k:κ){y:V}{u:Value}(ry:RelV y u):KV (putK kvs k y) (stored vs k u):=by
 unfold putK stored;rw[r.any k]
 by_cases e:(vs.any λkv=>decide (kv.1=k))=true
 ·rw[aad e,aad e];exact r.repl k ry
 ·rw[aab e,aab e];exact Paired.snoc r ⟨rfl,ry⟩
def KV.drop{kvs:List (κ×V)}{vs:List (κ×Value)}(r:KV kvs vs)(k:κ):KV (bL kvs k) (without vs k):=by
 unfold KV at r ⊢;unfold bL without
 induction r with
 | nil=>exact .nil
 | @cons p q ps qs h t ih =>
   obtain⟨h1,h2⟩:=h;rw[aaD,aaD]
   by_cases e:p.1=k
   ·have a : ¬ decide (p.1≠k)=true:=by simp[e]
    have b : ¬ decide (q.1≠k)=true:=by simp[h1.symm.trans e]
    rw[aab a,aab b];exact ih
   ·have e' : ¬ q.1=k:=λz=>e (h1.trans z)
    have a:decide (p.1≠k)=true:=by simp[e]
    have b:decide (q.1≠k)=true:=by simp[e']
    rw[aad a,aad b];exact .cons ⟨h1,h2⟩ ih
def KV.keys{kvs:List (κ×V)}{vs:List (κ×Value)}(r:KV kvs vs):kvs.map (·.1)=vs.map (·.1):=by
 unfold KV at r
 induction r with
 | nil=>rfl
 | cons h t I=>rw[aay,aay,I,h.1]
def KV.length{kvs:List (κ×V)}{vs:List (κ×Value)}(r:KV kvs vs):kvs.length=vs.length:=Paired.length r
def Ct(kvs:List (κ×V))(k:κ):(bL kvs k).length<=kvs.length:=aaI _ _
end
def zJ{P:Program}{w:World}{k:Key}{u:Value}(r:RelV (kV k) u):(cI P w).is k u=true:=by
 cases k with
 | inl i=>obtain⟨t,e⟩:=(show ∃t,u=Value.int i t from r);subst e;exact BQ P w i t
 | inr x=>obtain⟨t,e⟩:=(show ∃t,u=Value.str x t from r);subst e;exact BR P w x t
def zK{P:Program}{w:World}:∀{ks:List Key} {us:List Value},Vals (ks.map kV) us->ItemsAre (cI P w) ks us
 | [],_,r=>by rw[List.map_nil]at r;cases r;exact .nil
 | k::ks,_,r=>by
   rw[aay]at r;cases r with
   | cons h t=>exact .cons (zJ h) (zK t)
abbrev KT(H:Hp):List (List Key×V)->List (List Key×Addr×Value)->Prop:=Paired λp q=>p.1=q.1/\H q.2.1=some (.tup (p.1.map kV))/\RelV p.2 q.2.2
def KT.val{H:Hp}{kvs:List (List Key×V)}{xs:List (List Key×Addr×Value)}(r:KT H kvs xs)(k:List Key):lM (dF kvs k) ((atKey xs k).map (·.2)):=by
 induction r with
 | nil=>exact True.intro
 | @cons p q ps qs h t ih =>
   obtain⟨h1,_,h2⟩:=h
   by_cases e:p.1=k
   ·have e' : q.1=k:=h1.symm.trans e;have b:atKey (q::qs) k=some q.2:=by simp[atKey,acg,e']
    rw[cH e,b];exact h2
   ·have e' : ¬ q.1=k:=λz=>e (h1.trans z)
    have b:atKey (q::qs) k=atKey qs k:=by simp[atKey,acg,e']
    rw[cf e,b];exact ih
def KT.repl{H:Hp}{kvs:List (List Key×V)}{xs:List (List Key×Addr×Value)}(r:KT H kvs xs)(k:List Key){y:V}{u:Value}(ry:RelV y u):
 KT H (kvs.map λkv=>if kv.1=k then(kv.1,y) else kv) (xs.map (putAt k u)):=by
 induction r with
 | nil=>exact .nil
 | @cons p q ps qs h t ih =>
   rw[aay,aay];refine .cons ?_ ih;obtain⟨h1,h2,I⟩:=h;unfold putAt
   by_cases e:p.1=k
   ·rw[aad e,aad (h1.symm.trans e)];exact⟨h1,h2,ry⟩
   ·rw[aab e,aab (λz=>e (h1.trans z))];exact⟨h1,h2,I⟩
def KT.put{H:Hp}{kvs:List (List Key×V)}{xs:List (List Key×Addr×Value)}(r:KT H kvs xs)(k:List Key){b:Addr}{y:V}{u:Value}(hb:H b=some (.tup (k.map kV)))(ry:RelV y u):
 KT H (putK kvs k y) (storedH xs k b u):=by
 have e:(kvs.any λkv=>decide (kv.1=k))=(atKey xs k).isSome:=by
  rw[je,(r.val k).sP,Option.isSome_map]
 unfold putK storedH;rw[e]
 by_cases q:(atKey xs k).isSome=true
 ·rw[aad q,aad q];exact r.repl k ry
 ·rw[aab q,aab q];exact Paired.snoc r ⟨rfl,hb,ry⟩
def KT.keeps{H H' : Hp}{kvs:List (List Key×V)}{xs:List (List Key×Addr×Value)}(r:KT H kvs xs)(ht:∀b ys,H b=some (.tup ys)->H' b=some (.tup ys)):KT H' kvs xs :=
 Paired.Ah r λ_ _ z=>⟨z.1,ht _ _ z.2.1,z.2.2⟩
section
variable {P:Program}{w:World}{H:Hp}{h:Heap}{a:Addr}
def Pw{u:HO}(ok:nF P w H h)(e:Rd H a u):bz P w H h a u:=e.ok ok
def zL{kvs:List (Key×V)}(ok:nF P w H h)(e:Rd H a (.dK kvs)):kvs.length<=sizeLine/\(a==sysModules)=false/\∃vs,KV kvs vs/\h.DictOf (cI P w) a vs :=
 show bz P w H h a (.dK kvs) from Pw ok e
def Le{kvs:List (Key×V)}(ok:nF P w H h)(e:H a=some (.dK kvs)):kvs.length<=sizeLine/\(a==sysModules)=false/\∃vs,KV kvs vs/\h.DictOf (cI P w) a vs:=zL ok (.inl e)
def qw{ks:List Key}(ok:nF P w H h)(e:H a=some (.tup (ks.map kV))):(tupleKind (cI P w)).is h ks a:=by
 obtain⟨_,I,r,o,h1,h2,n,O⟩:=(show bz P w H h a (.tup (ks.map kV)) from ok a _ e)
 exact⟨o,I.toArray,n,h1,h2,O,by simpa using zK r⟩
def zM{kvs:List (List Key×V)}(ok:nF P w H h)(e:Rd H a (.dT kvs)):kvs.length<=sizeLine/\(a==sysModules)=false/\
 ∃xs,KT H kvs xs/\h.DictOfH (tupleKind (cI P w)) a xs:=by
 obtain⟨z,y,xs,r,o,es,ep,h1,h2,I,O,U⟩:=(show bz P w H h a (.dT kvs) from Pw ok e)
 refine⟨z,y,xs,r,o,es,ep,h1,h2,I,O,λx hx=>?_,U⟩
 have all:∀{l:List (List Key×V)} {m:List (List Key×Addr×Value)},KT H l m->∀x∈m,(tupleKind (cI P w)).is h x.1 x.2.1:=by
  intro l m q
  induction q with
  | nil=>intro x hx;exact nomatch hx
  | @cons p q ps qs hq t ih =>
    intro x hx;rcases aao.mp hx with e|hx
    ·subst e;exact qw ok (by rw[<-hq.1];exact hq.2.1)
    ·exact ih x hx
 exact all r x hx
def Lf{kvs:List (List Key×V)}(ok:nF P w H h)(e:H a=some (.dT kvs)):kvs.length<=sizeLine/\(a==sysModules)=false/\
 ∃xs,KT H kvs xs/\h.DictOfH (tupleKind (cI P w)) a xs:=zM ok (.inl e)
end
def wO(H:Hp)(a:Addr)(y:V)(r:Option V):Prop :=
 (∃kvs k,Rd H a (.dK kvs)/\y=kV k/\r=dF kvs k)\/∃kvs k b,Rd H a (.dT kvs)/\y = .ref b/\H b=some (.tup (k.map kV))/\r=dF kvs k
def AQ(H:Hp)(a:Addr)(y v:V)(H' : Hp):Prop :=
 (∃kvs k,H a=some (.dK kvs)/\y=kV k/\kvs.length<sizeLine/\H' = upd H a (.dK (putK kvs k v)))\/
 ∃kvs k b,H a=some (.dT kvs)/\y = .ref b/\H b=some (.tup (k.map kV))/\kvs.length<sizeLine/\H' = upd H a (.dT (putK kvs k v))
def wO.k{H:Hp}{a:Addr}{kvs:List (Key×V)}{k:Key}(e:H a=some (.dK kvs)):wO H a (kV k) (dF kvs k):=.inl ⟨kvs,k,.inl e,rfl,rfl⟩
def AQ.k{H:Hp}{a:Addr}{kvs:List (Key×V)}{k:Key}{v:V}(e:H a=some (.dK kvs))(hl:kvs.length<sizeLine):AQ H a (kV k) v (upd H a (.dK (putK kvs k v))):=.inl ⟨kvs,k,e,rfl,hl,rfl⟩
def AQ.t{H:Hp}{a b:Addr}{kvs:List (List Key×V)}{k:List Key}{v:V}(e:H a=some (.dT kvs))(eb:H b=some (.tup (k.map kV)))(hl:kvs.length<sizeLine):
 AQ H a (.ref b) v (upd H a (.dT (putK kvs k v))):=.inr ⟨kvs,k,b,e,rfl,eb,hl,rfl⟩
section
variable {X:Cx}{pq:aX}{σ:St}{H:Hp}{s:Shared}{a:Addr}{y v:V}{u r:Value}{o:Option V}{A:Around}{E:dD}
def Inv.big(I:Inv X pq σ H s):sysModules<s.heap.objs.size:=by
 have h:mainGlobals<s.heap.objs.size:=(I.mod.glob.keeps I.bk).lt;exact Nat.lt_trans (by decide) h
def Ie{Q:dD}(hu:A.units+1<cLine)(I:Inv X pq σ H s)(g:wO H a y (some v))(ry:RelV y u)(h:∀O s',Inv X pq σ H s'->RelV v O->Q O s'):
 wpAny (model X.prog X.w) A (getItem (.ref a) u) Q E s:=by
 rcases g with⟨kvs,k,e,U,l⟩|⟨kvs,k,b,e,U,Z,l⟩
 ·subst U;obtain⟨z,hd,vs,rel,Y⟩:=zL I.hok e;obtain⟨O,hw,rw'⟩:=lM.some_of (v:=v) (o:=valueAt vs k) (by rw[l];exact rel.val k)
  exact wpAny_getItem_of (zJ ry) Y.mapOf hw (h O _ (I.tok _) rw')
 ·subst U;cases(show u=Value.ref b from ry)
  obtain⟨z,hd,xs,rel,Y⟩:=zM I.hok e;obtain⟨O,hw,rw'⟩:=lM.some_of (v:=v) (o:=(atKey xs k).map (·.2)) (by rw[l];exact rel.val k)
  obtain⟨p,hp,JP⟩:=uQ.mp hw;refine wpAny_getItem_heap (tupleKind_room_in1 hu) (qw I.hok Z) Y hp ?_;rw[JP];exact h O _ (I.tok _) rw'
def Oa{Q:dD}(hu:A.units+1<cLine)(I:Inv X pq σ H s)(g:wO H a y o)(ry:RelV y u)(h:∀s',Inv X pq σ H s'->Q (.bool (!o.isSome)) s'):
 wpAny (model X.prog X.w) A (compareOp .NotIn u (.ref a)) Q E s:=by
 rcases g with⟨kvs,k,e,O,l⟩|⟨kvs,k,b,e,O,Y,l⟩
 ·subst O;obtain⟨z,hd,vs,rel,U⟩:=zL I.hok e;refine wpAny_notIn_of (zJ ry) hd U.mapOf ?_;rw[<-(rel.val k).sP,<-l];exact h _ (I.tok _)
 ·subst O;cases(show u=Value.ref b from ry)
  obtain⟨z,hd,xs,rel,U⟩:=zM I.hok e;refine wpAny_notIn_heap (tupleKind_room_in1 hu) (qw I.hok Y) hd U ?_;have q:=(rel.val k).sP;rw[Option.isSome_map]at q;rw[<-q,<-l];exact h _ (I.tok _)
def rF{h' : Heap}{t' : Nat}{ob:HO}(I:Inv X pq σ H s)(mu:Tf (H a))(hs:Heap.SameBut a s.heap h')(he:∃q,h'.get? a=some q)(new:bz X.prog X.w (upd H a ob) h' a ob):
 Inv X pq σ (upd H a ob) { s with heap:=h',toks:=t'} :=
 I.write (x:=a) (e:=a) mu (.inl rfl) (λb q hb z=>(hs.2 b hb).trans z) he new
def Lg{P:Program}{w:World}{H' : Hp}{h' : Heap}{kvs:List (Key×V)}{vs:List (Key×Value)}(z:kvs.length<=sizeLine)(hd:(a==sysModules)=false)(rel:KV kvs vs)(dd:h'.DictOf (cI P w) a vs):
 bz P w H' h' a (.dK kvs):=⟨z,hd,vs,rel,dd⟩
def Ig{H' : Hp}{Q:Unit->Shared->Prop}(hu:A.units+1<cLine)(I:Inv X pq σ H s)(g:AQ H a y v H')(ry:RelV y u)(rv:RelV v r)(h:∀s',Inv X pq σ H' s'->Q () s'):
 wpAny (model X.prog X.w) A (setItem (.ref a) u r) Q E s:=by
 rcases g with⟨kvs,k,e,Y,l,Z⟩|⟨kvs,k,b,e,Y,eb,l,Z⟩
 ·subst Y Z;obtain⟨z,hd,vs,rel,dd⟩:=Le I.hok e;have hz:vs.length<=sizeLine:=by rw[<-rel.length];exact z
  have hl:(putK kvs k v).length<=sizeLine:=by have:=uD kvs k v;lia
  refine wpAny_setItem_pairs (hsz:=hz) (zJ ry) dd λh' O hs=>h _ ?_
  have he:∃q,h'.get? a=some q:=let⟨q,_,_,U,_⟩:=O;⟨q,U⟩;exact rF I (by rw[e];exact True.intro) hs he (Lg hl hd (rel.put k rv) O)
 ·subst Y Z;cases(show u=Value.ref b from ry)
  obtain⟨z,hd,xs,rel,dd⟩:=Lf I.hok e;have hz:xs.length<=sizeLine:=by rw[<-Paired.length rel];exact z
  have hl:(putK kvs k v).length<=sizeLine:=by have:=uD kvs k v;lia
  refine wpAny_setItem_heap (hsz:=hz) (tupleKind_room_in1 hu) (qw I.hok eb) dd λh' O hs=>h _ ?_
  obtain⟨q,es,ep,U,h2,h3,h4,_,h5⟩:=O;refine rF I (by rw[e];exact True.intro) hs ⟨q,U⟩ ⟨hl,hd,_,(rel.put k eb rv).keeps λc ys ec=>?_,q,es,ep,U,h2,h3,h4,h5⟩
  rw[ah (aP ec e (λz=>nomatch z))]
  exact ec
end
section
variable {X:Cx}{pq:aX}{σ:St}{H:Hp}{s:Shared}{a:Addr}{kvs:List (Key×V)}{k:Key}{u:Value}{A:Around}{E:dD}
def UH{v:V}{more:List Value}{Q:dD}(I:Inv X pq σ H s)(e:H a=some (.dK kvs))(ry:RelV (kV k) u)(l:dF kvs k=some v)(hm:more=[]\/∃x,more=[x])
 (h:∀O s',Inv X pq σ (upd H a (.dK (bL kvs k))) s'->RelV v O->Q O s'):wpAny (model X.prog X.w) A (call (.builtin "dict.pop") (.ref a::u::more)) Q E s:=by
 obtain⟨z,hd,vs,rel,U⟩:=Le I.hok e;obtain⟨O,hw,rw'⟩:=lM.some_of (v:=v) (o:=valueAt vs k) (by rw[<-l];exact rel.val k)
 have Z:(keyPart u).isSome=true:=by
  cases k with
  | inl i=>obtain⟨t,q⟩:=(show ∃t,u=Value.int i t from ry);subst q;rfl
  | inr x=>obtain⟨t,q⟩:=(show ∃t,u=Value.str x t from ry);subst q;rfl
 have ha:argsOk "dict.pop" ⟨.ref a::u::more,[]⟩:=by
  rcases hm with q|⟨x,q⟩
  ·subst q;exact PySem.F.args_dict_pop_2 _ _
  ·subst q;exact PySem.F.args_dict_pop_3 _ _ _
 refine call_meetsIn acn U.typeIs PySem.F.entry_dict_pop ha (meets_dict_pop_there (cI X.prog X.w) a (zJ ry) more hm Z)
  ⟨vs,O,U,by rw[<-rel.length];exact z,hw,λh' Y hs=>h O _ ?_ rw'⟩
 have he:∃q,h'.get? a=some q:=let⟨q,_,_,hq,_⟩:=Y;⟨q,hq⟩;exact rF I (by rw[e];exact True.intro) hs he (Lg (aaB (Ct kvs k) z) hd (rel.drop k) Y)
end
def UI(i:Expr):Prop:=∀I O,subscripted i false I O=operate [I,O] (getItem I O)
def Ob{prog:Program}{w:World}{A:Around}{E:dD}{s:Shared}{env:Env}{value slice:Expr}{pos:Pos}{T id:String}{Q:dD}
 (hl:typeLookup (.type T) "__getitem__"=pure (some (.builtin id))) (hs:UI slice)
 (h:wpAny (model prog w) A (eval value env) (λo U=>wpAny (model prog w) A (eval slice env) (λi I=>I.TypeIs o T/\wpAny (model prog w) A (getItem o i) Q E I) E U) E s) :
 wpAny (model prog w) A (eval (.Subscript value slice pos) env) Q E s:=by
 refine Subscript_ (aaG h (λo U h₁=>aaG h₁ (λi I O=>?_) λ_ _ x=>x) λ_ _ x=>x)
 obtain⟨Y,O⟩:=O;unfold subscriptTail;refine aW ?_;rw[getitemInPython_of_ne Y.not_modules];refine aW (wpAny_specialOf Y hl ?_);have fin:wpAny (model prog w) A (subscripted slice false o i) (λr Z=>wpAny (model prog w) A (letTemporaryGo value o r >>= λ_=>pure r) Q E Z) E I:=by
  rw[hs o i];exact wpAny_operating (aaG O (λr Z h₃=>aW (wpAny_letTemporaryGo (aai h₃))) λ_ _ x=>x)
 first
  | exact aai (aW fin)
  | exact aW (aai (aW fin))
  | exact aW fin
def Cv{X:Cx}{pq:aX}{σ:St}{H:Hp}{s:Shared}{a:Addr}{y:V}{o:Option V}(I:Inv X pq σ H s)(g:wO H a y o):s.TypeIs (.ref a) "dict":=by
 rcases g with⟨kvs,k,e,_,_⟩|⟨kvs,k,b,e,_,_,_⟩
 ·obtain⟨_,_,vs,_,O⟩:=zL I.hok e;exact O.typeIs
 ·obtain⟨_,_,xs,_,O⟩:=zM I.hok e;exact O.typeIs
def UJ(td ty:TE):TE:=λσ H Q=>td σ H λx H1=>ty σ H1 λy H2=>∃a v,x = .ref a/\wO H2 a y (some v)/\Q v H2
def Oc(ty td:TE):TE:=λσ H Q=>ty σ H λy H1=>td σ H1 λx H2=>∃a o,x = .ref a/\wO H2 a y o/\Q (.bl (!o.isSome)) H2
def UK(td ty tv:TE):TS:=λD σ H=>tv σ H λv H1=>td σ H1 λx H2=>ty σ H2 λy H3=>∃a H4,x = .ref a/\AQ H3 a y v H4/\D.nx σ H4
section
variable {X:Cx}{o i e value:Expr}{pos pos' tpos:Pos}{td ty tv:TE}
def GP(hu:X.A.units+1<cLine)(ho:PE X o td)(hi:PE X i ty)(hs:UI i):PE X (.Subscript o i pos) (UJ td ty):=by
 intro pq s σ H Q I h;refine Ob PySem.F.slot_dict_getitem.lookup hs (cY (ho pq s σ H _ I h) λu s1 ⟨x,H1,Y,rx,Z⟩=>cY (hi pq s1 σ H1 _ Y Z) λiv s2 ⟨y,H2,U,ry,a,v,ex,g,q2⟩=>?_)
 subst ex;obtain rfl:u=Value.ref a:=rx;exact⟨Cv U g,Ie hu U g ry λw' s3 I3 O=>⟨v,H2,I3,O,q2⟩⟩
def Ih(hu:X.A.units+1<cLine)(hi:PE X i ty)(ho:PE X o td):PC X .NotIn i o (Oc ty td):=by
 intro pq s σ H Q I h;refine cY (hi pq s σ H _ I h) λiv s1 ⟨y,H1,O,U,Y⟩=>cY (ho pq s1 σ H1 _ O Y) λu s2 ⟨x,H2,Z,rx,a,ov,ex,g,q2⟩=>?_
 subst ex;obtain rfl:u=Value.ref a:=rx;exact Oa hu Z g U λs3 I3=>⟨.bl (!ov.isSome),H2,I3,rfl,q2⟩
def AR(hu:X.A.units+1<cLine)(ho:PE X o td)(hi:PE X i ty)(hv:PE X value tv)(hs:swapsWith value (some (.Subscript o i pos')) pos.line X.env=pure false):
 PS X (.Assign [.Subscript o i pos'] value pos) (UK td ty tv):=by
 intro pq s σ H D I h;refine wpAny_Assign_Subscript (cY (hv pq s σ H _ I h) λr s1 ⟨v,H1,O,U,Y⟩=>cY (ho pq s1 σ H1 _ O Y) λu s2 ⟨x,H2,Z,rx,q2⟩=>cY (hi pq s2 σ H2 _ Z q2) λiv s3 ⟨y,H3,I3,ry,a,H4,ex,g,q3⟩=>?_) hs
 subst ex;obtain rfl:u=Value.ref a:=rx;exact Ig hu I3 g ry U λs4 I4=>⟨σ,H4,I4,q3⟩
end
def Lh{P:Program}{w:World}{H:Hp}(h:Heap)(hb:sysModules<h.objs.size):bz P w H (h.push { cls:=.type "dict",data:=.dict #[]}) h.objs.size (.dK []) :=
 ⟨aaF _,beq_eq_false_iff_ne.mpr (aaE (aaz hb)),[],.nil,Heap.DictOf.new h⟩
def Li{P:Program}{w:World}{H:Hp}(h:Heap)(hb:sysModules<h.objs.size):bz P w H (h.push { cls:=.type "dict",data:=.dict #[]}) h.objs.size (.dT []) :=
 ⟨aaF _,beq_eq_false_iff_ne.mpr (aaE (aaz hb)),[],.nil,_,#[],0,aav _ rfl,⟨rfl,rfl,rfl⟩,rfl,rfl,acD⟩
def Rm:TE:=λ_ H Q=>∀p,H p=none->Q (.ref p) (upd H p (.dK []))
section
variable {X:Cx}{pos:Pos}
def Lj:PE X (.Dict [] [] pos) Rm:=λpq s σ H Q I h =>
 wpAny_Dict_empty ⟨.ref s.heap.objs.size,_,I.laid (a:=s.heap.objs.size) (o:=.dK []) (t':=s.toks) (λ_ _ q=>aag _ q) (aaf _) (Lh s.heap I.big),rfl,h _ (I.hok.fresh (aaf _))⟩
end
structure M1(X:Cx)(o:Expr)(m:Str)(apos:Pos)(e:Expr)(cpos:Pos):Prop where
 base:attributeBase o m X.env (eval o X.env)=eval o X.env
 few:((backTo cpos (starEach [e] X.env)).all (λx=>!x.1)&&(backToKw cpos (keywordEach [] X.env)).all (λx=>x.1.isSome)
  && decide (([e]:List Expr).length+([]:List Keyword).length+(if([]:List Keyword).isEmpty then 0 else 1)<30))=true
 line:(apos.endLine==cpos.line)=true
 trees:backTo cpos (starEach [e] X.env)=[(false,eval e X.env)]
structure M2(X:Cx)(o:Expr)(m:Str)(apos:Pos)(e f:Expr)(cpos:Pos):Prop where
 base:attributeBase o m X.env (eval o X.env)=eval o X.env
 few:((backTo cpos (starEach [e,f] X.env)).all (λx=>!x.1)&&(backToKw cpos (keywordEach [] X.env)).all (λx=>x.1.isSome)
  && decide (([e,f]:List Expr).length+([]:List Keyword).length+(if([]:List Keyword).isEmpty then 0 else 1)<30))=true
 line:(apos.endLine==cpos.line)=true
 trees:backTo cpos (starEach [e,f] X.env)=[(false,eval e X.env),(false,eval f X.env)]
def Wo(H:Hp)(a:Addr):Prop:=(∃kvs,Rd H a (.dK kvs))\/∃kvs,Rd H a (.dT kvs)
def EV{X:Cx}{pq:aX}{σ:St}{H:Hp}{s:Shared}{a:Addr}(I:Inv X pq σ H s)(d:Wo H a):
 s.TypeIs (.ref a) "dict"/\(∀b,Value.ref a = .ref b->∃ob,s.heap.get? b=some ob/\ob.dict=none)/\(a==sysModules)=false:=by
 rcases d with⟨kvs,e⟩|⟨kvs,e⟩
 ·obtain⟨_,hd,vs,_,O⟩:=zL I.hok e;refine⟨O.typeIs,λb q=>?_,hd⟩
  cases q;obtain⟨ob,_,_,h1,h2,_⟩:=O;exact⟨ob,h1,h2.2.1⟩
 ·obtain⟨_,hd,xs,_,O⟩:=zM I.hok e;refine⟨O.typeIs,λb q=>?_,hd⟩
  cases q;obtain⟨ob,_,_,h1,h2,_⟩:=O;exact⟨ob,h1,h2.2.1⟩
section
variable {X:Cx}{pq:aX}{σ:St}{H:Hp}{s:Shared}{a:Addr}{y d:V}{u r:Value}{o:Option V}{A:Around}{E:dD}
def Ro{Q:dD}(hu:A.units+1<cLine)(I:Inv X pq σ H s)(g:wO H a y o)(ry:RelV y u)(rd:RelV d r)(h:∀Y s',Inv X pq σ H s'->RelV (o.getD d) Y->Q Y s'):
 wpAny (model X.prog X.w) A (call (.builtin "dict.get") [.ref a,u,r]) Q E s:=by
 rcases g with⟨kvs,k,e,U,l⟩|⟨kvs,k,b,e,U,Z,l⟩
 ·subst U;obtain⟨z,hd,vs,rel,O⟩:=zL I.hok e;refine call_meetsIn ac0 O.typeIs PySem.F.entry_dict_get (PySem.F.args_dict_get_3 _ _ _) (meets_dict_get_default (cI X.prog X.w) a (zJ ry) hd r) ⟨_,O.mapOf,h _ _ (I.tok _) ?_⟩;rw[l];exact(rel.val k).getD rd
 ·subst U;cases(show u=Value.ref b from ry)
  obtain⟨z,hd,xs,rel,O⟩:=zM I.hok e;refine call_meetsIn ac0 O.typeIs PySem.F.entry_dict_get (PySem.F.args_dict_get_3 _ _ _) (meetsH_dict_get_default (tupleKind (cI X.prog X.w)) a b hd r) ⟨tupleKind_room_in1 hu,k,xs,qw I.hok Z,O,h _ _ (I.tok _) ?_⟩;rw[l];exact(rel.val k).getD rd
end
def Rp(td ty tx:TE):TE:=λσ H Q=>td σ H λx H1=>∃a,x = .ref a/\Wo H1 a/\ty σ H1 λy H2=>tx σ H2 λz H3=>∃o,wO H3 a y o/\Q (o.getD z) H3
def Rq(td ty:TE):TE:=λσ H Q=>td σ H λx H1=>∃a,x = .ref a/\Wo H1 a/\ty σ H1 λy H2=>∃kvs k v,H2 a=some (.dK kvs)/\y=kV k/\dF kvs k=some v/\Q v (upd H2 a (.dK (bL kvs k)))
section
variable {X:Cx}{o e f:Expr}{apos cpos:Pos}{td ty tx:TE}
def Ll(hu:X.A.units+1<cLine)(ho:PE X o td)(he:PE X e ty)(hf:PE X f tx)(m:M2 X o "get" apos e f cpos):PE X (.Call (.Attribute o "get" apos) [e,f] [] cpos) (Rp td ty tx):=by
 intro pq s σ H Q I h;refine wpAny_Call_method m.base m.few m.line acH ac0 PySem.F.type_dict_get (cY (ho pq s σ H _ I h) λu s1 ⟨x,H1,U,rx,a,ex,d,Y⟩=>?_)
 subst ex;obtain rfl:u=Value.ref a:=rx;obtain⟨t1,t2,_⟩:=EV U d;refine⟨t1,t2,?_⟩;rw[m.trees];refine Calls.callWith_builtin rfl (Calls.evalArgs_plain (Calls.spliced_cons (cY (he pq s1 σ H1 _ U Y) λiv s2 ⟨y,H2,Z,ry,q2⟩ =>
  Calls.spliced_cons (cY (hf pq s2 σ H2 _ Z q2) λfv s3 ⟨z,H3,I3,rz,ov,g,q3⟩=>Calls.spliced_nil ?_))))
 exact Ro hu I3 g ry rz λw' s4 I4 O=>⟨_,H3,I4,O,q3⟩
def Cw(ho:PE X o td)(he:PE X e ty)(m:M1 X o "pop" apos e cpos):PE X (.Call (.Attribute o "pop" apos) [e] [] cpos) (Rq td ty):=by
 intro pq s σ H Q I h;refine wpAny_Call_method m.base m.few m.line acH acn PySem.F.type_dict_pop (cY (ho pq s σ H _ I h) λu s1 ⟨x,H1,U,rx,a,ex,d,Y⟩=>?_)
 subst ex;obtain rfl:u=Value.ref a:=rx;obtain⟨t1,t2,_⟩:=EV U d;refine⟨t1,t2,?_⟩;rw[m.trees];refine Calls.callWith_builtin rfl (Calls.evalArgs_plain (Calls.spliced_cons (cY (he pq s1 σ H1 _ U Y) λiv s2 ⟨y,H2,Z,ry,kvs,k,v,ea,ey,l,q2⟩=>Calls.spliced_nil ?_)))
 subst ey;exact UH Z ea ry l (.inl rfl) λw' s3 I3 O=>⟨v,_,I3,O,q2⟩
end
section
variable {κ:Type}[DecidableEq κ]
def Lm{kvs:List (κ×V)}{k:κ}(h:dF kvs k=none): ¬ k∈kvs.map (·.1):=by
 intro m;obtain⟨p,I,e⟩:=aas.mp m;have q:(kvs.any λkv=>decide (kv.1=k))=true:=ado.mpr ⟨p,I,eG e⟩
 rw[je,h]at q;exact absurd q (by simp)
def Od{kvs:List (κ×V)}{k:κ}{v:V}(h:dF kvs k=some v):k∈kvs.map (·.1):=by
 have q:(kvs.any λkv=>decide (kv.1=k))=true:=by
  rw[je,h]
  all_goals rfl
 obtain⟨p,I,e⟩:=ado.mp q;exact aas.mpr ⟨p,I,kK e⟩
def GQ:∀{l:List κ} {k:κ},l.Nodup->¬ k∈l->(l++[k]).Nodup
 | [],k,_,_=>by simp
 | a::r,k,h,hk=>by
   obtain⟨h1,h2⟩:=aaX.mp h;show(a::(r++[k])).Nodup;refine aaX.mpr ⟨λm=>?_,GQ h2 λm=>hk (aao.mpr (Or.inr m))⟩
   rcases aaH.mp m with q|q
   ·exact h1 q
   ·exact hk (aao.mpr (Or.inl (aax.mp q).symm))
def Oe{kvs:List (κ×V)}{k:κ}(v:V)(hn:(kvs.map (·.1)).Nodup)(h:dF kvs k=none):((putK kvs k v).map (·.1)).Nodup:=by
 rw[wN v h,aar];exact GQ hn (Lm h)
def zN{p:κ×V}{r:List (κ×V)}{k:κ}(e:p.1=k):bL (p::r) k=bL r k:=by
 unfold bL;rw[aaD,aab (by simp[e])]
def zO{p:κ×V}{r:List (κ×V)}{k:κ}(e : ¬ p.1=k):bL (p::r) k=p::bL r k:=by
 unfold bL;rw[aaD,aad (by simp[e])]
def zP{kvs:List (κ×V)}{k:κ}{p:κ×V}(h:p∈bL kvs k):p∈kvs:=(aaK.mp h).1
def wQ:∀{kvs:List (κ×V)} {k:κ},(kvs.map (·.1)).Nodup->((bL kvs k).map (·.1)).Nodup
 | [],_,_=>acD
 | p::r,k,h=>by
   have h:(p.1::r.map (·.1)).Nodup:=h;obtain⟨h1,h2⟩:=aaX.mp h
   by_cases e:p.1=k
   ·rw[zN e];exact wQ h2
   ·rw[zO e];show(p.1::(bL r k).map (·.1)).Nodup;refine aaX.mpr ⟨λm=>h1 ?_,wQ h2⟩
    obtain⟨q,I,eq⟩:=aas.mp m;exact aas.mpr ⟨q,zP I,eq⟩
end
def Of{P:Program}{w:World}{n:Int}{v:Value}(h:(cI P w).is (Sum.inl n) v=true):∃t,v=Value.int n t:=by
 have h:ux (Sum.inl n) v=true:=h;have h:Value.isInt n v=true:=by simpa[ux]using h
 cases v<;>simp[Value.isInt]at h
 exact⟨_,by rw[h]⟩
def zQ{P:Program}{w:World}:∀{us:List Value} {ns:List Int} {vs:List (Key×Value)},vs.map (·.1)=ns.map Sum.inl->us.length=vs.length->(∀(j:Nat) (v:Value),us[j]?=some v->∃k x,vs[j]?=some (k,x)/\(cI P w).is k v=true)->IntsAre us ns
 | [],[],_,_,_,_=>.nil
 | [],n::ns,[],e,_,_=>by simp at e
 | [],n::ns,p::r,_,hl,_=>by simp at hl
 | u::us,ns,[],_,hl,_=>by simp at hl
 | u::us,[],p::r,e,_,_=>by simp at e
 | u::us,n::ns,p::r,e,hl,h=>by
   rw[aay,aay]at e;obtain⟨I,O⟩:=List.cons.inj e;obtain⟨k,x,hx,hk⟩:=h 0 u rfl;cases hx;rw[show k=Sum.inl n from I]at hk
   obtain⟨t,rfl⟩:=Of hk;exact .cons n t (zQ O (by simpa using hl) λj v hj=>h (j+1) v hj)
section
variable {prog:Program}{w:World}{A:Around}{E:dD}{s:Shared}{T:String}{r d:Addr}{n:Nat}{P:Nat->Value->Prop}{OK:Heap->Prop}
def Cy{R:List Value->Shared->Prop}(K:PySem.W.KdlSrc prog w T r d n P OK)(hh:A.handled=none)(hok:OK s.heap)(hn:n<=sizeLine)
 (h:∀(h' : Heap) (tk:Nat) (acc:Array Value),(∀b o,s.heap.get? b=some o->h'.get? b=some o)->s.heap.objs.size<h'.objs.size->ItemsOf P acc n->R acc.toList { s with heap:=h',toks:=tk}) :
 wpAny (model prog w) A (collect (.ref r)) R E s:=by
 have Y:=K.there _ hok;unfold collect;refine aW (wpAny_runValue (codeAny_builtin PySem.F.entry_proto_collect ?_));rw[Around.under_plainId PySem.F.plain_proto_collect _];show wpAny _ A.in1 (newList [] >>= λl=>again (.builtin "list.__iadd__" ⟨[l,.ref r],[]⟩)) _ _ s
 refine aW (wpAny_newObj_type ?_);refine aai ⟨plainId_quiet PySem.F.plain_list_iadd _,codeAny_builtin PySem.F.entry_list_iadd ?_⟩;rw[Around.under_plainId PySem.F.plain_list_iadd _];have ab:(s.heap.push { cls:=.type "list",data:=.seq ([]:List Value).toArray}).get? s.heap.objs.size=some { cls:=.type "list",data:=.seq #[]}:=aav _ rfl;show wpAny _ A.in1 (Builtin.List.listExtendWith (.ref s.heap.objs.size) (.ref r) (.ref s.heap.objs.size)) _ _ _;have key:=PySem.W.kdl_extend (A:=A) (s:={ s with heap:=s.heap.push { cls:=.type "list",data:=.seq ([]:List Value).toArray}})
  (R:=λ(q:Result) (s' : Shared)=>∃(h' : Heap) (tk:Nat) (I : Array Value) (Z : Nat),q = .ok (.ret (.ref s.heap.objs.size))/\s' = { s with heap:=h',toks:=tk}/\
   (∀b o,s.heap.get? b=some o->h'.get? b=some o)/\h'.get? s.heap.objs.size=some { cls:=.type "list",dict:=none,data:=.seq I Z,slots:=#[]}/\ItemsOf P I n)
  K hh (K.keep _ _ hok λb _ o e=>aag _ e) s.heap.objs.size (abw Y.1) (abw Y.2) (.ref s.heap.objs.size) 0 ab
  (λh' tk I Z hk U O=>⟨h',tk,I,Z,rfl,rfl,λb o e=>hk b o (aaz (aan e)) (aag _ e),U,O⟩) hn
 refine aaG key (λfin s' x=>?_) λe s' x=>?_
 ·cases fin with
  | done f =>
    obtain⟨h',tk,I,Z,e,rfl,hk,U,O⟩:=x;cases e;show wpAny _ A (load s.heap.objs.size >>= _) _ _ _;refine aW (wpAny_load U ?_);exact aai (h h' tk I hk (aan U) O)
  | again c₁ =>
    refine⟨x.1,codeAny_mono x.2 λq s₂ y=>?_⟩
    obtain⟨h',tk,I,Z,rfl,rfl,hk,U,O⟩:=y;show wpAny _ A (load s.heap.objs.size >>= _) _ _ _;refine aW (wpAny_load U ?_);exact aai (h h' tk I hk (aan U) O)
 ·obtain⟨_,_,_,_,e',_⟩:=x;cases e'
end
section
variable {X:Cx}
def Og(hc:X.calm=true):g8 X (.builtin "sorted") (λxs H Q=>∃(p:Addr) (kvs:List (Key×V)) (ns:List Int),xs=[.ref p]/\H p=some (.dK kvs)/\kvs.map (·.1)=ns.map Sum.inl/\kvs.length<64/\
 ∀(l:Addr) (O : List Int),H l=none->O.Perm ns->O.Pairwise (·<=·)->Q (.ref l) (upd H l (.lst (O.map V.int)))):=by
 intro pq s σ H xs us Q I r h;obtain⟨p,kvs,ns,rfl,hp,Z,hn,q⟩:=h;obtain⟨u,rfl,rx⟩:=vals1 r;cases rx;obtain⟨z,hd,vs,rel,dd⟩:=Le I.hok hp;obtain⟨ep,hat⟩:=dd.dictAt;have hlen:vs.length=kvs.length:=rel.length.symm;refine Calls.call_function_entry kind_sorted plain_sorted entry_sorted (args_sorted1 _) ?_;unfold Builtin.«sorted»;refine aW (m:=checkCount "sorted" 1 1 _) (aai ?_);refine aW (Cy (A:=X.A.in1) (PySem.W.kdl_dict (knd:=cI X.prog X.w) (kvs:=vs) (ep:=ep) hd) (I.ok.hd hc) hat (by rw[sizeLine_eq,hlen];lia) λh1 tk acc hk Ye U=>?_)
 have hl:acc.toList.length=vs.length:=by rw[abQ];exact U.1
 have hI:IntsAre acc.toList ns:=zQ (rel.keys.symm.trans Z) hl λj v e=>by
  obtain⟨k,x,h1,h2⟩:=U.2 j v (by rw[<-abV];exact e)
  exact⟨k,x,h1,h2⟩
 refine aW (wpAny_newList ?_ (by rw[hl,hlen,sizeLine_eq];lia))
 have Ho:(h1.push (seqObj "list" acc.toList.toArray 0)).get? h1.objs.size=some (seqObj "list" acc.toList.toArray 0):=aav _ rfl;refine aW (aaW (wpAny_call_entry slot_list_sort ⟨_,Ho,rfl⟩ entry_list_sort (list_sort_tree Ho hI (by lia) λout O a1 a2 a3=>⟨_,rfl,?_⟩) (args_list_sort _)))
 refine aai ⟨_,rfl,?_⟩;have ab:s.heap.objs.size<=h1.objs.size:=aa6 Ye;obtain⟨e,he⟩:=sortedHeap_at (out:=out) Ho;have ar:H h1.objs.size=none:=I.hok.fresh ab;refine⟨.ref h1.objs.size,_,I.laid (t':=tk) (λb o hb=>?_) ab ?_,rfl,q _ O ar a2 a3⟩
 ·have ag:=hk b o hb;have Y:=aan ag;rw[sortedHeap_old (aaz Y) (by rw[size_push'];exact abB Y),Heap.get?_push_ne _ _ _ (aaz Y)]
  exact ag
 ·refine⟨?_,out.toList,e,vY a1,?_⟩
  ·rw[aaa,a2.length_eq];have hx:=aaO List.length Z;rw[aaa,aaa]at hx;exact aa6 (bS (by lia))
  ·have:out.toList.toArray=out:=by simp
   rw[this];exact he
def e8(K:bE){e:Expr}{f:Str}{pos:Pos}{ta:TE}(he:PE X e ta)(hb:attributeBase e f X.env (eval e X.env)=eval e X.env:=by rfl)(hK:X.K=K:=by rfl):PE X (.Attribute e f pos) (TU K ta f):=by
 subst hK;exact QB he hb
def Oh{body:List Stmt}{h0:ExceptHandler}{hs:List ExceptHandler}{pos:Pos}{tb:TS}(hb:ym { X with xe:=λ_ _=>False} body tb):PS X (.Try body (h0::hs) [] [] pos) tb:=by
 intro pq s σ H D I h;refine wpAny_Try_except ?_;have U : Inv { X with xe:=λ_ _=>False} pq σ H s:=I.Uw (A':=X.A) (cm:=X.calm) (We:=X.pn) rfl I.ok.hd λp O=>O
 have back:∀{σ' H' s'},Inv { X with xe:=λ_ _=>False} pq σ' H' s'->Inv X pq σ' H' s':=λ{σ' H' s'} J=>J.Uw (A':=X.A) (cm:=X.calm) (We:=X.pn) (Zw:=X.xe) rfl J.ok.hd λp O=>O
 refine aaG (hb pq s σ H D U h) (λf s1 q=>?_) λ_ _ z=>z.elim
 cases f with
 | next =>
   obtain⟨σ',H',J,q⟩:=q;exact wpAny_execs_nil ⟨σ',H',back J,q⟩
 | brk =>
   obtain⟨σ',H',J,q⟩:=q;exact⟨σ',H',back J,q⟩
 | cont =>
   obtain⟨σ',H',J,q⟩:=q;exact⟨σ',H',back J,q⟩
 | ret u =>
   obtain⟨v,σ',H',J,r,q⟩:=q;exact⟨v,σ',H',back J,r,q⟩
end
end L2
namespace Ring
open PySem L2
abbrev cF:=List (Nat×cP)
inductive l6 where
 | put (n:Nat)
 | drop (n:Nat) (t:cP)
structure cT(p f:Nat)(m:cF):Prop where
 asc:(m.map (·.1)).Pairwise (· < ·)
 below:∀e∈m,e.1<f
 good:∀e∈m,iX (p:Int) e.2
 few:m.length<=24
def without(n:Nat)(m:cF):cF:=m.filter λe=>decide (e.1≠n)
inductive Chain(p:Nat):List (Nat×cF)->List l6->Prop
 | nil:Chain p [(0,[])] []
 | put {f:Nat} {m:cF} {hs:List (Nat×cF)} {ds:List l6} {t:cP}:Chain p ((f,m)::hs) ds->iX (p:Int) t->m.length<24->Chain p ((f+1,m++[(f,t)])::(f,m)::hs) (.put f::ds)
 | drop {f:Nat} {m:cF} {hs:List (Nat×cF)} {ds:List l6} {n:Nat} {t:cP}:Chain p ((f,m)::hs) ds->(n,t)∈m->Chain p ((f,without n m)::(f,m)::hs) (.drop n t::ds)
section
variable {p f n:Nat}{m m' : cF}{hs:List (Nat×cF)}{ds:List l6}{t:cP}
def cT.nil:cT p 0 []:=⟨List.Pairwise.nil,(λ_ h=>nomatch h),(λ_ h=>nomatch h),aaF _⟩
def cT.put(h:cT p f m)(g:iX (p:Int) t)(hl:m.length<24):cT p (f+1) (m++[(f,t)]):=by
 refine⟨?_,λe he=>?_,λe he=>?_,by rw[aaj];simp;lia⟩
 ·rw[aar,List.pairwise_append];refine⟨h.asc,by simp,λx hx y I=>?_⟩
  obtain⟨e,he,rfl⟩:=aas.mp hx;have:y=f:=by simpa using I
  rw[this];exact h.below e he
 ·rcases aaH.mp he with he|he
  ·exact abB (h.below e he)
  ·cases aax.mp he;exact abI _
 ·rcases aaH.mp he with he|he
  ·exact h.good e he
  ·cases aax.mp he;exact g
def uE{e:Nat×cP}(h:e∈without n m):e∈m:=(aaK.mp h).1
def cT.drop(h:cT p f m)(n:Nat):cT p f (without n m) :=
 ⟨h.asc.sublist (List.Sublist.map _ List.filter_sublist),λe he=>h.below e (uE he),λe he=>h.good e (uE he),aaB (aaI _ _) h.few⟩
def Chain.ok': ∀{hs:List (Nat×cF)} {ds:List l6},Chain p hs ds->∀f m hs',hs=(f,m)::hs'->cT p f m
 | _,_,.nil,f,m,hs',e=>by cases e;exact cT.nil
 | _,_,.put c g hl,f,m,hs',e=>by cases e;exact(c.ok' _ _ _ rfl).put g hl
 | _,_,.drop c hm,f,m,hs',e=>by cases e;exact(c.ok' _ _ _ rfl).drop _
def Chain.ok(c:Chain p ((f,m)::hs) ds):cT p f m:=c.ok' _ _ _ rfl
def cT.zz(h:cT p f m)(p1:1<=p)(p2:p<=10):aD p (m.map (·.2)):=⟨p1,p2,by rw[aaa];exact h.few,λt ht=>by
 obtain⟨e,he,rfl⟩:=aas.mp ht;exact h.good e he⟩
def cT.nodup(h:cT p f m):(m.map (·.1)).Nodup:=h.asc.imp λh=>aaz h
def cT.fresh(h:cT p f m): ¬ f∈m.map (·.1):=λhm=>by
 obtain⟨e,he,q⟩:=aas.mp hm;have:=h.below e he
 lia
def mQ:∀{m:cF},¬ n∈m.map (·.1)->without n m=m:=λ{m} h=>by
 unfold without;rw[List.filter_eq_self];intro e he;refine eG λz=>h ?_
 rw[<-z];exact abr he
def Cz(h : ¬ n∈m.map (·.1)):without n (m++[(n,t)])=m:=by
 have e:=mQ h;unfold without at e ⊢;rw[abx,e];simp
def perm_back:∀{m:cF},(m.map (·.1)).Nodup->(n,t)∈m->(without n m++[(n,t)]).Perm m
 | [],_,h=>nomatch h
 | e::r,hn,h=>by
   obtain⟨h1,h2⟩:=aaX.mp (show(e.1::r.map (·.1)).Nodup from hn)
   by_cases he:e.1=n
   ·have hr:without n (e::r)=r:=by
     have q:=mQ (n:=n) (m:=r) (he▸h1);unfold without at q ⊢;rw[aaD,aab (by simp[he]),q]
    have I:e=(n,t):=by
     rcases aao.mp h with z|z
     ·exact z.symm
     ·exact absurd (abr (f:=(·.1)) z) (he▸h1)
    rw[hr,I];exact List.perm_append_singleton _ _
   ·have hr:without n (e::r)=e::without n r:=by
     unfold without;rw[aaD,aad (by simp[he])]
    rw[hr];refine List.Perm.cons _ (perm_back h2 ?_);rcases aao.mp h with z|z
    ·exact absurd (by rw[<-z]) he
    ·exact z
end
abbrev Ent:=Nat×Addr×cP
def AS(e:Ent):Key×V:=(Sum.inl ((e.1:Nat):Int),.ref e.2.1)
def Oi(e:Ent):Nat×cP:=(e.1,e.2.2)
def kN(n:Nat):Key:=Sum.inl ((n:Nat):Int)
def EW{a b:Nat}(h:kN a=kN b):a=b:=by
 have:=Sum.inl.inj h
 lia
def dO(H:Hp)(a:Addr)(m:cF):Prop:=∃es:List Ent,H a=some (.dK (es.map AS))/\(es.map Oi).Perm m/\∀e∈es,H e.2.1=some (.tup (lT e.2.2))
section
variable {H H' : Hp}{a b:Addr}{p f n:Nat}{m m' : cF}{es:List Ent}{t:cP}
def dO.keep(h:dO H a m)(ts:bH H H')(ha:H' a=H a):dO H' a m:=by
 obtain⟨es,h1,h2,I⟩:=h;exact⟨es,by rw[ha];exact h1,h2,λe he=>ts _ _ (I e he)⟩
def dO.same(h:dO H a m)(s:au H H'):dO H' a m:=by
 obtain⟨es,h1,h2,I⟩:=h;exact⟨es,s _ _ h1,h2,λe he=>s _ _ (I e he)⟩
def rG(hp:(es.map Oi).Perm m):(es.map (·.1)).Perm (m.map (·.1)):=by
 have q:=hp.map (·.1);rw[aa7]at q;exact q
def EX:∀{es:List Ent},(es.map (·.1)).Nodup->∀e∈es,dF (es.map AS) (kN e.1)=some (.ref e.2.1)
 | [],_,_,h=>nomatch h
 | x::r,hn,e,h=>by
   obtain⟨h1,h2⟩:=aaX.mp (show(x.1::r.map (·.1)).Nodup from hn)
   rw[aay];rcases aao.mp h with z|z
   ·subst z;exact cH rfl
   ·rw[cf (show ¬(AS x).1=kN e.1 from λq=>h1 (by rw[EW (a:=x.1) q];exact abr z))]
    exact EX h2 e z
def GR:∀{es:List Ent},¬ n∈es.map (·.1)->dF (es.map AS) (kN n)=none
 | [],_=>rfl
 | x::r,h=>by
   rw[aay,cf (show ¬(AS x).1=kN n from λq=>h (by rw[<-EW (a:=x.1) q];exact aaq))]
   exact GR λz=>h (pP _ z)
def GS(n:Nat):∀es:List Ent,bL (es.map AS) (kN n)=(es.filter λe=>decide (e.1≠n)).map AS
 | []=>rfl
 | x::r=>by
   have I:=GS n r;unfold bL at I ⊢;rw[aay,aaD,aaD,I]
   by_cases h:x.1=n
   ·rw[aab (by simp[AS,kN,h]),aab (by simp[h])]
   ·rw[aad (eG (show(AS x).1≠kN n from λq=>h (EW (a:=x.1) q))),aad (by simp[h])]
    rfl
def Ii(hp:(es.map Oi).Perm m):((es.filter λe=>decide (e.1≠n)).map Oi).Perm (without n m):=by
 have q:=hp.filter λe=>decide (e.1≠n)
 rw[List.filter_map]at q;exact q
def dO.sorted(h:dO H a m)(ok:cT p f m):∃kvs ns,H a=some (.dK kvs)/\kvs.map (·.1)=ns.map Sum.inl/\kvs.length<64/\
 ∀I : List Int,I.Perm ns->I.Pairwise (·<=·)->I.map V.int=aB (m.map (·.1)):=by
 obtain⟨es,h1,h2,Y⟩:=h;refine⟨_,es.map λe=>((e.1:Nat):Int),h1,?_,?_,λI O hs=>?_⟩
 ·rw[aa7,aa7];rfl
 ·have q:=h2.length_eq;rw[aaa]at q;rw[aaa];have:=ok.few
  lia
 ·have U:I = (m.map (·.1)).map λx=>((x:Nat):Int):=by
   refine List.Perm.eq_of_pairwise (λx y _ _ h1 h2=>Int.le_antisymm h1 h2) hs ?_ (O.trans ?_)
   ·rw[abP];exact ok.asc.imp λh=>by lia
   ·have q:=(rG h2).map λx=>((x:Nat):Int)
    rw[aa7]at q;exact q
  rw[U,aa7];rfl
def dO.get(h:dO H a m)(ok:cT p f m)(hm:(n,t)∈m):∃kvs b,H a=some (.dK kvs)/\dF kvs (kN n)=some (.ref b)/\H b=some (.tup (lT t)):=by
 obtain⟨es,h1,h2,I⟩:=h;obtain⟨e,he,q⟩:=aas.mp (h2.mem_iff.mpr hm);have O:e.1=n:=aaO (·.1) q;have U:e.2.2=t:=aaO (·.2) q;refine⟨_,e.2.1,h1,?_,by rw[<-U];exact I e he⟩
 rw[<-O];exact EX ((rG h2).nodup_iff.mpr ok.nodup) e he
def dO.len(h:dO H a m):∃kvs,H a=some (.dK kvs)/\kvs.length=m.length:=by
 obtain⟨es,h1,h2,I⟩:=h;refine⟨_,h1,?_⟩;rw[aaa,<-h2.length_eq,aaa]
def dO.put(h:dO H a m)(hn : ¬ n∈m.map (·.1))(hb:H b=some (.tup (lT t))):∃kvs,H a=some (.dK kvs)/\kvs.length=m.length/\
 ∀H' m',bH H H'->H' a=some (.dK (putK kvs (kN n) (.ref b)))->(m++[(n,t)]).Perm m'->dO H' a m':=by
 obtain⟨es,h1,h2,I⟩:=h;refine⟨_,h1,by rw[aaa,<-h2.length_eq,aaa],λH' m' ts ha O=>⟨es++[(n,b,t)],?_,?_,λe he=>?_⟩⟩
 ·rw[ha,wN _ (GR λz=>hn ((rG h2).mem_iff.mp z)),aar]
  rfl
 ·rw[aar];exact(h2.append_right _).trans O
 ·rcases aaH.mp he with he|he
  ·exact ts _ _ (I e he)
  ·cases aax.mp he;exact ts _ _ hb
def dO.pop(h:dO H a m)(ok:cT p f m)(hm:(n,t)∈m):∃kvs b,H a=some (.dK kvs)/\dF kvs (kN n)=some (.ref b)/\H b=some (.tup (lT t))/\
 ∀H',bH H H'->H' a=some (.dK (bL kvs (kN n)))->dO H' a (without n m):=by
 obtain⟨es,h1,h2,I⟩:=h;obtain⟨e,he,q⟩:=aas.mp (h2.mem_iff.mpr hm);have O:e.1=n:=aaO (·.1) q;have U:e.2.2=t:=aaO (·.2) q;refine⟨_,e.2.1,h1,?_,by rw[<-U];exact I e he,λH' ts ha=>⟨_,ha.trans (by rw[GS]),Ii h2,λe he=>ts _ _ (I e (aaK.mp he).1)⟩⟩
 rw[<-O];exact EX ((rG h2).nodup_iff.mpr ok.nodup) e he
end
def wR(H:Hp)(y:V):l6->Prop
 | .put n=>∃b,y = .ref b/\H b=some (.tup [.int (n:Int),.eF])
 | .drop n t=>∃b c,y = .ref b/\H b=some (.tup [.int (n:Int),.ref c])/\H c=some (.tup (lT t))
def wR.tups{H H' : Hp}(ts:bH H H'){y:V}:∀{d:l6},wR H y d->wR H' y d
 | .put _,⟨b,e,h⟩=>⟨b,e,ts _ _ h⟩
 | .drop _ _,⟨b,c,e,h,g⟩=>⟨b,c,e,ts _ _ h,ts _ _ g⟩
def EY{α β:Type}{R:α->β->Prop}:∀{xs:List α} {ys:List β} {y:β},Paired R xs (ys++[y])->∃I x,xs=I++[x]/\Paired R I ys/\R x y
 | _,[],_,.cons h .nil=>⟨[],_,rfl,.nil,h⟩
 | _,_::_,_,.cons h r=>by
   obtain⟨I,x,e,h1,h2⟩:=EY r;exact⟨_::I,x,by rw[e];rfl,.cons h h1,h2⟩
def jH(n:Nat)(d:Addr)(f:Nat)(q:Addr):List (Str×V):=[("points",.int (n:Int)),("standing_ties",.ref d),("next_name",.int (f:Int)),("done",.ref q)]
def Px: ¬(("points":Str)="standing_ties"):=by decide +kernel
def Ln: ¬(("points":Str)="next_name"):=by decide +kernel
def Py: ¬(("points":Str)="done"):=by decide +kernel
def ne_sn: ¬(("standing_ties":Str)="next_name"):=by decide +kernel
def Pz: ¬(("standing_ties":Str)="done"):=by decide +kernel
def PB: ¬(("next_name":Str)="done"):=by decide +kernel
def kQ{g f:Str}{x v:V}{r:List (Str×V)}(h : ¬ g=f):c7 f v ((g,x)::r)=(g,x)::c7 f v r:=aab h
def Oj{f:Str}{x v:V}{r:List (Str×V)}:c7 f v ((f,x)::r)=(f,v)::r:=aad rfl
def jS(n:Nat)(d:Addr)(f:Nat)(q:Addr):c7 "done" (.ref q) (c7 "next_name" (.int (f:Int)) (c7 "standing_ties" (.ref d) (c7 "points" (.int (n:Int)) [])))=jH n d f q:=by
 have I:c7 "points" (.int (n:Int)) []=[(("points":Str),V.int (n:Int))]:=rfl;rw[I,kQ Px];rw[show c7 "standing_ties" (.ref d) []=[(("standing_ties":Str),V.ref d)] from rfl,kQ Ln,kQ ne_sn]
 rw[show c7 "next_name" (.int (f:Int)) []=[(("next_name":Str),V.int (f:Int))] from rfl,kQ Py,kQ Pz,kQ PB]
 rfl
def zR(n:Nat)(d:Addr)(f g:Nat)(q:Addr):c7 "next_name" (.int (g:Int)) (jH n d f q)=jH n d g q:=by
 unfold jH;rw[kQ Ln,kQ ne_sn,Oj]
section
variable {n f:Nat}{d q:Addr}
def zS:(jH n d f q).lookup ("points":Str)=some (.int (n:Int)):=by
 rw[<-jS,bu,aab Py,bu,aab Ln,bu,aab Px,bu,aad rfl]
def mR:(jH n d f q).lookup ("standing_ties":Str)=some (.ref d):=by
 rw[<-jS,bu,aab Pz,bu,aab ne_sn,bu,aad rfl]
def Ol:(jH n d f q).lookup ("next_name":Str)=some (.int (f:Int)):=by
 rw[<-jS,bu,aab PB,bu,aad rfl]
def vD:(jH n d f q).lookup ("done":Str)=some (.ref q):=by
 rw[<-jS,bu,aad rfl]
def kR{m:Str}(h1 : ¬ m="points")(h2 : ¬ m="standing_ties")(h3 : ¬ m="next_name")(h4 : ¬ m="done"):(jH n d f q).lookup m=none:=by
 rw[<-jS,bu,aab h4,bu,aab h3,bu,aab h2,bu,aab h1];rfl
end
def none_of{H H' : Hp}{p d:Addr}(k:∀b o,H b=some o->b≠p->H' b=some o)(h:H' d=none)(n:d≠p):H d=none:=by
 cases e:H d with
 | none=>rfl
 | some o =>
   rw[k d o e n]at h;cases h
structure k9(C:Addr)(H:Hp)(p d q:Addr)(n:Nat)(hs:List (Nat×cF))(ds:List l6):Prop where
 ch:Chain n hs ds
 p1:1<=n
 p2:n<=10
 ob:∃dx f m hs',hs=(f,m)::hs'/\H p=some (.ins C dx (jH n d f q))/\dO H d m
 dn:∃ys,H q=some (.lst ys)/\Paired (wR H) ys ds.reverse
structure Kept(H H' : Hp)(p d q:Addr):Prop where
 tups:bH H H'
 rest:∀b o,H b=some o->b≠p->b≠d->b≠q->H' b=some o
def k9.same{C:Addr}{H H' : Hp}{p d q:Addr}{n:Nat}{hs:List (Nat×cF)}{ds:List l6}(h:k9 C H p d q n hs ds)(s:au H H'):k9 C H' p d q n hs ds:=by
 obtain⟨dx,f,m,hs',e,h1,h2⟩:=h.ob;obtain⟨ys,h3,h4⟩:=h.dn;exact⟨h.ch,h.p1,h.p2,⟨dx,f,m,hs',e,s _ _ h1,h2.same s⟩,ys,s _ _ h3,Paired.imp' (λ_ _ z=>z.tups s.tups) h4⟩
end Ring
namespace L2
open PySem PySem.Spec PyProof.Rows
section
variable {X:Cx}
def Rr:R2:=λx y H Q=>∃a b xs ys,x = .ref a/\y = .ref b/\H a=some (.tup xs)/\H b=some (.tup ys)/\xs.length+ys.length<=sizeLine/\∀p H',au H H'->H' p=some (.tup (xs++ys))->Q (.ref p) H'
def UL:lP X (binaryOp .Add) Rr:=by
 intro pq s σ H x y v u Q I rx O h;obtain⟨a,b,xs,ys,rfl,rfl,ha,hb,hz,q⟩:=h
 by_cases hx:xs=[]
 ·subst hx;cases rx;cases O;obtain⟨U,Y,p1,_⟩:=I.tuple (aV.of ha);obtain⟨its2,r2,p2,_⟩:=I.tuple (aV.of hb);obtain⟨⟨cls,dd,data,sl⟩,ho,hc,n,hd⟩:=id p1;obtain⟨⟨NC,dd2,data2,sl2⟩,ho2,hc2,n2,hd2⟩:=id p2;simp only at hc hd hc2 hd2;subst hc hd hc2 hd2;cases Y;exact concat_meets ⟨_,ho,rfl⟩ ⟨_,ho2,rfl⟩ noFill_tuple_add seq_tuple_add acJ acE (acv _ _)
   (tuple_addW0 a b _ its2.toArray n n2 dd dd2 sl sl2 rfl) ⟨ho,ho2,⟨.ref b,H,I,rfl,q b H (au.refl _) hb⟩⟩
 ·exact NI pq s σ H _ _ _ _ Q I rx O ⟨a,b,xs,ys,rfl,rfl,aV.of ha,aV.of hb,hx,hz,λz=>q a H (au.refl _) (by rw[z,abT];exact ha),λz p Z=>q p _ (au.new Z) ae⟩
end
def zT{K:bE}{a:Addr}{xs:List V}{g:TG}{tb:TS}{D:Ends}{σ:St}{H:Hp}(Pv:Nat->St->Hp->Prop)(h0:Pv 0 σ H)(hl:∀i σ H,i<=xs.length->Pv i σ H->aV K H a xs)
 (hs:∀i x T σ H,xs[i]?=some x->Pv i σ H->H T=none->g (.ref T) σ (upd H T (.tup [.int (i:Int),x])) λσ2 H2=>tb { D with nx:=Pv (i+1),ct:=Pv (i+1),bk:=D.nx} σ2 H2) (hd:∀σ H,Pv xs.length σ H->D.nx σ H) :
 ∃W:Nat->Nat->St->Hp->Prop,(∃m,W 0 m σ H)/\∀i m σ H,W i m σ H->
   ((HZ K a).stop i H/\D.nx σ H)\/((HZ K a).go i H/\∃N:St->Hp->Prop,(∀σ' H',N σ' H'->∃m',m'<m/\W (i+1) m' σ' H')/\∀x H',(HZ K a).J0 i H x H'->g x σ H' λσ2 H2=>tb { D with nx:=N,ct:=N,bk:=D.nx} σ2 H2):=by
 refine⟨λi m σ H=>m=xs.length-i/\i<=xs.length/\Pv i σ H,⟨xs.length,by simp,aaF _,h0⟩,?_⟩
 rintro i m σ H ⟨rfl,hi,p⟩;have q:=hl i σ H hi p
 by_cases I:i<xs.length
 ·refine .inr ⟨⟨xs,xs[i],q,by simp[I]⟩,Pv (i+1),λσ' H' O=>⟨xs.length-(i+1),by lia,rfl,I,O⟩,λv H' y=>?_⟩
  obtain⟨T,x,rfl,U,rfl,Y⟩:=y;exact hs i x T σ _ (Y xs q) p U
 ·have e:i=xs.length:=by lia
  subst e;exact .inl ⟨⟨xs,q,rfl⟩,hd σ H p⟩
end L2
namespace Ring
open PySem L2
def oV:Option Int->V
 | none=>.eF
 | some i=>.int i
abbrev Pr:=Option Int×Option Int
def sel(q:Pr)(u:Bool):Option Int:=if u=true then q.2 else q.1
def wU:Option Int->Option Int->Int->Bool
 | none,none,_=>true
 | none,some _,_=>false
 | some _,none,_=>false
 | some x,some y,l=>decide ((if x-y<0 then -(x-y) else x-y)<=l)
def fD(R:List Pr)(i:Nat):Pr:=R.getD i (none,none)
def CA(R:List Pr)(t:cP)(u:Bool):Bool:=wU (fD R t.1.toNat).1 (sel (fD R t.2.1.toNat) u) t.2.2&&wU (fD R t.1.toNat).2 (sel (fD R t.2.1.toNat) (!u)) t.2.2
def PD(ts:List cP)(m i:Nat)(R:List Pr):Prop:=(fD R i).1=some 0/\∀k,k<ts.length->CA R (bU ts k) (m.testBit k)=true
def AU(p:Nat)(ts:List cP)(m:Nat)(W:List (List Pr)):Prop:=∀i,i<p->PD ts m i (W.getD i [])
def iF(H:Hp)(x:V)(q:Pr):Prop:=∃b,x = .ref b/\H b=some (.tup [oV q.1,oV q.2])
def RowW(H:Hp)(x:V)(R:List Pr):Prop:=∃b ys,x = .ref b/\H b=some (.tup ys)/\Paired (iF H) ys R
def ff(H:Hp)(b:Addr)(W:List (List Pr)):Prop:=∃ys,H b=some (.tup ys)/\Paired (RowW H) ys W
def JQ(p:Nat)(W:List (List Pr)):Prop:=W.length=p/\∀R∈W,R.length=p
def iF.same{H H' : Hp}(s:au H H'){x:V}{q:Pr}(h:iF H x q):iF H' x q:=let⟨b,e,z⟩:=h;⟨b,e,s _ _ z⟩
def RowW.same{H H' : Hp}(s:au H H'){x:V}{R:List Pr}(h:RowW H x R):RowW H' x R:=let⟨b,ys,e,z,pr⟩:=h;⟨b,ys,e,s _ _ z,Paired.imp' (λ_ _ z=>z.same s) pr⟩
def ff.same{H H' : Hp}(s:au H H'){b:Addr}{W:List (List Pr)}(h:ff H b W):ff H' b W:=let⟨ys,z,pr⟩:=h;⟨ys,s _ _ z,Paired.imp' (λ_ _ z=>z.same s) pr⟩
def iF.tups{H H' : Hp}(s:bH H H'){x:V}{q:Pr}(h:iF H x q):iF H' x q:=let⟨b,e,z⟩:=h;⟨b,e,s _ _ z⟩
def RowW.tups{H H' : Hp}(s:bH H H'){x:V}{R:List Pr}(h:RowW H x R):RowW H' x R:=let⟨b,ys,e,z,pr⟩:=h;⟨b,ys,e,s _ _ z,Paired.imp' (λ_ _ z=>z.tups s) pr⟩
def iG{α β:Type}{F:α->β->Prop}{l:List α}{r:List β}(pr:Paired F l r){i:Nat}(h:i<r.length)(d:β):∃x,l[i]?=some x/\F x (r.getD i d):=by
 have I:i<l.length:=by rw[pr.length];exact h
 obtain⟨y,O,hf⟩:=Paired.lQ pr (i:=i) (x:=l[i]) (by simp[I])
 refine⟨l[i],by simp[I],?_⟩
 rw[aae,O];exact hf
def RowW.at{H:Hp}{ys:List V}{R:List Pr}(pr:Paired (iF H) ys R){i:Nat}(h:i<R.length):∃b,ys[i]?=some (.ref b)/\H b=some (.tup [oV (fD R i).1,oV (fD R i).2]):=by
 obtain⟨x,hx,b,rfl,hb⟩:=iG pr h (none,none);exact⟨b,hx,hb⟩
def Om(a:Option Int):decide (oV a=V.int 0)=decide (a=some 0):=by
 cases a with
 | none=>rw[aa4];simp[oV]
 | some i=>rw[aa4];simp[oV]
def JQ.row{p:Nat}{W:List (List Pr)}(h:JQ p W){i:Nat}(hi:i<p):(W.getD i []).length=p:=by
 have I:i<W.length:=by rw[h.1];exact hi
 rw[aae];simp only[I,aam,Option.getD_some];exact h.2 _ (ab1 I)
def Lp(q:Pr)(u:Bool):([oV q.1,oV q.2]:List V)[u.toNat]?=some (oV (sel q u)):=by
 cases u<;>rfl
end Ring
namespace RM
variable {N:Net}{m t0:Nat}
def Net.Wq(N:Net)(t v:Nat):Nat:=if N.a t=v then N.b t else N.a t
def Net.sQ(N:Net)(left v:Nat):List Nat:=(List.range N.n).filter λt=>left.testBit t&&(decide (N.a t=v) || decide (N.b t=v))
def kg{left v t:Nat}:t∈N.sQ left v↔t<N.n/\left.testBit t=true/\(N.a t=v\/N.b t=v):=by
 unfold Net.sQ;rw[aaK,aaC,aaJ,Bool.or_eq_true,decide_eq_true_eq,decide_eq_true_eq]
inductive Wk(N:Net)(m t0:Nat):List (Nat×Int)->Nat->Nat->Prop
 | start:Wk N m t0 [(t0,1)] (N.b t0) (m^^^2^t0)
 | next {acc:List (Nat×Int)} {v left t:Nat} (h:Wk N m t0 acc v left) (h0:left≠0) (ht:(N.sQ left v)[0]?=some t):Wk N m t0 (acc++[(t,if N.a t=v then 1 else -1)]) (N.Wq t v) (left^^^2^t)
def CB{t v:Nat}(h:N.a t=v\/N.b t=v):(N.a t=v/\N.b t=N.Wq t v)\/(N.b t=v/\N.a t=N.Wq t v):=by
 unfold Net.Wq
 by_cases e:N.a t=v
 ·rw[aad e];exact .inl ⟨e,rfl⟩
 ·rw[aab e];rcases h with h|h
  ·exact absurd h e
  ·exact .inr ⟨h,rfl⟩
def Lq{pre ks:List Nat}{v left:Nat}(h:Way N m pre v ks left)(hz:∀k,m.testBit k=true->k∈ks):left=0:=by
 apply aa0;intro k;rw[h.rE,abJ];cases hb:m.testBit k with
 | false=>rfl
 | true=>rw[eG (hz k hb)];rfl
def zU{pre ks:List Nat}{v left:Nat}(r:N.Ring m)(h:Way N m pre v ks left)(h0:left≠0):v∉pre:=λI=>by
 obtain⟨i,hi⟩:=aaN I;obtain⟨q0,qe,_,qs⟩:=h.closes hi;rcases r.2.2 _ qs qe with z|z
 ·exact q0 z
 ·refine h0 (Lq h λk hk=>?_)
  rw[<-z,Ring.jG]at hk;exact ac8 (kK hk)
def Rt(hm:m<2^N.n)(r:N.Ring m)(hb:m.testBit t0=true){acc:List (Nat×Int)}{v left:Nat}(h:Wk N m t0 acc v left):∃pre,Way N m pre v (acc.map (·.1)) left/\pre[0]?=some (N.a t0):=by
 induction h with
 | start =>
   refine⟨[N.a t0],?_,rfl⟩;exact(Way.start hm r.2.1 hb).go (by simp) hb (.inl ⟨rfl,rfl⟩)
 | next h h0 ht ih =>
   obtain⟨pre,w,p0⟩:=ih;have I:=kg.mp (jY ht);refine⟨_,by rw[aar];exact w.go (zU r w h0) I.2.1 (CB I.2.2),?_⟩
   rw[aaP (by have:=(kL.mp p0).1;exact this)]
   exact p0
def UM(hm:m<2^N.n)(r:N.Ring m)(hb:m.testBit t0=true){acc:List (Nat×Int)}{v left:Nat}(h:Wk N m t0 acc v left)(h0:left≠0):∃t,(N.sQ left v)[0]?=some t:=by
 obtain⟨pre,w,_⟩:=Rt hm r hb h;obtain⟨t,h1,h2⟩:=w.on (zU r w h0);have ht:t<N.n:=dh w.N9 h1;have I:t∈N.sQ left v:=kg.mpr ⟨ht,h1,h2⟩;cases e:N.sQ left v with
 | nil=>rw[e]at I;cases I
 | cons x l=>exact⟨x,rfl⟩
def CC{left t n:Nat}(ht:t<n)(hb:left.testBit t=true):cnt (λj=>left.testBit j) n=cnt (λj=>(left^^^2^t).testBit j) n+1 :=
 wq (h:=t) hb ht λx _=>by
  rw[aal,aaw]
  by_cases e:x=t
  ·subst e;simp[hb]
  ·rw[gz e,gz (λz=>e z.symm)]
   simp
def AV(hm:m<2^N.n)(hb:m.testBit t0=true){acc:List (Nat×Int)}{v left:Nat}(h:Wk N m t0 acc v left):acc.length+cnt (λj=>left.testBit j) N.n=cnt (λj=>m.testBit j) N.n:=by
 induction h with
 | start =>
   have:=CC (dh hm hb) hb;show 1+_=_
   lia
 | next h h0 ht ih =>
   have I:=kg.mp (jY ht);have:=CC I.1 I.2.1;rw[aaj,aa1]
   lia
variable {N:Net}{m t0:Nat}
def Oo(hb:m.testBit t0=true){acc:List (Nat×Int)}{v left:Nat}(h:Wk N m t0 acc v left):∀k,left.testBit k=(m.testBit k && !decide (k∈acc.map (·.1))):=by
 induction h with
 | start =>
   intro k;rw[aal,aaw]
   by_cases e:t0=k
   ·subst e;simp[hb]
   ·have e' : ¬ k=t0:=λz=>e z.symm
    simp[e,e']
 | @next acc v left t h h0 ht ih =>
   intro k;have O:=kg.mp (jY ht);have I:=O.2.1;rw[ih t]at I;rw[aal,aaw,ih k,aar]
   by_cases e:t=k
   ·subst e;rw[I];simp
   ·have e' : ¬ k=t:=λz=>e z.symm
    have U:(k∈acc.map (·.1)++[(t,if N.a t=v then(1:Int) else -1)].map (·.1))↔k∈acc.map (·.1):=by simp[e']
    rw[show decide (k∈acc.map (·.1)++[(t,if N.a t=v then(1:Int) else -1)].map (·.1))=decide (k∈acc.map (·.1)) from abh.mpr U]
    simp[e]
def EZ(hm:m<2^N.n)(hb:m.testBit t0=true){acc:List (Nat×Int)}{v left:Nat}(h:Wk N m t0 acc v left):left<2^N.n:=dz λk hk=>by
 rw[Oo hb h k,aaJ]at hk;exact dh hm hk.1
def Lr{left n:Nat}(hl:left<2^n):cnt (λj=>left.testBit j) n=0↔left=0:=by
 constructor
 ·intro h;apply aaQ;intro h0;obtain⟨j,hj⟩:=abi h0;have:=rC (f:=λj=>left.testBit j) hj (dh hl hj)
  lia
 ·rintro rfl;rw[kc];refine(jd λk _=>?_).trans (vB n)
  rw[aab (by rw[abJ];simp)]
def Oq(hm:m<2^N.n)(hb:m.testBit t0=true){acc:List (Nat×Int)}{v left:Nat}(h:Wk N m t0 acc v left):acc.length=cnt (λj=>m.testBit j) N.n↔left=0:=by
 have:=AV hm hb h;rw[<-Lr (EZ hm hb h)]
 lia
end RM
namespace Ring
open PySem L2
def Ls{H:Hp}{xs:List V}{p:Nat}{ts:List cP}{g:aD p ts}{k:Nat}(h3:Paired (TupAt H) xs ts)(hk:k<ts.length):∃c,xs[k]?=some (.ref c)/\H c=some (.tup [.int ((g.N.a k:Nat):Int),.int ((g.N.b k:Nat):Int),.int (bU ts k).2.2]):=by
 have I:k<xs.length:=by rw[h3.length];exact hk
 obtain⟨t,ht,c,hc,O⟩:=Paired.lQ h3 (i:=k) (x:=xs[k]) (by simp[I])
 have U:t=bU ts k:=by
  have z:=sM hk;rw[ht]at z;exact Option.some.inj z
 refine⟨c,by rw[<-hc];simp[I],?_⟩
 rw[O,<-GF hk,<-GG hk,U];rfl
end Ring
namespace RM
variable {N:Net}{row ab2:Nat->Int}
def Ij{m t0:Nat}(hm:m<2^N.n)(r:N.Ring m)(hb:m.testBit t0=true):∃acc v,Wk N m t0 acc v 0:=by
 have key:∀(k:Nat) (acc:List (Nat×Int)) (v left:Nat),Wk N m t0 acc v left->cnt (λj=>left.testBit j) N.n=k->∃acc v,Wk N m t0 acc v 0:=by
  intro k
  induction k with
  | zero =>
    intro acc v left h e;have I:=AV hm hb h;rw[e]at I;have h0:=(Oq hm hb h).mp I;subst h0;exact⟨acc,v,h⟩
  | succ k O =>
    intro acc v left h e
    by_cases h0:left=0
    ·subst h0;exact⟨acc,v,h⟩
    ·obtain⟨t,ht⟩:=UM hm r hb h h0;have h':=Wk.next h h0 ht;have l1:=AV hm hb h;have U:=AV hm hb h';rw[aaj]at U;refine O _ _ _ h' ?_;have Y:[((t:Nat),(if N.a t=v then(1:Int) else -1))].length=1:=rfl
     lia
 exact key _ _ _ _ .start rfl
variable {N' : Net}
end RM
namespace L2
open PySem PySem.Spec PyProof.Rows PySem.W
def yx(n:Nat){α:Type}(R:α->Prop):KasT α->Prop
 | .ret a=>R a
 | .ask i j k=>i<n/\j<n/\∀b,yx n R (k b)
def yx.bind{n:Nat}{α β:Type}{R:α->Prop}{R' : β->Prop}{f:α->KasT β}:∀{t:KasT α},yx n R t->(∀a,R a->yx n R' (f a))->yx n R' (t.bind f)
 | .ret a,h,g=>by
   rw[KasT.bind.eq_1];exact g a h
 | .ask i j k,h,g=>by
   rw[KasT.bind.eq_2];exact⟨h.1,h.2.1,λb=>yx.bind (h.2.2 b) g⟩
def dP(n:Nat)(p:Array Nat):Prop:=p.toList.Perm (List.range n)
def dP.at{n:Nat}{p:Array Nat}(h:dP n p)(hn:0<n)(x:Nat):p.getD x 0<n:=by
 unfold Array.getD
 split
 ·rename_i hx
  have:p[x]∈p.toList:=by simp
  exact aaC.mp (h.mem_iff.mp this)
 ·exact hn
def Ik{n:Nat}{p:Array Nat}(h:dP n p)(i j:Nat):dP n (p.swapIfInBounds i j):=by
 unfold Array.swapIfInBounds
 split
 ·split
  ·exact(Array.perm_iff_toList_perm.mp (Array.swap_perm _ _)).trans h
  ·exact h
 ·exact h
def sR{n:Nat}(f g:Nat->Nat):∀(l:List Nat) {p:Array Nat},dP n p->dP n (l.foldl (λa k=>a.swapIfInBounds (f k) (g k)) p)
 | [],_,h=>h
 | k::l,_,h=>sR f g l (Ik h (f k) (g k))
def nS{n:Nat}{p:Array Nat}(h:dP n p)(i j:Nat):dP n (kas_rev p i j):=sR _ _ _ h
def Lu{n:Nat}{p:Array Nat}(h:dP n p)(i j:Nat):dP n (bubble p i j):=sR _ _ _ h
def E2{n:Nat}{p:Array Nat}(h:dP n p)(hn:0<n):∀f x,yx n (λ_=>True) (kas_asc p f x)
 | 0,x=>by
   rw[kas_asc.eq_1];trivial
 | f+1,x=>by
   rw[kas_asc.eq_2];refine⟨h.at hn _,h.at hn _,λb=>?_⟩
   cases b with
   | true=>trivial
   | false=>exact E2 h hn f (x+1)
def vE{n:Nat}(hn:0<n):∀f {p:Array Nat} (x q:Nat),dP n p->yx n (λr:Array Nat×Nat×Nat=>dP n r.1) (kas_desc f p x q)
 | 0,p,x,q,h=>by
   rw[kas_desc.eq_1];exact h
 | f+1,p,x,q,h=>by
   rw[kas_desc.eq_2];refine⟨h.at hn _,h.at hn _,λb=>?_⟩
   cases b with
   | true =>
     show yx n _ (if q > 0 then _ else _)
     by_cases I:q > 0
     ·rw[aad I];exact vE hn f _ _ (nS h _ _)
     ·rw[aab I];exact vE hn f _ _ h
   | false =>
     refine⟨h.at hn _,h.at hn _,λb=>?_⟩
     cases b with
     | true=>exact h
     | false=>exact vE hn f _ _ h
def GU{n:Nat}(hn:0<n){p:Array Nat}(h:dP n p)(x r:Nat):yx n (λr:Nat×Array Nat=>dP n r.2) (kas_tail3 x r p) :=
 yx.bind (E2 (nS h _ _) hn _ _) λ_ _=>nS h _ _
def GV{n:Nat}(hn:0<n){p:Array Nat}(h:dP n p)(x r:Nat):yx n (λr:Nat×Array Nat=>dP n r.2) (kas_descPart x r p):=by
 refine yx.bind (vE hn _ _ _ h) λy I=>?_
 by_cases O:y.2.2 > 0
 ·rw[aad O];exact GU hn (nS I _ _) _ _
 ·rw[aab O];exact GU hn I _ _
def Lv{n:Nat}(hn:0<n){p:Array Nat}(h:dP n p)(r:Nat):yx n (λr:Nat×Array Nat=>dP n r.2) (kas_count r p):=by
 refine yx.bind (E2 h hn _ _) λy _=>?_
 by_cases h1:(y==r)=true
 ·rw[aad h1];exact h
 ·rw[aab h1]
  by_cases h2:y > 1
  ·rw[aad h2];refine⟨h.at hn _,h.at hn _,λb=>?_⟩
   cases b with
   | true=>exact h
   | false=>exact GV hn (nS h _ _) _ _
  ·rw[aab h2];exact GV hn h _ _
def wW{n:Nat}(hn:0<n){p:Array Nat}(h:dP n p)(k:Nat):∀f x y,yx n (λ_=>True) (kas_place p k f x y)
 | 0,x,y=>by
   rw[kas_place.eq_1];trivial
 | f+1,x,y=>by
   rw[kas_place.eq_2]
   by_cases hx:x ≥ y
   ·rw[aad hx];trivial
   ·rw[aab hx];refine⟨h.at hn _,h.at hn _,λb=>?_⟩
    cases b with
    | true=>exact wW hn h k f _ _
    | false=>exact wW hn h k f _ _
def Lw{n:Nat}(hn:0<n):∀f {p:Array Nat} (x:Nat),dP n p->yx n (dP n) (kas_bin f p x)
 | 0,p,x,h=>by
   rw[kas_bin.eq_1];exact h
 | f+1,p,x,h=>by
   rw[kas_bin.eq_2];exact yx.bind (wW hn h _ _ _ _) λl _=>Lw hn f _ (Lu h _ _)
def Ot{n:Nat}(hn:0<n):yx n (dP n) (kas_sort n):=by
 unfold kas_sort;have h0:dP n (List.range n).toArray:=by unfold dP;simp
 refine yx.bind (Lv hn h0 n) λr hr=>?_
 by_cases hx:r.1<n
 ·rw[aad hx];exact Lw hn _ _ hr
 ·rw[aab hx];exact hr
def PF(h:Heap)(v:Value):Prop:=∃(a:Addr) (o:Obj) (x y:Int) (t u:Tok) (k:Nat),v = .ref a/\h.get? a=some o/\o.cls = .type "tuple"/\o.data = .seq #[.int x t,.int y u] k
def Il{prog:Program}{w:World}{A:Around}{E:dD}{s:Shared}{vs:List Value}{Q:SortKind->Shared->Prop}(hn:0<vs.length)(I:∀v∈vs,PF s.heap v)(q:Q (tuples' true) s):wpAny (model prog w) A (keyKind' vs.toArray) Q E s:=by
 obtain⟨fs,hl,hf,hk⟩:∃fs:List Value,fs.length=vs.length/\(∀v∈fs,∃x t,v=Value.int x t)/\KatTups s.heap vs fs:=by
  clear q hn
  induction vs with
  | nil=>exact⟨[],rfl,λv I=>(by cases I),by rw[KatTups.eq_1];trivial⟩
  | cons v vs U =>
    obtain⟨fs,h1,h2,Y⟩:=U λv O=>I v (pP _ O)
    obtain⟨a,o,x,y,t,u,k,e,Z,hc,hd⟩:=I v aaq;refine⟨.int x t::fs,by simp[h1],λv' O=>?_,?_⟩
    ·rcases aao.mp O with rfl|O
     ·exact⟨x,t,rfl⟩
     ·exact h2 v' O
    ·rw[KatTups.eq_2];exact⟨⟨a,o,_,k,e,Z,hc,hd,rfl⟩,Y⟩
 refine kat_kind (T:=.type "int") hk (by lia) (λv I=>?_) (by decide) q
 obtain⟨x,t,rfl⟩:=hf v I;intro A Q E s _ q;exact aai q
end L2
namespace RM
variable {N:Net}
inductive Sp(B:List Nat):Nat->Prop
 | zero:Sp B 0
 | add {x b:Nat} (h:Sp B x) (hb:b∈B):Sp B (x^^^b)
section
variable {B C:List Nat}{x y b:Nat}
def Sp.mem(h:b∈B):Sp B b:=by
 have:=Sp.add .zero h;rw[aba]at this;exact this
def Sp.xor(h:Sp B x)(h' : Sp B y):Sp B (x^^^y):=by
 induction h' with
 | zero=>rw[abk];exact h
 | add _ hb ih=>rw[<-aa9];exact .add ih hb
def Sp.mono(h:Sp B x)(hc:∀b∈B,Sp C b):Sp C x:=by
 induction h with
 | zero=>exact .zero
 | add _ hb ih=>exact ih.xor (hc _ hb)
def l7(x b:Nat):x^^^b^^^b=x:=by rw[aa9,abE,abk]
def Sp.nU:Sp (b::B) x↔Sp B x\/Sp B (x^^^b):=by
 constructor
 ·intro h
  induction h with
  | zero=>exact .inl .zero
  | add h hc I =>
    rename_i x c
    rcases aao.mp hc with e|e
    ·subst e;rcases I with I|I
     ·exact .inr (by rw[l7];exact I)
     ·exact .inl I
    ·rcases I with I|I
     ·exact .inl (.add I e)
     ·exact .inr (by rw[aa9,adp c,<-aa9];exact .add I e)
 ·rintro(h|h)
  ·exact h.mono λc hc=>.mem (pP _ hc)
  ·have h2:Sp (b::B) (x^^^b):=h.mono λc hc=>.mem (pP _ hc)
   have:=h2.add (b:=b) aaq;rw[l7]at this;exact this
def Sp.off{t:Nat}(h:Sp B x)(hz:∀b∈B,b.testBit t=false):x.testBit t=false:=by
 induction h with
 | zero=>exact abJ t
 | add _ hb ih=>rw[aal,ih,hz _ hb];rfl
def Sp.lt{n:Nat}(h:Sp B x)(hz:∀b∈B,b<2^n):x<2^n:=by
 induction h with
 | zero=>exact abt n
 | add _ hb ih=>exact aa2 ih (hz _ hb)
end
inductive PJ:List (Nat×Nat)->Prop
 | nil:PJ []
 | cons {t r:Nat} {rest:List (Nat×Nat)} (h:PJ rest) (hr:r.testBit t=true) (hz:∀q∈rest,q.2.testBit t=false):PJ ((t,r)::rest)
def CD(rows:List (Nat×Nat))(x:Nat):Nat:=rows.foldl (λx q=>if x.testBit q.1=true then x^^^q.2 else x) x
section
variable {rows:List (Nat×Nat)}{x t:Nat}
def GW(rows:List (Nat×Nat)):∀x,Sp (rows.map (·.2)) (x^^^CD rows x):=by
 induction rows with
 | nil=>intro x;show Sp [] (x^^^x);rw[abE];exact .zero
 | cons q rest I =>
   intro x;show Sp (q.2::rest.map (·.2)) (x^^^CD rest (if x.testBit q.1=true then x^^^q.2 else x))
   have h:=I (if x.testBit q.1=true then x^^^q.2 else x)
   by_cases e:x.testBit q.1=true
   ·rw[aad e]at h ⊢;refine Sp.nU.mpr (.inr ?_);rw[aa9,adp _ q.2,<-aa9];exact h
   ·rw[aab e]at h ⊢;exact Sp.nU.mpr (.inl h)
def Im(hz:∀q∈rows,q.2.testBit t=false):∀{x},x.testBit t=false->(CD rows x).testBit t=false:=by
 induction rows with
 | nil=>intro x h;exact h
 | cons q rest I =>
   intro x h;have h2:(if x.testBit q.1=true then x^^^q.2 else x).testBit t=false:=by
    by_cases e:x.testBit q.1=true
    ·rw[aad e,aal,h,hz q aaq];rfl
    ·rw[aab e];exact h
   exact I (λq' O=>hz q' (pP _ O)) h2
def zV(h:PJ rows):∀x,∀q∈rows,(CD rows x).testBit q.1=false:=by
 induction h with
 | nil=>intro x q I;cases I
 | cons h hr hz O =>
   rename_i t r rest
   intro x q I;show(CD rest (if x.testBit t=true then x^^^r else x)).testBit q.1=false
   rcases aao.mp I with e|e
   ·subst e;refine Im hz ?_
    by_cases e:x.testBit t=true
    ·rw[aad e,aal,e,hr];rfl
    ·rw[aab e];exact aci.mpr e
   ·exact O _ q e
def Lx(h:PJ rows):∀{x},Sp (rows.map (·.2)) x->(∀q∈rows,x.testBit q.1=false)->x=0:=by
 induction h with
 | nil=>intro x hs _;cases hs with
   | zero=>rfl
   | add _ hb=>cases hb
 | cons h hr hz O =>
   rename_i t r rest
   intro x hs hx;have off:∀y,Sp (rest.map (·.2)) y->y.testBit t=false:=λy U=>U.off λb hb=>by
    obtain⟨q,I,rfl⟩:=aas.mp hb;exact hz q I
   rcases Sp.nU.mp hs with hs|hs
   ·exact O hs λq I=>hx q (pP _ I)
   ·exfalso
    have h1:=off _ hs;have h2:=hx (t,r) aaq;rw[aal]at h1;have h2:x.testBit t=false:=h2;rw[h2,hr]at h1;cases h1
def Io(h:PJ rows)(x:Nat):CD rows x=0↔Sp (rows.map (·.2)) x:=by
 have hs:=GW rows x
 constructor
 ·intro e;rw[e,abk]at hs;exact hs
 ·intro hx;refine Lx h ?_ (zV h x);have:=hx.xor hs;rw[<-aa9,abE,aba]at this;exact this
end
open Classical in
open Classical in
def Ou{x:Nat}(h:x≠0):x.testBit x.log2=true:=Nat.testBit_log2 h
open Ring (xorL xorL_cons maskOf)
variable {N:Net}
def Ip:N.aZ.Nodup:=ac7 _ adn
def zW{c:Nat}(hc:c<N.n)(hf:N.nQ c=false):N.Ring (N.ring c):=by
 refine⟨λz=>?_,o4 hc,λq O ev=>?_⟩
 ·have h:=wm hf;rw[z]at h;simp at h
 ·have U:q<2^N.n:=dz λk hk=>dh (vz hc) (O k hk)
  cases qc:q.testBit c with
  | true =>
    refine .inr (K3 U (vz hc) ev (o4 hc) λd hd I=>?_)
    rw[qv hf I]
    by_cases e:c=d
    ·subst e;simp[qc]
    ·rw[gz e];cases qd:q.testBit d with
     | false=>rfl
     | true =>
       have:=O d qd;rw[qv hf I,gz e]at this;cases this
  | false =>
    refine .inl (hU (λk hk=>?_) ev)
    rcases nR (O k hk) with e|e
    ·subst e;rw[qc]at hk;cases hk
    ·exact e
end RM
namespace L2
open PySem PySem.Spec PyProof.Rows
section
variable {X:Cx}
def GX:∀{bs:List Bool} {I:List Value},Vals (bs.map V.bl) I->I=bs.map Value.bool
 | [],_,.nil=>rfl
 | b::bs,_,.cons r rr=>by
   cases r;rw[GX rr];rfl
def E3:∀bs:List Bool,((List.range bs.length).all λi=>(bs[i]?).getD true)=bs.all id:=λbs=>by
 rw[aa4,abm,abm]
 constructor
 ·intro h b hb;obtain⟨i,hi,e⟩:=List.getElem_of_mem hb;have:=h i (aaC.mpr hi);rw[aam hi,e]at this;exact this
 ·intro h i hi;have hi:=aaC.mp hi;rw[aam hi];exact h _ (ab1 hi)
def Ov(K:bE)(hc:X.calm=true)(hK:X.K=K:=by rfl):g8 X (.builtin "all") (λxs H Q=>∃(p:Addr) (bs:List Bool),xs=[.ref p]/\aO K H p (bs.map V.bl)/\Q (.bl (bs.all id)) H):=by
 subst hK;intro pq s σ H xs us Q I r h;obtain⟨p,bs,rfl,Y,q⟩:=h;obtain⟨u,rfl,rx⟩:=vals1 r;cases rx;obtain⟨its,rv,pl,hz⟩:=I.list Y;obtain rfl:=GX rv;have lt:p<s.heap.objs.size:=by obtain⟨_,e,_⟩:=pl.isList;exact aan e
 refine call_all_walk (wpAny_pyIter_list pl.isList ⟨_,[_,p],[_],_,_,_,λi=>(bs[i]?).getD true,rfl,Walks.list (A:=X.A.in1) (I.ok.hd hc) _ p (aaz lt) _,
  ⟨⟨_,aav _ rfl,rfl,rfl⟩,pl.isList.push _⟩,λi v s' Z E' O U=>?_,λh' tk hk=>?_⟩)
 ·have O:(bs.map Value.bool)[i]?=some v:=by simpa using O
  rw[aak]at O;obtain⟨b,e,rfl⟩:=uQ.mp O;simp only[e,Option.getD_some]at U;exact wpAny_truthy_bool U
 ·have z:(bs.map Value.bool).toArray.size=bs.length:=by simp
  rw[z,E3];refine⟨.bl _,H,I.kept λb o e=>hk b o (λhm=>?_) (aag _ e),rfl,q⟩
  rw[aax.mp hm]at e;exact abj _ (aan e)
end
end L2
namespace RM
def lsum(L:Nat->Int)(f:Nat->Bool):Nat->Int
 | 0=>0
 | n+1=>lsum L f n+(if f n=true then L n else 0)
section
variable {L:Nat->Int}
def qx{f g:Nat->Bool}:∀{n:Nat},(∀k,k<n->f k=g k)->lsum L f n=lsum L g n
 | 0,_=>rfl
 | n+1,h=>by
   unfold lsum;rw[qx λk hk=>h k (by lia),h n (by lia)]
def sS{f:Nat->Bool}:∀{n:Nat},(∀k,k<n->f k=false)->lsum L f n=0
 | 0,_=>rfl
 | n+1,h=>by
   unfold lsum;rw[sS λk hk=>h k (by lia),h n (by lia)]
   simp
def CF{f:Nat->Bool}{a:Nat}:∀{n:Nat},a<n->(∀k,k<n->f k=decide (k=a))->lsum L f n=L a
 | 0,h,_=>by lia
 | n+1,ha,h=>by
   unfold lsum
   by_cases e:a=n
   ·subst e;rw[sS λk hk=>by rw[h k (by lia)];exact gz (by lia),h a (by lia),eG rfl]
    simp
   ·rw[CF (show a<n by lia) λk hk=>h k (by lia),h n (by lia),gz (by lia)]
    simp
def o7{f g:Nat->Bool}:∀{n:Nat},(∀k,k<n->0<=L k)->(∀k,k<n->f k=true->g k=true)->lsum L f n<=lsum L g n
 | 0,_,_=>abF _
 | n+1,hL,h=>by
   unfold lsum;have I:=o7 (n:=n) (λk hk=>hL k (by lia)) λk hk=>h k (by lia)
   have h0:=hL n (by lia)
   have hn:=h n (by lia)
   cases hf:f n with
   | false=>cases g n<;>simp<;>lia
   | true=>rw[hn hf];simp;lia
def CG{f g:Nat->Bool}:∀{n:Nat},(∀k,k<n->0<=L k)->lsum L (λk=>f k^^g k) n<=lsum L f n+lsum L g n
 | 0,_=>abF _
 | n+1,hL=>by
   unfold lsum;have I:=CG (f:=f) (g:=g) (n:=n) λk hk=>hL k (by lia)
   have h0:=hL n (by lia)
   cases f n<;>cases g n<;>simp<;>lia
def wX{f g:Nat->Bool}:∀{n:Nat},(∀k,k<n->f k=true->g k=false)->lsum L (λk=>f k^^g k) n=lsum L f n+lsum L g n
 | 0,_=>rfl
 | n+1,h=>by
   unfold lsum;rw[wX (f:=f) (g:=g) (n:=n) λk hk=>h k (by lia)]
   have hn:=h n (by lia)
   cases hf:f n with
   | false=>cases g n<;>simp<;>lia
   | true=>rw[hn hf];simp;lia
def wY{k n:Nat}(h:k<n):lsum L (λj=>(2^k).testBit j) n=L k:=CF h λj _=>by
 rw[aaw];exact abh.mpr eq_comm
end
def nV{m n k:Nat}(h:m<2^n)(hb:m.testBit k=true):k<n:=by
 apply aaQ;intro hk;rw[aa5 (aau h (abN (by decide) (by lia)))]at hb
 cases hb
def cd(x:Nat)(s:Bool):Nat:=2*x+s.toNat
def Jn(N:Net)(k v w:Nat):Prop:=(N.a k=v/\N.b k=w)\/(N.b k=v/\N.a k=w)
def Jn.lt{N:Net}{k v w:Nat}(hk:k<N.n)(h:Jn N k v w):w<N.p:=by
 rcases h with⟨_,rfl⟩|⟨_,rfl⟩
 ·exact N.bl k hk
 ·exact N.al k hk
inductive Wl(N:Net)(L:Nat->Int)(m u:Nat):List Nat->Nat->Bool->Int->Nat->Prop
 | nil:Wl N L m u [] u false 0 0
 | go {pre:List Nat} {v w k e:Nat} {s:Bool} {z:Int} (h:Wl N L m u pre v s z e) (hk:k<N.n) (hj:Jn N k v w):Wl N L m u (pre++[cd v s]) w (s^^m.testBit k) (z+L k) (e^^^2^k)
def Wy(N:Net)(L:Nat->Int)(m u x:Nat)(s:Bool)(z:Int):Prop:=∃pre e,Wl N L m u pre x s z e
section
variable {N:Net}{L:Nat->Int}{m u:Nat}
def Wy.nil:Wy N L m u u false 0:=⟨_,_,.nil⟩
def Wy.go{v w k:Nat}{s:Bool}{z:Int}(h:Wy N L m u v s z)(hk:k<N.n)(hj:Jn N k v w):Wy N L m u w (s^^m.testBit k) (z+L k):=let⟨_,_,h⟩:=h;⟨_,_,h.go hk hj⟩
def l8(hL:∀k,k<N.n->0<=L k)(hu:u<N.p){pre:List Nat}{v e:Nat}{s:Bool}{z:Int}(h:Wl N L m u pre v s z e):
 v<N.p/\e<2^N.n/\(∀x,N.bd e x=(decide (u=x)^^decide (v=x)))/\N.par e m=s/\lsum L (λk=>e.testBit k) N.n<=z/\0<=z:=by
 induction h with
 | nil =>
   refine⟨hu,abt _,λx=>?_,lZ m,?_,abF _⟩
   ·rw[oZ];cases decide (u=x)<;>rfl
   ·rw[sS λk _=>abJ k]
    exact abF _
 | @go pre v w k e s z h hk hj ih =>
   obtain⟨Y,I,O,U,Z,i6⟩:=ih;have h0:=hL k hk;refine⟨hj.lt hk,aa2 I (abO (by decide) hk),λx=>?_,?_,?_,by lia⟩
   ·rw[iE,O,nO hk];unfold Net.inc;rcases hj with⟨rfl,rfl⟩|⟨rfl,rfl⟩
    ·cases decide (u=x)<;>cases decide (N.a k=x)<;>cases decide (N.b k=x)<;>rfl
    ·cases decide (u=x)<;>cases decide (N.a k=x)<;>cases decide (N.b k=x)<;>rfl
   ·rw[o6,U,GO hk]
   ·have:=CG (L:=L) (f:=λj=>e.testBit j) (g:=λj=>(2^k).testBit j) hL
    rw[wY hk]at this;rw[qx (g:=λj=>e.testBit j^^(2^k).testBit j) λj _=>aal ..]
    lia
def uT(N:Net)(L:Nat->Int)(m u x:Nat)(s:Bool):Option Int->Prop
 | none=>∀z,¬ Wy N L m u x s z
 | some d=>Wy N L m u x s d/\∀z,Wy N L m u x s z->d<=z
def uT.uniq{x:Nat}{s:Bool}{o o' : Option Int}(h:uT N L m u x s o)(h' : uT N L m u x s o'):o=o':=by
 cases o with
 | none=>cases o' with
   | none=>rfl
   | some d=>exact absurd h'.1 (h d)
 | some d=>cases o' with
   | none=>exact absurd h.1 (h' d)
   | some d' =>
     have h1:=h.2 _ h'.1;have h2:=h'.2 _ h.1;rw[show d=d' by lia]
def Wy.nonneg(hL:∀k,k<N.n->0<=L k)(hu:u<N.p){x:Nat}{s:Bool}{z:Int}(h:Wy N L m u x s z):0<=z:=let⟨_,_,h⟩:=h;(l8 hL hu h).2.2.2.2.2
def Ly(hL:∀k,k<N.n->0<=L k)(hu:u<N.p){o:Option Int}(h:uT N L m u u false o):o=some 0:=h.uniq ⟨.nil,λ_ hz=>hz.nonneg hL hu⟩
def Iq(_hL:∀k,k<N.n->0<=L k){k:Nat}{s:Bool}{o o' : Option Int}(hk:k<N.n)(h:uT N L m u (N.a k) s o)(h' : uT N L m u (N.b k) (s^^m.testBit k) o'):Ring.wU o o' (L k)=true:=by
 have I:∀{z},Wy N L m u (N.a k) s z->Wy N L m u (N.b k) (s^^m.testBit k) (z+L k):=λhz=>hz.go hk (.inl ⟨rfl,rfl⟩)
 have back:∀{z},Wy N L m u (N.b k) (s^^m.testBit k) z->Wy N L m u (N.a k) s (z+L k):=λhz=>by
  have:=hz.go hk (.inr ⟨rfl,rfl⟩)
  rwa [Bool.xor_assoc,adi,abb]at this
 cases o with
 | none=>cases o' with
   | none=>rfl
   | some d=>exact absurd (back h'.1) (h _)
 | some d=>cases o' with
   | none=>exact absurd (I h.1) (h' _)
   | some d' =>
     have h1:=h'.2 _ (I h.1);have h2:=h.2 _ (back h'.1);unfold Ring.wU;rw[decide_eq_true_eq]
     split<;>lia
def rH(hL:∀k,k<N.n->0<=L k)(m:Nat){r:Nat}(hr:N.Ring r)(hm:r<2^N.n):∃x,x<N.p/\Wy N L m x x (N.par r m) (lsum L (λk=>r.testBit k) N.n):=by
 obtain⟨t0,hb⟩:∃t0,r.testBit t0=true:=by
  apply aaQ;intro h;exact hr.1 (aa0 λi=>by
   rw[abJ];cases e:r.testBit i with
   | false=>rfl
   | true=>exact absurd ⟨i,e⟩ h)
 have U:t0<N.n:=nV hm hb;obtain⟨acc,v,w⟩:=Ij hm hr hb;have key:∀{acc v left},Wk N r t0 acc v left->(∀k,left.testBit k=true->r.testBit k=true)/\∃pre s,Wl N L m (N.a t0) pre v s (lsum L (λk=>(r^^^left).testBit k) N.n) (r^^^left):=by
  intro acc v left w
  induction w with
  | start =>
    have e:r^^^(r^^^2^t0)=2^t0:=by rw[<-aa9,abE,aba]
    refine⟨λk hk=>?_,[]++[cd (N.a t0) false],false^^m.testBit t0,?_⟩
    ·rw[aal,aaw]at hk
     by_cases e:t0=k
     ·rw[<-e];exact hb
     ·rw[gz e,abb]at hk;exact hk
    ·rw[e,wY U];have:=Wl.go (m:=m) (L:=L) (.nil (u:=N.a t0)) U (.inl ⟨rfl,rfl⟩)
     rwa [abp,aba]at this
  | @next acc v left t w h0 ht ih =>
    obtain⟨sub,pre,s,wl⟩:=ih;have I:=kg.mp (jY ht);have O:=sub t I.2.1;have Y:=nV hm O;refine⟨λk hk=>?_,pre++[cd v s],s^^m.testBit t,?_⟩
    ·rw[aal,aaw]at hk
     by_cases e:t=k
     ·rw[<-e];exact O
     ·rw[gz e,abb]at hk;exact sub k hk
    ·have e:r^^^(left^^^2^t)=r^^^left^^^2^t:=by rw[aa9]
     have hs:lsum L (λk=>(r^^^left^^^2^t).testBit k) N.n=lsum L (λk=>(r^^^left).testBit k) N.n+L t:=by
      rw[qx (g:=λj=>(r^^^left).testBit j^^(2^t).testBit j) λj _=>aal ..,wX,wY Y]
      intro k _ hk;rw[aaw];refine gz λe=>?_
      subst e;rw[aal,O,I.2.1]at hk;cases hk
     rw[e,hs];exact wl.go Y (CB I.2.2)
 obtain⟨_,pre,s,wl⟩:=key w;rw[abk]at wl;have f:=l8 hL (N.al t0 U) wl;have Z:N.a t0=v:=by
  have:=f.2.2.1 v;rw[hr.2.1 v f.1,eG (rfl:v=v)]at this;cases h:decide (N.a t0=v) with
  | true=>exact kK h
  | false=>rw[h]at this;cases this
 refine⟨N.a t0,N.al t0 U,pre,r,?_⟩;have hs:=f.2.2.2.1;rw[hs];rw[<-Z]at wl;exact wl
def wZ{m:Nat}:∀(c e:Nat),cnt (λk=>e.testBit k) N.n=c->e<2^N.n->N.gh e->N.par e m=true->∃r,N.Ring r/\(∀k,r.testBit k=true->e.testBit k=true)/\N.par r m=true:=by
 intro c
 induction c using Nat.strongRecOn with
 | _ c ih =>
   intro e hc he ev hp
   by_cases hr:N.Ring e
   ·exact⟨e,hr,λ_ h=>h,hp⟩
   have h0:e≠0:=λz=>by rw[z,lZ]at hp;cases hp
   obtain⟨q,I,Y,q0,Z⟩:∃q,(∀k,q.testBit k=true->e.testBit k=true)/\N.gh q/\q≠0/\q≠e:=by
    apply aaQ;intro h;refine hr ⟨h0,ev,λq I Y=>?_⟩
    apply aaQ;intro h2;exact h ⟨q,I,Y,λz=>h2 (.inl z),λz=>h2 (.inr z)⟩
   have small:∀q,(∀k,q.testBit k=true->e.testBit k=true)->q≠e->cnt (λk=>q.testBit k) N.n<c:=by
    intro q I Z;have h1:=K8 (f:=λk=>q.testBit k) (g:=λk=>e.testBit k) (n:=N.n) λk _ h=>I k h
    have h2:cnt (λk=>q.testBit k) N.n≠cnt (λk=>e.testBit k) N.n:=λh=>Z (aa0 λk=>by
     by_cases hk:k<N.n
     ·have:=Cm (f:=λk=>q.testBit k) (g:=λk=>e.testBit k) (λk _ h=>I k h) h k hk
      cases O:e.testBit k with
      | true=>exact this O
      | false=>cases h4:q.testBit k with
        | false=>rfl
        | true=>rw[I k h4]at O;cases O
     ·cases O:e.testBit k with
      | true=>exact absurd (nV he O) hk
      | false=>cases h4:q.testBit k with
        | false=>rfl
        | true=>rw[I k h4]at O;cases O)
    lia
   have lt:∀q,(∀k,q.testBit k=true->e.testBit k=true)->q<2^N.n:=λq I=>dz λk hk=>nV he (I k hk)
   have ab:∀k,(e^^^q).testBit k=true->e.testBit k=true:=λk hk=>by
    rw[aal]at hk;cases O:e.testBit k with
    | true=>rfl
    | false =>
      cases h4:q.testBit k with
      | false=>rw[O,h4]at hk;cases hk
      | true=>rw[I k h4]at O;cases O
   have fin:∀q,(∀k,q.testBit k=true->e.testBit k=true)->q≠e->N.gh q->N.par q m=true->∃r,N.Ring r/\(∀k,r.testBit k=true->e.testBit k=true)/\N.par r m=true:=by
    intro q I Z Y U;obtain⟨r,h1,h2,O⟩:=ih _ (small q I Z) q rfl (lt q I) Y U;exact⟨r,h1,λk hk=>I k (h2 k hk),O⟩
   cases U:N.par q m with
   | true=>exact fin q I Z Y U
   | false =>
     refine fin (e^^^q) ab (λz=>q0 ?_) (gh.xor ev Y) (by rw[o6,hp,U];rfl)
     have:e^^^(e^^^q)=e^^^e:=by rw[z]
     rwa [<-aa9,abE,aba]at this
def Lz(hL:∀k,k<N.n->0<=L k)(hu:u<N.p){z:Int}(h:Wy N L m u u true z):∃r,N.Ring r/\r<2^N.n/\N.par r m=true/\lsum L (λk=>r.testBit k) N.n<=z:=by
 obtain⟨pre,e,h⟩:=h;obtain⟨_,h2,h3,h4,h5,_⟩:=l8 hL hu h;obtain⟨r,r1,r2,r3⟩:=wZ _ e rfl h2 (λx _=>by rw[h3,adi]) h4
 refine⟨r,r1,dz λk hk=>nV h2 (r2 k hk),r3,?_⟩
 have:=o7 (L:=L) (f:=λk=>r.testBit k) (g:=λk=>e.testBit k) hL λk _ hk=>r2 k hk
 lia
end
end RM
namespace Ring
open PySem L2
def bg(ts:List cP)(k:Nat):Int:=(bU ts k).2.2
def zX(ts:List cP)(f:Nat->Bool):∀n,HS ts f n=RM.lsum (bg ts) f n
 | 0=>rfl
 | n+1=>by
   show HS ts f n+_=RM.lsum (bg ts) f n+_;rw[zX ts f n];rfl
def E4{ts:List cP}{m:Nat}(hm:m<2^ts.length):lenOf ts m=RM.lsum (bg ts) (λk=>m.testBit k) ts.length:=by
 rw[HU hm,zX]
def l9{p:Nat}{ts:List cP}(g:aD p ts):∀k,k<g.N.n->0<=bg ts k:=λk hk=>by
 have:=(g.wg _ (fB hk)).l0;unfold bg
 lia
structure E5(H0:Hp)(D:Addr)(es:List Addr)(F:Nat->Bool->Option Int)(H:Hp):Prop where
 same:au H0 H
 nd:es.Nodup
 ne:D∉es
 fr:∀b∈es,H0 b=none
 Dn:H0 D=none
 lst:H D=some (.lst (es.map V.ref))
 at_:∀i b,es[i]?=some b->H b=some (.lst [oV (F i false),oV (F i true)])
def E5.go{H0 H H' : Hp}{D:Addr}{es:List Addr}{F:Nat->Bool->Option Int}(h:E5 H0 D es F H)(s:au H H'):E5 H0 D es F H' :=
 ⟨h.same.trans s,h.nd,h.ne,h.fr,h.Dn,s _ _ h.lst,λi b e=>s _ _ (h.at_ i b e)⟩
def E5.off{H0 H:Hp}{D L:Addr}{es:List Addr}{F:Nat->Bool->Option Int}(h:E5 H0 D es F H)(hL:H L=none):L∉es:=λz=>by
 obtain⟨j,hj⟩:=aaN z;have:=h.at_ j L hj;rw[hL]at this;cases this
def CH(H0:Hp)(D:Addr)(i:Nat)(acc:List V)(H:Hp):Prop:=∃es,acc=es.map V.ref/\es.length=i/\E5 H0 D es (λ_ _=>none) H
def CH.start{H0:Hp}{D:Addr}(hD:H0 D=none):CH H0 D 0 [] (upd H0 D (.lst [])) :=
 ⟨[],rfl,rfl,au.new hD,acD,ab3,λ_ h=>(ab3 h).elim,hD,ae,λi b e=>by cases e⟩
def CH.len{H0 H:Hp}{D:Addr}{i:Nat}{acc:List V}(h:CH H0 D i acc H):H D=some (.lst acc)/\acc.length<=i:=by
 obtain⟨es,rfl,e,r⟩:=h;exact⟨r.lst,by rw[aaa];lia⟩
def CH.next{H0 H:Hp}{D b:Addr}{i:Nat}{acc:List V}(h:CH H0 D i acc H)(hb:H b=none):upd H b (.lst [.eF,.eF]) D=some (.lst acc)/\CH H0 D (i+1) (acc++[.ref b]) (upd (upd H b (.lst [.eF,.eF])) D (.lst (acc++[.ref b]))):=by
 obtain⟨es,rfl,e,r⟩:=h;have O:D≠b:=λz=>by
  have:=r.lst;rw[z,hb]at this;cases this
 have U:b∉es:=r.off hb;have I:H0 b=none:=r.same.free hb;refine⟨by rw[ah O];exact r.lst,es++[b],by simp,by simp[e],(r.same.put I).put r.Dn,?_,?_,λc hc=>?_,r.Dn,by rw[ae];simp,λj c hc=>?_⟩
 ·exact adk.mpr ⟨r.nd,by simp,λx hx y Z=>by rw[aax.mp Z];exact λz=>U (z▸hx)⟩
 ·intro hm;rcases aaH.mp hm with z|z
  ·exact r.ne z
  ·exact O (aax.mp z)
 ·rcases aaH.mp hc with z|z
  ·exact r.fr c z
  ·rw[aax.mp z];exact I
 ·have TQ:c≠D:=λz=>by
   subst z;rcases aaH.mp (jY hc) with z|z
   ·exact r.ne z
   ·exact O (aax.mp z)
  rw[ah TQ]
  by_cases Y:c=b
  ·rw[Y,ae];rfl
  ·rw[ah Y]
   by_cases hj:j<es.length
   ·rw[aaP hj]at hc;exact r.at_ j c hc
   ·rw[aaS (by lia)]at hc
    have:=jY hc;exact absurd (aax.mp this) Y
def mh(F:Nat->Bool->Option Int)(p:Nat):List Pr:=(List.range p).map λi=>(F i false,F i true)
def LA{F:Nat->Bool->Option Int}{p x:Nat}(h:x<p)(s:Bool):sel (fD (mh F p) x) s=F x s:=by
 unfold fD mh;rw[aae,aak,acs h];cases s<;>rfl
def LC(F:Nat->Bool->Option Int)(i:Nat):mh F (i+1)=mh F i++[(F i false,F i true)]:=by
 unfold mh;rw[abe,aar];rfl
def AW(F:Nat->Bool->Option Int)(i:Nat):(mh F i).length=i:=by
 unfold mh;rw[aaa,aaA]
def LD(R:List Pr)(t:cP)(u:Bool):CA R t u=true↔∀I:Bool,wU (sel (fD R t.1.toNat) I) (sel (fD R t.2.1.toNat) (I^^u)) t.2.2=true:=by
 unfold CA;rw[aaJ]
 constructor
 ·rintro⟨h1,h2⟩ I;cases I with
  | false=>rw[abM];exact h1
  | true=>rw[Bool.true_xor];exact h2
 ·intro h;have h1:=h false;have h2:=h true;rw[abM]at h1;rw[Bool.true_xor]at h2;exact⟨h1,h2⟩
variable {p:Nat}{ts:List cP}{g:aD p ts}{m:Nat}{W:List (List Pr)}
def rJ(p:Nat)(ts:List cP)(g:aD p ts)(m:Nat)(W:List (List Pr)):Prop:=∀i,i<p->∀x s,x<p->RM.uT g.N (bg ts) m i x s (sel (fD (W.getD i []) x) s)
def rJ.stands(h:rJ p ts g m W):AU p ts m W:=λi hi=>by
 refine⟨RM.Ly (l9 g) (show i<g.N.p from hi) (h i hi i false hi),λk hk=>?_⟩
 rw[LD];exact λs=>RM.Iq (l9 g) (show k<g.N.n from hk) (h i hi _ s (g.N.al k hk)) (h i hi _ _ (g.N.bl k hk))
def Ir(h:rJ p ts g m W){l:Int}(hl:∀r,r<2^ts.length->g.N.Ring r->g.N.par r m=true->l<=RM.lsum (bg ts) (λk=>r.testBit k) ts.length):∀i,i<p->∀d,(fD (W.getD i []) i).2=some d->l<=d:=by
 intro i hi d hd;have b:=h i hi i true hi;have e:sel (fD (W.getD i []) i) true=some d:=hd;rw[e]at b;obtain⟨r,I,O,U,Y⟩:=RM.Lz (l9 g) (show i<g.N.p from hi) b.1
 exact Int.le_trans (hl r O I U) Y
def AX{r:Nat}(hm:m<2^ts.length):(bx ((r&&&m:Nat):Int)).length%2=1↔g.N.par r m=true:=by
 rw[<-AO (g:=g) hm,adh]
end Ring
namespace RM
open Ring (maskOf mask_bit mask_lt)
def jf{a b:Nat}(h:a^^^b=0):a=b:=by
 have:=aaO (λy=>y^^^b) h
 simp only[aba]at this
 rwa [aa9,abE,abk]at this
def comb:List Nat->Nat->Nat
 | [],_=>0
 | b::B,z=>(if z.testBit 0=true then b else 0)^^^comb B (z/2)
def LF(a b c d:Nat):(a^^^b)^^^(c^^^d)=(a^^^c)^^^(b^^^d):=aa0 λi=>by
 simp only[aal];cases a.testBit i<;>cases b.testBit i<;>cases c.testBit i<;>cases d.testBit i<;>rfl
def LG(z y:Nat):(z^^^y)/2=z/2^^^y/2:=aa0 λi=>by
 rw[aal,<-ab4,<-ab4,<-ab4,aal]
def kh:∀(B:List Nat) (z y:Nat),comb B (z^^^y)=comb B z^^^comb B y
 | [],_,_=>by simp[comb]
 | b::B,z,y=>by
   unfold comb;rw[LG,kh B,aal,LF]
   congr 1
   cases z.testBit 0<;>cases y.testBit 0<;>simp
def mj:∀(B:List Nat),comb B 0=0
 | []=>rfl
 | b::B=>by
   unfold comb;rw[abJ,show 0/2=0 from rfl,mj B]
   simp
def LH(i:Nat):2^(i+1)/2=2^i:=by
 rw[abS,Nat.mul_div_cancel _ (by decide)]
def w4:∀{B:List Nat} {i b:Nat},B[i]?=some b->comb B (2^i)=b
 | [],i,b,h=>by simp at h
 | b'::B,0,b,h=>by
   have:b' = b:=by simpa using h
   subst this;unfold comb;rw[show(2^0:Nat).testBit 0=true from rfl,aad rfl,show(2^0:Nat)/2=0 from rfl,mj,abk]
 | b'::B,i+1,b,h=>by
   unfold comb;have h0:(2^(i+1)).testBit 0=false:=by rw[aaw];simp
   rw[h0,aab (by decide),aba,LH]
   exact w4 (B:=B) h
def jT:∀(B:List Nat) (b z:Nat),comb (B++[b]) z=comb B z^^^(if z.testBit B.length=true then b else 0)
 | [],b,z=>by
   show(if z.testBit 0=true then b else 0)^^^0=0^^^_
   rw[abk,aba];rfl
 | b'::B,b,z=>by
   show(if z.testBit 0=true then b' else 0)^^^comb (B++[b]) (z/2)=((if z.testBit 0=true then b' else 0)^^^comb B (z/2))^^^_
   rw[jT B b (z/2),aa9,<-ab4];rfl
def sU:∀(B:List Nat) {z:Nat},(∀i,i<B.length->z.testBit i=false)->comb B z=0
 | [],_,_=>rfl
 | b::B,z,h=>by
   unfold comb;rw[h 0 (by simp),aab (by decide),aba]
   exact sU B λi hi=>by rw[<-ab4];exact h (i+1) (by simp;lia)
def rK(B:List Nat):∀z,Sp B (comb B z):=by
 induction B with
 | nil=>intro z;exact .zero
 | cons b B I =>
   intro z;have h:Sp (b::B) (comb B (z/2)):=(I (z/2)).mono λc hc=>.mem (pP _ hc)
   unfold comb;rw[adp]
   by_cases e:z.testBit 0=true
   ·rw[aad e];exact h.add aaq
   ·rw[aab e,abk];exact h
def AY{B:List Nat}{x:Nat}(h:Sp B x):∃z,z<2^B.length/\comb B z=x:=by
 induction h with
 | zero=>exact⟨0,abt _,mj B⟩
 | add h hb ih =>
   obtain⟨z,hz,e⟩:=ih;obtain⟨i,hi⟩:=aaN hb;have I:=(kL.mp hi).1;exact⟨z^^^2^i,aa2 hz (abO (by decide) I),by rw[kh,e,w4 hi]⟩
def Iu(B:List Nat):Prop:=∀z,z<2^B.length->comb B z=0->z=0
def w5{B:List Nat}{b:Nat}:Iu (B++[b])↔Iu B/\¬ Sp B b:=by
 have I:(B++[b]).length=B.length+1:=by simp
 constructor
 ·intro h;refine⟨λz hz e=>h z ?_ ?_,λhs=>?_⟩
  ·rw[I,abS];lia
  ·rw[jT,e,aa5 hz];simp
  ·obtain⟨y,U,e⟩:=AY hs;have O:2^B.length<2^(B.length+1):=abO (by decide) (by lia)
   have:=h (y^^^2^B.length) (by rw[I];exact aa2 (by lia) O) (by
    have h1:(y^^^2^B.length).testBit B.length=true:=by
     rw[aal,aa5 U,acz];rfl
    have h2:comb B (2^B.length)=0:=sU B λi hi=>by
     rw[aaw];exact gz (by lia)
    rw[jT,h1,aad rfl,kh,h2,e,abk,abE])
   have Y:(y^^^2^B.length).testBit B.length=false:=by rw[this,abJ]
   rw[aal,aa5 U,acz]at Y;cases Y
 ·rintro⟨h,hs⟩ z hz e;rw[jT]at e
  by_cases hb:z.testBit B.length=true
  ·rw[aad hb]at e;have Z:comb B z=b:=by
    have:=aaO (λy=>y^^^b) e
    simp only[l7,aba]at this;exact this
   exact absurd (Z▸rK B z) hs
  ·rw[aab hb,abk]at e;refine h z ?_ e;refine dz λk hk=>?_
   have:=dh hz hk;rw[I]at this;have:k≠B.length:=λe=>hb (e▸hk)
   lia
def CI(B:List Nat)(h:Iu B){z y:Nat}(hz:z<2^B.length)(hy:y<2^B.length)(e:comb B z=comb B y):z=y:=by
 have:=h (z^^^y) (aa2 hz hy) (by rw[kh,e,abE])
 exact jf this
section
variable {N:Net}
def zY{B:List Nat}(h:∀b∈B,N.gh b/\b<2^N.n)(z:Nat):N.gh (comb B z)/\comb B z<2^N.n:=by
 have hs:=rK B z;refine⟨?_,hs.lt λb hb=>(h b hb).2⟩
 generalize comb B z=x at hs
 induction hs with
 | zero=>exact gh.zero
 | add _ hb ih=>exact gh.xor ih (h _ hb).1
def Ow{f:Nat->Nat}{a b:Nat}(hf:∀z,z<2^a->f z<2^b)(inj:∀z y,z<2^a->y<2^a->f z=f y->z=y):a<=b:=by
 have nd:((List.range (2^a)).map f).Nodup:=by
  refine abP.mpr ?_;refine ab5 (λ{z y} hz O I e=>?_) adn
  exact I (inj z y (aaC.mp hz) (aaC.mp O) e)
 have:=K7 nd λx hx=>by
  obtain⟨z,hz,rfl⟩:=aas.mp hx;exact hf z (aaC.mp hz)
 rw[aaa,aaA]at this;exact(Nat.pow_le_pow_iff_right (by decide)).mp this
def meets(ks:List Nat)(m:Nat):Nat:=maskOf (λi=>m.testBit (ks.getD i 0)) ks.length
def LI(ks:List Nat)(m:Nat):meets ks m<2^ks.length:=mask_lt _ _
def Iv{ks:List Nat}{m i k:Nat}(h:ks[i]?=some k):(meets ks m).testBit i=m.testBit k:=by
 unfold meets;rw[mask_bit,aae,h,eG (kL.mp h).1];rfl
def Rv{B:List Nat}(hi:Iu B)(h:∀b∈B,N.gh b/\b<2^N.n):B.length<=N.aZ.length:=by
 refine Ow (f:=λz=>meets N.aZ (comb B z)) (λz _=>LI _ _) λz y hz O e=>CI B hi hz O ?_
 have h1:=zY h z;have h2:=zY h y;refine jf (hU (N:=N) (λk hk=>?_) (gh.xor h1.1 h2.1))
 have I:=dh (aa2 h1.2 h2.2) hk;refine⟨I,?_⟩;cases hf:N.nQ k with
 | true=>rfl
 | false =>
   obtain⟨j,hj⟩:=aaN (dZ.mpr ⟨I,hf⟩);have e:meets N.aZ (comb B z)=meets N.aZ (comb B y):=e;have:=aaO (λx=>x.testBit j) e
   simp only[Iv hj]at this;rw[aal,this,adi]at hk;cases hk
structure Base(N:Net)(rs:List Nat):Prop where
 len:rs.length=N.aZ.length
 ring:∀r∈rs,N.Ring r/\r<2^N.n
 ind:Iu rs
end
abbrev Row3:=Nat×Nat×Nat
def two(q:Row3):Nat×Nat:=(q.1,q.2.1)
def cU(rows:List Row3)(x u:Nat):Nat×Nat:=rows.foldl (λs q=>if s.1.testBit q.1=true then(s.1^^^q.2.1,s.2^^^q.2.2) else s) (x,u)
def sV(q:Row3)(rows:List Row3)(x u:Nat):cU (q::rows) x u=if x.testBit q.1=true then cU rows (x^^^q.2.1) (u^^^q.2.2) else cU rows x u:=by
 unfold cU;rw[abU]
 by_cases h:x.testBit q.1=true
 ·rw[aad h,aad h]
 ·rw[aab h,aab h]
def nW:∀(rows:List Row3) (x u:Nat),(cU rows x u).1=CD (rows.map two) x
 | [],_,_=>rfl
 | q::rows,x,u=>by
   rw[sV];show _=CD (rows.map two) (if x.testBit q.1=true then x^^^q.2.1 else x)
   by_cases h:x.testBit q.1=true
   ·rw[aad h,aad h];exact nW rows _ _
   ·rw[aab h,aab h];exact nW rows _ _
def yy(rows:List Row3)(a:Row3):List Row3:=a::rows.map λq=>if q.2.1.testBit a.1=true then(q.1,q.2.1^^^a.2.1,q.2.2^^^a.2.2) else q
structure Rw(B:List Nat)(rows:List Row3):Prop where
 own:∀q∈rows,q.2.1.testBit q.1=true
 Iw:rows.Pairwise λq q'=>q'.2.1.testBit q.1=false/\q.2.1.testBit q'.1=false
 PK:∀q∈rows,q.2.2<2^B.length/\comb B q.2.2=q.2.1
 span:∀b∈B,Sp (rows.map λq=>q.2.1) b
 le:rows.length<=B.length
 len:rows.length=B.length↔Iu B
section
variable {B:List Nat}{rows:List Row3}
def Rw.start:Rw [] []:=⟨(λq I=>nomatch I),.nil,(λq I=>nomatch I),(λb hb=>nomatch hb),aaf _,⟨λ_ z hz _=>by simp at hz;exact hz,λ_=>rfl⟩⟩
def Rx(own:∀q∈rows,q.2.1.testBit q.1=true)(Iw:rows.Pairwise λq q'=>q'.2.1.testBit q.1=false/\q.2.1.testBit q'.1=false):PJ (rows.map two):=by
 induction rows with
 | nil=>exact .nil
 | cons q rows I =>
   obtain⟨h1,h2⟩:=acA.mp Iw;refine .cons (I (λq' O=>own q' (pP _ O)) h2) (own q aaq) λx hx=>?_
   obtain⟨q',U,rfl⟩:=aas.mp hx;exact(h1 q' U).1
def Rw.SK(h:Rw B rows):PJ (rows.map two):=Rx h.own h.Iw
def map_two(rows:List Row3):(rows.map two).map (λq=>q.2)=rows.map λq=>q.2.1:=by
 rw[aa7];rfl
def Rw.sW(h:Rw B rows)(x u:Nat):(cU rows x u).1=0↔Sp B x:=by
 rw[nW,Io h.SK,map_two]
 constructor
 ·intro hs;refine hs.mono λb hb=>?_
  obtain⟨q,I,rfl⟩:=aas.mp hb;rw[<-(h.PK q I).2];exact rK B _
 ·exact λhs=>hs.mono h.span
def Rw.LJ(h:Rw B rows)(x u:Nat):∀q∈rows,(cU rows x u).1.testBit q.1=false:=λq I=>by
 rw[nW];exact zV h.SK x (two q) (aas.mpr ⟨q,I,rfl⟩)
def zZ(hc:∀q∈rows,q.2.2<2^B.length/\comb B q.2.2=q.2.1):∀(x u:Nat),u<2^B.length->(cU rows x u).2<2^B.length/\comb B (cU rows x u).2=comb B u^^^(x^^^(cU rows x u).1):=by
 induction rows with
 | nil=>intro x u I;exact⟨I,by show _=_^^^(x^^^x);rw[abE,abk];rfl⟩
 | cons q rows O =>
   intro x u I;have U:=hc q aaq;have O:=O λq' Y=>hc q' (pP _ Y)
   rw[sV]
   by_cases h:x.testBit q.1=true
   ·rw[aad h];obtain⟨Z,i2⟩:=O (x^^^q.2.1) (u^^^q.2.2) (aa2 I U.1);refine⟨Z,?_⟩;rw[i2,kh,U.2];refine aa0 λi=>?_
    simp only[aal];generalize (cU rows (x^^^q.2.1) (u^^^q.2.2)).1.testBit i=y;cases(comb B u).testBit i<;>cases q.2.1.testBit i<;>cases x.testBit i<;>cases y<;>rfl
   ·rw[aab h];exact O x u I
def Ry(h:Rw B rows){x:Nat}(hx:∀b∈B,b<2^x):∀q∈rows,q.2.1<2^x:=λq I=>by
 rw[<-(h.PK q I).2];exact(rK B _).lt hx
def w6{z:Nat}(b:Nat)(hz:z<2^B.length):comb (B++[b]) z=comb B z:=by
 rw[jT,aa5 hz];simp
def Rw.skip{b:Nat}(h:Rw B rows)(hs:Sp B b):Rw (B++[b]) rows:=by
 have O:(B++[b]).length=B.length+1:=by simp
 refine⟨h.own,h.Iw,λq I=>⟨?_,?_⟩,λc hc=>?_,?_,?_⟩
 ·have:=(h.PK q I).1;rw[O,abS]
  lia
 ·rw[w6 b (h.PK q I).1];exact(h.PK q I).2
 ·rcases aaH.mp hc with hc|hc
  ·exact h.span c hc
  ·have e:c=b:=by simpa using hc
   rw[e];exact hs.mono h.span
 ·have:=h.le
  lia
 ·rw[w5];have:=h.le;exact⟨λe=>by lia,λz=>absurd hs z.2⟩
def Rw.put{b:Nat}(h:Rw B rows)(h0:(cU rows b 0).1≠0):Rw (B++[b]) (yy rows ((cU rows b 0).1.log2,(cU rows b 0).1,(cU rows b 0).2^^^2^B.length)):=by
 have Z:(B++[b]).length=B.length+1:=by simp
 have ab : ¬ Sp B b:=λz=>h0 ((h.sW b 0).mpr z)
 have off:=h.LJ b 0;obtain⟨c1,Y⟩:=zZ h.PK b 0 (abt _);rw[mj,aba]at Y;have zl:Sp (rows.map λq=>q.2.1) (b^^^(cU rows b 0).1):=by
  rw[nW];have:=GW (rows.map two) b
  rwa [map_two]at this
 generalize cU rows b 0=lu at *;obtain⟨l,u⟩:=lu;have h0:l≠0:=h0;have top:=Ou h0;have c1:u<2^B.length:=c1;have Y:comb B u=b^^^l:=Y;have off:∀q∈rows,l.testBit q.1=false:=off;have zl:Sp (rows.map λq=>q.2.1) (b^^^l):=zl
 show Rw (B++[b]) (yy rows (l.log2,l,u^^^2^B.length));generalize l.log2=t at top;have p2:2^B.length<2^(B++[b]).length:=by rw[Z];exact abO (by decide) (by lia)
 have hc:comb (B++[b]) (u^^^2^B.length)=l:=by
  have h1:(u^^^2^B.length).testBit B.length=true:=by
   rw[aal,aa5 c1,acz];rfl
  have h2:comb B (2^B.length)=0:=sU B λi hi=>by
   rw[aaw];exact gz (by lia)
  rw[jT,h1,aad rfl,kh,h2,Y,abk];refine aa0 λi=>?_
  simp only[aal];cases b.testBit i<;>cases l.testBit i<;>rfl
 unfold yy;refine⟨λq O=>?_,acA.mpr ⟨λq O=>?_,?_⟩,λq O=>?_,λc hc=>?_,?_,?_⟩
 ·rcases aao.mp O with e|O
  ·rw[e];exact top
  ·obtain⟨I,U,rfl⟩:=aas.mp O
   by_cases e:I.2.1.testBit t=true
   ·rw[aad e];show(I.2.1^^^l).testBit I.1=true;rw[aal,h.own I U,off I U];rfl
   ·rw[aab e];exact h.own I U
 ·obtain⟨I,U,rfl⟩:=aas.mp O
  by_cases e:I.2.1.testBit t=true
  ·rw[aad e];refine⟨?_,off I U⟩;show(I.2.1^^^l).testBit t=false;rw[aal,e,top];rfl
  ·rw[aab e];exact⟨aci.mpr e,off I U⟩
 ·refine abP.mpr (ab5 (λ{q q'} O Hy hz=>?_) h.Iw)
  obtain⟨z1,z2⟩:=hz;have o1:=off q O;have o2:=off q' Hy;have fst:∀q:Row3,(if q.2.1.testBit t=true then(q.1,q.2.1^^^l,q.2.2^^^(u^^^2^B.length)) else q).1=q.1:=λq=>by
   split<;>rfl
  have snd:∀(q:Row3) (k:Nat),l.testBit k=false->(if q.2.1.testBit t=true then(q.1,q.2.1^^^l,q.2.2^^^(u^^^2^B.length)) else q).2.1.testBit k=q.2.1.testBit k:=λq k hk=>by
   split
   ·show(q.2.1^^^l).testBit k=_;rw[aal,hk,abb]
   ·rfl
  refine⟨?_,?_⟩
  ·rw[snd q' _ (by rw[fst];exact o1),fst]
   exact z1
  ·rw[snd q _ (by rw[fst];exact o2),fst]
   exact z2
 ·rcases aao.mp O with e|O
  ·rw[e];exact⟨aa2 (by lia) p2,hc⟩
  ·obtain⟨I,U,rfl⟩:=aas.mp O;obtain⟨d1,d2⟩:=h.PK I U
   by_cases e:I.2.1.testBit t=true
   ·rw[aad e];refine⟨aa2 (by lia) (aa2 (by lia) p2),?_⟩
    show comb (B++[b]) (I.2.2^^^(u^^^2^B.length))=I.2.1^^^l;rw[kh,hc,w6 b d1,d2]
   ·rw[aab e];exact⟨by lia,by rw[w6 b d1,d2]⟩
 ·have ZD:l∈(((t,l,u^^^2^B.length):Row3)::rows.map λq=>if q.2.1.testBit t=true then(q.1,q.2.1^^^l,q.2.2^^^(u^^^2^B.length)) else q).map λq=>q.2.1:=by
   rw[aay];exact aaq
  have old:∀x∈rows.map (λq=>q.2.1),Sp ((((t,l,u^^^2^B.length):Row3)::rows.map λq=>if q.2.1.testBit t=true then(q.1,q.2.1^^^l,q.2.2^^^(u^^^2^B.length)) else q).map λq=>q.2.1) x:=λx hx=>by
   obtain⟨I,U,rfl⟩:=aas.mp hx;have hm:(if I.2.1.testBit t=true then(I.1,I.2.1^^^l,I.2.2^^^(u^^^2^B.length)) else I).2.1∈(((t,l,u^^^2^B.length):Row3)::rows.map λq=>if q.2.1.testBit t=true then(q.1,q.2.1^^^l,q.2.2^^^(u^^^2^B.length)) else q).map λq=>q.2.1 :=
    aas.mpr ⟨_,pP _ (aas.mpr ⟨I,U,rfl⟩),rfl⟩
   by_cases e:I.2.1.testBit t=true
   ·rw[aad e]at hm;have:=(Sp.mem hm).xor (Sp.mem ZD)
    rwa [l7]at this
   ·rw[aab e]at hm;exact .mem hm
  rcases aaH.mp hc with hc|hc
  ·exact(h.span c hc).mono old
  ·have e:c=b:=by simpa using hc
   rw[e];have:=(zl.mono old).xor (Sp.mem ZD)
   rwa [l7]at this
 ·rw[aaZ,aaa,Z];have:=h.le
  lia
 ·rw[aaZ,aaa,Z,w5];have:=h.len
  constructor
  ·exact λe=>⟨this.mp (by lia),ab⟩
  ·exact λe=>by have:=this.mpr e.1;lia
def rx(f:Row3->Bool):List Row3->Bool
 | []=>false
 | q::rows=>f q^^rx f rows
def CJ{f g:Row3->Bool}:∀{rows:List Row3},(∀q∈rows,f q=g q)->rx f rows=rx g rows
 | [],_=>rfl
 | q::rows,h=>by
   unfold rx;rw[h q aaq,CJ λq' I=>h q' (pP _ I)]
def z5(i:Nat):∀{rows:List Row3},(rows.Pairwise λq q'=>q'.2.1.testBit q.1=false/\q.2.1.testBit q'.1=false)->∀(x u:Nat),(cU rows x u).2.testBit i=(u.testBit i^^rx (λq=>x.testBit q.1&&q.2.2.testBit i) rows)
 | [],_,x,u=>by show u.testBit i=(u.testBit i^^false);rw[abb]
 | q::rows,Iw,x,u=>by
   obtain⟨h1,h2⟩:=acA.mp Iw;have I:=z5 i h2;rw[sV];unfold rx
   by_cases h:x.testBit q.1=true
   ·rw[aad h,I,h,abo,aal,Bool.xor_assoc]
    congr 2
    exact CJ λq' O=>by rw[aal,(h1 q' O).2,abb]
   ·rw[aab h,I,aci.mpr h,ade,abM]
def di(rows:List Row3)(i:Nat):List Nat:=(rows.filter λq=>q.2.2.testBit i).map λq=>q.1
def CK(own:∀q∈rows,q.2.1.testBit q.1=true)(Iw:rows.Pairwise λq q'=>q'.2.1.testBit q.1=false/\q.2.1.testBit q'.1=false)(i:Nat):(di rows i).Nodup:=by
 unfold di;refine abP.mpr ((ab5 (λ{q q'} O I hz e=>?_) Iw).filter _)
 have:=own q' I;rw[<-e,hz.1]at this;cases this
def z6(f:Nat->Bool)(n:Nat):∀{l:List Nat},l.Nodup->(∀k∈l,k<n)->bZ (λk=>f k&&decide (k∈l)) n=l.foldr (λk acc=>f k^^acc) false
 | [],_,_=>jP λk _=>by simp
 | a::l,nd,h=>by
   obtain⟨I,O⟩:=aaX.mp nd;have U:=z6 f n O λk hk=>h k (pP _ hk)
   have:bZ (λk=>f k&&decide (k∈a::l)) n=bZ (λk=>(f k&&decide (a=k))^^(f k&&decide (k∈l))) n:=cj λk _=>by
    by_cases e:a=k
    ·subst e;rw[eG aaq,eG rfl,gz I,acm,abb]
    ·have:(k∈a::l)↔k∈l:=⟨λz=>(aao.mp z).resolve_left λz=>e z.symm,pP _⟩
     rw[gz e,acm,abM,abh.mpr this]
   rw[this,j8,j9 f (h a aaq),U];rfl
def CL(f:Nat->Bool)(i:Nat):∀rows:List Row3,(di rows i).foldr (λk acc=>f k^^acc) false=rx (λq=>f q.1&&q.2.2.testBit i) rows
 | []=>rfl
 | q::rows=>by
   have I:=CL f i rows;unfold di at I ⊢;unfold rx;cases h:q.2.2.testBit i with
   | true =>
     rw[aaD,aad h,aay,List.foldr_cons,I,acP]
   | false =>
     rw[aaD,aab (by rw[h];decide),I,acm,abM]
def Rw.marks{N:Net}(h:Rw B rows)(hi:Iu B)(hb:∀b∈B,b<2^N.n){i j b:Nat}(hj:B[j]?=some b):N.par b (Ring.orM (di rows i))=decide (i=j)/\∀k∈di rows i,k<N.n:=by
 have lt:∀k∈di rows i,k<N.n:=λk hk=>by
  obtain⟨q,I,rfl⟩:=aas.mp hk;have I:=(aaK.mp I).1;exact dh (Ry h hb q I) (h.own q I)
 refine⟨?_,lt⟩;have Y:N.par b (Ring.orM (di rows i))=rx (λq=>b.testBit q.1&&q.2.2.testBit i) rows:=by
  rw[<-CL (λk=>b.testBit k),<-z6 (λk=>b.testBit k) N.n (CK h.own h.Iw i) lt]
  exact cj λk _=>by rw[Ring.jG]
 have hz:(cU rows b 0).1=0:=(h.sW b 0).mpr (.mem (jY hj));obtain⟨Z,O⟩:=zZ h.PK b 0 (abt _);rw[mj,aba,hz,abk]at O
 replace O:=O.trans (w4 hj).symm
 have LK:=(kL.mp hj).1;have e2:=CI B hi Z (abO (by decide) LK) O
 have U:=z5 i h.Iw b 0;rw[e2,abJ,abM,aaw]at U;rw[Y,<-U];exact abh.mpr eq_comm
end
end RM
namespace Ring
open PySem L2
def uF(q:RM.Row3):List V:=[.int (q.1:Int),.int (q.2.1:Int),.int (q.2.2:Int)]
def w9(H:Hp)(x:V)(q:RM.Row3):Prop:=∃b,x = .ref b/\H b=some (.tup (uF q))
def w9.tups{H H' : Hp}(s:bH H H'){x:V}{q:RM.Row3}(h:w9 H x q):w9 H' x q:=let⟨b,e,z⟩:=h;⟨b,e,s _ _ z⟩
def jI(H:Hp)(l:Addr)(rows:List RM.Row3):Prop:=∃xs,H l=some (.lst xs)/\Paired (w9 H) xs rows
def jI.same{H H' : Hp}(s:au H H'){l:Addr}{rows:List RM.Row3}(h:jI H l rows):jI H' l rows:=let⟨xs,e,z⟩:=h;⟨xs,s _ _ e,Paired.imp' (λ_ _ z=>z.tups s.tups) z⟩
def Iz(rows:List RM.Row3)(q:RM.Row3)(x u:Nat):RM.cU (rows++[q]) x u=if(RM.cU rows x u).1.testBit q.1=true then((RM.cU rows x u).1^^^q.2.1,(RM.cU rows x u).2^^^q.2.2) else RM.cU rows x u:=by
 unfold RM.cU;rw[abY];rfl
def take3{α:Type}{l:List α}{i:Nat}{q:α}(h:l[i]?=some q):l.take (i+1)=l.take i++[q]:=by
 rw[aaM,h];rfl
def LL{m:Nat}(h:m≠0):((Builtin.Int.intBits (m:Int):Nat):Int)-1=((m.log2:Nat):Int):=by
 rw[wc,aab h]
 lia
end Ring
namespace L2
open PySem PySem.Spec PyProof.Rows
def E6{K:bE}{a:Addr}{xs:List V}{g:TG}{tt:TT}{te:TE}{n:Nat}{fr:St}{D:Addr}{Q:Hp->Prop}{H1:Hp}(Pv:Nat->List V->Hp->Prop)(h0:Pv 0 [] H1)(hl:∀i acc H,i<=xs.length->Pv i acc H->aO K H a xs/\H D=some (.lst acc)/\acc.length<=i)(hz:xs.length<=sizeLine)
 (hs:∀i x T acc H,xs[i]?=some x->Pv i acc H->H T=none->g (.ref T) (List.replicate n none++fr) (upd H T (.tup [.int (i:Int),x])) λσ2 H2=>σ2.drop n=fr/\tt σ2 H2 λb H3 =>
  if b=true then te σ2 H3 λv H4=>H4 D=some (.lst acc)/\Pv (i+1) (acc++[v]) (upd H4 D (.lst (acc++[v]))) else Pv (i+1) acc H3)
 (hd:∀acc H,Pv xs.length acc H->Q H):ja (Sz K a) g tt te n fr D Q H1:=by
 refine⟨λi m acc H=>m=xs.length-i/\i<=xs.length/\Pv i acc H,⟨xs.length,by simp,aaF _,h0⟩,?_⟩
 rintro i m acc H ⟨rfl,hi,p⟩;obtain⟨q,U,ha⟩:=hl i acc H hi p;refine⟨U,?_⟩
 by_cases I:i<xs.length
 ·refine .inr ⟨⟨xs,xs[i],q,by simp[I]⟩,by lia,Pv (i+1),λO H' Y=>⟨xs.length-(i+1),by lia,rfl,I,Y⟩,λv H' y=>?_⟩
  obtain⟨T,x,rfl,Z,rfl,y⟩:=y;exact hs i x T acc _ (y xs q) p Z
 ·have e:i=xs.length:=by lia
  subst e;exact .inl ⟨⟨xs,q,aaf _⟩,hd acc H p⟩
end L2
namespace RM
variable {N:Net}{S:Nat->Bool}
def mq{b:Nat}{B:List Nat}:Iu (b::B)↔Iu B/\¬ Sp B b:=by
 have dbl:∀z,(2*z).testBit 0=false:=λz=>by rw[adq];exact gz (by lia)
 have I:∀z,(2*z+1).testBit 0=true:=λz=>by rw[adq];exact eG (by lia)
 constructor
 ·intro h;refine⟨λz hz e=>?_,λhs=>?_⟩
  ·have:=h (2*z) (by rw[aaZ,abS];lia) (by
    unfold comb;rw[dbl,aab (by decide),aba,show 2*z/2=z by lia]
    exact e)
   lia
  ·obtain⟨y,U,e⟩:=AY hs;have:=h (2*y+1) (by rw[aaZ,abS];lia) (by
    unfold comb;rw[I,aad rfl,show(2*y+1)/2=y by lia,e,abE])
   lia
 ·rintro⟨h,hs⟩ z hz e;unfold comb at e;rw[aaZ,abS]at hz
  by_cases hb:z.testBit 0=true
  ·rw[aad hb]at e;have O:=jf e;exact absurd (O▸rK B (z/2)) hs
  ·rw[aab hb,aba]at e;have h0:=h (z/2) (by lia) e
   rw[adq,adh]at hb
   lia
def Ox{B C:List Nat}(h:B.Perm C)(x:Nat):Sp B x↔Sp C x :=
 ⟨λz=>z.mono λb hb=>.mem (h.mem_iff.mp hb),λz=>z.mono λb hb=>.mem (h.mem_iff.mpr hb)⟩
def LM{B C:List Nat}(h:B.Perm C):Iu B↔Iu C:=by
 induction h with
 | nil=>exact Iff.rfl
 | cons x h O=>rw[mq,mq,O,Ox h]
 | swap x y l =>
   rw[mq,mq,mq,mq,Sp.nU,Sp.nU,adp y x]
   constructor
   ·rintro⟨⟨h1,h2⟩,I⟩;exact⟨⟨h1,λz=>I (.inl z)⟩,λz=>z.elim h2 λz=>I (.inr z)⟩
   ·rintro⟨⟨h1,h2⟩,I⟩;exact⟨⟨h1,λz=>I (.inl z)⟩,λz=>z.elim h2 λz=>I (.inr z)⟩
 | trans _ _ i1 i2=>exact i1.trans i2
def Base.perm{N:Net}{rs rs' : List Nat}(b:Base N rs)(h:rs'.Perm rs):Base N rs' :=
 ⟨by rw[h.length_eq];exact b.len,λr hr=>b.ring r (h.mem_iff.mp hr),(LM h).mpr b.ind⟩
end RM
namespace L2
open PySem PySem.Spec PyProof.Rows
def dG(q:Str)(pos:Pos):Array Value:=#[.str q 0,rawInt pos.line,rawInt pos.col]
def pR(pos:Pos)(c:Addr):Array Value:=#[rawInt pos.line,rawInt pos.col,.ref c]
def gD(H:Hp)(P c:Addr)(oc:Obj)(q:Str)(pos:Pos):Hp:=upd (upd H c (.mG oc (.own P))) P (.jj (dG q pos++pR pos c))
def given(H:Hp)(P c:Addr)(q:Str)(pos:Pos):Hp:=upd (upd H c (.own P)) P (.jj (dG q pos))
def CodeObj(oc:Obj)(q:Str):Prop:=∃vs t,oc.data = .fields vs/\vs[1]?=some (.str q t)
def CodeObj.rec{h:Heap}{c:Addr}{oc:Obj}{q:Str}(x:CodeObj oc q)(e:h.get? c=some oc):h.CodeRec (.ref c) q :=
 let⟨vs,t,e1,e2⟩:=x
 ⟨c,oc,vs,t,rfl,e,e1,e2⟩
def Rz{P:Program}{w:World}{H:Hp}{h:Heap}{a:Addr}{q:Str}{pos:Pos}(x:bz P w H h a (.jj (dG q pos))):
 h.get? a=some (PySem.W.tabObj #[])\/∃c oc,h.get? a=some (PySem.W.tabObj (pR pos c))/\H c=some (.own a)/\h.get? c=some oc/\CodeObj oc q:=by
 obtain⟨ps,e,f⟩:=x;rcases f with⟨_,f|⟨c,I,O,c',oc,vs,U,hc,Y,hd,Z⟩⟩|⟨q',l,k,f,z⟩
 ·subst f;exact .inl e
 ·cases hc;subst I;exact .inr ⟨c,oc,e,O,Y,vs,U,hd,Z⟩
 ·have:=aaO Array.size f;rw[Array.size_append,z]at this;exact absurd this (by simp[dG])
def LN{P:Program}{w:World}{H:Hp}{h:Heap}{a c:Addr}{q:Str}{pos:Pos}(x:bz P w H h a (.jj (dG q pos++pR pos c))):h.get? a=some (PySem.W.tabObj (pR pos c)):=by
 obtain⟨ps,e,f⟩:=x;rcases f with⟨f,_⟩|⟨q',l,k,f,z⟩
 ·rw[Array.size_append]at f;exact absurd f (by simp[dG,pR])
 ·have I:=aaO (λa=>a.toList.drop 3) f
  simp only[Array.toList_append,dG,pR,List.cons_append,List.nil_append,List.drop_succ_cons,List.drop_zero]at I;have O:ps=pR pos c:=by
   apply Array.toList_inj.mp;exact I.symm
  rw[<-O];exact e
abbrev CM(X:Cx)(params:Arguments)(body:Expr)(scope:Scope)(c:Addr)(ctv:Value):FuncData :=
 PySem.W.kla_fn "<lambda>" (X.env.qual ++ "<lambda>") params body scope (dM X.env.cells scope.names []) ((X.mg "__name__").getD .none) (.ref c) ctv
abbrev eX(X:Cx)(params:Arguments)(body:Expr)(scope:Scope)(c:Addr)(ctv:Value):Obj :=
 { cls:=.type "function",data:=.func (CM X params body scope c ctv)}
section
variable {X:Cx}{pq:aX}{σ:St}{H H2:Hp}{s:Shared}{params:Arguments}{body:Expr}{scope:Scope}{pos:Pos}{own fq:List Str}{js:List Nat}{c P:Addr}
def CN{Q:dD}{E:dD}
 (I:Inv X pq σ H s) (T:eJ X scope own fq js) (hcode:X.env.code = .ref c) (hK:PySem.W.codeHdIn X.K c P=true) (hP:H P=some (.jj (dG (X.env.qual ++ "<lambda>") pos)))
 (hdef:defaultsOf params X.env=([],[]))
 (h:∀f O oc ctv s',(H O = none\/H O = some (.own P))->O≠P->CodeObj oc (X.env.qual ++ "<lambda>")->Inv X ((f,eX X params body scope O ctv)::pq) σ (gD H P O oc (X.env.qual ++ "<lambda>") pos) s'->Q (.ref f) s') :
 wpAny (model X.prog X.w) X.A (eval (.Lambda params body scope pos) X.env) Q E s:=by
 have a5:=Rz (show bz X.prog X.w H s.heap P (.jj (dG (X.env.qual ++ "<lambda>") pos)) from I.hok P _ hP)
 have C:PySem.W.CodeHd s.heap c P:=PySem.W.codeHd_of_K I.uy hK;have hg:=I.mod.glob.keeps I.bk;have ZE:∀b o,X.base.get? b=some o->b≠P:=λb o q z=>by
  have:=(I.bs b o q).2;rw[z,hP]at this;cases this
 have a6:mainGlobals≠P:=by
  obtain⟨o,es,ep,q,_⟩:=I.mod.glob;exact ZE _ o q
 have hb:s.heap.BuiltinsAt X.mg P:=by
  obtain⟨bm,ob,b1,b2,b3,b4,b5,b6⟩:=I.mod.bmain;refine⟨bm,ob,b1,b2,λz=>?_,ZE _ _ b3,I.bk _ _ b3,b4,b5,b6⟩
  obtain⟨o,es,ep,q,hd,_⟩:=I.mod.glob;rw[z,q]at b3;cases b3;rw[hd]at b6;cases b6
 have ar:=qp (iC I T);have fin:∀(f O : Addr) (oc:Obj) (ctv:Value) (h2:Heap) (tk:Nat),(H O = none\/H O = some (.own P))->O≠P->(H O = none->s.heap.objs.size<=O)->CodeObj oc (X.env.qual ++ "<lambda>")->(∀b o,b≠P->s.heap.get? b=some o->h2.get? b=some o)->
  h2.get? P=some (PySem.W.tabObj (pR pos O))->h2.get? O = some oc->s.heap.objs.size<=f->f≠O->h2.get? f=some (eX X params body scope O ctv)->
  Inv X ((f,eX X params body scope O ctv)::pq) σ (gD H P O oc (X.env.qual ++ "<lambda>") pos) { s with heap:=h2,toks:=tk}:=by
  intro f O oc ctv h2 tk hc CO aw ab hx Ws U hf a7 a8;have nP:∀b,H b=none->b≠P:=λb n z=>by rw[z,hP]at n;cases n
  have Oz:∀b u,H b=some u->(∀y,u≠.own y)->(∀qs,u≠.jj qs)->gD H P O oc (X.env.qual ++ "<lambda>") pos b=some u:=λb u e n1 n2=>by
   unfold gD;rw[ah (λz=>by rw[z,hP]at e;exact n2 _ (Option.some.inj e).symm),ah (λz=>by
    rw[z]at e;rcases hc with q|q
    ·rw[q]at e;cases e
    ·rw[q]at e;exact n1 _ (Option.some.inj e).symm)]
   exact e
  have RA:∀b,H b=none->(b<s.heap.objs.size\/b≠O)->gD H P O oc (X.env.qual ++ "<lambda>") pos b=none:=λb n hb=>by
   unfold gD;rw[ah (nP b n),ah (λz=>by
    rcases hb with q|q
    ·rw[z]at q n;exact absurd (aw n) (Nat.not_le.mpr q)
    ·exact q z)]
   exact n
  have un:Un X.fs [] H (gD H P O oc (X.env.qual ++ "<lambda>") pos) s.heap h2:=by
   refine⟨λb o q n _ _=>hx b o (nP b n) q,λb o q n _ _=>⟨o.slots,hx b o (nP b n) q⟩,λb o q n _=>RA b n (.inl (aan q)),λb o q _=>?_,λb xs q=>Oz b _ q (by intro y z;cases z) (by intro y z;cases z),λb o u q=>Oz b _ q (by intro y z;cases z) (by intro y z;cases z),λb ps q=>?_⟩
   ·by_cases hb:b=P
    ·exact⟨_,by rw[hb];exact Ws⟩
    ·exact⟨o,hx b o hb q⟩
   ·by_cases hb:b=P
    ·subst hb;rw[hP]at q;cases q;exact⟨pR pos O,ae⟩
    ·refine⟨#[],?_⟩;unfold gD;rw[ah hb,ah (λz=>by
      rw[z]at q;rcases hc with r|r<;>(rw[r]at q;cases q)),q]
     simp
  have hok:nF X.prog X.w (gD H P O oc (X.env.qual ++ "<lambda>") pos) h2:=λb u q=>by
   by_cases CP:b=P
   ·subst CP;unfold gD at q;rw[ae]at q;cases q;exact⟨_,Ws,.inr ⟨_,_,_,rfl,rfl⟩⟩
   ·by_cases ax:b=O
    ·subst ax;unfold gD at q;rw[ah CP,ae]at q;cases q;exact⟨U,oc,U⟩
    ·have q' : H b=some u:=by
      unfold gD at q;rw[ah CP,ah ax]at q;exact q
     have ow:∀d,H d=some (.own b)->d≠P/\d≠O:=λd Y=>⟨aP Y hP (by intro z;cases z),λz=>by
      rw[z]at Y;rcases hc with r|r
      ·rw[r]at Y;cases Y
      ·rw[r]at Y;cases Y;exact CP rfl⟩
     refine(I.hok b u q').stay (λd v hd Y=>hx d v ?_ Y) (λd Y=>?_) λd xs Y=>Oz d _ Y (by intro y z;cases z) (by intro y z;cases z)
     ·rcases hd with rfl|hd
      ·exact CP
      ·exact(ow d hd).1
     ·unfold gD;rw[ah (ow d Y).1,ah (ow d Y).2];exact Y
  have J:=I.un (t':=tk) un hok;have a9:H f=none:=I.hok.fresh hf;refine J.gZ λp hp=>?_
  rcases aao.mp hp with rfl|hp
  ·exact⟨a8,RA _ a9 (.inr a7),abw (aau I.lt hf),I.Th hf,λv z=>by cases z⟩
  ·exact J.pin p (jF _ hp)
 refine PySem.W.kla_eval hdef ?_;rcases a5 with e|⟨O,oc,e,ho,U,ab⟩
 ·refine PySem.W.kla_makeFunction (mg:=X.mg) ar I.ok.glob hg hcode C e trivial rfl a6 hb λO ctv h' tk hx Z aT a3 ba=>?_
  obtain⟨c2,oc,vs,t,e2,U,hd,hv⟩:=a3;cases e2;have hf:s.heap.objs.size<=h'.objs.size:=aaB Z (aa6 aT);have CO:O≠P:=abw (aau (aan e) Z);exact h _ O oc ctv _ (.inl (I.hok.fresh Z)) CO ⟨vs,t,hd,hv⟩ (fin _ O oc ctv _ tk (.inl (I.hok.fresh Z)) CO (λ_=>Z) ⟨vs,t,hd,hv⟩ (λb o hb q=>aag _ (hx b o hb q)) (aag _ ba) (aag _ U) hf (abw aT) (aav _ rfl))
 ·have hf:codeAmong pos (pR pos O).toList=some (.ref O):=codeAmong_snoc [] trivial rfl;have tr:TriplesOk (pR pos O).toList:=TriplesOk_snoc pos.line pos.col (.ref O) [] trivial;refine PySem.W.kla_makeFunctionHit (mg:=X.mg) ar I.ok.glob hg hcode C e tr hf hb λctv h' tk hk a4=>?_
  have CO:O≠P:=aP ho hP (by intro z;cases z)
  have ag : ∀b o,s.heap.get? b=some o->(h'.push (eX X params body scope O ctv)).get? b=some o:=λb o q=>aag _ (hk b o q)
  exact h _ O oc ctv _ (.inr ho) CO ab (fin _ O oc ctv _ tk (.inr ho) CO (λz=>by rw[ho]at z;cases z) ab (λb o _ q=>ag b o q) (ag _ _ e) (ag _ _ U) a4 (abw (aau (aan U) a4)) (aav _ rfl))
def CQ{xg:aX}{σ0:St}{s0:Shared}{q:Str}{oc:Obj}(I0:Inv X xg σ0 H s0)(hP:H P=some (.jj (dG q pos)))(hc:H c=none\/H c=some (.own P))(CO:c≠P)(hoc:CodeObj oc q)
 (I:Inv X pq σ H2 s) (e1:H2 P=some (.jj (dG q pos++pR pos c))) (e2:H2 c=some (.mG oc (.own P))):Inv X pq σ (given H2 P c q pos) s:=by
 have Ws:=LN (show bz X.prog X.w H2 s.heap P (.jj (dG q pos++pR pos c)) from I.hok P _ e1)
 obtain⟨U,_⟩:=(show bz X.prog X.w H2 s.heap c (.mG oc (.own P)) from I.hok c _ e2)
 have RA:∀b,H2 b=none->given H2 P c q pos b=none:=λb n=>by
  unfold given;rw[ah (λz=>by rw[z,e1]at n;cases n),ah (λz=>by rw[z,e2]at n;cases n)]
  exact n
 have Y:∀b u,b≠P->b≠c->H2 b=some u->given H2 P c q pos b=some u:=λb u n1 n2 e=>by
  unfold given;rw[ah n1,ah n2];exact e
 refine⟨I.ok,I.os,I.bare,⟨I.base.keep,I.base.slot,λb o z n hx=>RA b (I.base.free b o z n hx),I.base.there,λb xs z=>?_,λb o u z=>?_,λb ps z=>?_⟩,I.loc,I.cell,RA _ I.free,λx c' z=>RA _ (I.fO x c' z),λp hp=>?_,λb u z=>?_,I.len⟩
 ·have r:=I.base.tups b xs z;exact Y b _ (aP r e1 (by intro z;cases z)) (aP r e2 (by intro z;cases z)) r
 ·have r:=I.base.mH b o u z;refine Y b _ (aP r e1 (by intro z;cases z)) (λy=>?_) r
  have O:=I0.base.mH b o u z;rw[y]at O;rcases hc with hc|hc<;>(rw[hc]at O;cases O)
 ·by_cases hb:b=P
  ·subst hb;obtain⟨more,O⟩:=I0.base.nG b ps z;rw[hP]at O;exact⟨more,by unfold given;rw[ae];exact O⟩
  ·obtain⟨more,r⟩:=I.base.nG b ps z;exact⟨more,Y b _ hb (aP r e2 (by intro z;cases z)) r⟩
 ·obtain⟨a1,a2,a3⟩:=I.pin p hp;exact⟨a1,RA _ a2,a3⟩
 ·by_cases CP:b=P
  ·subst CP;unfold given at z;rw[ae]at z;cases z;refine⟨_,Ws,.inl ⟨rfl,.inr ⟨c,rfl,?_,hoc.rec U⟩⟩⟩;unfold given;rw[ah CO,ae]
  ·by_cases Z:b=c
   ·subst Z;unfold given at z;rw[ah CP,ae]at z;cases z;exact⟨oc,U⟩
   ·have z' : H2 b=some u:=by
     unfold given at z;rw[ah CP,ah Z]at z;exact z
    refine(I.hok b u z').stay (λ_ _ _ r=>r) (λd r=>Y d _ (aP r e1 (by intro z;cases z)) (aP r e2 (by intro z;cases z)) r) λd xs r=>Y d _ (aP r e1 (by intro z;cases z)) (aP r e2 (by intro z;cases z)) r
def CS{q:Str}{oc:Obj}(hP:H P=some (.jj (dG q pos)))(hc:H c=none\/H c=some (.own P))(CO:c≠P)(S:au (gD H P c oc q pos) H2):au H (given H2 P c q pos):=λb u e=>by
 unfold given
 by_cases O:b=P
 ·subst O;rw[ae,<-hP];exact e
 ·rw[ah O]
  by_cases I:b=c
  ·subst I;rw[ae];rcases hc with hc|hc
   ·rw[hc]at e;cases e
   ·rw[<-hc];exact e
  ·rw[ah I];refine S b u ?_;unfold gD;rw[ah O,ah I];exact e
def vF{q:Str}{oc:Obj}{b:Addr}{u:HO}(hP:H P=some (.jj (dG q pos)))(hc:H c=none\/H c=some (.own P))(e:H b=some u)(n1:∀y,u≠.own y)(n2:∀I,u≠.jj I):gD H P c oc q pos b=some u:=by
 unfold gD;rw[ah (λz=>by rw[z,hP]at e;exact n2 _ (Option.some.inj e).symm),ah (λz=>by
  rw[z]at e;rcases hc with q|q
  ·rw[q]at e;cases e
  ·rw[q]at e;exact n1 _ (Option.some.inj e).symm)]
 exact e
def xh(X:Cx)(N:List Str)(scope:Scope)(f c:Addr)(A:Around)(s:Shared)(H:Hp):Cx where
 prog:=X.prog
 w:=X.w
 K:=X.K
 mg:=X.mg
 base:=X.base
 A:=A.deeper (PySem.W.envX (X.env.qual ++ "<lambda>") scope s.heap.objs.size f (.ref c) (dM X.env.cells scope.names []))
 N:=N
 s₀:=s
 H₀:=H
 env:=PySem.W.envX (X.env.qual ++ "<lambda>") scope s.heap.objs.size f (.ref c) (dM X.env.cells scope.names [])
 outer:=X.stack
 stack:=PySem.W.envX (X.env.qual ++ "<lambda>") scope s.heap.objs.size f (.ref c) (dM X.env.cells scope.names [])::X.stack
 ex:=[]
 fn:=λ_=>false
 calm:=X.calm
 pn:=[]
 xe:=λ_ _=>False
def OA{f:Addr}{A:Around}{x:Str}{v:V}{u:Value}{h1:Heap}{t1:Nat}(I:Inv X pq σ H s)(T:eJ X scope [x] fq js)(hx:scope.names.lookup x=some .local)
 (hfr:A.frames=some X.stack) (hh:A.handled=X.A.handled) (r:RelV v u) (old:∀b o,s.heap.get? b=some o->h1.get? b=some o) (hn:h1.Ns s.heap.objs.size (λy=>[(x,u)].reverse.lookup y)) :
 Inv (xh X ([x]++fq) scope f c A s H) [] (some v::fQ σ js) H { s with heap:=h1,toks:=t1}:=by
 have cells:∀x c,(dM X.env.cells scope.names []).lookup x=some c->X.env.cells.lookup x=some c:=λx c h=>by
  rcases kO h with q|⟨q1,q2⟩
  ·cases q
  ·obtain⟨c',O⟩:=iC I T x .free q1 rfl;rw[O]at q2;rw[O];exact aaO some q2
 refine⟨⟨I.ok.mod,T.kind,rfl,rfl,aaf _,λx y c a b=>I.ok.inj x y c (cells x c a) (cells y c b),λy Y=>?_,λx c z _=>(nomatch z),λhc=>hh.trans (I.ok.hd hc),Around.frames_deeper hfr,.inr ⟨rfl,rfl⟩,λb hb=>absurd (show b∈([]:List Addr) from hb) (by simp),
  λb o e=>I.bs b o e,aaB I.ok.M3 I.sz,λb o _ hb=>absurd (show b∈([]:List Addr) from hb) (by simp),λb hb=>absurd (show b∈([]:List Addr) from hb) (by simp),I.stack,I.Ai⟩,
  rfl,I.bare,Un.kept old,⟨_,hn,λi y v' U e2 e3=>?_⟩,λy c e=>?_,I.hok.fresh (aaf _),λy c e=>I.fO y c (cells y c e),λp hp=>absurd (show p∈([]:aX) from hp) (by simp),I.hok.kept old,?_⟩
 ·have Y:scope.names.lookup y=some .cell\/scope.names.lookup y=some .free:=Y;rcases Y with Y|Y
  ·exact absurd rfl (T.Aw _ (aa8 Y))
  ·exact j7 (.inl (aa8 Y))
 ·replace U:([x]++fq)[i]?=some y:=U
  cases i with
  | zero =>
    have U:x=y:=by simpa using U
    have e2:v=v':=by simpa using e2
    subst U e2;exact⟨u,r,.inl ⟨hx,by simp⟩⟩
  | succ i =>
    have U:fq[i]?=some y:=by simpa using U
    have e2:(fQ σ js)[i]?=some (some v'):=by simpa using e2
    obtain⟨j,hj,hσ⟩:=vS e2;have hN:X.N[j]?=some y:=by
     have q:=aaO (λl=>l[i]?) T.at_
     simp only[aak,hj,U,abW]at q;exact Option.some.inj q
    have ab:=T.fr y (jY U);have hm:=aa8 ab;have hk:=T.free (y,.free) hm rfl;obtain⟨m0,ag,Gw⟩:=I.loc;obtain⟨u',r',l⟩:=Gw j y v' hN hσ (by rcases hk with k|k;exact .inr (.inl k);exact .inr (.inr k))
    refine⟨u',r',.inr ⟨.inr ab,?_⟩⟩;rcases l with⟨yt,_⟩|⟨_,c1,hc,Z⟩
    ·have yt:X.env.scope.names.lookup y=some .local:=yt;rcases hk with k|k<;>(rw[yt]at k;cases k)
    ·obtain⟨c',O⟩:=j7 (cells:=X.env.cells) (names:=scope.names) (cs:=[]) (x:=y) (.inl hm);have q:=cells y c' O;rw[hc]at q;cases q;exact⟨c1,O,Z.keeps old⟩
 ·obtain⟨v',q⟩:=I.cell y c (cells y c e);exact⟨v',q.keeps old⟩
 ·show _=([x]++fq).length;have q:=aaO List.length T.at_;rw[aaa,aaa]at q;simp only[aaZ,aaj,acd];unfold fQ;rw[aaa]
  lia
def CT{f:Addr}{ctv:Value}{A:Around}{te:TE}{x:Str}{v:V}{u:Value}{Q:VK}{E:dD}(I:Inv X pq σ H s)(T:eJ X scope [x] fq js)(hx:scope.names.lookup x=some .local)
 (hfr:A.frames=some X.stack) (hh:A.handled=X.A.handled) (hroom:A.depth<recursionLimit) (hp:(f,eX X params body scope c ctv)∈pq) (hcd:s.heap.CodeRec (.ref c) (X.env.qual ++ "<lambda>"))
 (hb:bindArgs (CM X params body scope c ctv) ⟨[u],[]⟩=pure [(x,u)]) (hco:scope.isCoroutine=false) (hgen:scope.isGenerator=false)
 (he:PE (xh X ([x]++fq) scope f c A s H) body te) (r:RelV v u) (h:te (some v::fQ σ js) H Q) :
 wpAny (model X.prog X.w) A (call (.ref f) [u]) (λu' s'=>∃O H',Inv X pq σ H' s'/\RelV O u'/\Q O H') E s:=by
 have hf:=I.pin _ (jF _ hp);refine wpAny_call (PySem.W.kla_callFunE hroom hf.1 rfl hco hgen rfl hcd ?_);rw[hb];refine aai (wpAny_newFunctionEnv (λy Y=>T.Aw y Y) (by intro y Y;have:=aax.mp Y;subst this;exact hx) (λh₁ Z UO=>⟨I.nolimit.fresh _ UO,?_⟩) T.kind)
 show codeAny _ _ (.expr body (PySem.W.envX (X.env.qual ++ "<lambda>") scope s.heap.objs.size f (.ref c) (dM X.env.cells scope.names []))) _ _;have old:∀b o,s.heap.get? b=some o->h₁.get? b=some o:=λb o e=>UO.extBut b o (aaz (aan e)) (aag _ e)
 have J:=OA (f:=f) (c:=c) (A:=A) (t1:=s.toks+[(x,u)].length) I T hx hfr hh r old Z;refine PySem.W.kla_codeExpr (aaG (he [] _ _ H Q J h) (λu' s' hq=>?_) λ_ _ z=>z.elim)
 obtain⟨O,H',U,r',q'⟩:=hq;exact⟨O,H',I.JW (ch:=[]) U.os U.base U.hok U.bare (λb z=>absurd z (by simp)),r',q'⟩
end
end L2
namespace HT
def h9:∀a:List Int,lexLt a a=false
 | []=>rfl
 | x::xs=>by rw[iB,aad rfl];exact h9 xs
def uG:∀{a b c:List Int},lexLt a b=true->lexLt b c=true->lexLt a c=true
 | [],[],_,h,_=>by rw[p5]at h;cases h
 | [],_::_,[],_,h=>by rw[g9]at h;cases h
 | [],_::_,_::_,_,_=>rfl
 | _::_,[],_,h,_=>by rw[g9]at h;cases h
 | _::_,_::_,[],_,h=>by rw[g9]at h;cases h
 | x::xs,y::ys,z::zs,h1,h2=>by
   rw[iB]at h1 h2 ⊢
   by_cases O:x=y
   ·rw[aad O]at h1
    by_cases I:y=z
    ·rw[aad I]at h2;rw[aad (O.trans I)];exact uG h1 h2
    ·rw[aab I]at h2;rw[aab (λq=>I (O.symm.trans q)),O]
     exact h2
   ·rw[aab O]at h1;have h1:=kK h1
    by_cases I:y=z
    ·subst I;rw[aab O];exact eG h1
    ·rw[aab I]at h2;have h2:=kK h2;rw[aab (by lia)]
     exact eG (by lia)
def xj{a b c:List Int}(h1:lexLt c b=false)(h2:lexLt a b=true):lexLt c a=false:=by
 cases q:lexLt c a with
 | false=>rfl
 | true=>rw[uG q h2]at h1;cases h1
end HT
namespace L2
open PySem PySem.Spec PyProof.Rows
def Wu(h:Heap)(a:Addr)(es:Array DictEntry)(ep:Nat):Prop:=∃o,h.get? a=some o/\o.ExactDict/\o.data = .dict es ep
def Wv(o:Obj)(a:Addr)(i n ep:Nat):Prop:=o.cls = .type "dict_keyiterator"/\o.data = .fields #[.ref a,.int i 0,.int n 0,.int ep 0]
section
variable {P:Program}{w:World}{A:Around}{E:dD}{s:Shared}{a it:Addr}{es:Array DictEntry}{ep i:Nat}{oi:Obj}
def LO{Q:dD}(hs:(a==sysModules)=false)(g:Wu s.heap a es ep)
 (q:Q (.ref s.heap.objs.size) { s with heap:=s.heap.push { cls:=.type "dict_keyiterator",data:=.fields #[.ref a,.int 0 0,.int es.size 0,.int ep 0]}}):wpAny (model P w) A (pyIter (.ref a)) Q E s:=by
 obtain⟨o,I,hc,hd⟩:=g;have O:s.TypeIs (.ref a) "dict":=⟨o,I,hc.1⟩;refine wpAny_pyIter_slot O PySem.F.slot_dict_iter (wpAny_call_entry PySem.F.slot_dict_iter O PySem.F.entry_dict_iter ?_ (PySem.F.args_dict_iter_1 _));unfold Builtin.«dict.__iter__» Builtin.Dict.dictSlotNone;refine aW (aW (wpAny_notOrdered_dict O ?_));show wpAny _ _ (pure (Value.ref a)) _ _ s;refine aai ?_;show wpAny _ _ (Builtin.Dict.showsAll a >>= _) _ _ s;unfold Builtin.Dict.showsAll;rw[hs];refine aW (aai (aW (wpAny_dictEntries I hd (aW (wpAny_dictEpoch I hd ?_)))));exact aW (wpAny_newObj_type (aai ⟨_,rfl,"dict_keyiterator",_,⟨_,aav _ rfl,rfl⟩,abZ.lookup,q⟩))
def xm{Q:Option Value->Shared->Prop}(hi:s.heap.get? it=some oi)(g:Wv oi a i es.size ep)(gd:Wu s.heap a es ep)
 (q:match (es[i]?:Option DictEntry) with
  | some e=>∀h' O,h'.get? it=some O->Wv O a (i+1) es.size ep->Heap.SameBut it s.heap h'->Q (some e.key) { s with heap:=h'}
  | none=>A.handled=none/\∀h',Heap.ExtBut it s.heap h'->Q none { s with heap:=h'}):wpAny (model P w) A (pyNext (.ref it)) Q E s:=by
 obtain⟨hc,hd⟩:=g;obtain⟨o,ho,hx,Ww⟩:=gd;have I:s.TypeIs (.ref it) "dict_keyiterator":=⟨oi,hi,hc⟩;unfold pyNext;refine aW (wpAny_attempt (wpAny_callSpecial?_slot (name:=Str.ofString "__next__") I abZ (wpAny_call_entry abZ I PySem.F.entry_dict_keyiterator_next ?_ (PySem.F.args_dict_keyiterator_next_1 _))));refine aW (aai (aW (aW ?_)))
 first | refine aW (wpAny_typeNameOfWhole_keyiter I (aai ?_)) | refine aW (wpAny_typeNameOf_keyiter I (aai ?_))
 refine aW (wpAny_fieldsOf hi hd ?_);have U:Builtin.Dict_items.ownsTuple "dict_keyiterator"=false:=by decide
 simp only[U,abg,if_false];show wpAny _ _ (if(Value.ref a==Value.none)=true then _ else _) _ _ s
 rw[aab (show ¬((Value.ref a==Value.none)=true) from aah)]
 refine aW (aai (aW (wpAny_dictEntries ho Ww ?_)));rw[aab (by simp)]
 refine aW (aai (aW (wpAny_dictEpoch ho Ww ?_)));rw[aab (by simp)]
 refine aai ?_;simp only[show ¬((i:Int)<0) from by lia,if_false,aap]
 cases hei:(es[i]?:Option DictEntry) with
 | some e =>
   rw[hei]at q;refine aW ?_
   first | refine aW (wpAny_typeNameOfWhole_keyiter I (aai ?_)) | refine aW (wpAny_typeNameOf_keyiter I (aai ?_))
   refine aW (wpAny_isOneOf_keyiter I ?_);show wpAny _ _ (setField (.ref it) 1 (rawInt ((i:Int)+1)) >>= _) _ _ s;refine aW (wpAny_setField hi hd (by simp) ?_)
   have d1:=ace hd (·.setIfInBounds 1 (rawInt ((i:Int)+1)));have g1:=abK (Obj.mapFields (·.setIfInBounds 1 (rawInt ((i:Int)+1)))) hi (ack d1);have Y:(Obj.mapFields (·.setIfInBounds 1 (rawInt ((i:Int)+1))) oi).cls = .type "dict_keyiterator":=(Obj.cls_mapFields ..).trans hc;refine aW (aaW ?_);refine aW (wpAny_isOneOf_keyiter (s:={ s with heap:=s.heap.update it (Obj.mapFields (·.setIfInBounds 1 (rawInt ((i:Int)+1))))}) ⟨_,g1,Y⟩ ?_)
   show wpAny _ _ (pure e.key) _ _ _;exact aai (aai ⟨_,rfl,aai (q _ _ g1 ⟨Y,by rw[d1];simp[rawInt]⟩ (aaY ..))⟩)
 | none =>
   rw[hei]at q;obtain⟨hh,q⟩:=q;refine aW ?_
   first | refine aW (wpAny_typeNameOfWhole_keyiter I (aai ?_)) | refine aW (wpAny_typeNameOf_keyiter I (aai ?_))
   show wpAny _ _ (setField (.ref it) 0 .none >>= _) _ _ s;refine aW (wpAny_setField hi hd (by simp) ?_)
   show wpAny _ _ (newExc (.type "StopIteration") [] >>= _) _ _ _;refine aW ?_;simp only[newExc,newTuple];refine aW (wpAny_newObj_type (aW (m:=firstArgMember _ _) (wpAny_of_eq (a:=Value.none) (by first | rfl | (simp only[firstArgMember];rfl)) (wpAny_newObj_type ?_ (by size_fits)))) (by size_fits))
   simp only[raiseNew];refine aW (wpAny_handled ?_);rw[show A.in1.handled=none from hh]
   refine aW (aai (wpAny_throw ?_));refine aW (wpAny_isInstance (T:="StopIteration") (b:=true) ⟨_,aav _ rfl,rfl⟩ isSubtype_stop (aai ?_));exact q _ (((aaY ..).extBut.push _).push _)
end
section
variable {X:Cx}{pq:aX}{σ:St}{H H2:Hp}{s:Shared}
def Inv.OB{a:Addr}{kvs:List (List Key×V)}{ob:Obj}(I:Inv X pq σ H s)(e:H a=some (.dT kvs))(ho:s.heap.get? a=some ob):Inv X pq σ (upd H a (.mG ob (.dT kvs))) s:=by
 have ne:∀b,H b=none->b≠a:=λb h z=>by rw[z,e]at h;cases h
 refine⟨I.ok,I.os,I.bare,⟨I.base.keep,I.base.slot,λb o q n hx=>?_,I.base.there,λb xs q=>?_,λb o u q=>?_,λb ps q=>?_⟩,I.loc,I.cell,?_,λx c q=>?_,λp O=>?_,λb u q=>?_,I.len⟩
 ·have z:=I.base.free b o q n hx;rw[ah (ne b z)];exact z
 ·have z:=I.base.tups b xs q;rw[ah (aP z e (by intro z;cases z))]
  exact z
 ·have z:=I.base.mH b o u q;rw[ah (aP z e (by intro z;cases z))]
  exact z
 ·obtain⟨more,z⟩:=I.base.nG b ps q;exact⟨more,by rw[ah (aP z e (by intro z;cases z))];exact z⟩
 ·rw[ah (ne _ I.free)];exact I.free
 ·rw[ah (ne _ (I.fO x c q))];exact I.fO x c q
 ·obtain⟨a1,a2,U⟩:=I.pin p O;exact⟨a1,by rw[ah (ne _ a2)];exact a2,U⟩
 ·by_cases hb:b=a
  ·subst hb;rw[ae]at q;cases q;exact⟨ho,(I.hok b _ e).stay (λ_ _ _ q=>q) (λc q=>by rw[ah (aP q e (by intro z;cases z))];exact q) λc xs q=>by rw[ah (aP q e (by intro z;cases z))];exact q⟩
  ·rw[ah hb]at q;exact(I.hok b u q).stay (λ_ _ _ q=>q) (λc q=>by rw[ah (aP q e (by intro z;cases z))];exact q) λc xs q=>by rw[ah (aP q e (by intro z;cases z))];exact q
def Inv.UP{xg:aX}{σ0:St}{s0:Shared}{a:Addr}{kvs:List (List Key×V)}{ob:Obj}(I0:Inv X xg σ0 H s0)(e0:H a=some (.dT kvs))(I:Inv X pq σ H2 s)(e:H2 a=some (.mG ob (.dT kvs))):
 Inv X pq σ (upd H2 a (.dT kvs)) s:=by
 have ne:∀b,H2 b=none->b≠a:=λb h z=>by rw[z,e]at h;cases h
 obtain⟨Z,hd⟩:=(show bz X.prog X.w H2 s.heap a (.mG ob (.dT kvs)) from I.hok a _ e)
 refine⟨I.ok,I.os,I.bare,⟨I.base.keep,I.base.slot,λb o q n hx=>?_,I.base.there,λb xs q=>?_,λb o u q=>?_,λb ps q=>?_⟩,I.loc,I.cell,?_,λx c q=>?_,λp U=>?_,λb u q=>?_,I.len⟩
 ·have z:=I.base.free b o q n hx;rw[ah (ne b z)];exact z
 ·have z:=I.base.tups b xs q;rw[ah (aP z e (by intro z;cases z))]
  exact z
 ·have z:=I.base.mH b o u q;rw[ah (λy=>by
   have O:=I0.base.mH b o u q;rw[y,e0]at O;cases O)]
  exact z
 ·obtain⟨more,z⟩:=I.base.nG b ps q;exact⟨more,by rw[ah (aP z e (by intro z;cases z))];exact z⟩
 ·rw[ah (ne _ I.free)];exact I.free
 ·rw[ah (ne _ (I.fO x c q))];exact I.fO x c q
 ·obtain⟨a1,a2,Y⟩:=I.pin p U;exact⟨a1,by rw[ah (ne _ a2)];exact a2,Y⟩
 ·by_cases hb:b=a
  ·subst hb;rw[ae]at q;cases q;exact hd.stay (λ_ _ _ q=>q) (λc q=>by rw[ah (aP q e (by intro z;cases z))];exact q) λc xs q=>by rw[ah (aP q e (by intro z;cases z))];exact q
  ·rw[ah hb]at q;exact(I.hok b u q).stay (λ_ _ _ q=>q) (λc q=>by rw[ah (aP q e (by intro z;cases z))];exact q) λc xs q=>by rw[ah (aP q e (by intro z;cases z))];exact q
def E7(X:Cx)(b:Addr):Prop:=X.s₀.heap.objs.size<=b/\b≠X.env.locals/\b∉X.fs/\(∀x c,X.env.cells.lookup x=some c->c≠b)/\∀p∈X.pn,p.1≠b
def Inv.LP(I:Inv X pq σ H s){b:Addr}(hb:s.heap.objs.size<=b):E7 X b :=
 let⟨_,f1,f2,_,f4,f5⟩:=I.Ef hb (I.hok.fresh hb)
 ⟨aaB I.sz hb,f1,f2,f4,λp O=>f5 p (ac3 _ O)⟩
def Inv.kT{pa pb:aX}{b:Addr}{o:Obj}{h' : Heap}{t' : Nat}(I:Inv X pa σ H s)(hb:E7 X b)(hin:(b,o)∈pa)(k:∀c u,c≠b->s.heap.get? c=some u->h'.get? c=some u)
 (O:∀p∈pb,(p.1=b/\h'.get? b=some p.2/\∀v,p.2.data≠.cell v)\/(p∈pa/\p.1≠b)):Inv X pb σ H { s with heap:=h',toks:=t'}:=by
 obtain⟨b1,U,Y,Z,b5⟩:=hb;have n:=(I.pin (b,o) (jF _ hin)).2.1;have J:=(I.gZ (Qn:=pa.filter λp=>decide (p.1≠b)) λp O=>I.pin p (jF _ (aaK.mp O).1)).turned (t':=t') k n U (.inr b1) Z (λp O=>by
  rcases aaH.mp O with O|O
  ·exact b5 p O
  ·exact kK (aaK.mp O).2)
 refine J.gZ λp h=>?_
 rcases O p h with⟨e,g,d⟩|⟨m,ne⟩
 ·refine⟨by rw[e];exact g,by rw[e];exact n,by rw[e];exact U,by rw[e];exact Y,d⟩
 ·exact J.pin p (jF _ (aaK.mpr ⟨m,eG ne⟩))
end
section
variable {X:Cx}{pq:aX}{σ:St}{H2:Hp}{params:Arguments}{body:Expr}{scope:Scope}{fq:List Str}{js:List Nat}{x:Str}{te:TE}{f c a It S:Addr}{oc ob:Obj}{ctv:Value}{q:Str}{kvs:List (List Key×V)}
 {es:Array DictEntry} {ep:Nat} {ka:Nat->Addr} {ks:Nat->List Int} {PZ:Addr} {R:Result->Shared->Prop}
structure E8(X:Cx)(σ:St)(H2:Hp)(params:Arguments)(body:Expr)(scope:Scope)(fq:List Str)(js:List Nat)(x:Str)(te:TE)(f c a It S:Addr)(oc ob:Obj)(ctv:Value)(kvs:List (List Key×V))(es:Array DictEntry)(ep:Nat)(ka:Nat->Addr)(ks:Nat->List Int)(PZ:Addr):Prop where
 T:eJ X scope [x] fq js
 hx:scope.names.lookup x=some .local
 hh:X.A.handled=none
 dp:X.A.in1.depth<recursionLimit
 un:X.A.in1.units<cLine
 hb:∀u,bindArgs (CM X params body scope c ctv) ⟨[u],[]⟩=pure [(x,u)]
 co:scope.isCoroutine=false
 gen:scope.isGenerator=false
 he:∀s H,PE (xh X ([x]++fq) scope f c X.A.in1 s H) body te
 code:CodeObj oc (X.env.qual ++ "<lambda>")
 hc:H2 c=some (.mG oc (.own PZ))
 ha:H2 a=some (.mG ob (.dT kvs))
 hob:ob.ExactDict/\ob.data = .dict es ep
 key:∀(i:Nat) (e:DictEntry),(es[i]?:Option DictEntry)=some e->e.key = .ref (ka i)
 turn:∀i H3,i<es.size->au H2 H3->te (some (.ref (ka i))::fQ σ js) H3 λv H4=>au H3 H4/\∃d,v = .ref d/\aV X.K H4 d ((ks i).map V.int)
 oS:E7 X S
 oI:E7 X It
 SI:S≠It
 fS:f≠S
 fI:f≠It
def CU{pa:aX}{s:Shared}{H3:Hp}{i:Nat}{E:dD}(F:E8 X σ H2 params body scope fq js x te f c a It S oc ob ctv kvs es ep ka ks PZ)(hi:i<es.size)(hs:au H2 H3)(I:Inv X pa σ H3 s)
 (hf:(f,eX X params body scope c ctv)∈pa) :
 wpAny (model X.prog X.w) X.A.in1 (call (.ref f) [.ref (ka i)]) (λu s'=>∃d H4,u = .ref d/\Inv X pa σ H4 s'/\au H2 H4/\au H3 H4/\aV X.K H4 d ((ks i).map V.int)) E s:=by
 obtain⟨O,_⟩:=(show bz X.prog X.w H3 s.heap c (.mG oc (.own PZ)) from I.hok c _ (hs _ _ F.hc))
 refine aaG (CT (v:=.ref (ka i)) I F.T F.hx I.ok.frames rfl F.dp hf (F.code.rec O) (F.hb _) F.co F.gen (F.he s H3) rfl (F.turn i H3 hi hs)) (λu s' ⟨v,H4,J,r,U,d,e,Y⟩=>?_) λ_ _ z=>z
 subst e;cases r;exact⟨d,H4,rfl,J,λb o z=>U _ _ (hs _ _ z),U,Y⟩
def LQ{pa:aX}{s:Shared}{H3:Hp}{d d' : Addr}{ns ms:List Int}{A:Around}{E:dD}{Q:dD}(I:Inv X pa σ H3 s)(h1:aV X.K H3 d (ns.map V.int))(h2:aV X.K H3 d' (ms.map V.int))(hu:A.units<cLine)
 (q:Q (.bool (HT.lexLt ns ms)) s):wpAny (model X.prog X.w) A (richCompare .Lt (.ref d) (.ref d')) Q E s:=by
 obtain⟨O,U,p1,_⟩:=I.tuple h1;obtain⟨its2,r2,p2,_⟩:=I.tuple h2;exact(HT.Ew p1 p2 (intsAre_of U) (intsAre_of r2) hu q:wpAny (model X.prog X.w) A (compareOp .Lt (.ref d) (.ref d')) Q E s)
abbrev o8(pq:aX)(S It f:Addr)(oS oI lo:Obj):aX:=(S,oS)::(It,oI)::(f,lo)::pq
def LR(F:E8 X σ H2 params body scope fq js x te f c a It S oc ob ctv kvs es ep ka ks PZ)(pI:∀p∈pq,p.1≠It)(pS:∀p∈pq,p.1≠S)
 (hR:∀i s' H3,i<es.size->(∀j,j<es.size->HT.lexLt (ks j) (ks i)=false)->au H2 H3->Inv X pq σ H3 s'->R (.ok (.ret (.ref (ka i)))) s') :
 ∀(r j i:Nat) (s:Shared) (H3:Hp) (d:Addr) (n:Nat) (oI:Obj),es.size-j=r->j<=es.size->i<j->au H2 H3->Inv X (o8 pq S It f (seqObj "list" #[.ref (ka i),.ref d] n) oI (eX X params body scope c ctv)) σ H3 s->Wv oI a j es.size ep->
  aV X.K H3 d ((ks i).map V.int)->(∀Y,Y<j->HT.lexLt (ks Y) (ks i)=false)->codeAny (model X.prog X.w) X.A (.builtin "min.loop" ⟨[.ref It,.ref f,.ref S],[]⟩) R s:=by
 have U:(toString "min" ++ toString ".loop":String)="min.loop":=by decide
 intro r
 induction r with
 | zero =>
   intro j i s H3 d n oI hr hj aw hs I hk hd rL;have D9:j=es.size:=by lia
   have xn:=I.pin (S,_) (jF _ (.head _));have LS:=I.pin (It,oI) (jF _ (.tail _ (.head _)));obtain⟨hob,_⟩:=(show bz X.prog X.w H3 s.heap a (.mG ob (.dT kvs)) from I.hok a _ (hs _ _ F.ha))
   refine codeAny_builtin abG ?_;rw[Around.under_plainId aaV _];show wpAny _ X.A.in1 (seqItems? (.ref S) >>= _) _ _ _;refine aW (wpAny_seqItems xn.1 rfl ?_);show wpAny _ X.A.in1 (tryCatch (pyNext (.ref It)) _ >>= _) _ _ _;refine aW (aby (xm LS.1 hk ⟨ob,hob,F.hob⟩ ?_));rw[D9,Array.getElem?_eq_none (aaf _)];refine⟨F.hh,λh' eb=>?_⟩
   have I1:=I.kT (t':=s.toks) (h':=h') (pb:=(S,seqObj "list" #[.ref (ka i),.ref d] n)::pq) F.oI (List.Mem.tail _ (.head _)) (λb u hb e=>eb b u hb e) (λp O=>by
    rcases aao.mp O with rfl|O
    ·exact .inr ⟨.head _,F.SI⟩
    ·exact .inr ⟨.tail _ (.tail _ (.tail _ O)),pI p O⟩)
   have LU:=I1.pin (S,_) (jF _ (.head _));show wpAny _ X.A.in1 (updateSeq S (λ_=>#[]) >>= _) _ _ _
   refine aW (wpAny_updateSeq LU.1 rfl (aW (wpAny_letGo (aai ?_))));have s1:=aaY h' S (Obj.mapSeq λ_=>(#[]:Array Value))
   exact hR i _ H3 (by lia) (λY ag=>rL Y (by lia)) hs (I1.kT (t':=s.toks) (pb:=pq) F.oS (.head _) (λb u hb e=>(s1.2 b hb).trans e) λp O=>.inr ⟨.tail _ O,pS p O⟩)
 | succ r ih =>
   intro j i s H3 d n oI hr hj aw hs I hk hd rL;have D9:j<es.size:=by lia
   have xn:=I.pin (S,_) (jF _ (.head _));have LS:=I.pin (It,oI) (jF _ (.tail _ (.head _)));obtain⟨hob,_⟩:=(show bz X.prog X.w H3 s.heap a (.mG ob (.dT kvs)) from I.hok a _ (hs _ _ F.ha))
   refine codeAny_builtin abG ?_;rw[Around.under_plainId aaV _];show wpAny _ X.A.in1 (seqItems? (.ref S) >>= _) _ _ _;refine aW (wpAny_seqItems xn.1 rfl ?_);show wpAny _ X.A.in1 (tryCatch (pyNext (.ref It)) _ >>= _) _ _ _;refine aW (aby (xm LS.1 hk ⟨ob,hob,F.hob⟩ ?_));have Z:(es[j]?:Option DictEntry)=some es[j]:=Array.getElem?_eq_getElem D9;rw[Z];intro h' JR Yh ab sb;have I1:=I.kT (t':=s.toks) (h':=h') (pb:=o8 pq S It f (seqObj "list" #[.ref (ka i),.ref d] n) JR (eX X params body scope c ctv)) F.oI (List.Mem.tail _ (.head _)) (λb u hb e=>(sb.2 b hb).trans e) (λp O=>by
    rcases aao.mp O with rfl|O
    ·exact .inr ⟨.head _,F.SI⟩
    ·rcases aao.mp O with rfl|O
     ·exact .inl ⟨rfl,Yh,λv z=>by rw[ab.2]at z;cases z⟩
     ·rcases aao.mp O with rfl|O
      ·exact .inr ⟨.tail _ (.tail _ (.head _)),F.fI⟩
      ·exact .inr ⟨.tail _ (.tail _ (.tail _ O)),pI p O⟩)
   rw[F.key j _ Z];show wpAny _ X.A.in1 (tryCatch (holding [.ref (ka j)] (call (.ref f) [.ref (ka j)])) _ >>= _) _ _ _;refine aW (aby (aaW (aaG (CU F D9 hs I1 (List.Mem.tail _ (.tail _ (.head _)))) (λu s2 hu=>?_) λ_ _ z=>z)))
   obtain⟨d2,H4,rfl,I2,KR,ax,hd2⟩:=hu;have ar:aV X.K H4 d ((ks i).map V.int):=ax.Zq hd;show wpAny _ X.A.in1 (tryCatch (holding [.ref (ka j),.ref d2] (richCompare .Lt (.ref d2) (.ref d) >>= _)) _ >>= _) _ _ _;refine aW (aby (aaW (aW (LQ I2 hd2 ar F.un ?_))));refine aW (aaW (wpAny_truthy_bool (aW (wpAny_letGo (aai ?_)))));have nX:=I2.pin (S,_) (jF _ (.head _));cases hl:HT.lexLt (ks j) (ks i) with
   | true =>
     have s1:=aaY s2.heap S (Obj.mapSeq λ_=>(#[.ref (ka j),.ref d2]:Array Value))
     obtain⟨n2,aT⟩:∃n2,(s2.heap.update S (Obj.mapSeq λ_=>(#[.ref (ka j),.ref d2]:Array Value))).get? S=some (seqObj "list" #[.ref (ka j),.ref d2] n2):=⟨_,get?_update_seq nX.1 λ_=>#[.ref (ka j),.ref d2]⟩
     simp only[if_true];refine aW (wpAny_updateSeq nX.1 rfl (aW (wpAny_letGo ?_)));rw[U];have I3:=I2.kT (t':=s2.toks) (pb:=o8 pq S It f (seqObj "list" #[.ref (ka j),.ref d2] n2) JR (eX X params body scope c ctv)) F.oS (.head _) (λb u hb e=>(s1.2 b hb).trans e) (λp O=>by
      rcases aao.mp O with rfl|O
      ·exact .inl ⟨rfl,aT,λv z=>by cases z⟩
      ·rcases aao.mp O with rfl|O
       ·exact .inr ⟨.tail _ (.head _),F.SI.symm⟩
       ·rcases aao.mp O with rfl|O
        ·exact .inr ⟨.tail _ (.tail _ (.head _)),F.fS⟩
        ·exact .inr ⟨.tail _ (.tail _ (.tail _ O)),pS p O⟩)
     refine aai ⟨plainId_quiet aaV _,ih (j+1) j _ H4 d2 n2 JR (by lia) (by lia) (by lia) KR I3 ab hd2 λY ag=>?_⟩
     by_cases e:Y = j
     ·rw[e];exact HT.h9 _
     ·exact HT.xj (rL Y (by lia)) hl
   | false =>
     simp only[abg,if_false];refine aW (wpAny_letGo ?_);rw[U];refine aai ⟨plainId_quiet aaV _,ih (j+1) i _ H4 d n JR (by lia) (by lia) (by lia) KR I2 ab ar λY ag=>?_⟩
     by_cases e:Y = j
     ·rw[e];exact hl
     ·exact rL Y (by lia)
end
def boot_min:bootBuiltins "min"=some (.builtin "min"):=by kernel_rfl
def UQ(K:bE)(P:Addr)(q:Str)(lp:Pos)(ta:TA)(te:TE)(js:List Nat):TE:=λσ H Q=>ta σ H λvs H1=>∃a kvs,∃ks:Nat->List Int,vs=[.ref a]/\H1 a=some (.dT kvs)/\0<kvs.length/\H1 P=some (.jj (dG q lp))/\
 (∀ob H3,(∀b u,H1 b=some u->b≠a->(∀y,u≠.own y)->(∀I,u≠.jj I)->H3 b=some u)->H3 a=some (.mG ob (.dT kvs))->
  ∀(i:Nat) kv b,kvs[i]?=some kv->H3 b=some (.tup (kv.1.map kV))->te (some (.ref b)::fQ σ js) H3 λv H4=>au H3 H4/\∃d,v = .ref d/\aV K H4 d ((ks i).map V.int))/\
 ∀(i:Nat) kv b H4,kvs[i]?=some kv->(∀j,j<kvs.length->HT.lexLt (ks j) (ks i)=false)->au H1 H4->H4 b=some (.tup (kv.1.map kV))->Q (.ref b) H4
def iG{α β:Type}{R:α->β->Prop}:∀{I:List α} {O:List β},Paired R I O->∀{i:Nat} {a:α} {b:β},I[i]?=some a->O[i]?=some b->R a b
 | _,_,.nil,i,_,_,h,_=>by simp at h
 | _,_,.cons r t,0,_,_,h1,h2=>by
   simp at h1 h2;subst h1 h2;exact r
 | _,_,.cons r t,i+1,_,_,h1,h2=>iG t (by simpa using h1) (by simpa using h2)
section
variable {X:Cx}{params:Arguments}{body e:Expr}{scope:Scope}{lp p pos kp:Pos}{fq:List Str}{js:List Nat}{x:Str}{ta:TA}{te:TE}{c0 P:Addr}{k:Nat}
def OD(hr:dU (k+2) X.A)(T:eJ X scope [x] fq js)(hx:scope.names.lookup x=some .local)(hg:Gl X "min")(hm:X.mg "min"=none)(hcode:X.env.code = .ref c0)(hK:PySem.W.codeHdIn X.K c0 P=true)(ha:PA X [e] ta)
 (he:∀f c s H,dU k (xh X ([x]++fq) scope f c X.A.in1 s H).A->PE (xh X ([x]++fq) scope f c X.A.in1 s H) body te)
 (hb:∀c ctv u,bindArgs (CM X params body scope c ctv) ⟨[u],[]⟩=pure [(x,u)]:=by intro _ _ _;rfl) (hco:scope.isCoroutine=false:=by rfl) (hgen:scope.isGenerator=false:=by rfl)
 (hdef:defaultsOf params X.env=([],[]):=by rfl)
 (hs:backTo pos (starEach [e] X.env)=(false,eval e X.env)::backTo pos (starEach [] X.env):=by rfl) (hs2:(backTo pos (starEach [e] X.env)).any (·.1)=false:=by rfl) :
 PE X (.Call (.Name "min" p) [e] [⟨some (Str.ofString "key"),.Lambda params body scope lp,kp⟩] pos) (UQ X.K P (X.env.qual ++ "<lambda>") lp ta te js):=by
 intro pq s σ H Q I h;refine wpAny_Call_Name_kw (mK I hg hm boot_min (callWith_kw (cY (ha pos pq s σ H _ I h) λus s1 hq=>?_) hs hs2 rfl rfl))
 obtain⟨vs,H1,I1,r1,a,kvs,ks,rfl,a6,bb,hP,ag,RB⟩:=hq;obtain⟨u,rfl,rx⟩:=vals1 r1;cases rx;refine kws_cons (CN I1 T hcode hK hP hdef λf c oc ctv s2 hc CO ax J=>kws_nil ?_)
 show wpAny _ X.A (call (.builtin "min") [.ref a] [(Str.ofString "key",.ref f)]) _ _ s2;have Y:(toString "min" ++ toString ".loop":String)="min.loop":=by decide
 have U:=vF (oc:=oc) hP hc a6 (by intro y z;cases z) (by intro y z;cases z)
 obtain⟨hz,aT,xs,pr,ob,es,ep,ar,hex,Z,a3,bc⟩:=(show bz X.prog X.w (gD H1 P c oc (X.env.qual ++ "<lambda>") lp) s2.heap a (.dT kvs) from J.hok a _ U)
 have J2:=J.OB U ar;have a7:es.size=kvs.length:=by
  have:=aaO List.length a3;rw[aaa,<-pr.length]at this
  simpa using this
 have bo:xs.length=kvs.length:=pr.length.symm;have aw:∀i,i<kvs.length->∃kv y,kvs[i]?=some kv/\xs[i]?=some y/\gD H1 P c oc (X.env.qual ++ "<lambda>") lp y.2.1=some (.tup (kv.1.map kV)):=λi hi=>by
  have e1:kvs[i]?=some kvs[i]:=aam hi;have e2:xs[i]?=some (xs[i]'(by lia)):=aam _
  exact⟨_,_,e1,e2,(iG pr e1 e2).2.1⟩
 have RC:gD H1 P c oc (X.env.qual ++ "<lambda>") lp P=some (.jj (dG (X.env.qual ++ "<lambda>") lp++pR lp c)):=ae;have OE:gD H1 P c oc (X.env.qual ++ "<lambda>") lp c=some (.mG oc (.own P)):=by unfold gD;rw[ah CO,ae]
 have ca:c≠a:=aP OE U (by intro z;cases z)
 have pa:P≠a:=aP RC U (by intro z;cases z)
 generalize NQ:upd (gD H1 P c oc (X.env.qual ++ "<lambda>") lp) a (.mG ob (.dT kvs))=H2 at J2;have at2:∀b u,b≠a->gD H1 P c oc (X.env.qual ++ "<lambda>") lp b=some u->H2 b=some u:=λb u n e=>by rw[<-NQ,ah n];exact e
 have a2:H2 a=some (.mG ob (.dT kvs)):=by rw[<-NQ,ae]
 let ka:Nat->Addr:=λi=>((xs[i]?).map (·.2.1)).getD 0
 have RD:∀{i:Nat} {y:List Key×Addr×Value},xs[i]?=some y->ka i=y.2.1:=λ{i y} e=>by show((xs[i]?).map (·.2.1)).getD 0=_;rw[e];rfl
 refine kmk_tree PySem.F.kind_min PySem.F.plain_min PySem.F.entry_min (kmk_min_key _ _) ?_;show wpAny _ X.A.in1 (Builtin.Builtins.bindParams "min" ["key","default"] 0 ⟨[],[(Str.ofString "key",.ref f)]⟩ >>= _) _ _ s2;refine aW (wpAny_of_eq (show Builtin.Builtins.bindParams "min" ["key","default"] 0 ⟨[],[(Str.ofString "key",.ref f)]⟩=pure [some (.ref f),none] from rfl) ?_)
 refine aW (aai (aW (LO aT ⟨ob,ar,hex,Z⟩ (aW (wpAny_newList ?_ (aaF _))))));rw[Y];refine aai ⟨plainId_quiet aaV _,?_⟩;generalize RE:({ cls:=.type "dict_keyiterator",data:=.fields #[.ref a,.int 0 0,.int es.size 0,.int ep 0]}:Obj)=oI;have ZF:Wv oI a 0 es.size ep:=by rw[<-RE];exact⟨rfl,rfl⟩
 have hS:(s2.heap.push oI).objs.size=s2.heap.objs.size+1:=size_push' ..;have a4:∀b o,s2.heap.get? b=some o->((s2.heap.push oI).push (seqObj "list" #[] 0)).get? b=some o:=λb o e=>aag _ (aag _ e)
 have gI:((s2.heap.push oI).push (seqObj "list" #[] 0)).get? s2.heap.objs.size=some oI:=aag _ (aav _ (by rw[<-RE];rfl))
 have gS:((s2.heap.push oI).push (seqObj "list" #[] 0)).get? (s2.heap.push oI).objs.size=some (seqObj "list" #[] 0):=aav _ rfl;have OF:∀p∈(f,eX X params body scope c ctv)::pq,p.1<s2.heap.objs.size:=λp O=>aan (J2.pin p (jF _ O)).1
 have PL:=J2.LP (aaf s2.heap.objs.size);have oS:=J2.LP (b:=(s2.heap.push oI).objs.size) (by rw[hS];exact abd _)
 have F:E8 X σ H2 params body scope fq js x te f c a s2.heap.objs.size (s2.heap.push oI).objs.size oc ob ctv kvs es ep ka ks P:=by
  refine⟨T,hx,hr.hd,(hr.in1).depth,(hr.in1).Es,λu=>hb c ctv u,hco,hgen,λs H=>he f c s H ((hr.in1).deeper _),ax,at2 c _ ca OE,a2,⟨hex,Z⟩,λi e hi=>?_,λi H3 hi Ea=>?_,oS,PL,by rw[hS];exact acT _,?_,aaz (OF _ (.head _))⟩
  ·have a8 : i<kvs.length:=by rw[<-a7];exact(abH.mp hi).1
   obtain⟨kv,y,e1,e2,_⟩:=aw i a8;have e3:=aaO (λl=>l[i]?) a3
   simp only[aak,e2,abW,abV]at e3;rw[hi]at e3;have e4:=Option.some.inj e3;rw[e4,RD e2];rfl
  ·obtain⟨kv,y,e1,e2,e3⟩:=aw i (by lia)
   refine ag ob H3 (λb u eb nb n1 n2=>Ea _ _ (at2 b u nb (vF hP hc eb n1 n2))) (Ea _ _ a2) i kv (ka i) e1 ?_
   rw[RD e2];exact Ea _ _ (at2 _ _ (aP e3 U (by intro z;cases z)) e3)
  ·rw[hS];exact aaz (abB (OF _ (.head _)))
 have pI:∀p∈pq,p.1≠s2.heap.objs.size:=λp O=>aaz (OF p (.tail _ O))
 have pS:∀p∈pq,p.1≠(s2.heap.push oI).objs.size:=λp O=>by rw[hS];exact aaz (abB (OF p (.tail _ O)))
 have J3:Inv X (o8 pq (s2.heap.push oI).objs.size s2.heap.objs.size f (seqObj "list" #[] 0) oI (eX X params body scope c ctv)) σ H2 { s2 with heap:=(s2.heap.push oI).push (seqObj "list" #[] 0)}:=by
  have K:=J2.kept (t':=s2.toks) a4;refine K.gZ λp O=>?_
  rcases aao.mp O with rfl|O
  ·exact⟨gS,J2.hok.fresh (by rw[hS];exact abd _),oS.2.1,oS.2.2.1,λv z=>by cases z⟩
  ·rcases aao.mp O with rfl|O
   ·exact⟨gI,J2.hok.fresh (aaf _),PL.2.1,PL.2.2.1,λv z=>by rw[ZF.2]at z;cases z⟩
   ·exact K.pin p (jF _ O)
 have h0:0<es.size:=by lia
 have ab:(es[0]?:Option DictEntry)=some es[0]:=Array.getElem?_eq_getElem h0;have xn:=J3.pin ((s2.heap.push oI).objs.size,seqObj "list" #[] 0) (jF _ (.head _));have LS:=J3.pin (s2.heap.objs.size,oI) (jF _ (.tail _ (.head _)));refine codeAny_builtin abG ?_;rw[Around.under_plainId aaV _];show wpAny _ X.A.in1 (seqItems? (.ref _) >>= _) _ _ _;refine aW (wpAny_seqItems xn.1 rfl ?_);show wpAny _ X.A.in1 (tryCatch (pyNext (.ref s2.heap.objs.size)) _ >>= _) _ _ _;refine aW (aby (xm LS.1 ZF ⟨ob,a4 _ _ ar,hex,Z⟩ ?_));rw[ab];intro h' JR Yh a5 sb;have I4:=J3.kT (t':=s2.toks) (h':=h') (pb:=o8 pq (s2.heap.push oI).objs.size s2.heap.objs.size f (seqObj "list" #[] 0) JR (eX X params body scope c ctv)) F.oI (List.Mem.tail _ (.head _)) (λb u hb e=>(sb.2 b hb).trans e) (λp O=>by
  rcases aao.mp O with rfl|O
  ·exact .inr ⟨.head _,F.SI⟩
  ·rcases aao.mp O with rfl|O
   ·exact .inl ⟨rfl,Yh,λv z=>by rw[a5.2]at z;cases z⟩
   ·rcases aao.mp O with rfl|O
    ·exact .inr ⟨.tail _ (.tail _ (.head _)),F.fI⟩
    ·exact .inr ⟨.tail _ (.tail _ (.tail _ O)),pI p O⟩)
 rw[F.key 0 _ ab];show wpAny _ X.A.in1 (tryCatch (holding [.ref (ka 0)] (call (.ref f) [.ref (ka 0)])) _ >>= _) _ _ _;refine aW (aby (aaW (aaG (CU F h0 (au.refl _) I4 (List.Mem.tail _ (.tail _ (.head _)))) (λu s3 hu=>?_) λ_ _ z=>z)))
 obtain⟨d2,H4,rfl,I5,KR,_,hd2⟩:=hu;have nX:=I5.pin ((s2.heap.push oI).objs.size,_) (jF _ (.head _));have a9:=aaY s3.heap (s2.heap.push oI).objs.size (Obj.mapSeq λ_=>(#[.ref (ka 0),.ref d2]:Array Value))
 obtain⟨n2,ba⟩:∃n2,(s3.heap.update (s2.heap.push oI).objs.size (Obj.mapSeq λ_=>(#[.ref (ka 0),.ref d2]:Array Value))).get? (s2.heap.push oI).objs.size=some (seqObj "list" #[.ref (ka 0),.ref d2] n2):=⟨_,get?_update_seq nX.1 λ_=>#[.ref (ka 0),.ref d2]⟩
 show wpAny _ X.A.in1 (updateSeq (s2.heap.push oI).objs.size (λ_=>#[.ref (ka 0),.ref d2]) >>= _) _ _ _
 refine aW (wpAny_updateSeq nX.1 rfl ?_);rw[Y];have I6:=I5.kT (t':=s3.toks) (pb:=o8 pq (s2.heap.push oI).objs.size s2.heap.objs.size f (seqObj "list" #[.ref (ka 0),.ref d2] n2) JR (eX X params body scope c ctv)) F.oS (.head _) (λb u hb e=>(a9.2 b hb).trans e) (λp O=>by
  rcases aao.mp O with rfl|O
  ·exact .inl ⟨rfl,ba,λv z=>by cases z⟩
  ·rcases aao.mp O with rfl|O
   ·exact .inr ⟨.tail _ (.head _),F.SI.symm⟩
   ·rcases aao.mp O with rfl|O
    ·exact .inr ⟨.tail _ (.tail _ (.head _)),F.fS⟩
    ·exact .inr ⟨.tail _ (.tail _ (.tail _ O)),pS p O⟩)
 refine aai ⟨plainId_quiet aaV _,LR F pI pS (λi s' H3 hi best Ea I7=>?_) _ 1 0 _ H4 d2 n2 JR rfl h0 (abI _) KR I6 a5 hd2 λj hj=>?_⟩
 ·obtain⟨kv,y,e1,e2,e3⟩:=aw i (by lia)
  have i3:=Ea _ _ a2;have I8:=Inv.UP J U I7 i3;have p3:upd H3 a (.dT kvs) P=some (.jj (dG (X.env.qual ++ "<lambda>") lp++pR lp c)):=by rw[ah pa];exact Ea _ _ (at2 _ _ pa RC)
  have c3:upd H3 a (.dT kvs) c=some (.mG oc (.own P)):=by rw[ah ca];exact Ea _ _ (at2 _ _ ca OE)
  have I9:=CQ I1 hP hc CO ax I8 p3 c3;have ya:y.2.1≠a:=aP e3 U (by intro z;cases z)
  have y3:upd H3 a (.dT kvs) y.2.1=some (.tup (kv.1.map kV)):=by rw[ah ya];exact Ea _ _ (at2 _ _ ya e3)
  refine⟨.ref (ka i),_,I9,rfl,RB i kv (ka i) _ e1 (λj hj=>best j (by lia)) (CS hP hc CO (oc:=oc) λb u eb=>?_) ?_⟩
  ·by_cases hb:b=a
   ·subst hb;rw[U]at eb;rw[ae];exact eb
   ·rw[ah hb];exact Ea _ _ (at2 _ _ hb eb)
  ·rw[RD e2];unfold given;rw[ah (aP y3 p3 (by intro z;cases z)),ah (aP y3 c3 (by intro z;cases z))]
   exact y3
 ·have e:j=0:=by lia
  rw[e];exact HT.h9 _
end
section
variable {P:Program}{w:World}{A:Around}{E:dD}{s:Shared}{a:Addr}{es:Array DictEntry}{ep:Nat}
def RG(hd:(a==sysModules)=false):MeetsIn P w (Builtin.«dict.__len__» ⟨[.ref a],[]⟩) (λ_ R s=>∃es ep,Wu s.heap a es ep/\R (.ok (.ret (.int es.size s.toks))) { s with toks:=s.toks+1}) :=
 .of_wp λA R s ⟨es,ep,⟨o,O,_,I⟩,h⟩=>by
  show wpAny _ _ (dictSize a >>= _) _ _ s;unfold dictSize;refine aW (aW (wpAny_dictEntries O I (aai ?_)));show wpAny _ _ (Builtin.Dict.pendingCount a >>= _) _ _ s;refine aW (wpAny_pendingCount_other hd (wpAny_ret_mkInt ?_));rw[Nat.add_zero];exact h
def IA{Q:dD}(hd:(a==sysModules)=false)(g:Wu s.heap a es ep)(hfit:(es.size:Int)<2^63)(h:Q (.int es.size (s.toks+1)) { s with toks:=s.toks+1+1}):
 wpAny (model P w) A (call (.builtin "len") [.ref a]) Q E s:=by
 have I:s.TypeIs (.ref a) "dict":=let⟨o,ho,hc,_⟩:=g;⟨o,ho,hc.1⟩;refine Calls.call_function_entry kind_len plain_len entry_len (args_len1 _) ?_;unfold Builtin.«len»;refine aW (m:=oneArg "len" _) (aai ?_);refine aW (m:=callSpecial? (.ref a) (Str.ofString "__len__")) (wpAny_callSpecial?_slot (name:=Str.ofString "__len__") I PySem.F.slot_dict_len
  (call_meetsIn PySem.F.slot_dict_len I PySem.F.entry_dict_len (PySem.F.args_dict_len_1 _) (RG hd) ⟨es,ep,g,?_⟩))
 show wpAny _ _ _ _ _ { s with toks:=s.toks+1}
 refine aW (aaW (aai (aW (wpAny_letGo ?_))));show wpAny _ _ (if((es.size:Nat):Int)<0 then _ else _) _ _ _
 rw[aab (by lia)]
 show wpAny _ _ (if((es.size:Nat):Int) ≥ 2^63 then _ else _) _ _ _
 rw[aab (by lia)]
 exact aW (wpAny_mkInt (aai ⟨_,rfl,h⟩))
end
def erase_filter{K α:Type}[DecidableEq K]{k:K}{p:α}:∀{xs:List (K×α)} {j:Nat},(xs.map (·.1)).Nodup->xs[j]?=some (k,p)->xs.eraseIdx j=xs.filter λx=>decide (x.1≠k)
 | [],j,_,h=>by simp at h
 | x::r,0,nd,h=>by
   simp at h;subst h;rw[aay,aaX]at nd;rw[List.eraseIdx_cons_zero,aaD,aab (by simp)]
   refine(List.filter_eq_self.mpr λy I=>?_).symm
   have z:y.1≠k:=λz=>nd.1 (aas.mpr ⟨y,I,z⟩)
   simp[z]
 | x::r,j+1,nd,h=>by
   rw[aay,aaX]at nd;have h:r[j]?=some (k,p):=by simpa using h
   have hx:x.1≠k:=λz=>nd.1 (by rw[z];exact abr (f:=(·.1)) (jY h))
   rw[ab7,aaD,aad (eG hx),erase_filter nd.2 h]
def qb{α β:Type}(f:α->β):∀(l:List α) (i:Nat),(l.map f).eraseIdx i=(l.eraseIdx i).map f
 | [],_=>rfl
 | _::_,0=>rfl
 | x::r,i+1=>by rw[aay,ab7,ab7,aay,qb f r i]
def KT.drop{H:Hp}{kvs:List (List Key×V)}{xs:List (List Key×Addr×Value)}(r:KT H kvs xs)(k:List Key):KT H (bL kvs k) (xs.filter λx=>decide (x.1≠k)):=by
 unfold bL
 induction r with
 | nil=>exact .nil
 | @cons p q ps qs h t ih =>
   rw[aaD,aaD]
   by_cases e:p.1=k
   ·rw[aab (by simp[e]),aab (by simp[h.1.symm.trans e])];exact ih
   ·have e' : ¬ q.1=k:=λz=>e (h.1.trans z)
    rw[aad (by simp[e]),aad (by simp[e'])];exact .cons h ih
section
variable {P:Program}{w:World}{A:Around}{E:dD}{s:Shared}{K:Type}[DecidableEq K]{knd:HeapKind P w K}{d b:Addr}{xs:List (K×Addr×Value)}{k:K}{j:Nat}{p:Addr×Value}
def RH{Q:Option DictEntry->Shared->Prop}(hu:knd.room A)(hkey:knd.is s.heap k b)(hm:s.heap.DictOfH knd d xs)(hj:xs[j]?=some (k,p))(hsz:xs.length<=sizeLine)
 (h:∀e h' o' I Hj,e.val=p.2->h'.get? d=some o'->o'.ExactDict->o'.data = .dict I Hj->I.toList=(xs.eraseIdx j).map (entryOfKey knd)->Heap.SameBut d s.heap h'->Q (some e) { s with heap:=h',toks:=s.toks+knd.draws k}) :
 wpAny (model P w) A (Builtin.Dict.takeOut d (.ref b)) Q E s:=by
 obtain⟨o,es,ep,O,hc,hd,he,U,hn⟩:=hm;unfold Builtin.Dict.takeOut
 try with_reducible refine aaW ?_
 refine aW (knd.pyHash hu hkey (aW (wpAny_dictFind_heap (s:={ s with toks:=s.toks+knd.draws k}) hu hkey O hd he U hn (λY=>absurd hj (Y j p)) λj' p' Z=>?_)))
 have ab:j' = j:=idxH_unique hn Z hj;subst ab;refine aW (wpAny_dictEntries (s:={ s with toks:=s.toks+knd.draws k}) O hd ?_)
 rw[entry_at he j',hj];refine aW (wpAny_updateDictKeys (hz:=by have e:=size_of_entries he;lia) (s:={ s with toks:=s.toks+knd.draws k}) O hd (aai (h _ _ _ _ (ep+1) rfl (abK _ O (Obj.isFreed_of_dict (Obj.data_mapDictKeys hd _))) (hc.mapDictKeys _) (Obj.data_mapDictKeys hd _) ?_ (aaY ..))))
 rw[<-qb,<-he];obtain⟨l⟩:=es;simp
def UR{Q:dD}(hu:knd.room A.in1)(hkey:knd.is s.heap k b)(hm:s.heap.DictOfH knd d xs)(hj:xs[j]?=some (k,p))(hsz:xs.length<=sizeLine)
 (h:∀h' o' I O,h'.get? d=some o'->o'.ExactDict->o'.data = .dict I O->I.toList=(xs.eraseIdx j).map (entryOfKey knd)->Heap.SameBut d s.heap h'->Q p.2 { s with heap:=h',toks:=s.toks+knd.draws k}) :
 wpAny (model P w) A (call (.builtin "dict.pop") [.ref d,.ref b]) Q E s:=by
 have Z:=hm.typeIs;refine wpAny_call_entry acn Z PySem.F.entry_dict_pop ?_ (PySem.F.args_dict_pop_2 _ _);unfold Builtin.«dict.pop» Builtin.Dict.keyAndDefault;refine aW (aW (wpAny_notOrdered_dict Z ?_));show wpAny _ _ (pure (d,Value.ref b,(none:Option Value))) _ _ s;refine aai ?_;obtain⟨o,es,ep,ho,hc,hd,he,ab,hn⟩:=id hm;have U:es.isEmpty=false:=by
  have e:=size_of_entries he;have hl:=(kL.mp hj).1;rw[Array.isEmpty_eq_false_iff_exists_mem];exact⟨es[j]'(by lia),Array.getElem_mem _⟩
 have Y:(keyPart (Value.ref b)).isSome=false:=rfl;simp only[Y,abg,if_false];refine aW (wpAny_dictEntries ho hd (aW (aai ?_)));rw[U];simp only[abg,if_false];refine aW (RH hu hkey hm hj hsz λe h' o' I O e1 e2 e3 e4 e5 e6=>?_)
 simp only[Option.isNone_some,abg,if_false];refine aW (wpAny_letGo (aai ⟨e.val,rfl,?_⟩));rw[e1];exact h h' o' I O e2 e3 e4 e5 e6
end
section
variable {X:Cx}{pq:aX}{σ:St}{H:Hp}{s:Shared}
def Yi:g8 X (.builtin "len") (λxs H Q=>∃a kvs,xs=[.ref a]/\Rd H a (.dT kvs)/\Q (.int kvs.length) H):=by
 intro pq s σ H xs us Q I r h;obtain⟨a,kvs,rfl,e,q⟩:=h;obtain⟨u,rfl,rx⟩:=vals1 r;cases rx;obtain⟨z,hsys,ys,pr,ob,es,ep,hgo,hex,hdat,hes,hnd⟩:=(show bz X.prog X.w H s.heap a (.dT kvs) from e.ok I.hok)
 have O:es.size=kvs.length:=by
  have:=aaO List.length hes;rw[aaa,<-pr.length]at this
  simpa using this
 refine IA hsys ⟨ob,hgo,hex,hdat⟩ (by rw[O];rw[sizeLine_eq]at z;lia) ?_
 rw[O];exact⟨.int kvs.length,H,I.tok _,⟨_,rfl⟩,q⟩
def RI(td ty:TE):TE:=λσ H Q=>td σ H λx H1=>∃a,x = .ref a/\Wo H1 a/\ty σ H1 λy H2=>∃kvs k b v,H2 a=some (.dT kvs)/\y = .ref b/\H2 b=some (.tup (k.map kV))/\dF kvs k=some v/\Q v (upd H2 a (.dT (bL kvs k)))
def RJ{A:Around}{E:dD}{a b:Addr}{kvs:List (List Key×V)}{k:List Key}{v:V}{Q:dD}(hu:A.units+1<cLine)(I:Inv X pq σ H s)(e:H a=some (.dT kvs))(eb:H b=some (.tup (k.map kV)))(l:dF kvs k=some v)
 (h:∀U s',Inv X pq σ (upd H a (.dT (bL kvs k))) s'->RelV v U->Q U s'):wpAny (model X.prog X.w) A (call (.builtin "dict.pop") [.ref a,.ref b]) Q E s:=by
 obtain⟨z,hd,xs,rel,dd⟩:=Lf I.hok e;have hv:=rel.val k;rw[l]at hv;obtain⟨U,hw,rw'⟩:=lM.some_of hv;obtain⟨p,CV,JP⟩:=uQ.mp hw;obtain⟨j,hj⟩:∃j,xs[j]?=some (k,p):=by
  unfold atKey at CV;obtain⟨y,US,Y⟩:=uQ.mp CV;have hk:=List.find?_some US;have hm:=List.mem_of_find?_eq_some US;obtain⟨j,hj⟩:=aaN hm;have Z : y.1=k:=kK hk;exact⟨j,by rw[hj,<-Z,<-Y]⟩
 have O:(xs.map (·.1)).Nodup:=let⟨_,_,_,_,_,_,_,_,hn⟩:=dd;hn;refine UR (tupleKind_room_in1 hu) (qw I.hok eb) dd hj (by rw[<-rel.length];exact z) λh' o' ab Hj g1 g2 g3 g4 sb=>?_
 rw[JP];refine h U _ ?_ rw';have ag:∀b ys,H b=some (.tup ys)->upd H a (.dT (bL kvs k)) b=some (.tup ys):=λb ys q=>by rw[ah (aP q e (by intro z;cases z))];exact q
 rw[erase_filter O hj]at g4;refine rF I (by rw[e];exact True.intro) sb ⟨o',g1⟩ ⟨aaB (Ct kvs k) z,hd,_,(rel.drop k).keeps ag,o',ab,Hj,g1,g2,g3,g4,?_⟩
 exact O.sublist (List.filter_sublist.map _)
variable {o e:Expr}{apos cpos:Pos}{td ty:TE}
def LV(hu:X.A.units+1<cLine)(ho:PE X o td)(he:PE X e ty)(m:M1 X o "pop" apos e cpos):PE X (.Call (.Attribute o "pop" apos) [e] [] cpos) (RI td ty):=by
 intro pq s σ H Q I h;refine wpAny_Call_method m.base m.few m.line acH acn PySem.F.type_dict_pop (cY (ho pq s σ H _ I h) λu s1 ⟨x,H1,U,rx,a,ex,d,Y⟩=>?_)
 subst ex;obtain rfl:u=Value.ref a:=rx;obtain⟨t1,t2,_⟩:=EV U d;refine⟨t1,t2,?_⟩;rw[m.trees];refine Calls.callWith_builtin rfl (Calls.evalArgs_plain (Calls.spliced_cons (cY (he pq s1 σ H1 _ U Y) λZ s2 ⟨y,H2,I2,ry,kvs,k,b,v,ea,ey,eb,l,q2⟩=>Calls.spliced_nil ?_)))
 subst ey;obtain rfl:Z=Value.ref b:=ry;exact RJ hu I2 ea eb l λw' s3 I3 O=>⟨v,_,I3,O,q2⟩
def RK(tk tv:TE):TE:=λσ H Q=>∀p,H p=none->tk σ (upd H p (.dT [])) λy H1=>tv σ H1 λv H2=>∃b k,y = .ref b/\H2 b=some (.tup (k.map kV))/\H2 p=some (.dT [])/\Q (.ref p) (upd H2 p (.dT [(k,v)]))
end
section
variable {X:Cx}{k v:Expr}{pos:Pos}{tk tv:TE}
def LW(hu:X.A.units+1<cLine)(hk:PE X k tk)(hv:PE X v tv):PE X (.Dict [some k] [v] pos) (RK tk tv):=by
 intro pq s σ H Q I q;have hn:=I.hok.fresh (aaf s.heap.objs.size);have I1:=I.laid (a:=s.heap.objs.size) (o:=.dT []) (h':=s.heap.push { cls:=.type "dict",data:=.dict #[]}) (t':=s.toks) (λ_ _ q=>aag _ q) (aaf _) (Li s.heap I.big)
 rw[arm_eval_Dict,zip_pairTrees [some k] [v] X.env pos rfl rfl,dictDisplay_pairs (pairTrees [some k] [v] X.env pos) (by intro z;cases z) (show 1<17 by decide)]
 refine aW (wpAny_standAt (aW ?_));unfold subDict;refine aW (wpAny_alloc (aW (aaW ?_)));rw[aad (show(pairTrees [some k] [v] X.env pos).length<=15 from(show 1<=15 by decide))]
 refine aW (pairTrees_cons_walk (cY (hk pq _ σ _ _ I1 (q _ hn)) λu s1 ⟨y,H1,I2,ry,q1⟩=>cY (hv pq s1 σ H1 _ I2 q1) λu2 s2 ⟨O,H2,U,rv,b,ks,ey,Y,ep,q2⟩=>pairTrees_nil_walk ?_))
 subst ey;obtain rfl:u=Value.ref b:=ry;obtain⟨z,hd,xs,rel,dd⟩:=Lf U.hok ep;cases rel;refine aaW (aW ?_);rw[List.forIn_cons];refine aW (aW (wpAny_dictSet_heap (hsz:=aaF _) (show X.A.units<cLine from Nat.lt_of_succ_lt hu) (qw U.hok Y) dd λh' Cu hs=>aai ?_))
 show wpAny _ _ (forIn [] PUnit.unit _) _ _ _;rw[List.forIn_nil];refine aai (aai (aai (aai ?_)));obtain⟨o',Z,Hj,g1,g2,g3,g4,g5,g6⟩:=Cu;have hb:upd H2 s.heap.objs.size (.dT [(ks,O)]) b=some (.tup (ks.map kV)):=by
  rw[ah (aP Y ep (by intro z;cases z))]
  exact Y
 have new:bz X.prog X.w (upd H2 s.heap.objs.size (.dT [(ks,O)])) h' s.heap.objs.size (.dT [(ks,O)]):=⟨(show 1<=sizeLine by decide),hd,[(ks,b,u2)],.cons ⟨rfl,hb,rv⟩ .nil,o',Z,Hj,g1,g2,g3,g4,g6⟩
 exact⟨.ref s.heap.objs.size,_,rF U (by rw[ep];exact True.intro) hs ⟨o',g1⟩ new,rfl,q2⟩
end
end L2
namespace HT
open PySem PyProof.Rows
def OG(a b c d:Int):Bool:=if a=c then(if b=d then true else decide (b<=d)) else decide (a<=c)
def AZ(a b c d:Int):OG a b c d=true↔a<c\/(a=c/\b<=d):=by
 unfold OG
 by_cases h:a=c
 ·rw[aad h]
  by_cases h2:b=d
  ·rw[aad h2];simp[h,h2]
  ·rw[aab h2];simp only[decide_eq_true_eq];lia
 ·rw[aab h];simp only[decide_eq_true_eq];lia
def LX(A:Around)(s:Shared)(a:Int)(t:Tok)(c:Int)(u:Tok)(prog:Program)(w:World)(E:dD)(Q:dD)(h:Q (.bool (decide (a<=c))) s):
 wpAny (model prog w) A (richCompare .LtE (.int a t) (.int c u)) Q E s :=
 (PyProof.Rows.le_int h:wpAny (model prog w) A (compareOp .LtE (.int a t) (.int c u)) Q E s)
section
open PySem.SeqAt
open PySem.AutoSeq1 (wpAny_loadPart')
open PySem.MeetsSeq PySem.MeetsSeq2 PySem.MeetsSeq3
def IB(l b:Addr)(items items2:Array Value)(n n2:Nat)(dd dd2:Option Addr)(sl sl2:Array (Option Value))(x1 y1 x2 y2:Int)(t1 u1 t2 u2:Tok)(hi:items.toList=[.int x1 t1,.int y1 u1])(hj:items2.toList=[.int x2 t2,.int y2 u2]):
 Meets (Builtin.«tuple.__le__» ⟨[.ref l,.ref b],[]⟩)
  (λ_ R s=>s.heap.get? l=some { cls:=.type "tuple",dict:=dd,data:=.seq items n,slots:=sl}/\s.heap.get? b=some { cls:=.type "tuple",dict:=dd2,data:=.seq items2 n2,slots:=sl2}/\
   R (.ok (.ret (.bool (OG x1 y1 x2 y2)))) s) :=
 .of_wp λprog w A R s h=>by
  obtain⟨I,g,d,tk,os⟩:=s;obtain⟨hl,hb,h⟩:=h;have f2:=AutoSeq1.sub_tuple_tuple;have z1:items.size=2:=by rw[<-abQ,hi];rfl
  have z2:items2.size=2:=by rw[<-abQ,hj];rfl
  wp_walk using wpAny_loadPart' hl,wpAny_loadPart' hb,wpAny_forIn_list _ (λrest b s'=>b.1=none/\s' = ⟨I,g,d,tk,os⟩/\
   ((rest=[((Value.int x1 t1:Value),(Value.int x2 t2:Value)),(.int y1 u1,.int y2 u2)]/\R (.ok (.ret (.bool (OG x1 y1 x2 y2)))) ⟨I,g,d,tk,os⟩)\/
    (rest=[((Value.int y1 u1:Value),(Value.int y2 u2:Value))]/\R (.ok (.ret (.bool (if y1=y2 then true else decide (y1<=y2))))) ⟨I,g,d,tk,os⟩)\/(rest=[]/\R (.ok (.ret (.bool true))) ⟨I,g,d,tk,os⟩))) _
  case turn =>
   rintro⟨y,x⟩ rest b s' ⟨U,rfl,hh⟩;obtain⟨a,c,t,u,Z,Y,hx,O,hN⟩:∃(a c:Int) (t u:Tok) (Z:Bool),y = .int a t/\x = .int c u/\R (.ok (.ret (.bool (if a=c then Z else decide (a<=c))))) ⟨I,g,d,tk,os⟩/\
    (R (.ok (.ret (.bool Z))) ⟨I,g,d,tk,os⟩->(rest=[((Value.int y1 u1:Value),(Value.int y2 u2:Value))]/\R (.ok (.ret (.bool (if y1=y2 then true else decide (y1<=y2))))) ⟨I,g,d,tk,os⟩)\/(rest=[]/\R (.ok (.ret (.bool true))) ⟨I,g,d,tk,os⟩)):=by
    rcases hh with⟨hz,O⟩|⟨hz,O⟩|⟨hz,_⟩
    ·injection hz with ha hr
     obtain⟨Y,hx⟩:=Prod.mk.inj ha;exact⟨x1,x2,t1,t2,_,Y,hx,O,λYj=>.inl ⟨hr,Yj⟩⟩
    ·injection hz with ha hr
     obtain⟨Y,hx⟩:=Prod.mk.inj ha;exact⟨y1,y2,u1,u2,true,Y,hx,O,λYj=>.inr ⟨hr,Yj⟩⟩
    ·cases hz
   subst Y hx;obtain⟨e,he,Ks⟩:=BZ A.in1 ⟨I,g,d,tk,os⟩ a t c u;refine wpAny_bind (he prog w _ _ ?_);cases e with
   | true =>
     rw[aad (Ks.mp rfl)]at O
     wp_walk
     exact⟨rfl,rfl,.inr (hN O)⟩
   | false =>
     rw[aab (λq=>absurd (Ks.mpr q) aah)]at O
     have B3:=LX A.in1 ⟨I,g,d,tk,os⟩ a t c u prog w
     wp_walk using B3
     exact⟨_,rfl,by simpa using O⟩
  case fin =>
   rintro⟨b1,b2⟩ s' ⟨U,rfl,hh⟩;simp only at U;subst U;rcases hh with⟨hz,_⟩|⟨hz,_⟩|⟨_,O⟩
   ·cases hz
   ·cases hz
   ·wp_walk
    refine⟨_,rfl,?_⟩
    simpa[Builtin.Tuple.tupleCompareSizes,z1,z2]using O
  case h =>
   refine⟨rfl,rfl,.inl ⟨?_,h⟩⟩;rw[hi,hj];rfl
end
section
variable {prog:Program}{w:World}{A:Around}{E:dD}{s:Shared}
def LY{l b:Addr}{items items2:Array Value}{x1 y1 x2 y2:Int}{Q:dD}(hl:IsTup s.heap l items)(hb:IsTup s.heap b items2)(hi:IntsAre items.toList [x1,y1])(hj:IntsAre items2.toList [x2,y2])
 (hu:A.units<cLine) (h:Q (.bool (OG x1 y1 x2 y2)) s):wpAny (model prog w) A (compareOp .LtE (.ref l) (.ref b)) Q E s:=by
 obtain⟨⟨cls,O,data,sl⟩,I,hc,n,hd⟩:=id hl;obtain⟨⟨NC,dd2,data2,sl2⟩,ho2,hc2,n2,hd2⟩:=id hb;simp only at hc hd hc2 hd2;subst hc hd hc2 hd2;have two:∀{vs:List Value} {a c:Int},IntsAre vs [a,c]->∃t u,vs=[.int a t,.int c u]:=λ{vs a c} q=>by
  cases q with
  | cons n t r=>cases r with
    | cons n' U Y=>cases Y;exact⟨t,U,rfl⟩
 obtain⟨t1,Z,e1⟩:=two hi;obtain⟨t2,u2,e2⟩:=two hj;exact richCompare_meets_room (op:=.LtE) ⟨_,I,rfl⟩ ⟨_,ho2,rfl⟩ PySem.F.slot_tuple_le PySem.F.entry_tuple_le (PySem.F.args_tuple_le_2 _ _) (IB l b items items2 n n2 O dd2 sl sl2 x1 y1 x2 y2 t1 Z t2 u2 e1 e2)
  ⟨I,ho2,show Value.bool (OG x1 y1 x2 y2)≠Value.notImplemented/\Q (.bool (OG x1 y1 x2 y2)) s from⟨(λx=>nomatch x),h⟩⟩ hu
end
end HT
namespace L2
open PySem PySem.Spec PyProof.Rows
section
variable {X:Cx}
def Yk(K:bE):R2:=λx y H Q=>∃a b I O U Y,x = .ref a/\y = .ref b/\aV K H a [.int I,.int O]/\aV K H b [.int U,.int Y]/\Q (.bl (HT.OG I O U Y)) H
def RL(hu:X.A.units<cLine):lP X (compareOp .LtE) (Yk X.K):=by
 intro pq s σ H x y v u Q I rx ry h;obtain⟨a,b,O,U,Y,Z,rfl,rfl,ha,hb,q⟩:=h;cases rx;cases ry;obtain⟨its,r1,p1,_⟩:=I.tuple ha;obtain⟨its2,r2,p2,_⟩:=I.tuple hb;exact HT.LY p1 p2 (intsAre_of (ns:=[O,U]) r1) (intsAre_of (ns:=[Y,Z]) r2) hu ⟨.bl (HT.OG O U Y Z),H,I,rfl,q⟩
end
abbrev uU:=List (Addr×Str×Pos)
structure TabsOk(K:bE)(h:Heap)(tb:uU):Prop where
 nd:(tb.map (·.1)).Nodup
 mt:∀p∈tb,h.get? p.1=some (PySem.W.tabObj #[])
 code:∀p∈tb,∃c,PySem.W.CodeHd h c p.1
 out:∀p∈tb,K.lookup p.1=none
def TabsAt(tb:uU)(H:Hp):Prop:=∀p∈tb,H p.1=some (.jj (dG p.2.1 p.2.2))
def CW(tb:uU):Hp:=λb=>(tb.find? λp=>p.1==b).map λp=>.jj (dG p.2.1 p.2.2)
def o9{tb:uU}{b:Addr}{u:HO}(e:CW tb b=some u):∃p∈tb,p.1=b/\u = .jj (dG p.2.1 p.2.2):=by
 unfold CW at e;obtain⟨p,h1,h2⟩:=uQ.mp e;have I:(p.1==b)=true:=List.find?_some (p:=λp:Addr×Str×Pos=>p.1==b) h1
 exact⟨p,List.mem_of_find?_eq_some h1,eq_of_beq I,h2.symm⟩
def A1:∀{tb:uU},(tb.map (·.1)).Nodup->TabsAt tb (CW tb)
 | [],_=>λp I=>nomatch I
 | q::r,nd=>λp I=>by
   rw[aay,aaX]at nd;rcases aao.mp I with rfl|I
   ·unfold CW;rw[List.find?_cons_of_pos (by simp)];rfl
   ·have ne:(q.1==p.1)=false:=beq_eq_false_iff_ne.mpr λz=>nd.1 (by rw[z];exact abr I)
    unfold CW;rw[List.find?_cons_of_neg (by rw[ne];exact aah)]
    exact A1 nd.2 p I
def IC{P:Program}{w:World}{K:bE}{mg mb:nE}{CX:JM}{k:Nat}{fa a:Addr}{fd:FuncData}{x:Str}{sp:Sp}{s₁:Shared}{vs:List Value}{ns:List Int}{tb:uU}
 (KX:K.In s₁.heap) (TB:TabsOk K s₁.heap tb) (hns:s₁.heap.Ns mainGlobals mg) (hb:s₁.heap.Ns builtinsNs mb) (hbb:∀x:Str,x≠"__name__"->mb x=bootBuiltins x) (hlim:s₁.heap.NoLimit)
 (hbm:∃bm ob,mg "__builtins__"=some (.ref bm)/\bm≠builtinsNs/\s₁.heap.get? bm=some ob/\ob.cls = .type "module"/\ob.dict=some builtinsNs/\ob.data = .plain) (hg:s₁.gens = #[])
 (ha:s₁.heap.get? a=some { cls:=.type "list",data:=.seq vs.toArray}) (hi:IntsAre vs ns) (hl:ns.length<=sizeLine) (hr:dU k callerA)
 (F:∀base:Heap,K.In base->base.Ns mainGlobals mg->gY P w K mg base CX k fa fd [x] sp) (hbind:∀(s:Shared) (u:Value),BindsTo s fd ⟨[u],[]⟩ [(x,u)])
 (zl:∀H:Hp,TabsAt tb H->aO K H a (ns.map V.int)->sp [.ref a] H (λv _=>v = .bl true) λ_ _ _=>False)
 (Yl:∀H e s',CX [] H s₁ (λ_ _ _=>False) e s'->False) :
 codeAny (model P w) callerA (.call (.ref fa) ⟨[.ref a],[]⟩) (λr s'=>r = .ok (.ret (.bool true))/\OldK s₁.heap s'.heap/\s'.os=s₁.os/\AllBare s'.gens) s₁:=by
 have rv:=zq hi;have Ym:=hi.length;have aT:∀p∈tb,p.1≠a:=λp I z=>by
  have:=TB.mt p I;rw[z,ha]at this;cases this
 let fz:HO:=.mG { cls:=.type "list",data:=.seq vs.toArray} (.lst (ns.map V.int))
 have core:∀H:Hp,aO K H a (ns.map V.int)->TabsAt tb H->nF P w H s₁.heap->(∀b u,H b=some u->(b=a/\K.lookup a=none/\u=fz)\/∃p∈tb,p.1=b/\u = .jj (dG p.2.1 p.2.2))->
  codeAny (model P w) callerA (.call (.ref fa) ⟨[.ref a],[]⟩) (λr s'=>r = .ok (.ret (.bool true))/\OldK s₁.heap s'.heap/\s'.os=s₁.os/\AllBare s'.gens) s₁:=by
  intro H hS hT hok hA;have free:∀{b:Addr} {o:Obj},s₁.heap.get? b=some o->(∀xs n,o.data≠.seq xs n)->(∀xs,o.data≠.fields xs)->H b=none:=λ{b o} e n1 n2=>by
   cases q:H b with
   | none=>rfl
   | some u =>
     rcases hA b u q with⟨z,_⟩|⟨p,I,z,_⟩
     ·rw[z,ha]at e;cases e;exact absurd rfl (n1 _ _)
     ·rw[<-z,TB.mt p I]at e;cases e;exact absurd rfl (n2 _)
  have Z:∀{b:Addr} {m:nE},s₁.heap.Ns b m->(BS s₁.heap H).Ns b m:=λ{b m} ⟨o,es,ep,e,d,r⟩=>⟨o,es,ep,vJ e (free e (by intro _ _ z;rw[d]at z;cases z) (by intro _ z;rw[d]at z;cases z)),d,r⟩
  have ZG:K.In (BS s₁.heap H):=λb o e=>vJ (KX b o e) (by
   cases q:H b with
   | none=>rfl
   | some u =>
     rcases hA b u q with⟨z,n,_⟩|⟨p,I,z,_⟩
     ·rw[z,n]at e;cases e
     ·rw[<-z,TB.out p I]at e;cases e)
  have hM:Mod K mg (BS s₁.heap H):=⟨ZG,Z hns,⟨mb,Z hb,hbb⟩,(let⟨mc,h1,h2⟩:=hlim;⟨mc,Z h1,h2⟩),
   let⟨bm,ob,b1,b2,b3,b4,b5,b6⟩:=hbm;⟨bm,ob,b1,b2,vJ b3 (free b3 (by intro _ _ z;rw[b6]at z;cases z) (by intro _ z;rw[b6]at z;cases z)),b4,b5,b6⟩⟩
  have e0:Et P w K mg (BS s₁.heap H) callerA [] s₁ H:=⟨rfl,hM,λb o e=>Nj e,acj (Hh _ _),trivial,λb hb=>absurd (show b∈([]:List Addr) from hb) (by simp),hok,.of_eq hg⟩
  refine codeAny_mono ((F _ ZG (Z hns)).run callerA [] s₁ H ⟨[.ref a],[]⟩ [.ref a] [.ref a] _ _ hr e0 (hbind s₁ (.ref a)) (.cons rfl .nil) (zl H hT hS)) λr s' h=>?_
  cases r with
  | error e=>exact(Yl H e s' h).elim
  | ok fl =>
    cases fl with
    | next=>exact False.elim h
    | brk=>exact False.elim h
    | cont=>exact False.elim h
    | ret u =>
      obtain⟨v,H',os,bare,un,UT,r',q⟩:=h;have q' : v = .bl true:=q;subst q';obtain rfl:u=Value.bool true:=r';have all:∀b o,s₁.heap.get? b=some o->s'.heap.get? b=some o\/∃p∈tb,p.1=b/\∃ps,s'.heap.get? b=some (PySem.W.tabObj ps):=λb o e=>by
       cases q:H b with
       | none=>exact .inl (un.keep b o e q (by intro z;exact absurd (show b∈([]:List Addr) from z) (by simp)) (by simp))
       | some u =>
         rcases hA b u q with⟨z,_,U⟩|⟨p,I,z,U⟩
         ·rw[U]at q;obtain⟨Y,_⟩:=hok b _ q;obtain⟨O,_⟩:=UT b _ (un.mH b _ _ q);rw[e]at Y;cases Y;exact .inl O
         ·rw[U]at q;obtain⟨more,q2⟩:=un.nG b _ q;obtain⟨ps,O,_⟩:=UT b _ q2;exact .inr ⟨p,I,z,ps,O⟩
      refine⟨rfl,⟨λb o e=>?_,λb o e=>?_⟩,os,bare⟩
      ·rcases all b o e with z|⟨p,I,z,ps,O⟩
       ·exact .inl z
       ·obtain⟨c,hc⟩:=TB.code p I;have Y:=TB.mt p I;subst z;rw[e]at Y;cases Y;exact .inr (.inl ⟨(hc.tab e).isCodeTable,rfl,#[],ps,rfl,by rw[O,Array.empty_append]⟩)
      ·rcases all b o e with z|⟨p,I,z,ps,O⟩
       ·exact⟨o,z⟩
       ·exact⟨_,O⟩
 have tok:∀{H:Hp} {b:Addr} {p},p∈tb->p.1=b->bz P w H s₁.heap b (.jj (dG p.2.1 p.2.2)):=λ{H b p} I z=>⟨#[],by rw[<-z];exact TB.mt p I,.inl ⟨rfl,.inl rfl⟩⟩
 cases hk:K.lookup a with
 | some o =>
   have e:=KX a o hk;rw[ha]at e;cases e;refine core (CW tb) (.inr ⟨_,vs.toArray,_,hk,rfl,rfl,rfl,by rw[aat,Ym];exact hl,by simpa using rv⟩) (A1 TB.nd) (λb u e=>?_) λb u e=>.inr (o9 e)
   obtain⟨p,I,z,rfl⟩:=o9 e;exact tok I z
 | none =>
   refine core (λb=>if b=a then some fz else CW tb b) (.inl (.inr ⟨{ cls:=.type "list",data:=.seq vs.toArray},aad rfl⟩)) (λp I=>?_) (λb u e=>?_) λb u e=>?_
   ·show(if p.1=a then some fz else CW tb p.1)=_
    rw[aab (aT p I)];exact A1 TB.nd p I
   ·by_cases hb:b=a
    ·have z:=(aad hb).symm.trans e;cases z;subst hb;exact⟨ha,by rw[aaa];exact hl,vs,_,rv,ha⟩
    ·have z:=(aab hb).symm.trans e;obtain⟨p,I,U,rfl⟩:=o9 z;exact tok I U
   ·by_cases hb:b=a
    ·have z:=(aad hb).symm.trans e;exact .inl ⟨hb,hk,(Option.some.inj z).symm⟩
    ·exact .inr (o9 ((aab hb).symm.trans e))
def LZ{l:PySem.W.OpenLaw}{n k:Nat}{q:Program}{loose:List Str}{XP:(Str->Option Value)->Heap->Prop}{YP:World->Heap->Prop}{d:DefRec}{K:Params->bE}{CX:World->JM}{sp:World->uU->Sp}{x:Str}{ts:List Addr}
 (hn:l.most=some n) (hn2:n<=sizeLine) (Ub:d.params.defaults=[]) (hr:dU k callerA)
 (hY:∀(w:World) (h:Heap),YP w h->(K w.params).In h/\∀P∈ts,h.get? P=some (PySem.W.tabObj #[]))
 (F:∀(w:World) (mg:nE) (fa:Addr) (h:Heap),(K w.params).In h->h.Ns mainGlobals mg->mg d.name=some (.ref fa)->
  ∃(fd:FuncData) (tb:uU),((tb.map (·.1)).Nodup/\PySem.W.noTabs (K w.params)=true/\∀p∈tb,p.1∈ts/\∃c,PySem.W.codeHdIn (K w.params) c p.1=true)/\(∀(s:Shared) (u:Value),BindsTo s fd ⟨[u],[]⟩ [(x,u)])/\
   ∀base:Heap,(K w.params).In base->base.Ns mainGlobals mg->gY l.prog w (K w.params) mg base (CX w) k fa fd [x] (sp w tb))
 (zl:∀(w:World) (H:Hp) (a:Addr) (ns:List Int) (tb:uU),ns.length<=n->TabsAt tb H->aO (K w.params) H a (ns.map V.int)->sp w tb [.ref a] H (λv _=>v = .bl true) λ_ _ _=>False)
 (Yl:∀(w:World) (H:Hp) (s:Shared) (e:Value) (s' : Shared),CX w [] H s (λ_ _ _=>False) e s'->False) :
 PySem.W.WalkO q loose XP YP l.row.toRowW d [] (λf vs=>PySem.call f vs):=by
 refine Att.B6 hn Ub λw s₀ s₁ mg mb fa o pm cd doc a vs ns G Y ho hd ag ab I hints hlen hg=>?_
 obtain⟨Z,O⟩:=hY w _ Y;obtain⟨fd,tb,⟨nd,nt,ht⟩,hb,hF⟩:=F w mg fa _ Z G.T.g ab;have TB:TabsOk (K w.params) s₁.heap tb:=⟨nd,λp U=>O _ (ht p U).1,λp U=>let⟨_,c,e⟩:=ht p U;⟨c,PySem.W.codeHd_of_K Z e⟩,λp U=>by
  cases e:(K w.params).lookup p.1 with
  | none=>rfl
  | some ob =>
    have e1:=Z _ _ e;rw[O _ (ht p U).1]at e1;cases e1;have z:=abm.mp nt (p.1,PySem.W.tabObj #[]) (PySem.W.mem_of_lookupK e);exact absurd (show false=true from z) aah⟩
 exact IC Z TB G.T.g G.T.b G.T.builtins G.T.nolimit G.T.bmain hg I hints (aaB hlen hn2) hr hF hb (λH hT hS=>zl w H a ns tb hlen hT hS) λH e s'=>Yl w H s₁ e s'
def kI(f:Str):Str:=f ++ ".<locals>." ++ "<lambda>"
structure E9(K:bE)(x qual:Str)(st:Stmt)(f:Addr)(fd:FuncData)(c0 P:Addr):Prop where
 ex:∃(oc:Value) (od:Option Addr) (kV doc pm:Value) (an:Option Addr) (ct:Value) (osl:Array (Option Value)),
  fd=PySem.W.fnOf x qual (eZ st) (cC st) (aj st) .none kV doc pm an (.ref c0) ct/\K.lookup f=some ⟨oc,od,.func fd,osl⟩/\PySem.W.codeIn K (.ref c0) qual=true
 kp:PySem.W.keepIn K (.ref f)=true
 hd:PySem.W.codeHdIn K c0 P=true
section
variable {P:Program}{w:World}{K:bE}{mg:nE}{base:Heap}{x qual:Str}{st:Stmt}{f c0 p0:Addr}{fd:FuncData}
def E9.ok{N ps:List Str}{k:Nat}{sp:Sp}(F:E9 K x qual st f fd c0 p0)(S:aA N ps (aj st))(len:∀vs H Q E,sp vs H Q E->vs.length=ps.length)
 (hbody:∀(A:Around) (outer:List Env) (s:Shared) (H:Hp) (vs:List V) (Q:VK) (E:XK),dU k (A.deeper (envOfC qual (aj st) s.heap.objs.size f (.ref c0)))->sp vs H Q E->
  ∃t,ym (uR vQ P w K mg base N qual (aj st) f (.ref c0) A outer s H E).D8 (cC st) t/\t { nx:=λ_ H'=>Q .eF H',rt:=Q} (start N vs) H):gY P w K mg base vQ (k+1) f fd ps sp:=by
 obtain⟨oc,od,kV,doc,pm,an,ct,osl,rfl,O,I⟩:=F.ex;refine Kp O I S len λA outer s H vs Q E hr U=>?_
 obtain⟨t,h,q⟩:=hbody A outer s H vs Q E hr U;exact⟨t,h.D8,q⟩
def E9.binds{ps:List Str}(F:E9 K x qual st f fd c0 p0)
 (h:∀(kV doc pm:Value) (an:Option Addr) (cdv ct:Value) (us:List Value),us.length=ps.length->bindArgs (PySem.W.fnOf x qual (eZ st) (cC st) (aj st) .none kV doc pm an cdv ct) ⟨us,[]⟩=pure (ps.zip us)):Binds K fd ps []:=by
 obtain⟨oc,od,kV,doc,pm,an,ct,osl,rfl,O,I⟩:=F.ex;exact .all (h kV doc pm an (.ref c0) ct)
def OH{oc:Value}{od an:Option Addr}{osl:Array (Option Value)}{kV doc pm ct:Value}(l:K.lookup f=some ⟨oc,od,.func (PySem.W.fnOf x qual (eZ st) (cC st) (aj st) .none kV doc pm an (.ref c0) ct),osl⟩)
 (c:PySem.W.codeIn K (.ref c0) qual=true) (k:PySem.W.keepIn K (.ref f)=true) (hd:PySem.W.codeHdIn K c0 p0=true):E9 K x qual st f (PySem.W.fnOf x qual (eZ st) (cC st) (aj st) .none kV doc pm an (.ref c0) ct) c0 p0 :=
 ⟨⟨oc,od,kV,doc,pm,an,ct,osl,rfl,l,c⟩,k,hd⟩
end
end L2
namespace RM
abbrev OW:=Nat->Bool->Option (Int×Nat)
def ki(F:OW)(x:Nat)(s:Bool)(d:Int×Nat):OW:=λy t=>if y=x/\t=s then some d else F y t
def A2(F:OW)(x:Nat)(s:Bool):OW:=λy t=>if y=x/\t=s then none else F y t
def b9(F:OW)(x:Nat)(s:Bool)(d:Int×Nat):ki F x s d x s=some d:=aad ⟨rfl,rfl⟩
def bG{F:OW}{x y:Nat}{s t:Bool}{d:Int×Nat}(h : ¬(y=x/\t=s)):ki F x s d y t=F y t:=aab h
def vG(F:OW)(x:Nat)(s:Bool):A2 F x s x s=none:=aad ⟨rfl,rfl⟩
def pe{F:OW}{x y:Nat}{s t:Bool}(h : ¬(y=x/\t=s)):A2 F x s y t=F y t:=aab h
def Wz(N:Net)(L:Nat->Int)(m u v:Nat)(s:Bool)(z:Int)(e:Nat):Prop:=∃pre,Wl N L m u pre v s z e
structure Dj(N:Net)(L:Nat->Int)(m u:Nat)(F W:OW)(now:Option (Nat×Bool))(done:Nat->Nat->Prop):Prop where
 fw:∀x s d,F x s=some d->Wz N L m u x s d.1 d.2
 ww:∀x s d,W x s=some d->Wz N L m u x s d.1 d.2
 dj:∀x s d,W x s=some d->F x s=none
 le:∀x s d y t d',F x s=some d->W y t=some d'->d.1<=d'.1
 mx:∀x s d y t d',now=some (x,s)->F x s=some d->F y t=some d'->d'.1<=d.1
 cl:∀x s d k y,F x s=some d->k<N.n->Jn N k x y->(now=some (x,s)->done k y)->∃d',(F y (s^^m.testBit k)=some d'\/W y (s^^m.testBit k)=some d')/\d'.1<=d.1+L k
 st:∃d,(F u false=some d\/W u false=some d)/\d.1<=0
section
variable {N:Net}{L:Nat->Int}{m u:Nat}{F W:OW}
def Dj.start:Dj N L m u (λ_ _=>none) (ki (λ_ _=>none) u false (0,0)) none (λ_ _=>False):=by
 refine⟨λ_ _ _ h=>(nomatch h),λx s d h=>?_,λ_ _ _ _=>rfl,λ_ _ _ _ _ _ h=>(nomatch h),λ_ _ _ _ _ _ h=>(nomatch h),λ_ _ _ _ _ h=>(nomatch h),⟨(0,0),.inr (b9 _ _ _ _),abF _⟩⟩
 by_cases e:x=u/\s=false
 ·obtain⟨rfl,rfl⟩:=e;rw[b9]at h;cases h;exact⟨[],.nil⟩
 ·rw[bG e]at h;cases h
def Dj.pop(h:Dj N L m u F W none (λ_ _=>False)){x:Nat}{s:Bool}{d:Int×Nat}(e:W x s=some d)(hmin:∀y t d',W y t=some d'->d.1<=d'.1):Dj N L m u (ki F x s d) (A2 W x s) (some (x,s)) (λ_ _=>False):=by
 have hF:=h.dj x s d e;have of:∀y t d',ki F x s d y t=some d'->(y=x/\t=s/\d' = d)\/F y t=some d':=λy t d' q=>by
  by_cases z:y=x/\t=s
  ·obtain⟨rfl,rfl⟩:=z;rw[b9]at q;exact .inl ⟨rfl,rfl,(Option.some.inj q).symm⟩
  ·rw[bG z]at q;exact .inr q
 have U:∀y t d',A2 W x s y t=some d'->¬(y=x/\t=s)/\W y t=some d':=λy t d' q=>by
  by_cases z:y=x/\t=s
  ·obtain⟨rfl,rfl⟩:=z;rw[vG]at q;cases q
  ·rw[pe z]at q;exact⟨z,q⟩
 have moved:∀y t d',F y t=some d'\/W y t=some d'->ki F x s d y t=some d'\/A2 W x s y t=some d':=λy t d' q=>by
  by_cases z:y=x/\t=s
  ·obtain⟨rfl,rfl⟩:=z;rcases q with q|q
   ·rw[hF]at q;cases q
   ·rw[e]at q;cases q;exact .inl (b9 _ _ _ _)
  ·rw[bG z,pe z];exact q
 refine⟨λy t d' q=>?_,λy t d' q=>h.ww y t d' (U y t d' q).2,λy t d' q=>?_,λy t d' O Y d2 q I=>?_,λy t d' O Y d2 hn q I=>?_,λy t d' k O q hk hj hd=>?_,?_⟩
 ·rcases of y t d' q with⟨rfl,rfl,rfl⟩|q
  ·exact h.ww _ _ _ e
  ·exact h.fw y t d' q
 ·obtain⟨z,q⟩:=U y t d' q;rw[bG z];exact h.dj y t d' q
 ·obtain⟨_,I⟩:=U O Y d2 I;rcases of y t d' q with⟨_,_,rfl⟩|q
  ·exact hmin _ _ _ I
  ·exact h.le _ _ _ _ _ _ q I
 ·cases hn;rw[b9]at q;cases q;rcases of O Y d2 I with⟨_,_,rfl⟩|I
  ·exact abF _
  ·exact h.le _ _ _ _ _ _ I e
 ·rcases of y t d' q with⟨rfl,rfl,rfl⟩|q
  ·exact(hd rfl).elim
  ·obtain⟨d2,I,Z⟩:=h.cl y t d' k O q hk hj (λz=>nomatch z)
   exact⟨d2,moved _ _ _ I,Z⟩
 ·obtain⟨d2,I,Z⟩:=h.st;exact⟨d2,moved _ _ _ I,Z⟩
def Dj.put{done:Nat->Nat->Prop}{x:Nat}{s:Bool}(h:Dj N L m u F W (some (x,s)) done){d:Int×Nat}{k y:Nat}(e:F x s=some d)(hk:k<N.n)(hL:0<=L k)(hj:Jn N k x y)(hF:F y (s^^m.testBit k)=none)
 (hW:∀d',W y (s^^m.testBit k)=some d'->d.1+L k<=d'.1):Dj N L m u F (ki W y (s^^m.testBit k) (d.1+L k,d.2^^^2^k)) (some (x,s)) (λZ y'=>done Z y'\/(Z = k/\y' = y)):=by
 have O:∀v t d',ki W y (s^^m.testBit k) (d.1+L k,d.2^^^2^k) v t=some d'->(v=y/\t=(s^^m.testBit k)/\d' = (d.1+L k,d.2^^^2^k))\/W v t=some d':=λv t d' q=>by
  by_cases z:v=y/\t=(s^^m.testBit k)
  ·obtain⟨rfl,rfl⟩:=z;rw[b9]at q;exact .inl ⟨rfl,rfl,(Option.some.inj q).symm⟩
  ·rw[bG z]at q;exact .inr q
 have moved:∀v t d',F v t=some d'\/W v t=some d'->∃d2,(F v t=some d2\/ki W y (s^^m.testBit k) (d.1+L k,d.2^^^2^k) v t=some d2)/\d2.1<=d'.1:=λv t d' q=>by
  rcases q with q|q
  ·exact⟨d',.inl q,abF _⟩
  ·by_cases z:v=y/\t=(s^^m.testBit k)
   ·obtain⟨rfl,rfl⟩:=z;exact⟨_,.inr (b9 _ _ _ _),hW d' q⟩
   ·exact⟨d',.inr (by rw[bG z];exact q),abF _⟩
 refine⟨h.fw,λv t d' q=>?_,λv t d' q=>?_,λv t d' v2 t2 d2 q I=>?_,h.mx,λv t d' k2 y2 q U Na hd=>?_,?_⟩
 ·rcases O v t d' q with⟨rfl,rfl,rfl⟩|q
  ·obtain⟨pre,w⟩:=h.fw x s d e;exact⟨_,w.go hk hj⟩
  ·exact h.ww v t d' q
 ·rcases O v t d' q with⟨rfl,rfl,rfl⟩|q
  ·exact hF
  ·exact h.dj v t d' q
 ·rcases O v2 t2 d2 I with⟨rfl,rfl,rfl⟩|I
  ·have:=h.mx x s d v t d' rfl e q;show d'.1<=d.1+L k
   lia
  ·exact h.le _ _ _ _ _ _ q I
 ·by_cases hd2:some (x,s)=some (v,t)->done k2 y2
  ·obtain⟨d2,I,Y⟩:=h.cl v t d' k2 y2 q U Na hd2;obtain⟨d3,q3,l3⟩:=moved _ _ _ I;exact⟨d3,q3,Int.le_trans l3 Y⟩
  ·have hn:some (x,s)=some (v,t):=aaQ λz=>hd2 λz2=>absurd z2 z
   rcases hd hn with z|⟨rfl,rfl⟩
   ·exact absurd (λ_=>z) hd2
   ·cases hn;rw[e]at q;cases q;exact⟨_,.inr (b9 _ _ _ _),abF _⟩
 ·obtain⟨d2,I,Y⟩:=h.st;obtain⟨d3,q3,l3⟩:=moved _ _ _ I;exact⟨d3,q3,Int.le_trans l3 Y⟩
def Dj.skip{done:Nat->Nat->Prop}{x:Nat}{s:Bool}(h:Dj N L m u F W (some (x,s)) done){d d2:Int×Nat}{k y:Nat}(e:F x s=some d)(hL:0<=L k)(I:F y (s^^m.testBit k)=some d2\/(W y (s^^m.testBit k)=some d2/\d2.1<=d.1+L k)):
 Dj N L m u F W (some (x,s)) (λU Y=>done U Y\/(U = k/\Y = y)):=by
 refine⟨h.fw,h.ww,h.dj,h.le,h.mx,λv t d' Z y2 q O Na hd=>?_,h.st⟩
 by_cases hd2:some (x,s)=some (v,t)->done Z y2
 ·exact h.cl v t d' Z y2 q O Na hd2
 ·have hn:some (x,s)=some (v,t):=aaQ λz=>hd2 λz2=>absurd z2 z
  rcases hd hn with z|⟨rfl,rfl⟩
  ·exact absurd (λ_=>z) hd2
  ·cases hn;rw[e]at q;cases q;rcases I with I|⟨I,l2⟩
   ·have:=h.mx x s d _ _ d2 rfl e I;exact⟨d2,.inl I,by lia⟩
   ·exact⟨d2,.inr I,l2⟩
def Dj.all{done:Nat->Nat->Prop}{x:Nat}{s:Bool}(h:Dj N L m u F W (some (x,s)) done)(ha:∀k y,k<N.n->Jn N k x y->done k y):Dj N L m u F W none (λ_ _=>False) :=
 ⟨h.fw,h.ww,h.dj,h.le,λ_ _ _ _ _ _ z=>(nomatch z),λv t d k y q hk hj _=>h.cl v t d k y q hk hj λz=>by cases z;exact ha k y hk hj,h.st⟩
def Dj.best(h:Dj N L m u F W none (λ_ _=>False))(hW:∀x s,W x s=none)(x:Nat)(s:Bool):uT N L m u x s ((F x s).map (·.1)):=by
 have low:∀{pre:List Nat} {v e:Nat} {t:Bool} {z:Int},Wl N L m u pre v t z e->∃d,F v t=some d/\d.1<=z:=λ{pre v e t z} w=>by
  induction w with
  | nil =>
    obtain⟨d,q,l⟩:=h.st;rcases q with q|q
    ·exact⟨d,q,l⟩
    ·rw[hW]at q;cases q
  | @go pre v w k e s z _ hk hj ih =>
    obtain⟨d,q,l⟩:=ih;obtain⟨d2,I,O⟩:=h.cl _ _ d k _ q hk hj (λz=>nomatch z)
    rcases I with I|I
    ·exact⟨d2,I,by lia⟩
    ·rw[hW]at I;cases I
 cases q:F x s with
 | none =>
   intro z ⟨_,_,w⟩;obtain⟨d,I,_⟩:=low w;rw[q]at I;cases I
 | some d =>
   obtain⟨pre,w⟩:=h.fw x s d q;refine⟨⟨_,_,w⟩,λz ⟨_,_,U⟩=>?_⟩
   obtain⟨d2,I,O⟩:=low U;rw[q]at I;cases I;exact O
end
end RM
namespace L2
open PySem Ring
abbrev ky(x:Nat)(s:Bool):List Key:=[.inl (x:Int),.inl (s.toNat:Int)]
def Fb{x y:Nat}{s t:Bool}(h:ky x s=ky y t):x=y/\s=t:=by
 injection h with h1 h2
 injection h2 with h2 _
 injection h1 with h1
 injection h2 with h2
 refine⟨by lia,?_⟩
 cases s<;>cases t<;>first | rfl | (simp at h2)
def wV(H:Hp):Option (Int×Nat)->V->Prop
 | none,v=>v = .eF
 | some d,v=>∃c,v = .ref c/\H c=some (.tup [.int d.1,.int (d.2:Int)])
def wV.tups{H H' : Hp}{o:Option (Int×Nat)}{v:V}(h:wV H o v)(s:bH H H'):wV H' o v:=by
 cases o with
 | none=>exact h
 | some d=>obtain⟨c,e,q⟩:=h;exact⟨c,e,s _ _ q⟩
structure xo(p:Nat)(H0:Hp)(D wd:Addr)(es:List Addr)(kvs:List (List Key×V))(F W:RM.OW)(H:Hp):Prop where
 same:au H0 H
 nd:es.Nodup
 ne:D∉es
 fr:∀b∈es,H0 b=none
 Dn:H0 D=none
 wn:H0 wd=none
 wD:wd≠D
 wE:wd∉es
 lst:H D=some (.lst (es.map V.ref))
 at_:∀i b,es[i]?=some b->∃v0 v1,H b=some (.lst [v0,v1])/\wV H (F i false) v0/\wV H (F i true) v1
 dt:H wd=some (.dT kvs)
 kn:(kvs.map (·.1)).Nodup
 keys:∀kv∈kvs,∃x s,x<p/\kv.1=ky x s
 out:∀x s d,W x s=some d->x<p
 val:∀x s,(W x s=none/\dF kvs (ky x s)=none)\/∃d c,W x s=some d/\dF kvs (ky x s)=some (.ref c)/\H c=some (.tup [.int d.1,.int (d.2:Int)])
section
variable {p:Nat}{H0 H H' : Hp}{D wd:Addr}{es:List Addr}{kvs:List (List Key×V)}{F W:RM.OW}
def xo.go(h:xo p H0 D wd es kvs F W H)(s:au H H'):xo p H0 D wd es kvs F W H' :=
 ⟨h.same.trans s,h.nd,h.ne,h.fr,h.Dn,h.wn,h.wD,h.wE,s _ _ h.lst,λi b e=>let⟨v0,v1,a,b1,c⟩:=h.at_ i b e;⟨v0,v1,s _ _ a,b1.tups s.tups,c.tups s.tups⟩,s _ _ h.dt,h.kn,h.keys,h.out,
  λx t=>(h.val x t).imp (λz=>z) λ⟨d,c,a,b,e⟩=>⟨d,c,a,b,s _ _ e⟩⟩
def xo.len(h:xo p H0 D wd es kvs F W H):kvs.length<=2*p:=by
 have hn:=h.kn;have hk:=h.keys
 let code:List Key->Nat:=λk=>match k with | [.inl x,.inl s]=>2*x.toNat+s.toNat | _=>0
 have inj:∀a∈kvs.map (·.1),∀b∈kvs.map (·.1),code a=code b->a=b:=λa ha b hb e=>by
  obtain⟨u,I,rfl⟩:=aas.mp ha;obtain⟨v,hv,rfl⟩:=aas.mp hb;obtain⟨x,s,_,ex⟩:=hk u I;obtain⟨y,t,_,ey⟩:=hk v hv;rw[ex,ey]at e ⊢;have e:2*((x:Int)).toNat+((s.toNat:Int)).toNat=2*((y:Int)).toNat+((t.toNat:Int)).toNat:=e;rw[aap,aap,aap,aap]at e;have hs:s.toNat<2:=by cases s<;>decide
  have ht:t.toNat<2:=by cases t<;>decide
  have O:x=y:=by lia
  have U:s.toNat=t.toNat:=by lia
  have Y:s=t:=by cases s<;>cases t<;>first | rfl | (simp at U)
  rw[O,Y]
 have nd:((kvs.map (·.1)).map code).Nodup:=by
  revert inj
  generalize kvs.map (·.1)=l at hn;intro inj
  induction hn with
  | nil=>exact acD
  | @cons a l h1 h2 ih =>
    rw[aay,aaX];refine⟨λhm=>?_,ih λa ha b hb e=>inj a (pP _ ha) b (pP _ hb) e⟩
    obtain⟨b,hb,e⟩:=aas.mp hm;exact h1 b hb (inj a aaq b (pP _ hb) e.symm)
 have sub:∀c∈(kvs.map (·.1)).map code,c∈List.range (2*p):=λc hc=>by
  obtain⟨a,ha,rfl⟩:=aas.mp hc;obtain⟨u,I,rfl⟩:=aas.mp ha;obtain⟨x,s,hx,ex⟩:=hk u I;rw[ex,aaC];show 2*((x:Int)).toNat+((s.toNat:Int)).toNat<2*p;rw[aap,aap];have hs:s.toNat<2:=by cases s<;>decide
  lia
 have:=nd.length_le_of_subset sub
 simpa using this
def xo.row(h:xo p H0 D wd es kvs F W H){i:Nat}(hi:i<es.length):∃b v0 v1,(es.map V.ref)[i]?=some (.ref b)/\es[i]?=some b/\H b=some (.lst [v0,v1])/\wV H (F i false) v0/\wV H (F i true) v1:=by
 have e:es[i]?=some es[i]:=aam hi;obtain⟨v0,v1,a,b,c⟩:=h.at_ i _ e;exact⟨es[i],v0,v1,by rw[aak,e];rfl,e,a,b,c⟩
def sX{κ:Type}[DecidableEq κ](k j:κ):∀kvs:List (κ×V),dF (bL kvs k) j=if j=k then none else dF kvs j
 | []=>by rw[show bL ([]:List (κ×V)) k=[] from rfl,wM];split<;>rfl
 | q::r=>by
   by_cases e:q.1=k
   ·rw[zN e,sX k j r]
    by_cases I:j=k
    ·rw[aad I,aad I]
    ·rw[aab I,aab I,cf (λz=>I (z.symm.trans e))]
   ·rw[zO e]
    by_cases O:q.1=j
    ·rw[cH O,aab (λz=>e (O.trans z)),cH O]
    ·rw[cf O,sX k j r,cf O]
def xo.take(h:xo p H0 D wd es kvs F W H){x:Nat}{s:Bool}{d:Int×Nat}{b c:Addr}{v0 v1:V}(e:W x s=some d)(hc:H c=some (.tup [.int d.1,.int (d.2:Int)]))(hb:es[x]?=some b)(hv:H b=some (.lst [v0,v1])):
 xo p H0 D wd es (bL kvs (ky x s)) (RM.ki F x s d) (RM.A2 W x s) (upd (upd H wd (.dT (bL kvs (ky x s)))) b (.lst (([v0,v1]:List V).set s.toNat (.ref c)))):=by
 have hm:=jY hb;have bw:b≠wd:=λz=>h.wE (z▸hm)
 have bD:D≠b:=λz=>h.ne (z▸hm)
 have tp:bH H (upd (upd H wd (.dT (bL kvs (ky x s)))) b (.lst (([v0,v1]:List V).set s.toNat (.ref c)))):=λa ys q=>by
  rw[ah (aP q hv (by intro z;cases z)),ah (aP q h.dt (by intro z;cases z))]
  exact q
 refine⟨(h.same.put h.wn).put (h.fr b hm),h.nd,h.ne,h.fr,h.Dn,h.wn,h.wD,h.wE,by rw[ah bD,ah (aaE h.wD)];exact h.lst,λi b' I=>?_,by rw[ah (aaE bw),ae],wQ h.kn,λkv ab=>h.keys kv (zP ab),λy t d' q=>?_,λy t=>?_⟩
 ·by_cases Z:i=x
  ·subst Z;rw[hb]at I;cases I;obtain⟨w0,w1,O,U,Y⟩:=h.at_ _ _ hb;rw[hv]at O;cases O;cases s with
   | false=>exact⟨.ref c,v1,ae,by rw[RM.b9];exact⟨c,rfl,tp _ _ hc⟩,by rw[RM.bG (λz=>by cases z.2)];exact Y.tups tp⟩
   | true=>exact⟨v0,.ref c,ae,by rw[RM.bG (λz=>by cases z.2)];exact U.tups tp,by rw[RM.b9];exact⟨c,rfl,tp _ _ hc⟩⟩
  ·have bb:b'≠b:=λz=>by
    subst z;obtain⟨h1,h2⟩:=kL.mp I;obtain⟨h3,h4⟩:=kL.mp hb;exact Z ((acR h.nd).mp (h2.trans h4.symm))
   obtain⟨w0,w1,O,U,Y⟩:=h.at_ _ _ I;exact⟨w0,w1,by rw[ah bb,ah (show b'≠wd from λz=>h.wE (z▸jY I))];exact O,by rw[RM.bG (λz=>Z z.1)];exact U.tups tp,by rw[RM.bG (λz=>Z z.1)];exact Y.tups tp⟩
 ·by_cases z:y=x/\t=s
  ·obtain⟨rfl,rfl⟩:=z;rw[RM.vG]at q;cases q
  ·rw[RM.pe z]at q;exact h.out y t d' q
 ·rw[sX]
  by_cases z:y=x/\t=s
  ·obtain⟨rfl,rfl⟩:=z;exact .inl ⟨RM.vG _ _ _,aad rfl⟩
  ·rw[RM.pe z,aab (λq=>z (Fb q))]
   rcases h.val y t with q|⟨d',c',O,U,Y⟩
   ·exact .inl q
   ·exact .inr ⟨d',c',O,U,tp _ _ Y⟩
def xo.wait(h:xo p H0 D wd es kvs F W H){x:Nat}{s:Bool}{d:Int×Nat}{c:Addr}(hx:x<p)(hc:H c=some (.tup [.int d.1,.int (d.2:Int)])):
 xo p H0 D wd es (putK kvs (ky x s) (.ref c)) F (RM.ki W x s d) (upd H wd (.dT (putK kvs (ky x s) (.ref c)))):=by
 have tp:bH H (upd H wd (.dT (putK kvs (ky x s) (.ref c)))):=λa ys q=>by
  rw[ah (aP q h.dt (by intro z;cases z))]
  exact q
 have PM:(∀kv∈putK kvs (ky x s) (.ref c),∃x s,x<p/\kv.1=ky x s)/\((putK kvs (ky x s) (.ref c)).map (·.1)).Nodup:=by
  cases q:dF kvs (ky x s) with
  | none =>
    refine⟨λkv I=>?_,Oe _ h.kn q⟩
    rw[wN _ q]at I;rcases aaH.mp I with z|z
    ·exact h.keys kv z
    ·rw[aax.mp z];exact⟨x,s,hx,rfl⟩
  | some v =>
    have O:(kvs.any λkv=>decide (kv.1=ky x s))=true:=by rw[je,q];rfl
    have e:putK kvs (ky x s) (.ref c)=kvs.map λkv=>if kv.1=ky x s then(kv.1,.ref c) else kv:=by unfold putK;rw[aad O]
    have ek:(putK kvs (ky x s) (.ref c)).map (·.1)=kvs.map (·.1):=by
     rw[e,aa7];refine List.map_congr_left λkv _=>?_
     show(if kv.1=ky x s then(kv.1,V.ref c) else kv).1=kv.1
     split<;>rfl
    refine⟨λkv I=>?_,by rw[ek];exact h.kn⟩
    have hm:kv.1∈kvs.map (·.1):=by rw[<-ek];exact abr I
    obtain⟨ZH,h1,h2⟩:=aas.mp hm;rw[<-h2];exact h.keys ZH h1
 refine⟨h.same.put h.wn,h.nd,h.ne,h.fr,h.Dn,h.wn,h.wD,h.wE,by rw[ah (aaE h.wD)];exact h.lst,λi b hb=>?_,ae,PM.2,PM.1,λy t d' q=>?_,λy t=>?_⟩
 ·obtain⟨w0,w1,U,Y,Z⟩:=h.at_ _ _ hb;exact⟨w0,w1,by rw[ah (show b≠wd from λz=>h.wE (z▸jY hb))];exact U,Y.tups tp,Z.tups tp⟩
 ·by_cases z:y=x/\t=s
  ·rw[z.1];exact hx
  ·rw[RM.bG z]at q;exact h.out y t d' q
 ·rw[Ld]
  by_cases z:y=x/\t=s
  ·obtain⟨rfl,rfl⟩:=z;exact .inr ⟨d,c,RM.b9 _ _ _ _,aad rfl,tp _ _ hc⟩
  ·rw[RM.bG z,aab (λq=>z (Fb q))]
   rcases h.val y t with q|⟨d',c',U,Y,Z⟩
   ·exact .inl q
   ·exact .inr ⟨d',c',U,Y,tp _ _ Z⟩
end
abbrev kj(m:Nat)(H:Hp)(c:Addr)(kw:Nat×Nat):Prop:=H c=some (.tup [.int (kw.1:Int),.int (kw.2:Int),.int ((m.testBit kw.1).toNat:Int)])
structure ID(m:Nat)(H0:Hp)(D:Addr)(es:List Addr)(S:Nat->List (Nat×Nat))(H:Hp):Prop where
 same:au H0 H
 nd:es.Nodup
 ne:D∉es
 fr:∀b∈es,H0 b=none
 Dn:H0 D=none
 lst:H D=some (.lst (es.map V.ref))
 at_:∀i b,es[i]?=some b->∃cs,H b=some (.lst (cs.map V.ref))/\Paired (kj m H) cs (S i)
section
variable {m:Nat}{H0 H H' : Hp}{D b:Addr}{es:List Addr}{S:Nat->List (Nat×Nat)}{i:Nat}
def ID.go(h:ID m H0 D es S H)(s:au H H'):ID m H0 D es S H' :=
 ⟨h.same.trans s,h.nd,h.ne,h.fr,h.Dn,s _ _ h.lst,λi b e=>let⟨cs,a,q⟩:=h.at_ i b e;⟨cs,s _ _ a,Paired.Ah q λ_ _ z=>s _ _ z⟩⟩
def xq(S:Nat->List (Nat×Nat))(x:Nat)(kw:Nat×Nat):Nat->List (Nat×Nat):=λi=>if i=x then S i++[kw] else S i
def ID.get(h:ID m H0 D es S H)(hi:i<es.length):∃b cs,(es.map V.ref)[i]?=some (.ref b)/\es[i]?=some b/\H b=some (.lst (cs.map V.ref))/\Paired (kj m H) cs (S i):=by
 have e:es[i]?=some es[i]:=aam hi;obtain⟨cs,a,q⟩:=h.at_ i _ e;exact⟨es[i],cs,by rw[aak,e];rfl,e,a,q⟩
def ID.put(h:ID m H0 D es S H){cs:List Addr}{c:Addr}{kw:Nat×Nat}(hb:es[i]?=some b)(hcs:H b=some (.lst (cs.map V.ref)))(q:Paired (kj m H) cs (S i))(hc:kj m H c kw):
 ID m H0 D es (xq S i kw) (upd H b (.lst (cs.map V.ref++[.ref c]))):=by
 have hm:=jY hb;have U:D≠b:=λz=>h.ne (z▸hm)
 have tp:∀c kw,kj m H c kw->kj m (upd H b (.lst (cs.map V.ref++[.ref c]))) c kw:=λc kw z=>by
  show upd H b _ c=_;rw[ah (aP z hcs (by intro z;cases z))]
  exact z
 have O : ∀x kw,kj m H x kw->kj m (upd H b (.lst (cs.map V.ref++[.ref c]))) x kw:=λx kw z=>by
  show upd H b _ x=_;rw[ah (aP z hcs (by intro z;cases z))]
  exact z
 refine⟨h.same.put (h.fr b hm),h.nd,h.ne,h.fr,h.Dn,by rw[ah U];exact h.lst,λj Z I=>?_⟩
 by_cases e:j=i
 ·subst e;rw[hb]at I;cases I;refine⟨cs++[c],by rw[ae];simp,?_⟩
  unfold xq;rw[aad rfl];exact Paired.snoc (Paired.Ah q λ_ _ z=>O _ _ z) (O _ _ hc)
 ·have bb:Z≠b:=λz=>by
   subst z;obtain⟨h1,h2⟩:=kL.mp I;obtain⟨h3,h4⟩:=kL.mp hb;exact e ((acR h.nd).mp (h2.trans h4.symm))
  obtain⟨Y,q1,q2⟩:=h.at_ j Z I;refine⟨Y,by rw[ah bb];exact q1,?_⟩
  unfold xq;rw[aab e];exact Paired.Ah q2 λ_ _ z=>O _ _ z
def ID.off(h:ID m H0 D es S H){L:Addr}(hL:H L=none):L∉es:=λz=>by
 obtain⟨j,hj⟩:=aaN z;obtain⟨_,q,_⟩:=h.at_ j L hj;rw[hL]at q;cases q
def PN(m:Nat)(H0:Hp)(D:Addr)(i:Nat)(acc:List V)(H:Hp):Prop:=∃es,acc=es.map V.ref/\es.length=i/\ID m H0 D es (λ_=>[]) H
def PN.start(hD:H0 D=none):PN m H0 D 0 [] (upd H0 D (.lst [])) :=
 ⟨[],rfl,rfl,au.new hD,acD,ab3,λ_ h=>(ab3 h).elim,hD,ae,λi b e=>by cases e⟩
def PN.len{acc:List V}(h:PN m H0 D i acc H):H D=some (.lst acc)/\acc.length<=i:=by
 obtain⟨es,rfl,e,r⟩:=h;exact⟨r.lst,by rw[aaa];lia⟩
def PN.next{acc:List V}(h:PN m H0 D i acc H)(hb:H b=none):upd H b (.lst []) D=some (.lst acc)/\PN m H0 D (i+1) (acc++[.ref b]) (upd (upd H b (.lst [])) D (.lst (acc++[.ref b]))):=by
 obtain⟨es,rfl,e,r⟩:=h;have O:D≠b:=λz=>by
  have:=r.lst;rw[z,hb]at this;cases this
 have U:b∉es:=r.off hb;have I:H0 b=none:=r.same.free hb;refine⟨by rw[ah O];exact r.lst,es++[b],by simp,by simp[e],(r.same.put I).put r.Dn,?_,?_,λc hc=>?_,r.Dn,by rw[ae];simp,λj c hc=>?_⟩
 ·exact adk.mpr ⟨r.nd,by simp,λx hx y Z=>by rw[aax.mp Z];exact λz=>U (z▸hx)⟩
 ·intro hm;rcases aaH.mp hm with z|z
  ·exact r.ne z
  ·exact O (aax.mp z)
 ·rcases aaH.mp hc with z|z
  ·exact r.fr c z
  ·rw[aax.mp z];exact I
 ·have TQ:c≠D:=λz=>by
   subst z;rcases aaH.mp (jY hc) with z|z
   ·exact r.ne z
   ·exact O (aax.mp z)
  refine⟨[],?_,.nil⟩;rw[ah TQ]
  by_cases Y:c=b
  ·rw[Y,ae];rfl
  ·rw[ah Y]
   by_cases hj:j<es.length
   ·rw[aaP hj]at hc;obtain⟨cs,q1,q2⟩:=r.at_ j c hc;cases q2;exact q1
   ·rw[aaS (by lia)]at hc
    have:=jY hc;exact absurd (aax.mp this) Y
end
structure PR(N:RM.Net)(k:Nat)(S:Nat->List (Nat×Nat)):Prop where
 mem:∀i kw,kw∈S i↔(kw.1<k/\RM.Jn N kw.1 i kw.2)
 len:∀i,(S i).length<=2*k
def PR.start{N:RM.Net}:PR N 0 (λ_=>[]):=⟨λi kw=>⟨λh=>(nomatch h),λh=>absurd h.1 (abf _)⟩,λ_=>aaF _⟩
def PR.next{N:RM.Net}{k:Nat}{S:Nat->List (Nat×Nat)}(h:PR N k S):PR N (k+1) (xq (xq S (N.a k) (k,N.b k)) (N.b k) (k,N.a k)):=by
 refine⟨λi kw=>?_,λi=>?_⟩
 ·have one:∀(S:Nat->List (Nat×Nat)) (x:Nat) (q:Nat×Nat),kw∈xq S x q i↔kw∈S i\/(i=x/\kw=q):=λS x q=>by
   unfold xq
   by_cases e:i=x
   ·rw[aad e,aaH,aax];simp[e]
   ·rw[aab e];simp[e]
  rw[one,one,h.mem];obtain⟨O,w⟩:=kw
  constructor
  ·rintro((⟨h1,h2⟩|⟨rfl,h2⟩) | ⟨rfl,h2⟩)
   ·exact⟨abB h1,h2⟩
   ·cases h2;exact⟨abI _,.inl ⟨rfl,rfl⟩⟩
   ·cases h2;exact⟨abI _,.inr ⟨rfl,rfl⟩⟩
  ·rintro⟨h1,h2⟩
   by_cases e:O<k
   ·exact .inl (.inl ⟨e,h2⟩)
   ·have e:O = k:=by have:O<k+1:=h1;lia
    subst e;rcases h2 with⟨U,I⟩|⟨U,I⟩
    ·exact .inl (.inr ⟨U.symm,by have I:N.b O = w:=I;rw[I]⟩)
    ·exact .inr ⟨U.symm,by have I:N.a O = w:=I;rw[I]⟩
 ·have one:∀(S:Nat->List (Nat×Nat)) (x:Nat) (q:Nat×Nat),(xq S x q i).length<=(S i).length+1:=λS x q=>by
   unfold xq
   split
   ·simp
   ·lia
  have h1:=one (xq S (N.a k) (k,N.b k)) (N.b k) (k,N.a k);have h2:=one S (N.a k) (k,N.b k);have U:=h.len i
  lia
end L2
namespace RM
def left(F:OW):Nat->Nat
 | 0=>0
 | p+1=>left F p+(if(F p false).isNone then 1 else 0)+(if(F p true).isNone then 1 else 0)
def z7{F G:OW}:∀{p:Nat},(∀x,x<p->∀s,F x s=G x s)->left F p=left G p
 | 0,_=>rfl
 | p+1,h=>by
   unfold left;rw[z7 λx hx=>h x (by lia),h p (by lia),h p (by lia)]
def CY{F:OW}{x:Nat}{s:Bool}{d:Int×Nat}(hn:F x s=none):∀{p:Nat},x<p->left (ki F x s d) p<left F p
 | 0,h=>absurd h (abf _)
 | p+1,h=>by
   unfold left
   by_cases e:x=p
   ·subst e;rw[z7 (F:=ki F x s d) (G:=F) λy I t=>bG λz=>by lia]
    cases s with
    | false=>rw[b9,bG (λz=>by cases z.2),hn];simp
    | true=>rw[b9,bG (λz=>by cases z.2),hn];simp
   ·have O:=CY (F:=F) (x:=x) (s:=s) (d:=d) hn (p:=p) (by lia)
    rw[bG (λz=>e z.1.symm),bG (λz=>e z.1.symm)]
    lia
end RM
namespace L2
open PySem Ring
def WB(W:RM.OW)(k:List Key):List Int:=match k with
 | [.inl x,.inl s]=>(match W x.toNat (decide (s=1)) with | some d=>[d.1,(d.2:Int)] | none=>[])
 | _=>[]
def L1{W:RM.OW}{x:Nat}{s:Bool}{d:Int×Nat}(h:W x s=some d):WB W (ky x s)=[d.1,(d.2:Int)]:=by
 have e:(decide (((s.toNat:Nat):Int)=1))=s:=by cases s<;>rfl
 show(match W ((x:Int)).toNat (decide (((s.toNat:Nat):Int)=1)) with | some d=>[d.1,(d.2:Int)] | none=>[])=_
 rw[aap,e,h]
def L3(W:RM.OW)(kvs:List (List Key×V))(i:Nat):List Int:=WB W ((kvs[i]?.map (·.1)).getD [])
def A3{a b c d:Int}(h:HT.lexLt [a,b] [c,d]=false):c<=a:=by
 rw[HT.iB]at h
 by_cases e:a=c
 ·lia
 ·rw[aab e]at h;have:=of_decide_eq_false h
  lia
def z8{κ:Type}[DecidableEq κ]:∀{kvs:List (κ×V)} {k:κ} {v:V},(kvs.map (·.1)).Nodup->(k,v)∈kvs->dF kvs k=some v
 | [],_,_,_,h=>nomatch h
 | q::r,k,v,nd,h=>by
   rw[aay,aaX]at nd;rcases aao.mp h with e|h
   ·subst e;exact cH rfl
   ·have ne : ¬ q.1=k:=λz=>nd.1 (by rw[z];exact abr (f:=(·.1)) h)
    rw[cf ne];exact z8 nd.2 h
def xo.entry{p:Nat}{H0 H:Hp}{D wd:Addr}{es:List Addr}{kvs:List (List Key×V)}{F W:RM.OW}(h:xo p H0 D wd es kvs F W H){i:Nat}{kv:List Key×V}(e:kvs[i]?=some kv):
 ∃x s d c,x<p/\kv.1=ky x s/\W x s=some d/\dF kvs (ky x s)=some (.ref c)/\kv.2 = .ref c/\H c=some (.tup [.int d.1,.int (d.2:Int)])/\L3 W kvs i=[d.1,(d.2:Int)]:=by
 have hm:=jY e;obtain⟨x,s,hx,I⟩:=h.keys kv hm;have O:dF kvs (ky x s)=some kv.2:=z8 h.kn (by rw[<-I];exact hm)
 rcases h.val x s with⟨_,z⟩|⟨d,c,h1,h2,U⟩
 ·rw[O]at z;cases z
 ·rw[O]at h2;refine⟨x,s,d,c,hx,I,h1,O.trans h2,Option.some.inj h2,U,?_⟩;unfold L3;rw[e];show WB W kv.1=_;rw[I];exact L1 h1
def xo.find{p:Nat}{H0 H:Hp}{D wd:Addr}{es:List Addr}{kvs:List (List Key×V)}{F W:RM.OW}(h:xo p H0 D wd es kvs F W H){x:Nat}{s:Bool}{d:Int×Nat}(e:W x s=some d):∃(i:Nat) (kv:List Key×V),kvs[i]?=some kv/\kv.1=ky x s/\L3 W kvs i=[d.1,(d.2:Int)]:=by
 rcases h.val x s with⟨z,_⟩|⟨d',c,h1,h2,U⟩
 ·rw[e]at z;cases z
 ·have hm:=Od h2;obtain⟨kv,I,O⟩:=aas.mp hm;obtain⟨i,hi⟩:=aaN I;refine⟨i,kv,hi,O,?_⟩;unfold L3;rw[hi];show WB W kv.1=_;rw[O];exact L1 e
def xo.start{p:Nat}{H0 H:Hp}{D wd c:Addr}{es:List Addr}{u:Nat}(f:E5 H0 D es (λ_ _=>none) H)(hu:u<p)(hw:H wd=some (.dT []))(h0:H0 wd=none)(hc:H c=some (.tup [.int 0,.int 0])):
 xo p H0 D wd es [(ky u false,.ref c)] (λ_ _=>none) (RM.ki (λ_ _=>none) u false (0,0)) (upd H wd (.dT [(ky u false,.ref c)])):=by
 have wD:wd≠D:=λz=>by rw[z,f.lst]at hw;cases hw
 have wE:wd∉es:=λz=>by
  obtain⟨j,hj⟩:=aaN z;have:=f.at_ j wd hj;rw[hw]at this;cases this
 refine⟨f.same.put h0,f.nd,f.ne,f.fr,f.Dn,h0,wD,wE,by rw[ah (aaE wD)];exact f.lst,λi b hb=>?_,ae,by simp,λkv I=>?_,λx s d e=>?_,λx s=>?_⟩
 ·have nb:b≠wd:=λz=>wE (z▸jY hb)
  exact⟨.eF,.eF,by rw[ah nb];exact f.at_ i b hb,rfl,rfl⟩
 ·rw[aax.mp I];exact⟨u,false,hu,rfl⟩
 ·by_cases z:x=u/\s=false
  ·rw[z.1];exact hu
  ·rw[RM.bG z]at e;cases e
 ·by_cases z:x=u/\s=false
  ·obtain⟨rfl,rfl⟩:=z;exact .inr ⟨(0,0),c,RM.b9 _ _ _ _,cH rfl,by rw[ah (aP hc hw (by intro z;cases z))];exact hc⟩
  ·refine .inl ⟨RM.bG z,?_⟩;rw[cf (λq=>z ?_),wM]
   obtain⟨O,U⟩:=Fb q;exact⟨O.symm,U.symm⟩
open PySem PySem.Spec PyProof.Rows
section
variable {P:Program}{w:World}{A:Around}{E:dD}{s:Shared}
def L4{l:Addr}{u0 u1:Value}{Q:List Value->Shared->Prop}(hh:A.handled=none)(hl:s.heap.IsList l #[u0,u1])
 (hQ:∀h' tk,(∀b o,s.heap.get? b=some o->h'.get? b=some o)->Q [u0,u1] { s with heap:=h',toks:=tk}):wpAny (model P w) A (unpackItems (.ref l) 2 none) Q E s:=by
 obtain⟨ol,O,I,nl,U⟩:=id hl;have hT:s.TypeIs (.ref l) "list":=⟨ol,O,I⟩;have Y:l≠s.heap.objs.size:=aaz (aan O);unfold unpackItems;refine aW ?_;unfold notIterableAtAll;refine aW (wpAny_specialOf hT PySem.F.slot_list_iter.lookup (aai ?_));simp only[abg,if_false];refine aW (aaW (wpAny_pyIter_list hl ?_));have W:=Walks.list (prog:=P) (w:=w) (A:=A) hh s.heap.objs.size l Y #[u0,u1];generalize Z:s.heap.push { cls:=.type "list_iterator",data:=.fields #[.ref l,.int 0 0]}=g0;have ab:∀b o,s.heap.get? b=some o->g0.get? b=some o:=λb o e=>by rw[<-Z];exact aag _ e
 have ag:g0.IsListIter s.heap.objs.size l 0:=by rw[<-Z];exact⟨_,aav _ rfl,rfl,rfl⟩
 have ar:g0.IsList l #[u0,u1]:=by rw[<-Z];exact⟨ol,aag _ O,I,nl,U⟩
 have nI:∀b o,s.heap.get? b=some o->b∉[s.heap.objs.size]:=λb o e z=>aaz (aan e) (aax.mp z)
 refine aW (aaW ?_);show wpAny _ _ (pyNext (.ref s.heap.objs.size) >>= _) _ _ _;refine aW (W.item 0 _ _ _ (by simp) ⟨ag,ar⟩ λv1 h1 a5 aw ax k1=>?_)
 obtain rfl:u0=v1:=by simpa using aw
 refine aW (aaW ?_);show wpAny _ _ (pyNext (.ref s.heap.objs.size) >>= _) _ _ _;refine aW (W.item 1 _ _ _ (by simp) ax λv2 h2 a6 aT a3 k2=>?_)
 obtain rfl:u1=v2:=by simpa using aT
 refine aW (aaW ?_);show wpAny _ _ (pure []) _ _ _;refine aai (aai (aai ?_));rw[aab (by simp)]
 refine aW (aaW (W.done _ _ _ a3 λh3 a4 k3=>?_))
 simp only[Option.isSome_none,abg,if_false];exact aai (hQ h3 a4 λb o e=>k3 b o (nI b o e) (k2 b o (nI b o e) (k1 b o (nI b o e) (ab b o e))))
def L5{env:Env}{elts:List Expr}{x1}{pos:Pos}{l:Addr}{u0 u1:Value}{Q:Unit->Shared->Prop}(hh:A.handled=none)(hl:s.heap.IsList l #[u0,u1])
 (hn:(assignEach elts env).length=2) (hstar:(assignEach elts env).findIdx? (·.1)=none)
 (h:∀h' tk,(∀b o,s.heap.get? b=some o->h'.get? b=some o)->wpAny (model P w) A (assignInOrder ((assignEach elts env).map (·.2)) [u0,u1]) Q E { s with heap:=h',toks:=tk}) :
 wpAny (model P w) A (assign (.Tuple elts x1 pos) env (.ref l)) Q E s:=by
 rw[arm_assign_Tuple];refine aW (wpAny_standAt ?_);unfold unpack;rw[hn,hstar];exact aW (aaW (L4 hh hl h))
end
section
variable {X:Cx}{es:List Expr}{pos:Pos}
def UW(K:bE)(t:M4):TG:=λv σ H Q=>∃a x y,v = .ref a/\aO K H a [x,y]/\t [x,y] σ H Q
def Yn(K:bE){k:Nat}{t:M4}(hc:X.calm=true)(h:Su X es t)
 (hn:(assignEach es X.env).length=2:=by rfl) (hst:(assignEach es X.env).findIdx? (·.1)=none:=by rfl) (hK:X.K=K:=by rfl):PG X (.Tuple es k pos) (UW K t):=by
 subst hK;intro pq s σ H v u Q I r hw;obtain⟨a,x,y,U,Y,hw⟩:=hw;subst U;cases r;obtain⟨its,rv,ht,hz⟩:=I.list Y;cases rv with
 | cons Z rr=>cases rr with
   | cons r2 O =>
     cases O;refine L5 (I.ok.hd hc) ht.isList hn hst λh' tk hx=>?_
     exact h pq _ σ H [x,y] _ Q (I.kept (t':=tk) hx) (.cons Z (.cons r2 .nil)) hw
end
end L2
namespace RM
section
variable {N:Net}{L:Nat->Int}{m u:Nat}
def uH{f g:Nat->Bool}:∀{n:Nat},(∀k,k<n->0<L k)->(∀k,k<n->f k=true->g k=true)->∀k,k<n->f k=false->g k=true->lsum L f n<lsum L g n
 | 0,_,_,k,hk,_,_=>absurd hk (abf _)
 | n+1,hL,h,k,hk,hf,hg=>by
   unfold lsum;have hn:=h n (by lia)
   have h0:=hL n (by lia)
   by_cases e:k=n
   ·subst e;have:=o7 (L:=L) (f:=f) (g:=g) (n:=k) (λj hj=>aco (hL j (by lia))) λj hj=>h j (by lia)
    rw[hf,hg];simp only[abg,if_false,if_true]
    lia
   ·have I:=uH (n:=n) (λj hj=>hL j (by lia)) (λj hj=>h j (by lia)) k (by lia) hf hg
    cases hfn:f n with
    | false=>cases g n<;>simp<;>lia
    | true=>rw[hn hfn];simp;lia
def Fc(hL:∀k,k<N.n->0<L k)(hu:u<N.p){z:Int}{e:Nat}(h:Wz N L m u u true z e)(hmin:∀x z',x<N.p->Wy N L m x x true z'->z<=z'):
 N.Ring e/\e<2^N.n/\N.par e m=true/\lsum L (λk=>e.testBit k) N.n=z:=by
 have I:∀k,k<N.n->0<=L k:=λk hk=>aco (hL k hk)
 obtain⟨pre,h⟩:=h;obtain⟨_,h2,h3,h4,h5,_⟩:=l8 I hu h;obtain⟨r,r1,r2,r3⟩:=wZ _ e rfl h2 (λx _=>by rw[h3,adi]) h4
 have O:r<2^N.n:=dz λk hk=>nV h2 (r2 k hk)
 obtain⟨x,hx,hw⟩:=rH I m r1 O;rw[r3]at hw;have hz:=hmin x _ hx hw;have hle:=o7 (L:=L) (f:=λk=>r.testBit k) (g:=λk=>e.testBit k) I λk _ hk=>r2 k hk
 have U:e=r:=aa0 λk=>by
  cases hr:r.testBit k with
  | true=>exact r2 k hr
  | false =>
    cases he:e.testBit k with
    | false=>rfl
    | true =>
      have:=uH (L:=L) (f:=λk=>r.testBit k) (g:=λk=>e.testBit k) hL (λk _ hk=>r2 k hk) k (nV h2 he) hr he
      lia
 rw[U];exact⟨r1,O,r3,by lia⟩
def L6(hL:∀k,k<N.n->0<=L k)(hno:∀x z',x<N.p->¬ Wy N L m x x true z'){r:Nat}(hr:N.Ring r)(hm:r<2^N.n):N.par r m=false:=by
 cases hp:N.par r m with
 | false=>rfl
 | true =>
   obtain⟨x,hx,hw⟩:=rH hL m hr hm;rw[hp]at hw;exact absurd hw (hno x _ hx)
end
end RM
namespace L2
open PySem PySem.Spec PyProof.Rows
section
variable {X:Cx}{pq:aX}{σ:St}{H:Hp}{l It S:Addr}{cs:List Addr}{ks:Nat->List Int}{R:Result->Shared->Prop}
def mS{pa:aX}{s:Shared}(I:Inv X pa σ H s)(hl:aO X.K H l (cs.map V.ref)):s.heap.IsList l (cs.map Value.ref).toArray:=by
 obtain⟨O,U,p,hz⟩:=I.list hl;have e:O=cs.map Value.ref:=by
  clear hl p hz
  induction cs generalizing O with
  | nil=>cases U;rfl
  | cons c r Y =>
    rw[aay]at U;cases U with
    | cons h t=>cases h;rw[Y _ t];rfl
 rw[e]at p;exact p.isList
def IE(hh:X.A.handled=none)(un:X.A.in1.units<cLine)(hl:aO X.K H l (cs.map V.ref))(hk:∀(i:Nat) c,cs[i]?=some c->aV X.K H c ((ks i).map V.int))(oS:E7 X S)(oI:E7 X It)(SI:S≠It)(lI:l≠It)
 (pI:∀p∈pq,p.1≠It) (pS:∀p∈pq,p.1≠S)
 (hR:∀(i:Nat) c s',cs[i]?=some c->(∀j,j<cs.length->HT.lexLt (ks j) (ks i)=false)->Inv X pq σ H s'->R (.ok (.ret (.ref c))) s') :
 ∀(r j i:Nat) (c:Addr) (s:Shared) (n:Nat) (JR:Obj),cs.length-j=r->j<=cs.length->i<j->cs[i]?=some c->Inv X ((S,seqObj "list" #[.ref c,.ref c] n)::(It,JR)::pq) σ H s->s.heap.IsListIter It l j->
  (∀Z,Z<j->HT.lexLt (ks Z) (ks i)=false)->codeAny (model X.prog X.w) X.A (.builtin "min.loop" ⟨[.ref It,.none,.ref S],[]⟩) R s:=by
 have U:(toString "min" ++ toString ".loop":String)="min.loop":=by decide
 have W:=Walks.list (prog:=X.prog) (w:=X.w) (A:=X.A.in1) hh It l lI (cs.map Value.ref).toArray;have ag:(cs.map Value.ref).toArray.size=cs.length:=by simp
 intro r
 induction r with
 | zero =>
   intro j i c s n JR hr hj aT hc I hit rL;have D9:j=cs.length:=by lia
   have xn:=I.pin (S,_) (jF _ (.head _));refine codeAny_builtin abG ?_;rw[Around.under_plainId aaV _];show wpAny _ X.A.in1 (seqItems? (.ref S) >>= _) _ _ _;refine aW (wpAny_seqItems xn.1 rfl ?_);show wpAny _ X.A.in1 (tryCatch (pyNext (.ref It)) _ >>= _) _ _ _;refine aW (aby (W.done _ _ _ ⟨by rw[ag,<-D9];exact hit,mS I hl⟩ λh' Y ab=>?_))
   have I1:=I.kT (t':=Y) (h':=h') (pb:=(S,seqObj "list" #[.ref c,.ref c] n)::pq) oI (List.Mem.tail _ (.head _)) (λb u hb e=>ab b u (by simpa using hb) e) (λp O=>by
    rcases aao.mp O with rfl|O
    ·exact .inr ⟨.head _,SI⟩
    ·exact .inr ⟨.tail _ (.tail _ O),pI p O⟩)
   have LU:=I1.pin (S,_) (jF _ (.head _));show wpAny _ X.A.in1 (updateSeq S (λ_=>#[]) >>= _) _ _ _
   refine aW (wpAny_updateSeq LU.1 rfl (aW (wpAny_letGo (aai ?_))));have s1:=aaY h' S (Obj.mapSeq λ_=>(#[]:Array Value))
   exact hR i c _ hc (λZ ar=>rL Z (by lia)) (I1.kT (t':=Y) (pb:=pq) oS (.head _) (λb u hb e=>(s1.2 b hb).trans e) λp O=>.inr ⟨.tail _ O,pS p O⟩)
 | succ r ih =>
   intro j i c s n JR hr hj aT hc I hit rL;have D9:j<cs.length:=by lia
   have xn:=I.pin (S,_) (jF _ (.head _));refine codeAny_builtin abG ?_;rw[Around.under_plainId aaV _];show wpAny _ X.A.in1 (seqItems? (.ref S) >>= _) _ _ _;refine aW (wpAny_seqItems xn.1 rfl ?_);show wpAny _ X.A.in1 (tryCatch (pyNext (.ref It)) _ >>= _) _ _ _;refine aW (aby (W.item j _ _ _ (by rw[ag];exact D9) ⟨hit,mS I hl⟩ λv h' Y hv aw ab=>?_))
   have SM:cs[j]?=some cs[j]:=aam D9;obtain rfl:v = .ref cs[j]:=by
    have:(cs.map Value.ref)[j]?=some v:=by simpa using hv
    rw[aak,SM]at this;exact(Option.some.inj this).symm
   obtain⟨Nb,L7,a3,ax⟩:=id aw.1;have I1:=I.kT (t':=Y) (h':=h') (pb:=(S,seqObj "list" #[.ref c,.ref c] n)::(It,Nb)::pq) oI (List.Mem.tail _ (.head _)) (λb u hb e=>ab b u (by simpa using hb) e) (λp O=>by
    rcases aao.mp O with rfl|O
    ·exact .inr ⟨.head _,SI⟩
    ·rcases aao.mp O with rfl|O
     ·exact .inl ⟨rfl,L7,λv z=>by rw[ax]at z;cases z⟩
     ·exact .inr ⟨.tail _ (.tail _ O),pI p O⟩)
   have nX:=I1.pin (S,_) (jF _ (.head _));show wpAny _ X.A.in1 (tryCatch (holding [.ref cs[j],.ref cs[j]] (richCompare .Lt (.ref cs[j]) (.ref c) >>= _)) _ >>= _) _ _ _;refine aW (aby (aaW (aW (LQ I1 (hk j _ SM) (hk i c hc) un ?_))));refine aW (aaW (wpAny_truthy_bool (aW (wpAny_letGo (aai ?_)))));cases hlt:HT.lexLt (ks j) (ks i) with
   | true =>
     have s1:=aaY h' S (Obj.mapSeq λ_=>(#[.ref cs[j],.ref cs[j]]:Array Value))
     obtain⟨n2,a4⟩:∃n2,(h'.update S (Obj.mapSeq λ_=>(#[.ref cs[j],.ref cs[j]]:Array Value))).get? S=some (seqObj "list" #[.ref cs[j],.ref cs[j]] n2):=⟨_,get?_update_seq nX.1 λ_=>#[.ref cs[j],.ref cs[j]]⟩
     simp only[if_true];refine aW (wpAny_updateSeq nX.1 rfl (aW (wpAny_letGo ?_)));rw[U];have I3:=I1.kT (t':=Y) (pb:=(S,seqObj "list" #[.ref cs[j],.ref cs[j]] n2)::(It,Nb)::pq) oS (.head _) (λb u hb e=>(s1.2 b hb).trans e) (λp O=>by
      rcases aao.mp O with rfl|O
      ·exact .inl ⟨rfl,a4,λv z=>by cases z⟩
      ·rcases aao.mp O with rfl|O
       ·exact .inr ⟨.tail _ (.head _),SI.symm⟩
       ·exact .inr ⟨.tail _ (.tail _ O),pS p O⟩)
     refine aai ⟨plainId_quiet aaV _,ih (j+1) j cs[j] _ n2 Nb (by lia) (by lia) (by lia) SM I3 ⟨Nb,(s1.2 It SI.symm).trans L7,a3,ax⟩ λZ ar=>?_⟩
     by_cases e:Z = j
     ·rw[e];exact HT.h9 _
     ·exact HT.xj (rL Z (by lia)) hlt
   | false =>
     simp only[abg,if_false];refine aW (wpAny_letGo ?_);rw[U];refine aai ⟨plainId_quiet aaV _,ih (j+1) i c _ n Nb (by lia) (by lia) (by lia) hc I1 aw.1 λZ ar=>?_⟩
     by_cases e:Z = j
     ·rw[e];exact hlt
     ·exact rL Z (by lia)
def Yo(hr:X.A.handled=none)(un:X.A.in1.units<cLine):g8 X (.builtin "min") (λxs H Q=>∃(l:Addr) (cs:List Addr) (ks:Nat->List Int),xs=[.ref l]/\aO X.K H l (cs.map V.ref)/\0<cs.length/\(∀(i:Nat) c,cs[i]?=some c->aV X.K H c ((ks i).map V.int))/\
 ∀(i:Nat) c,cs[i]?=some c->(∀j,j<cs.length->HT.lexLt (ks j) (ks i)=false)->Q (.ref c) H):=by
 intro pq s σ H xs us Q I r h;obtain⟨l,cs,ks,rfl,hl,Y,hk,q⟩:=h;obtain⟨u,rfl,rx⟩:=vals1 r;cases rx;have U:(toString "min" ++ toString ".loop":String)="min.loop":=by decide
 have Z:=mS I hl;obtain⟨ol,UU,_⟩:=id Z;have ar:l<s.heap.objs.size:=aan UU;refine call_function_tree PySem.F.kind_min PySem.F.plain_min PySem.F.entry_min (PySem.F.args_min1 _) ?_;show wpAny _ X.A.in1 (Builtin.Builtins.bindParams "min" ["key","default"] 0 ⟨[],[]⟩ >>= _) _ _ s;refine aW (wpAny_of_eq (show Builtin.Builtins.bindParams "min" ["key","default"] 0 ⟨[],[]⟩=pure [none,none] from rfl) ?_)
 refine aW (aai (aW (wpAny_pyIter_list Z (aW (wpAny_newList ?_ (aaF _))))));rw[U];refine aai ⟨plainId_quiet aaV _,?_⟩;generalize RE:({ cls:=.type "list_iterator",data:=.fields #[.ref l,.int 0 0]}:Obj)=oI;have hS:(s.heap.push oI).objs.size=s.heap.objs.size+1:=size_push' ..;have aw:∀b o,s.heap.get? b=some o->((s.heap.push oI).push (seqObj "list" #[] 0)).get? b=some o:=λb o e=>aag _ (aag _ e)
 have gI:((s.heap.push oI).push (seqObj "list" #[] 0)).get? s.heap.objs.size=some oI:=aag _ (aav _ (by rw[<-RE];rfl))
 have gS:((s.heap.push oI).push (seqObj "list" #[] 0)).get? (s.heap.push oI).objs.size=some (seqObj "list" #[] 0):=aav _ rfl;have OF:∀p∈pq,p.1<s.heap.objs.size:=λp O=>aan (I.pin p (jF _ O)).1
 have PL:=I.LP (aaf s.heap.objs.size);have oS:=I.LP (b:=(s.heap.push oI).objs.size) (by rw[hS];exact abd _)
 have SI:(s.heap.push oI).objs.size≠s.heap.objs.size:=by rw[hS];exact acT _
 have lI:l≠s.heap.objs.size:=aaz ar;have pI:∀p∈pq,p.1≠s.heap.objs.size:=λp O=>aaz (OF p O)
 have pS:∀p∈pq,p.1≠(s.heap.push oI).objs.size:=λp O=>by rw[hS];exact aaz (abB (OF p O))
 have J:Inv X (((s.heap.push oI).objs.size,seqObj "list" #[] 0)::(s.heap.objs.size,oI)::pq) σ H { s with heap:=(s.heap.push oI).push (seqObj "list" #[] 0)}:=by
  have K:=I.kept (t':=s.toks) aw;refine K.gZ λp O=>?_
  rcases aao.mp O with rfl|O
  ·exact⟨gS,I.hok.fresh (by rw[hS];exact abd _),oS.2.1,oS.2.2.1,λv z=>by cases z⟩
  ·rcases aao.mp O with rfl|O
   ·exact⟨gI,I.hok.fresh (aaf _),PL.2.1,PL.2.2.1,λv z=>by rw[<-RE]at z;cases z⟩
   ·exact K.pin p (jF _ O)
 have W:=Walks.list (prog:=X.prog) (w:=X.w) (A:=X.A.in1) hr s.heap.objs.size l lI (cs.map Value.ref).toArray;have xn:=J.pin ((s.heap.push oI).objs.size,seqObj "list" #[] 0) (jF _ (.head _));refine codeAny_builtin abG ?_;rw[Around.under_plainId aaV _];show wpAny _ X.A.in1 (seqItems? (.ref _) >>= _) _ _ _;refine aW (wpAny_seqItems xn.1 rfl ?_);show wpAny _ X.A.in1 (tryCatch (pyNext (.ref s.heap.objs.size)) _ >>= _) _ _ _;refine aW (aby (W.item 0 _ _ _ (by simpa using Y) ⟨⟨oI,gI,by rw[<-RE],by rw[<-RE];rfl⟩,mS J hl⟩ λv h' ab hv ax aT=>?_))
 have SM:cs[0]?=some cs[0]:=aam Y;obtain rfl:v = .ref cs[0]:=by
  have:(cs.map Value.ref)[0]?=some v:=by simpa using hv
  rw[aak,SM]at this;exact(Option.some.inj this).symm
 obtain⟨Nb,L7,a3,ag⟩:=id ax.1;have I1:=J.kT (t':=ab) (h':=h') (pb:=((s.heap.push oI).objs.size,seqObj "list" #[] 0)::(s.heap.objs.size,Nb)::pq) PL (List.Mem.tail _ (.head _)) (λb u hb e=>aT b u (by simpa using hb) e) (λp O=>by
  rcases aao.mp O with rfl|O
  ·exact .inr ⟨.head _,SI⟩
  ·rcases aao.mp O with rfl|O
   ·exact .inl ⟨rfl,L7,λv z=>by rw[ag]at z;cases z⟩
   ·exact .inr ⟨.tail _ (.tail _ O),pI p O⟩)
 have nX:=I1.pin ((s.heap.push oI).objs.size,_) (jF _ (.head _));have s1:=aaY h' (s.heap.push oI).objs.size (Obj.mapSeq λ_=>(#[.ref cs[0],.ref cs[0]]:Array Value))
 obtain⟨n2,a4⟩:∃n2,(h'.update (s.heap.push oI).objs.size (Obj.mapSeq λ_=>(#[.ref cs[0],.ref cs[0]]:Array Value))).get? (s.heap.push oI).objs.size=some (seqObj "list" #[.ref cs[0],.ref cs[0]] n2):=⟨_,get?_update_seq nX.1 λ_=>#[.ref cs[0],.ref cs[0]]⟩
 show wpAny _ X.A.in1 (updateSeq (s.heap.push oI).objs.size (λ_=>#[.ref cs[0],.ref cs[0]]) >>= _) _ _ _
 refine aW (wpAny_updateSeq nX.1 rfl ?_);rw[U];have I3:=I1.kT (t':=ab) (pb:=((s.heap.push oI).objs.size,seqObj "list" #[.ref cs[0],.ref cs[0]] n2)::(s.heap.objs.size,Nb)::pq) oS (.head _) (λb u hb e=>(s1.2 b hb).trans e) (λp O=>by
  rcases aao.mp O with rfl|O
  ·exact .inl ⟨rfl,a4,λv z=>by cases z⟩
  ·rcases aao.mp O with rfl|O
   ·exact .inr ⟨.tail _ (.head _),SI.symm⟩
   ·exact .inr ⟨.tail _ (.tail _ O),pS p O⟩)
 refine aai ⟨plainId_quiet aaV _,IE hr un hl hk oS PL SI lI pI pS (λi c s' hc best I7=>⟨.ref c,H,I7,rfl,q i c hc best⟩) _ 1 0 cs[0] _ n2 Nb rfl Y (abI _) SM I3 ⟨Nb,(s1.2 _ SI.symm).trans L7,a3,ag⟩ λj hj=>?_⟩
 have e:j=0:=by lia
 rw[e];exact HT.h9 _
end
end L2
namespace RM
def lx(a b:Int×Nat):Prop:=a.1<b.1\/(a.1=b.1/\a.2<=b.2)
def lx.anti{a b:Int×Nat}(h1:lx a b)(h2:lx b a):a=b:=by
 obtain⟨a1,a2⟩:=a;obtain⟨b1,b2⟩:=b;unfold lx at h1 h2;simp only at h1 h2;have I:a1=b1:=by lia
 have O:a2=b2:=by lia
 rw[I,O]
def stp(L:Nat->Int)(d:Int×Nat)(k:Nat):Int×Nat:=(d.1+L k,d.2^^^2^k)
structure Fx(N:Net)(L:Nat->Int)(m u:Nat)(F:OW):Prop where
 st:F u false=some (0,0)
 cx:∀x s d k y,F x s=some d->k<N.n->Jn N k x y->∃d',F y (s^^m.testBit k)=some d'/\lx d' (stp L d k)
 org:∀y t d,F y t=some d->(y=u/\t=false/\d=(0,0))\/∃x s d0 k,F x s=some d0/\k<N.n/\Jn N k x y/\t=(s^^m.testBit k)/\d=stp L d0 k
 nn:∀y t d,F y t=some d->0<=d.1
section
variable {N:Net}{L:Nat->Int}{m u:Nat}{F G:OW}
def Fx.part(hL:∀k,k<N.n->0<L k)(f:Fx N L m u F)(g:Fx N L m u G):∀(n:Nat),(∀y t d,d.1<(n:Int)->(F y t=some d↔G y t=some d)):=by
 intro n
 induction n with
 | zero =>
   intro y t d hd;have hd:d.1<0:=hd;exact⟨λh=>absurd (f.nn y t d h) (by lia),λh=>absurd (g.nn y t d h) (by lia)⟩
 | succ n I =>
   have one:∀{F G:OW},Fx N L m u F->Fx N L m u G->(∀y t d,d.1<(n:Int)->(F y t=some d↔G y t=some d))->∀y t d,d.1<((n+1:Nat):Int)->F y t=some d->∃d',G y t=some d'/\lx d' d:=λ{F G} f g I y t d hd h=>by
    rcases f.org y t d h with⟨rfl,rfl,rfl⟩|⟨x,s,d0,k,h0,hk,hj,rfl,rfl⟩
    ·exact⟨_,g.st,.inr ⟨rfl,aaf _⟩⟩
    ·have Z:=hL k hk;have O:d0.1<(n:Int):=by
      have hd:d0.1+L k<((n+1:Nat):Int):=hd
      lia
     exact g.cx x s d0 k y ((I x s d0 O).mp h0) hk hj
   have both:∀{F G:OW},Fx N L m u F->Fx N L m u G->(∀y t d,d.1<(n:Int)->(F y t=some d↔G y t=some d))->∀y t d,d.1<((n+1:Nat):Int)->F y t=some d->G y t=some d:=λ{F G} f g I y t d hd h=>by
    obtain⟨d',h',Y⟩:=one f g I y t d hd h;have U : d'.1<((n+1:Nat):Int):=by
     rcases Y with z|z<;>lia
    obtain⟨d2,h2,l2⟩:=one g f (λy t d hd=>(I y t d hd).symm) y t d' U h'
    rw[h]at h2;cases h2;rw[Y.anti l2]at h';exact h'
   intro y t d hd;exact⟨both f g I y t d hd,both g f (λy t d hd=>(I y t d hd).symm) y t d hd⟩
def Fx.uniq(hL:∀k,k<N.n->0<L k)(f:Fx N L m u F)(g:Fx N L m u G):F=G:=by
 have go:∀{F G:OW},Fx N L m u F->Fx N L m u G->∀y t d,F y t=some d->G y t=some d:=λ{F G} f g y t d h=>by
  have hn:=f.nn y t d h;exact(Fx.part hL f g (d.1.toNat+1) y t d (by lia)).mp h
 funext y t
 cases h:F y t with
 | some d=>exact(go f g y t d h).symm
 | none =>
   cases h' : G y t with
   | none=>rfl
   | some d=>rw[go g f y t d h']at h;cases h
end
def UY(N:Net)(L:Nat->Int)(m u:Nat)(F:OW)(y:Nat)(t:Bool)(d:Int×Nat):Prop:=(y=u/\t=false/\d=(0,0))\/∃x s d0 k,F x s=some d0/\k<N.n/\Jn N k x y/\t=(s^^m.testBit k)/\d=stp L d0 k
structure Dx(N:Net)(L:Nat->Int)(m u:Nat)(F W:OW)(now:Option (Nat×Bool))(done:Nat->Nat->Prop):Prop where
 dj:Dj N L m u F W now done
 cx:∀x s d k y,F x s=some d->k<N.n->Jn N k x y->(now=some (x,s)->done k y)->∃d',(F y (s^^m.testBit k)=some d'\/W y (s^^m.testBit k)=some d')/\lx d' (stp L d k)
 fo:∀y t d,F y t=some d->UY N L m u F y t d
 wo:∀y t d,W y t=some d->UY N L m u F y t d
 s0:F u false=some (0,0)\/W u false=some (0,0)
section
variable {N:Net}{L:Nat->Int}{m u:Nat}{F W:OW}
def UY.grow{y x:Nat}{t s:Bool}{d e:Int×Nat}(h:UY N L m u F y t d)(hF:F x s=none):UY N L m u (ki F x s e) y t d:=by
 rcases h with h|⟨I,s',d0,k,h0,r⟩
 ·exact .inl h
 ·refine .inr ⟨I,s',d0,k,?_,r⟩;rw[bG (λz=>by rw[z.1,z.2,hF]at h0;cases h0)]
  exact h0
def Dx.start:Dx N L m u (λ_ _=>none) (ki (λ_ _=>none) u false (0,0)) none (λ_ _=>False):=by
 refine⟨.start,λ_ _ _ _ _ h=>(nomatch h),λ_ _ _ h=>(nomatch h),λy t d h=>?_,.inr (b9 _ _ _ _)⟩
 by_cases e:y=u/\t=false
 ·obtain⟨rfl,rfl⟩:=e;rw[b9]at h;exact .inl ⟨rfl,rfl,(Option.some.inj h).symm⟩
 ·rw[bG e]at h;cases h
def Dx.pop(h:Dx N L m u F W none (λ_ _=>False)){x:Nat}{s:Bool}{d:Int×Nat}(e:W x s=some d)(hmin:∀y t d',W y t=some d'->d.1<=d'.1):Dx N L m u (ki F x s d) (A2 W x s) (some (x,s)) (λ_ _=>False):=by
 have I:=h.dj.dj x s d e;have moved:∀y t d',F y t=some d'\/W y t=some d'->ki F x s d y t=some d'\/A2 W x s y t=some d':=λy t d' q=>by
  by_cases z:y=x/\t=s
  ·obtain⟨rfl,rfl⟩:=z;rcases q with q|q
   ·rw[I]at q;cases q
   ·rw[e]at q;cases q;exact .inl (b9 _ _ _ _)
  ·rw[bG z,pe z];exact q
 refine⟨h.dj.pop e hmin,λy t d' k O q hk hj hd=>?_,λy t d' q=>?_,λy t d' q=>?_,moved _ _ _ h.s0⟩
 ·by_cases z:y=x/\t=s
  ·obtain⟨rfl,rfl⟩:=z;exact(hd rfl).elim
  ·rw[bG z]at q;obtain⟨d2,U,Y⟩:=h.cx y t d' k O q hk hj (λz=>nomatch z)
   exact⟨d2,moved _ _ _ U,Y⟩
 ·by_cases z:y=x/\t=s
  ·obtain⟨rfl,rfl⟩:=z;rw[b9]at q;cases q;exact(h.wo _ _ _ e).grow I
  ·rw[bG z]at q;exact(h.fo y t d' q).grow I
 ·by_cases z:y=x/\t=s
  ·obtain⟨rfl,rfl⟩:=z;rw[vG]at q;cases q
  ·rw[pe z]at q;exact(h.wo y t d' q).grow I
def lx.trans{a b c:Int×Nat}(h1:lx a b)(h2:lx b c):lx a c:=by
 unfold lx at *
 lia
def Dx.put{done:Nat->Nat->Prop}{x:Nat}{s:Bool}(h:Dx N L m u F W (some (x,s)) done){d:Int×Nat}{k y:Nat}(e:F x s=some d)(h0:0<=d.1)(hk:k<N.n)(hL:0<L k)(hj:Jn N k x y)(hF:F y (s^^m.testBit k)=none)
 (hW:∀d',W y (s^^m.testBit k)=some d'->lx (stp L d k) d'):Dx N L m u F (ki W y (s^^m.testBit k) (stp L d k)) (some (x,s)) (λU Y=>done U Y\/(U = k/\Y = y)):=by
 have moved:∀v t d',F v t=some d'\/W v t=some d'->∃d2,(F v t=some d2\/ki W y (s^^m.testBit k) (stp L d k) v t=some d2)/\lx d2 d':=λv t d' q=>by
  rcases q with q|q
  ·exact⟨d',.inl q,.inr ⟨rfl,aaf _⟩⟩
  ·by_cases z:v=y/\t=(s^^m.testBit k)
   ·obtain⟨rfl,rfl⟩:=z;exact⟨_,.inr (b9 _ _ _ _),hW d' q⟩
   ·exact⟨d',.inr (by rw[bG z];exact q),.inr ⟨rfl,aaf _⟩⟩
 refine⟨h.dj.put e hk (aco hL) hj hF λd' q=>?_,λv t d' Z y2 q I Na hd=>?_,h.fo,λv t d' q=>?_,?_⟩
 ·have:=hW d' q;unfold lx stp at this;simp only at this
  lia
 ·by_cases hd2:some (x,s)=some (v,t)->done Z y2
  ·obtain⟨d2,q2,l2⟩:=h.cx v t d' Z y2 q I Na hd2;obtain⟨d3,q3,l3⟩:=moved _ _ _ q2;exact⟨d3,q3,l3.trans l2⟩
  ·have hn:some (x,s)=some (v,t):=aaQ λz=>hd2 λO=>absurd O z
   rcases hd hn with z|⟨rfl,rfl⟩
   ·exact absurd (λ_=>z) hd2
   ·cases hn;rw[e]at q;cases q;exact⟨_,.inr (b9 _ _ _ _),.inr ⟨rfl,aaf _⟩⟩
 ·by_cases z:v=y/\t=(s^^m.testBit k)
  ·obtain⟨rfl,rfl⟩:=z;rw[b9]at q;cases q;exact .inr ⟨x,s,d,k,e,hk,hj,rfl,rfl⟩
  ·rw[bG z]at q;exact h.wo v t d' q
 ·rcases h.s0 with q|q
  ·exact .inl q
  ·right
   rw[bG (λz=>?_)]
   ·exact q
   ·obtain⟨z1,O⟩:=z;have q':=q;rw[z1,O]at q';have:=hW _ q';unfold lx stp at this;simp only at this
    lia
def Dx.skip{done:Nat->Nat->Prop}{x:Nat}{s:Bool}(h:Dx N L m u F W (some (x,s)) done){d d2:Int×Nat}{k y:Nat}(e:F x s=some d)(hL:0<L k)(I:F y (s^^m.testBit k)=some d2\/(W y (s^^m.testBit k)=some d2/\lx d2 (stp L d k))):
 Dx N L m u F W (some (x,s)) (λZ y'=>done Z y'\/(Z = k/\y' = y)):=by
 have q3:F y (s^^m.testBit k)=some d2\/(W y (s^^m.testBit k)=some d2/\d2.1<=d.1+L k):=by
  rcases I with I|⟨I,O⟩
  ·exact .inl I
  ·refine .inr ⟨I,?_⟩;unfold lx stp at O;simp only at O
   lia
 refine⟨h.dj.skip e (aco hL) q3,λv t d' U y2 q Y Na hd=>?_,h.fo,h.wo,h.s0⟩
 by_cases hd2:some (x,s)=some (v,t)->done U y2
 ·exact h.cx v t d' U y2 q Y Na hd2
 ·have hn:some (x,s)=some (v,t):=aaQ λz=>hd2 λz2=>absurd z2 z
  rcases hd hn with z|⟨rfl,rfl⟩
  ·exact absurd (λ_=>z) hd2
  ·cases hn;rw[e]at q;cases q;rcases I with I|⟨I,O⟩
   ·have:=h.dj.mx x s d _ _ d2 rfl e I;refine⟨d2,.inl I,.inl ?_⟩;show d2.1<d.1+L U
    lia
   ·exact⟨d2,.inr I,O⟩
def Dx.all{done:Nat->Nat->Prop}{x:Nat}{s:Bool}(h:Dx N L m u F W (some (x,s)) done)(ha:∀k y,k<N.n->Jn N k x y->done k y):Dx N L m u F W none (λ_ _=>False) :=
 ⟨h.dj.all ha,λv t d k y q hk hj _=>h.cx v t d k y q hk hj λz=>by cases z;exact ha k y hk hj,h.fo,h.wo,h.s0⟩
def Dj.less{now:Option (Nat×Bool)}{done done' : Nat->Nat->Prop}(h:Dj N L m u F W now done)(hd:∀k y,done' k y->done k y):Dj N L m u F W now done' :=
 ⟨h.fw,h.ww,h.dj,h.le,h.mx,λv t d k y q hk hj z=>h.cl v t d k y q hk hj λI=>hd _ _ (z I),h.st⟩
def Dx.less{now:Option (Nat×Bool)}{done done' : Nat->Nat->Prop}(h:Dx N L m u F W now done)(hd:∀k y,done' k y->done k y):Dx N L m u F W now done' :=
 ⟨h.dj.less hd,λv t d k y q hk hj z=>h.cx v t d k y q hk hj λI=>hd _ _ (z I),h.fo,h.wo,h.s0⟩
def Dx.fin(hL:∀k,k<N.n->0<L k)(hu:u<N.p)(h:Dx N L m u F W none (λ_ _=>False))(hW:∀x s,W x s=none):Fx N L m u F:=by
 refine⟨?_,λx s d k y e hk hj=>?_,h.fo,λy t d e=>?_⟩
 ·rcases h.s0 with q|q
  ·exact q
  ·rw[hW]at q;cases q
 ·obtain⟨d',q,l⟩:=h.cx x s d k y e hk hj (λz=>nomatch z)
  rcases q with q|q
  ·exact⟨d',q,l⟩
  ·rw[hW]at q;cases q
 ·obtain⟨pre,w⟩:=h.dj.fw y t d e;exact(l8 (λk hk=>aco (hL k hk)) hu w).2.2.2.2.2
end
section
variable {N:Net}{L:Nat->Int}{m:Nat}
def Lo(N:Net)(L:Nat->Int)(m:Nat)(z:Int)(e:Nat):Prop:=∃I:Nat->OW,(∀i,i<N.p->Fx N L m i (I i))/\(∃i,i<N.p/\I i i true=some (z,e))/\∀j d,j<N.p->I j j true=some d->lx (z,e) d
def Lo.uniq(hL:∀k,k<N.n->0<L k){z z' : Int}{e e' : Nat}(h:Lo N L m z e)(h' : Lo N L m z' e'):z=z'/\e=e':=by
 obtain⟨F,f1,⟨i,hi,f2⟩,f3⟩:=h;obtain⟨G,g1,⟨j,hj,g2⟩,g3⟩:=h';have I:F j=G j:=Fx.uniq hL (f1 j hj) (g1 j hj);have O:F i=G i:=Fx.uniq hL (f1 i hi) (g1 i hi);have:=(f3 j (z',e') hj (by rw[I];exact g2)).anti (g3 i (z,e) hi (by rw[<-O];exact f2))
 exact⟨aaO Prod.fst this,aaO Prod.snd this⟩
structure xr(N:Net)(L:Nat->Int)(m:Nat)(z:Int)(e:Nat):Prop where
 ring:N.Ring e
 lt:e<2^N.n
 par:N.par e m=true
 len:lsum L (λk=>e.testBit k) N.n=z
 way:∃x,x<N.p/\Wy N L m x x true z
 min:∀x z',x<N.p->Wy N L m x x true z'->z<=z'
def xr.least(hL:∀k,k<N.n->0<=L k){z:Int}{e r:Nat}(h:xr N L m z e)(hr:N.Ring r)(lr:r<2^N.n)(pr:N.par r m=true):z<=lsum L (λk=>r.testBit k) N.n:=by
 obtain⟨x,hx,hw⟩:=rH hL m hr lr;rw[pr]at hw;exact h.min x _ hx hw
end
end RM
namespace L2
open PySem PySem.Spec PyProof.Rows PySem.W
def SRun(r:Nat->Int){α:Type}:KasT α->α
 | .ret a=>a
 | .ask i j k=>SRun r (k (decide (r i<r j)))
section
variable {r:Nat->Int}
def jU{α β:Type}{f:α->KasT β}:∀(t:KasT α),SRun r (t.bind f)=SRun r (f (SRun r t))
 | .ret a=>by rw[KasT.bind.eq_1];rfl
 | .ask i j k=>by
   rw[KasT.bind.eq_2];exact jU (k _)
def GY{n:Nat}{α:Type}{R:α->Prop}{cmp:Nat->Nat->(Bool->Shared->Prop)->Shared->Prop}{Q:α->Shared->Prop}{s:Shared}(hc:∀i j C,i<n->j<n->C (decide (r i<r j)) s->cmp i j C s):∀{t:KasT α},yx n R t->(R (SRun r t)->Q (SRun r t) s)->KasT.kasWp cmp t Q s
 | .ret a,h,q=>q h
 | .ask i j k,h,q=>hc i j _ h.1 h.2.1 (GY hc (h.2.2 _) q)
def Kr(r:Nat->Int)(p:Array Nat)(i:Nat):Int:=r (p.getD i 0)
def xu(p:Array Nat)(i:Nat):Kr r p i=r ((p[i]?).getD 0):=by
 unfold Kr;rw[Array.getD_eq_getD_getElem?]
def A4{p:Array Nat}{i j:Nat}(hj:j<=p.size)(k:Nat):Kr r (kas_rev p i j) k=if i<=k/\k<j then Kr r p (i+j-1-k) else Kr r p k:=by
 have e:=getElem?_mirror_all (i:=i) hj k;unfold kas_rev;rw[xu,e]
 split
 ·rw[xu]
 ·rw[xu]
def L8{p:Array Nat}{src d:Nat}(hs:src<p.size)(hd:d<=src)(k:Nat):Kr r (bubble p src d) k=if k=src-d then Kr r p src else if src-d<k/\k<=src then Kr r p (k-1) else Kr r p k:=by
 have e:=getElem?_bubble hs d hd k;rw[xu,e]
 split
 ·rw[xu]
 ·split
  ·rw[xu]
  ·rw[xu]
def nY(p:Array Nat)(i j:Nat):(kas_rev p i j).size=p.size:=mirror_size _ _ _ _
def Up(r:Nat->Int)(p:Array Nat)(n:Nat):Prop:=∀i,1<=i->i<n->Kr r p (i-1)<=Kr r p i
def Up.le{p:Array Nat}{n:Nat}(h:Up r p n):∀{i j:Nat},i<=j->j<n->Kr r p i<=Kr r p j:=by
 intro i j I;obtain⟨d,rfl⟩:=acF I;clear I
 induction d with
 | zero=>intro _;exact abF _
 | succ d O =>
   intro hj;have h1:=O (by lia)
   have h2:=h (i+(d+1)) (by lia) hj
   rw[show i+(d+1)-1=i+d by lia]at h2
   lia
def Fd{p:Array Nat}:∀(f n:Nat),1<=n->Up r p n->n<=SRun r (kas_asc p f n)/\SRun r (kas_asc p f n)<=n+f/\Up r p (SRun r (kas_asc p f n))/\(SRun r (kas_asc p f n)<n+f->Kr r p (SRun r (kas_asc p f n))<Kr r p (SRun r (kas_asc p f n)-1))
 | 0,n,_,h=>by
   rw[kas_asc.eq_1];exact⟨aaf n,aaf n,h,λz=>absurd z (abj n)⟩
 | f+1,n,h1,h=>by
   rw[kas_asc.eq_2];show n<=SRun r (if decide (Kr r p n<Kr r p (n-1))=true then _ else _)/\SRun r (if decide (Kr r p n<Kr r p (n-1))=true then _ else _)<=_/\Up r p (SRun r (if decide (Kr r p n<Kr r p (n-1))=true then _ else _))/\_
   by_cases c:Kr r p n<Kr r p (n-1)
   ·show n<=SRun r (if decide (Kr r p n<Kr r p (n-1))=true then _ else _)/\SRun r (if decide (Kr r p n<Kr r p (n-1))=true then _ else _)<=_/\Up r p (SRun r (if decide (Kr r p n<Kr r p (n-1))=true then _ else _))/\(SRun r (if decide (Kr r p n<Kr r p (n-1))=true then _ else _)<_->Kr r p (SRun r (if decide (Kr r p n<Kr r p (n-1))=true then _ else _))<Kr r p (SRun r (if decide (Kr r p n<Kr r p (n-1))=true then _ else _)-1))
    rw[aad (eG c)];exact⟨aaf n,ab0 _ _,h,λ_=>c⟩
   ·show n<=SRun r (if decide (Kr r p n<Kr r p (n-1))=true then _ else _)/\SRun r (if decide (Kr r p n<Kr r p (n-1))=true then _ else _)<=_/\Up r p (SRun r (if decide (Kr r p n<Kr r p (n-1))=true then _ else _))/\(SRun r (if decide (Kr r p n<Kr r p (n-1))=true then _ else _)<_->Kr r p (SRun r (if decide (Kr r p n<Kr r p (n-1))=true then _ else _))<Kr r p (SRun r (if decide (Kr r p n<Kr r p (n-1))=true then _ else _)-1))
    rw[aab (by simpa using c)]
    have I:=Fd (p:=p) f (n+1) (by lia) (λi hi hn=>by
     by_cases e:i=n
     ·rw[e];lia
     ·exact h i hi (by lia))
    refine⟨by lia,by lia,I.2.2.1,λz=>I.2.2.2 (by lia)⟩
def Down(r:Nat->Int)(p:Array Nat)(n q:Nat):Prop:=(∀i,1<=i->i<n->Kr r p i<=Kr r p (i-1))/\q+1<=n/\∀i,n-(q+1)<=i->i<n->Kr r p i=Kr r p (n-1)
def Down.rev{p:Array Nat}{n q:Nat}(h:Down r p n q)(hn:n<=p.size)(k:Nat):Kr r (kas_rev p (n-(q+1)) n) k=Kr r p k:=by
 rw[A4 hn]
 split
 ·rename_i hk
  rw[h.2.2 _ (by lia) (by have:=h.2.1;lia),h.2.2 k hk.1 hk.2]
 ·rfl
def pA:∀(f:Nat) {p:Array Nat} {n q:Nat},n+f<=p.size->Down r p n q->
 (SRun r (kas_desc f p n q)).1.size=p.size/\n<=(SRun r (kas_desc f p n q)).2.1/\(SRun r (kas_desc f p n q)).2.1<=n+f/\Down r (SRun r (kas_desc f p n q)).1 (SRun r (kas_desc f p n q)).2.1 (SRun r (kas_desc f p n q)).2.2
 | 0,p,n,q,_,h=>by
   rw[kas_desc.eq_1];exact⟨rfl,aaf n,aaf n,h⟩
 | f+1,p,n,q,hs,h=>by
   rw[kas_desc.eq_2];obtain⟨h1,h2,h3⟩:=id h
   by_cases c:Kr r p n<Kr r p (n-1)
   ·have dn:∀Y : Array Nat,(∀k,Kr r Y k=Kr r p k)->Down r Y (n+1) 0:=λY e=>by
     refine⟨λi hi hn=>?_,by lia,λi hi hn=>by rw[show i=n+1-1 by lia]⟩
     rw[e,e]
     by_cases z:i=n
     ·rw[z];lia
     ·exact h1 i hi (by lia)
    have Z:∀(I O:KasT (Array Nat×Nat×Nat)),SRun r (KasT.ask (p.getD n 0) (p.getD (n-1) 0) λc=>if c=true then I else O)=SRun r I:=λI O=>by
     show SRun r (if decide (Kr r p n<Kr r p (n-1))=true then I else O)=_
     rw[aad (eG c)]
    rw[Z]
    by_cases hq:q > 0
    ·rw[aad hq];have U:=pA f (p:=kas_rev p (n-(q+1)) n) (n:=n+1) (q:=0) (by rw[nY];lia) (dn _ (h.rev (by lia)))
     rw[nY]at U;exact⟨U.1,by lia,by lia,U.2.2.2⟩
    ·rw[aab hq];have U:=pA f (p:=p) (n:=n+1) (q:=0) (by lia) (dn _ λ_=>rfl)
     exact⟨U.1,by lia,by lia,U.2.2.2⟩
   ·have Z:∀(I O:KasT (Array Nat×Nat×Nat)),SRun r (KasT.ask (p.getD n 0) (p.getD (n-1) 0) λc=>if c=true then I else O)=SRun r O:=λI O=>by
     show SRun r (if decide (Kr r p n<Kr r p (n-1))=true then I else O)=_
     rw[aab (by simpa using c)]
    rw[Z]
    by_cases d:Kr r p (n-1)<Kr r p n
    ·have e1:∀(I O:KasT (Array Nat×Nat×Nat)),SRun r (KasT.ask (p.getD (n-1) 0) (p.getD n 0) λc=>if c=true then I else O)=SRun r I:=λI O=>by
      show SRun r (if decide (Kr r p (n-1)<Kr r p n)=true then I else O)=_
      rw[aad (eG d)]
     rw[e1];exact⟨rfl,aaf n,ab0 _ _,h⟩
    ·have e1:∀(I O:KasT (Array Nat×Nat×Nat)),SRun r (KasT.ask (p.getD (n-1) 0) (p.getD n 0) λc=>if c=true then I else O)=SRun r O:=λI O=>by
      show SRun r (if decide (Kr r p (n-1)<Kr r p n)=true then I else O)=_
      rw[aab (by simpa using d)]
     rw[e1];have U:=pA f (p:=p) (n:=n+1) (q:=q+1) (by lia) ⟨λi hi hn=>by
      by_cases z:i=n
      ·rw[z];lia
      ·exact h1 i hi (by lia),by lia,λi hi hn=>by
      rw[show n+1-1=n by lia]
      by_cases z:i=n
      ·rw[z]
      ·have:=h3 i (by lia) (by lia)
       lia⟩
     exact⟨U.1,by lia,by lia,U.2.2.2⟩
def CZ(r:Nat->Int)(n:Nat)(x:Nat×Array Nat):Prop:=x.2.size=n/\1<=x.1/\x.1<=n/\Up r x.2 x.1
def C1{n nrem:Nat}{p:Array Nat}{q:Nat}(h:Down r p n q)(hn:1<=n)(hle:n<=nrem)(hs:p.size=nrem):CZ r nrem (SRun r (kas_tail3 n nrem p)):=by
 have up:Up r (kas_rev p 0 n) n:=λi hi I=>by
  rw[A4 (by lia),A4 (by lia),aad (by lia),aad (by lia)]
  have:=h.1 (0+n-1-(i-1)) (by lia) (by lia)
  rw[show 0+n-1-(i-1)-1=0+n-1-i by lia]at this
  exact this
 have a:=Fd (nrem-n) n hn up;unfold kas_tail3;rw[jU];exact⟨by show(kas_rev p 0 n).size=nrem;rw[nY,hs],by show 1<=SRun r _;lia,by show SRun r _<=nrem;lia,a.2.2.1⟩
def Down.congr{p p' : Array Nat}{n q:Nat}(h:Down r p n q)(e:∀k,Kr r p' k=Kr r p k):Down r p' n q:=⟨λi h1 h2=>by rw[e,e];exact h.1 i h1 h2,h.2.1,λi h1 h2=>by rw[e,e];exact h.2.2 i h1 h2⟩
def C2{n nrem:Nat}{p:Array Nat}(hn:1<=n)(hle:n+1<=nrem)(hs:p.size=nrem)(heq:∀i,i<n->Kr r p i=Kr r p (n-1))(hlt:Kr r p n<Kr r p (n-1)):CZ r nrem (SRun r (kas_descPart n nrem p)):=by
 have d0:Down r p (n+1) 0:=⟨λi h1 h2=>by
  by_cases z:i=n
  ·rw[z];lia
  ·rw[heq i (by lia),heq (i-1) (by lia)]
   exact abF _,by lia,λi h1 h2=>by rw[show i=n+1-1 by lia]⟩
 have d:=pA (nrem-(n+1)) (p:=p) (n:=n+1) (q:=0) (by lia) d0
 unfold kas_descPart;rw[jU];generalize SRun r (kas_desc (nrem-(n+1)) p (n+1) 0)=x at d;obtain⟨d1,d2,d3,d4⟩:=d
 by_cases I:x.2.2 > 0
 ·rw[aad I];exact C1 (d4.congr (d4.rev (by lia))) (by lia) (by lia) (by rw[nY,d1,hs])
 ·rw[aab I];exact C1 d4 (by lia) (by lia) (by rw[d1,hs])
def IF{nrem:Nat}{p:Array Nat}(h1:1<=nrem)(hs:p.size=nrem):CZ r nrem (SRun r (kas_count nrem p)):=by
 have a:=Fd (r:=r) (p:=p) (nrem-1) 1 (aaf 1) (λi hi hn=>by lia)
 unfold kas_count;rw[jU];generalize SRun r (kas_asc p (nrem-1) 1)=n at a;obtain⟨a1,a2,O,Y⟩:=a
 by_cases e:(n==nrem)=true
 ·rw[aad e];exact⟨hs,a1,by show n<=nrem;lia,O⟩
 ·rw[aab e];have e:n≠nrem:=by simpa using e
  have I:=Y (by lia)
  by_cases h2:n > 1
  ·rw[aad h2]
   by_cases c:Kr r p 0<Kr r p (n-1)
   ·show CZ r nrem (SRun r (if decide (Kr r p 0<Kr r p (n-1))=true then _ else _))
    rw[aad (eG c)];exact⟨hs,a1,by show n<=nrem;lia,O⟩
   ·show CZ r nrem (SRun r (if decide (Kr r p 0<Kr r p (n-1))=true then _ else _))
    rw[aab (by simpa using c)]
    have all:∀i,i<n->Kr r p i=Kr r p (n-1):=λi hi=>by
     have l1:=O.le (show 0<=i by lia) hi
     have l2:=O.le (show i<=n-1 by lia) (by lia)
     lia
    have U:∀k,Kr r (kas_rev p 0 n) k=Kr r p k:=λk=>by
     rw[A4 (by lia)]
     split
     ·rw[all _ (by lia),all k (by lia)]
     ·rfl
    exact C2 a1 (by lia) (by rw[nY,hs]) (λi hi=>by rw[U,U];exact all i hi) (by rw[U,U];exact I)
  ·rw[aab h2];have Z:n=1:=by lia
   subst Z;exact C2 a1 (by lia) hs (λi hi=>by rw[show i=1-1 by lia]) I
def xw{p:Array Nat}{k:Nat}(up:Up r p k):∀(f l u:Nat),u-l<=f->l<=u->u<=k->(∀i,i<l->Kr r p i<=Kr r p k)->(∀i,u<=i->i<k->Kr r p k<Kr r p i)->
 SRun r (kas_place p k f l u)<=k/\(∀i,i<SRun r (kas_place p k f l u)->Kr r p i<=Kr r p k)/\∀i,SRun r (kas_place p k f l u)<=i->i<k->Kr r p k<Kr r p i
 | 0,l,u,hf,hlu,huk,h1,h2=>by
   rw[kas_place.eq_1];have e:l=u:=by lia
   subst e;exact⟨huk,h1,h2⟩
 | f+1,l,u,hf,hlu,huk,h1,h2=>by
   rw[kas_place.eq_2]
   by_cases hx:l ≥ u
   ·rw[aad hx];have e:l=u:=by lia
    subst e;exact⟨huk,h1,h2⟩
   ·rw[aab hx]
    by_cases c:Kr r p k<Kr r p ((l+u)/2)
    ·have U:∀(I O:KasT Nat),SRun r (KasT.ask (p.getD k 0) (p.getD ((l+u)/2) 0) λc=>if c=true then I else O)=SRun r I:=λI O=>by
      show SRun r (if decide (Kr r p k<Kr r p ((l+u)/2))=true then I else O)=_
      rw[aad (eG c)]
     rw[U];exact xw up f l ((l+u)/2) (by lia) (by lia) (by lia) h1 λi hi hk=>by
      have:=up.le hi hk
      lia
    ·have U:∀(I O:KasT Nat),SRun r (KasT.ask (p.getD k 0) (p.getD ((l+u)/2) 0) λc=>if c=true then I else O)=SRun r O:=λI O=>by
      show SRun r (if decide (Kr r p k<Kr r p ((l+u)/2))=true then I else O)=_
      rw[aab (by simpa using c)]
     rw[U];exact xw up f ((l+u)/2+1) u (by lia) (by lia) huk (λi hi=>by
      have:=up.le (show i<=(l+u)/2 by lia) (by lia)
      lia) h2
def Ma:∀(f:Nat) {p:Array Nat} {k:Nat},k+f<=p.size->Up r p k->Up r (SRun r (kas_bin f p k)) (k+f)
 | 0,p,k,_,h=>by
   rw[kas_bin.eq_1];exact h
 | f+1,p,k,hs,h=>by
   rw[kas_bin.eq_2,jU];have I:=xw h k 0 k (by lia) (by lia) (aaf k) (λi hi=>by lia) (λi h1 h2=>by lia)
   generalize SRun r (kas_place p k k 0 k)=l at I;obtain⟨p1,p2,Z⟩:=I;have up:Up r (bubble p k (k-l)) (k+1):=λi hi hk=>by
    rw[L8 (by lia) (by lia),L8 (by lia) (by lia),show k-(k-l)=l by lia]
    by_cases O:i=l
    ·rw[aab (by lia),aab (by lia),aad O]
     exact p2 (i-1) (by lia)
    ·rw[aab O]
     by_cases U:l<i/\i<=k
     ·rw[aad U]
      by_cases Y:i-1=l
      ·rw[aad Y];exact aco (Z (i-1) (by lia) (by lia))
      ·rw[aab Y,aad (by lia)]
       exact h (i-1) (by lia) (by lia)
     ·rw[aab U,aab (by lia),aab (by lia)]
      exact h i hi (by lia)
   have:=Ma f (p:=bubble p k (k-l)) (k:=k+1) (by rw[bubble_size];lia) up
   rw[show k+(f+1)=k+1+f by lia]
   exact this
def OI{n:Nat}(hn:1<=n):Up r (SRun r (kas_sort n)) n:=by
 unfold kas_sort;rw[jU];have c:=IF (r:=r) (p:=List.toArray (List.range n)) hn (by simp)
 generalize SRun r (kas_count n (List.toArray (List.range n)))=x at c;obtain⟨O,U,Y,I⟩:=c
 by_cases hx:x.1<n
 ·rw[aad hx];have:=Ma (n-max x.1 1) (p:=x.2) (k:=max x.1 1) (by lia) (by rw[show max x.1 1=x.1 by lia];exact I)
  rw[show max x.1 1+(n-max x.1 1)=n by lia]at this
  exact this
 ·rw[aab hx];have e:x.1=n:=by lia
  rw[e]at I;exact I
end
def A5:bootBuiltins "sorted"=some (.builtin "sorted"):=by kernel_rfl
def kx(z:Int×Int):Int:=z.1*1073741824+z.2
def UZ(z:Int×Int):Prop:=0<=z.2/\z.2<1073741824
section
variable {X:Cx}{pq:aX}{σ:St}{H H2:Hp}{s:Shared}
def Inv.OJ{a:Addr}{xs:List V}{ob:Obj}(I:Inv X pq σ H s)(e:H a=some (.lst xs))(ho:s.heap.get? a=some ob):Inv X pq σ (upd H a (.mG ob (.lst xs))) s:=by
 have ne:∀b,H b=none->b≠a:=λb h z=>by rw[z,e]at h;cases h
 refine⟨I.ok,I.os,I.bare,⟨I.base.keep,I.base.slot,λb o q n hx=>?_,I.base.there,λb xs q=>?_,λb o u q=>?_,λb ps q=>?_⟩,I.loc,I.cell,?_,λx c q=>?_,λp O=>?_,λb u q=>?_,I.len⟩
 ·have z:=I.base.free b o q n hx;rw[ah (ne b z)];exact z
 ·have z:=I.base.tups b xs q;rw[ah (aP z e (by intro z;cases z))]
  exact z
 ·have z:=I.base.mH b o u q;rw[ah (aP z e (by intro z;cases z))]
  exact z
 ·obtain⟨more,z⟩:=I.base.nG b ps q;exact⟨more,by rw[ah (aP z e (by intro z;cases z))];exact z⟩
 ·rw[ah (ne _ I.free)];exact I.free
 ·rw[ah (ne _ (I.fO x c q))];exact I.fO x c q
 ·obtain⟨a1,a2,U⟩:=I.pin p O;exact⟨a1,by rw[ah (ne _ a2)];exact a2,U⟩
 ·by_cases hb:b=a
  ·subst hb;rw[ae]at q;cases q;exact⟨ho,(I.hok b _ e).stay (λ_ _ _ q=>q) (λc q=>by rw[ah (aP q e (by intro z;cases z))];exact q) λc xs q=>by rw[ah (aP q e (by intro z;cases z))];exact q⟩
  ·rw[ah hb]at q;exact(I.hok b u q).stay (λ_ _ _ q=>q) (λc q=>by rw[ah (aP q e (by intro z;cases z))];exact q) λc xs q=>by rw[ah (aP q e (by intro z;cases z))];exact q
def Inv.U0{xg:aX}{σ0:St}{s0:Shared}{a:Addr}{xs:List V}{ob:Obj}(I0:Inv X xg σ0 H s0)(e0:H a=some (.lst xs))(I:Inv X pq σ H2 s)(e:H2 a=some (.mG ob (.lst xs))):
 Inv X pq σ (upd H2 a (.lst xs)) s:=by
 have ne:∀b,H2 b=none->b≠a:=λb h z=>by rw[z,e]at h;cases h
 obtain⟨Z,hd⟩:=(show bz X.prog X.w H2 s.heap a (.mG ob (.lst xs)) from I.hok a _ e)
 refine⟨I.ok,I.os,I.bare,⟨I.base.keep,I.base.slot,λb o q n hx=>?_,I.base.there,λb xs q=>?_,λb o u q=>?_,λb ps q=>?_⟩,I.loc,I.cell,?_,λx c q=>?_,λp U=>?_,λb u q=>?_,I.len⟩
 ·have z:=I.base.free b o q n hx;rw[ah (ne b z)];exact z
 ·have z:=I.base.tups b xs q;rw[ah (aP z e (by intro z;cases z))]
  exact z
 ·have z:=I.base.mH b o u q;rw[ah (λy=>by
   have O:=I0.base.mH b o u q;rw[y,e0]at O;cases O)]
  exact z
 ·obtain⟨more,z⟩:=I.base.nG b ps q;exact⟨more,by rw[ah (aP z e (by intro z;cases z))];exact z⟩
 ·rw[ah (ne _ I.free)];exact I.free
 ·rw[ah (ne _ (I.fO x c q))];exact I.fO x c q
 ·obtain⟨a1,a2,Y⟩:=I.pin p U;exact⟨a1,by rw[ah (ne _ a2)];exact a2,Y⟩
 ·by_cases hb:b=a
  ·subst hb;rw[ae]at q;cases q;exact hd.stay (λ_ _ _ q=>q) (λc q=>by rw[ah (aP q e (by intro z;cases z))];exact q) λc xs q=>by rw[ah (aP q e (by intro z;cases z))];exact q
  ·rw[ah hb]at q;exact(I.hok b u q).stay (λ_ _ _ q=>q) (λc q=>by rw[ah (aP q e (by intro z;cases z))];exact q) λc xs q=>by rw[ah (aP q e (by intro z;cases z))];exact q
end
def GZ(h:Heap)(v:Value)(z:Int×Int):Prop:=∃(a:Addr) (o:Obj) (t u:Tok) (k:Nat),v = .ref a/\h.get? a=some o/\o.cls = .type "tuple"/\o.data = .seq #[.int z.1 t,.int z.2 u] k
def GZ.pair{h:Heap}{v:Value}{z:Int×Int}(q:GZ h v z):PF h v:=let⟨a,o,t,u,k,q⟩:=q;⟨a,o,z.1,z.2,t,u,k,q⟩
def IG{prog:Program}{w:World}{A:Around}{s:Shared}{vs:List Value}{n:Nat}{zs:Nat->Int×Int}(hz:∀i,i<n->UZ (zs i))(hv:∀i,i<n->GZ s.heap (vs.getD i Value.none) (zs i)):
 ∀i j C,i<n->j<n->C (decide (kx (zs i)<kx (zs j))) s->kas_ask prog w A (tuples' true) vs i j C s:=by
 intro i j C hi hj I;unfold kas_ask;obtain⟨a,o,t,u,k,e,Z,_,hd⟩:=hv i hi;obtain⟨a',o',t',u',k',e',ho',_,hd'⟩:=hv j hj;have oi:=hz i hi;have O:=hz j hj;generalize zs i=z at hd I oi;generalize zs j=z' at hd' I O;obtain⟨x,y⟩:=z;obtain⟨x',y'⟩:=z';unfold kx at I;unfold UZ at oi O;dsimp only at hd hd' I oi O;rw[e,e'];refine kat_lt Z hd ho' hd' ?_;show KatLex prog w A true _ C [(.int x t,.int x' t'),(.int y u,.int y' u')] 0 s;rw[KatLex.eq_2];refine wpAny_eqBool_int ?_
 by_cases ex:x=x'
 ·rw[show(x==x')=true by simpa using ex]
  rw[aad rfl,KatLex.eq_2];refine wpAny_eqBool_int ?_
  by_cases Y:y=y'
  ·rw[show(y==y')=true by simpa using Y]
   rw[aad rfl,KatLex.eq_1];rw[gz (by lia)]at I
   exact I
  ·rw[show(y==y')=false by simpa using Y]
   rw[aab aah];refine kat_one _ _ (lt_int ?_);have U:decide (y<y')=decide (x*1073741824+y<x'*1073741824+y'):=abh.mpr (by lia)
   rw[<-U]at I;exact I
 ·rw[show(x==x')=false by simpa using ex]
  rw[aab aah];refine oneLt_int ?_;have U:decide (x<x')=decide (x*1073741824+y<x'*1073741824+y'):=abh.mpr (by lia)
  rw[<-U]at I;exact I
def RN(P:Addr)(q:Str)(lp:Pos)(ta:TA)(te:TE)(js:List Nat):TE:=λσ H Q=>ta σ H λvs H1=>∃(a:Addr) (ns:List Int) (O:Int->Int×Int),vs=[.ref a]/\H1 a=some (.lst (ns.map V.int))/\ns.length<64/\(∀n∈ns,UZ (O n))/\H1 P=some (.jj (dG q lp))/\
 (∀H3,(∀b u,H1 b=some u->(∀y,u≠.own y)->(∀U,u≠.jj U)->H3 b=some u)->∀n∈ns,te (some (.int n)::fQ σ js) H3 λv H4=>au H3 H4/\∃d,v = .ref d/\H4 d=some (.tup [.int (O n).1,.int (O n).2]))/\
 ∀(l:Addr) (I : List Int) H4,H1 l=none->au H1 H4->H4 l=some (.lst (I.map V.int))->I.Perm ns->I.Pairwise (λx y=>kx (O x)<=kx (O y))->Q (.ref l) H4
section
variable {X:Cx}{pq:aX}{σ:St}{H2:Hp}
def II{A:Around}{E:dD}{P:PySem.Fin->Shared->Prop}{s:Shared}{H3:Hp}{D U:Addr}{e e1:Nat}{its:List Value}{ns:List Int}{ds:List Addr}{kf:Int->Int×Int}
 (I:Inv X ((U,seqObj "list" (ds.map Value.ref).toArray e)::pq) σ H3 s) (oK:E7 X U) (pK:∀p∈pq,p.1≠U) (hD:H3 D=some (.mG (seqObj "list" #[] e1) (.lst []))) (rv:Vals (ns.map V.int) its) (hn:ns.length<64) (hdl:ds.length=ns.length)
 (hk:∀(j:Nat) d n,ds[j]?=some d->ns[j]?=some n->H3 d=some (.tup [.int (kf n).1,.int (kf n).2])) (hok:∀n∈ns,UZ (kf n))
 {xg:aX} {σ0:St} {s0:Shared} {H0:Hp} (I0:Inv X xg σ0 H0 s0) (e0:H0 D=some (.lst []))
 (fin:∀(s' : Shared) (O : List Int),O.Perm ns->O.Pairwise (λx y=>kx (kf x)<=kx (kf y))->Inv X pq σ (upd (upd H3 D (.lst [])) D (.lst (O.map V.int))) s'->P (.done (.ret .none)) s') :
 wpAny (model X.prog X.w) A (ksk_end D false its.toArray e1 (.ref U) ((ds.map Value.ref).toArray)) P E s:=by
 have hl:its.length=ns.length:=by have:=rv.length;rw[aaa]at this;lia
 obtain⟨aw,_⟩:=(show bz X.prog X.w H3 s.heap D (.mG (seqObj "list" #[] e1) (.lst [])) from I.hok D _ hD)
 have Fe:=I.pin (U,seqObj "list" (ds.map Value.ref).toArray e) (jF _ (.head _));have ax:D≠U:=λz=>by
  have:=Fe.2.1;rw[<-z,hD]at this;cases this
 have tail:∀(st:SortSt) (O : List Int) (out:List Value),(arrOf st).map (·.2)=out.toArray->out.length<64->failedOf st=none->O.Perm ns->O.Pairwise (λx y=>kx (kf x)<=kx (kf y))->Vals (O.map V.int) out->wpAny (model X.prog X.w) A (ksk_tail D false e1 (.ref U) st) P E s:=by
  intro st O out ab hz hf hp hs hv;have s1:=aaY s.heap U (Obj.mapSeq λ_=>(#[]:Array Value))
  have yz:(s.heap.update U (Obj.mapSeq λ_=>(#[]:Array Value))).get? D=some (seqObj "list" #[] e1):=(s1.2 D ax).trans aw
  have s2:=aaY (s.heap.update U (Obj.mapSeq λ_=>(#[]:Array Value))) D (Obj.mapSeq λ_=>out.toArray)
  obtain⟨c2,ag⟩:∃c2,((s.heap.update U (Obj.mapSeq λ_=>(#[]:Array Value))).update D (Obj.mapSeq λ_=>out.toArray)).get? D=some (seqObj "list" out.toArray c2):=⟨_,get?_update_seq yz λ_=>out.toArray⟩
  unfold ksk_tail
  try dsimp only
  rw[ab];refine aW (listUpdate_at Fe.1 rfl ?_ (by rw[aat,aaa,sizeLine_eq];lia) (aaF _))
  refine aW (wpAny_letGo ?_);refine aW (seqEpoch_at yz rfl ?_);refine aW (listUpdate_at yz rfl ?_ (aaF _) (by show out.toArray.size<=_;rw[aat,sizeLine_eq];lia))
  rw[hf];simp only[bne_self_eq_false,abg,if_false];have J1:=I.kT (t':=s.toks) (h':=s.heap.update U (Obj.mapSeq λ_=>(#[]:Array Value))) (pb:=pq) oK (.head _) (λc u ne e=>(s1.2 c ne).trans e) (λp hp=>.inr ⟨.tail _ hp,pK p hp⟩)
  have J2:=Inv.U0 I0 e0 J1 hD;have J3:=J2.write (x:=D) (e:=D) (o:=.lst (O.map V.int)) (t':=s.toks) (h':=(s.heap.update U (Obj.mapSeq λ_=>(#[]:Array Value))).update D (Obj.mapSeq λ_=>out.toArray)) (by rw[ae];trivial) (.inl rfl) (λb u nb eb=>(s2.2 b nb).trans eb) ⟨_,ag⟩
   ⟨by rw[aaa,hp.length_eq,sizeLine_eq];lia,out,c2,hv,ag⟩
  exact aai (fin _ O hp hs J3)
 by_cases h2:2<=ns.length
 ·have kv:∀i,i<its.length->GZ s.heap ((ds.map Value.ref).getD i Value.none) (kf (ns.getD i 0)):=λi hi=>by
   have e1:ds[i]?=some (ds[i]'(by lia)):=aam _
   have e2:ns[i]?=some (ns[i]'(by lia)):=aam _
   have hd:=hk i _ _ e1 e2;obtain⟨ts,rt,⟨o,eo,hc,n,aT⟩,_⟩:=I.tuple (aV.of hd);have g1:(ds.map Value.ref).getD i Value.none = .ref (ds[i]'(by lia)):=by rw[aae,aak,e1];rfl
   have g2:ns.getD i 0=ns[i]'(by lia):=by rw[aae,e2];rfl
   rw[g1,g2]
   match ts,rt with
   | [_,_],.cons ⟨t,rfl⟩ (.cons ⟨u,rfl⟩ .nil)=>exact⟨_,o,t,u,n,rfl,eo,hc,aT⟩
  have kz:∀i,i<its.length->UZ (kf (ns.getD i 0)):=λi hi=>by
   have e2:ns[i]?=some (ns[i]'(by lia)):=aam _
   rw[aae,e2];exact hok _ (ab1 _)
  have ar:(ds.map Value.ref).length=its.length:=by rw[aaa];lia
  have Y : ¬ its.toArray.size<2:=by rw[aat];lia
  unfold ksk_end
  try dsimp only
  rw[aab aah,aab Y,aab Y,aab aah];refine aW (Il (by rw[aaa];lia) (λv hv=>?_) ?_)
  ·obtain⟨i,hi,rfl⟩:=List.mem_iff_getElem.mp hv;have:=(kv i (by lia)).pair
   rw[aae,aam hi]at this;exact this
  refine aW (aaG (kat_run (Q:=λZ s'=>s' = s/\∃p:Array Nat,dP its.length p/\Up (λi=>kx (kf (ns.getD i 0))) p its.length/\(arrOf Z).map (·.2)=(p.toList.map λi=>its.getD i Value.none).toArray/\failedOf Z = none) (G:=λp s'=>s' = s/\dP its.length p/\Up (λi=>kx (kf (ns.getD i 0))) p its.length)
   ar (by lia) (by lia) (λp Z s' a1 a2 a3 a4=>⟨a4.1,p,a4.2.1,a4.2.2,kat_snds ar a2,a3⟩) ?_) ?_ λ_ _ x=>x)
  ·exact GY (r:=λi=>kx (kf (ns.getD i 0))) (n:=its.length) (IG kz kv) (Ot (by lia)) λhg=>⟨rfl,hg,OI (by lia)⟩
  ·rintro⟨⟨⟩,Z⟩ s' ⟨rfl,p,hg,hu,a5,hf⟩
   try dsimp only
   have a7:p.toList.length=its.length:=by have:=hg.length_eq;rw[aaA]at this;exact this
   refine tail Z (p.toList.map λi=>ns.getD i 0) _ a5 (by rw[aaa];lia) hf ?_ ?_ ?_
   ·have h1:=List.Perm.map (λi=>ns.getD i 0) hg
    have h3:(List.range its.length).map (λi=>ns.getD i 0)=ns:=by
     rw[hl];refine List.ext_getElem (by simp) λi h1 h2=>?_
     simp[aae,aam h2]
    rw[h3]at h1;exact h1
   ·rw[abP,List.pairwise_iff_getElem];intro i j hi hj a6;have:=hu.le (aa6 a6) (by lia)
    have ga:∀i (hi:i<p.toList.length),p.getD i 0=p.toList[i]:=λi hi=>by
     rw[Array.getD_eq_getD_getElem?,<-abV,aam hi];rfl
    unfold Kr at this;rw[ga i hi,ga j hj]at this;exact this
   ·have:∀l:List Nat,(∀i∈l,i<ns.length)->Vals ((l.map λi=>ns.getD i 0).map V.int) (l.map λi=>its.getD i Value.none):=λl=>by
     induction l with
     | nil=>exact λ_=>.nil
     | cons i l ih =>
       intro h;refine .cons ?_ (ih λj hj=>h j (pP _ hj))
       have hi:=h i aaq;have h1:(ns.map V.int)[i]?=some (.int (ns.getD i 0)):=by
        rw[aak,aae,aam hi];rfl
       obtain⟨u,hu,ru⟩:=rv.get h1;have gu:its.getD i Value.none=u:=by rw[aae,hu];rfl
       show RelV (V.int (ns.getD i 0)) (its.getD i Value.none);rw[gu];exact ru
    refine this _ λi hi=>?_
    have:=aaC.mp (hg.mem_iff.mp hi)
    lia
 ·have Y:its.toArray.size<2:=by rw[aat];lia
  unfold ksk_end
  try dsimp only
  rw[aab aah,aad Y,aad Y,aab aah];refine aW (aai ?_);refine aW (m:=pure ((),SortSt.mk' general' (((ds.map Value.ref).toArray).zip its.toArray) #[] 7 none)) (aai ?_);refine tail _ ns its ?_ (by lia) rfl (List.Perm.refl _) ?_ rv
  ·show Array.map (λx:Keyed=>x.snd) (((ds.map Value.ref).toArray).zip its.toArray)=its.toArray
   apply Array.toList_inj.mp;simp;exact List.map_snd_zip (by rw[aaa];lia)
  ·match ns,h2 with
   | [],_=>exact .nil
   | [x],_=>exact List.pairwise_singleton _ _
   | _::_::_,h2=>exact absurd (by simp:2<=_) h2
end
section
variable {X:Cx}{params:Arguments}{body e:Expr}{scope:Scope}{lp p pos kp:Pos}{fq:List Str}{js:List Nat}{x:Str}{ta:TA}{te:TE}{c0 P:Addr}{k:Nat}
def Mb(hr:dU (k+3) X.A)(T:eJ X scope [x] fq js)(hx:scope.names.lookup x=some .local)(hg:Gl X "sorted")(hm:X.mg "sorted"=none)(hcode:X.env.code = .ref c0)(hK:PySem.W.codeHdIn X.K c0 P=true)(ha:PA X [e] ta)
 (he:∀f c s H,dU k (xh X ([x]++fq) scope f c X.A.in1.in1 s H).A->PE (xh X ([x]++fq) scope f c X.A.in1.in1 s H) body te)
 (hb:∀c ctv u,bindArgs (CM X params body scope c ctv) ⟨[u],[]⟩=pure [(x,u)]:=by intro _ _ _;rfl) (hco:scope.isCoroutine=false:=by rfl) (hgen:scope.isGenerator=false:=by rfl)
 (hdef:defaultsOf params X.env=([],[]):=by rfl)
 (hs:backTo pos (starEach [e] X.env)=(false,eval e X.env)::backTo pos (starEach [] X.env):=by rfl) (hs2:(backTo pos (starEach [e] X.env)).any (·.1)=false:=by rfl) :
 PE X (.Call (.Name "sorted" p) [e] [⟨some (Str.ofString "key"),.Lambda params body scope lp,kp⟩] pos) (RN P (X.env.qual ++ "<lambda>") lp ta te js):=by
 intro pq s σ H Q I h;refine wpAny_Call_Name_kw (mK I hg hm A5 (callWith_kw (cY (ha pos pq s σ H _ I h) λus s1 Y=>?_) hs hs2 rfl rfl))
 obtain⟨vs,H1,I1,r1,a,ns,kf,rfl,a6,a7,hok,hP,ax,RB⟩:=Y;obtain⟨u,rfl,rx⟩:=vals1 r1;cases rx;refine kws_cons (CN I1 T hcode hK hP hdef λf c oc ctv s2 hc CO a4 J=>kws_nil ?_)
 show wpAny _ X.A (call (.builtin "sorted") [.ref a] [(Str.ofString "key",.ref f)]) _ _ s2;have a5:=vF (oc:=oc) hP hc a6 (by intro y z;cases z) (by intro y z;cases z)
 have RC:gD H1 P c oc (X.env.qual ++ "<lambda>") lp P=some (.jj (dG (X.env.qual ++ "<lambda>") lp++pR lp c)):=ae;have OE:gD H1 P c oc (X.env.qual ++ "<lambda>") lp c=some (.mG oc (.own P)):=by unfold gD;rw[ah CO,ae]
 have PV:∀b,gD H1 P c oc (X.env.qual ++ "<lambda>") lp b=none->H1 b=none:=λb hb=>by
  have bP:b≠P:=λz=>by rw[z,RC]at hb;cases hb
  have bc:b≠c:=λz=>by rw[z,OE]at hb;cases hb
  unfold gD at hb
  rwa [ah bP,ah bc]at hb
 have ZI:∀b u,H1 b=some u->(∀y,u≠.own y)->(∀qs,u≠.jj qs)->gD H1 P c oc (X.env.qual ++ "<lambda>") lp b=some u:=λb u U n1 n2=>vF hP hc U n1 n2
 generalize a8:gD H1 P c oc (X.env.qual ++ "<lambda>") lp=HL at J a5 RC OE PV ZI;obtain⟨O,rv,⟨o,n,ho,a9,bR,hd⟩,hz⟩:=J.list (aO.of a5);have hl:=rv.length;rw[aaa]at hl;have ag:O.length<=sizeLine:=dl (abu.mpr (by lia))
 refine call_function_entry_kw kind_sorted plain_sorted entry_sorted (ksk_s1 _ _) ?_;unfold Builtin.«sorted»;refine aW (m:=checkCount "sorted" 1 1 _) (aai ?_);refine aW (wpAny_collect_seq a (T:="list") (.inl rfl) ho a9 hd (λh1 hk=>?_) (by rw[aat];exact ag))
 have J1:=J.kept (t':=s2.toks) hk;have aw:HL h1.objs.size=none:=J1.hok.fresh (aaf _);refine aW (wpAny_newList ?_ (by simpa using ag))
 have e0:O.toArray.toList=O:=by simp
 rw[e0];have Ho:(h1.push (seqObj "list" O.toArray 0)).get? h1.objs.size=some (seqObj "list" O.toArray 0):=aav _ rfl;have J2:Inv X ((f,eX X params body scope c ctv)::pq) σ (upd HL h1.objs.size (.lst (ns.map V.int))) { s2 with heap:=h1.push (seqObj "list" O.toArray 0)}:=by
  refine J1.laid (t':=s2.toks) (λb o hb=>?_) (aaf _) ⟨?_,O,0,rv,Ho⟩
  ·rw[Heap.get?_push_ne _ _ _ (aaz (aan hb))];exact hb
  ·rw[aaa,hl];exact ag
 generalize b2:h1.objs.size=D at aw Ho J2;refine aW (aaW (wpAny_call_entry_kw slot_list_sort ⟨_,Ho,rfl⟩ entry_list_sort ?body (ksk_l1 _ _)));show wpAny (model X.prog X.w) X.A.in1.in1 (Builtin.«list.sort» ⟨[.ref D],[(Str.ofString "key",.ref f)]⟩) _ _ _;rw[ksk_t1];generalize h1.push (seqObj "list" O.toArray 0)=h2 at Ho J2;have ba:=aaY h2 D (Obj.mapSeq λ_=>(#[]:Array Value))
 obtain⟨Z,SE⟩:∃Z,(h2.update D (Obj.mapSeq λ_=>(#[]:Array Value))).get? D=some (seqObj "list" #[] Z):=⟨_,get?_update_seq Ho λ_=>#[]⟩
 unfold ksk_tree;refine aW (listItems_at Ho rfl ?_);refine aW (listUpdate_at Ho rfl ?_ (by rw[aat];exact ag) (aaF _))
 refine aW (seqEpoch_at SE rfl ?_);refine aW (wpAny_newTuple ?_ (by show O.toArray.toList.length<=_;rw[e0];exact ag))
 refine aW (wpAny_newList ?_ (aaF _));refine aaW ?_;have J3:=J2.write (x:=D) (e:=D) (o:=.lst []) (t':=s2.toks) (h':=h2.update D (Obj.mapSeq λ_=>(#[]:Array Value))) (by rw[ae];trivial) (.inl rfl) (λb u nb U=>(ba.2 b nb).trans U) ⟨_,SE⟩ ⟨aaF _,[],Z,.nil,SE⟩
 have J4:=J3.OJ (a:=D) ae SE;generalize NQ:upd (upd (upd HL D (.lst (ns.map V.int))) D (.lst [])) D (.mG (seqObj "list" #[] Z) (.lst []))=H2 at J4;have at2:∀b u,HL b=some u->H2 b=some u:=λb u U=>by
  have nb:b≠D:=λz=>by rw[z,aw]at U;cases U
  rw[<-NQ,ah nb,ah nb,ah nb];exact U
 have lK:H2 D=some (.mG (seqObj "list" #[] Z) (.lst [])):=by rw[<-NQ,ae]
 generalize h2.update D (Obj.mapSeq λ_=>(#[]:Array Value))=h3 at J3 J4
 rw[e0];have bb:∀b u,h3.get? b=some u->((h3.push (seqObj "tuple" O.toArray 0)).push (seqObj "list" #[] 0)).get? b=some u:=λb u U=>aag _ (aag _ U)
 have hS:(h3.push (seqObj "tuple" O.toArray 0)).objs.size=h3.objs.size+1:=size_push' ..;have oK:=J4.LP (b:=(h3.push (seqObj "tuple" O.toArray 0)).objs.size) (by show h3.objs.size<=_;rw[hS];exact abd _)
 have gK:((h3.push (seqObj "tuple" O.toArray 0)).push (seqObj "list" #[] 0)).get? (h3.push (seqObj "tuple" O.toArray 0)).objs.size=some (seqObj "list" #[] 0):=aav _ rfl;have bo:H2 (h3.push (seqObj "tuple" O.toArray 0)).objs.size=none:=J4.hok.fresh (by show h3.objs.size<=_;rw[hS];exact abd _)
 have OF:∀q∈(f,eX X params body scope c ctv)::pq,q.1<h3.objs.size:=λq Y=>aan (J4.pin q (jF _ Y)).1
 have J5:Inv X (((h3.push (seqObj "tuple" O.toArray 0)).objs.size,seqObj "list" #[] 0)::(f,eX X params body scope c ctv)::pq) σ H2 { s2 with heap:=(h3.push (seqObj "tuple" O.toArray 0)).push (seqObj "list" #[] 0)}:=by
  have K:=J4.kept (t':=s2.toks) bb;refine K.gZ λq Y=>?_
  rcases aao.mp Y with rfl|Y
  ·exact⟨gK,bo,oK.2.1,oK.2.2.1,λv z=>by cases z⟩
  ·exact K.pin q (jF _ Y)
 have pK:∀q∈(f,eX X params body scope c ctv)::pq,q.1≠(h3.push (seqObj "tuple" O.toArray 0)).objs.size:=λq Y=>by
  have:=OF q Y;rw[hS];exact aaz (abB this)
 have ZJ:O.toArray.size=O.length:=aat ..;show wpAny (model X.prog X.w) X.A.in1.in1 (ksk_rest D (.ref f) false O.toArray Z (.ref (h3.push (seqObj "tuple" O.toArray 0)).objs.size)) _ _ { s2 with heap:=(h3.push (seqObj "tuple" O.toArray 0)).push (seqObj "list" #[] 0)}
 generalize (h3.push (seqObj "tuple" O.toArray 0)).objs.size=kS at oK J5 pK;generalize (h3.push (seqObj "tuple" O.toArray 0)).push (seqObj "list" #[] 0)=h4 at J5;unfold ksk_rest;refine aW (wpAny_rule ?_);rw[List.forIn_toArray];refine aW (ksk_fold (λi s'=>∃H3 ds en,au H2 H3/\Inv X ((kS,seqObj "list" ((ds.map Value.ref).toArray) en)::(f,eX X params body scope c ctv)::pq) σ H3 s'/\ds.length=i/\∀(j:Nat) d n,ds[j]?=some d->ns[j]?=some n->H3 d=some (.tup [.int (kf n).1,.int (kf n).2]))
  O 0 _ ⟨H2,[],0,au.refl _,J5,rfl,λj d n z=>by cases z⟩ ?_ ?_)
 ·rintro j y s' hy ⟨H3,ds,en,Ea,I3,ar,ab⟩;rw[Nat.zero_add]at ar ⊢;have hj:j<O.length:=(kL.mp hy).1;have ZK:ns[j]?=some (ns[j]'(by lia)):=aam _
  obtain⟨uu,hu,ru⟩:=rv.get (show(ns.map V.int)[j]?=some (.int (ns[j]'(by lia))) by rw[aak,ZK];rfl)
  rw[hy]at hu;cases hu;obtain⟨bp,_⟩:=(show bz X.prog X.w H3 s'.heap c (.mG oc (.own P)) from I3.hok c _ (Ea _ _ (at2 _ _ OE)))
  have aT:X.A.in1.in1.depth<recursionLimit:=((hr.in1).in1).depth;refine aW (wpAny_attempt (aaG (CT (v:=.int (ns[j]'(by lia))) I3 T hx I3.ok.frames rfl aT (List.Mem.tail _ (.head _)) (a4.rec bp) (hb c ctv _) hco hgen (he f c s' H3 (((hr.in1).in1).deeper _)) ru
   (ax H3 (λb u U n1 n2=>Ea _ _ (at2 _ _ (ZI b u U n1 n2))) _ (ab1 _))) (λv s3 hv=>?_) λ_ _ z=>z))
  obtain⟨w',H4,I4,bt,ZL,d,rfl,U1⟩:=hv;cases bt;have Fe:=I4.pin (kS,_) (jF _ (.head _));have sb:=aaY s3.heap kS (Obj.mapSeq (·.push (.ref d)));have ea:((ds.map Value.ref).toArray).push (.ref d)=((ds++[d]).map Value.ref).toArray:=by simp
  obtain⟨c2,bw⟩:∃c2,(s3.heap.update kS (Obj.mapSeq (·.push (.ref d)))).get? kS=some (seqObj "list" (((ds++[d]).map Value.ref).toArray) c2):=⟨_,by rw[<-ea];exact get?_update_seq Fe.1 (·.push (.ref d))⟩
  try dsimp only
  refine aW (listUpdate_at Fe.1 rfl ?_ (by rw[aat,aaa,sizeLine_eq];lia) (aaB (acj (Array.size_push ..)) (by rw[aat,aaa,sizeLine_eq];lia)))
  refine aai ⟨rfl,H4,ds++[d],c2,λb u z=>ZL _ _ (Ea _ _ z),?_,by rw[aaj,aa1,ar],λi d' n' Z e2=>?_⟩
  ·exact I4.kT (t':=s3.toks) oK (.head _) (λb u nb U=>(sb.2 b nb).trans U) λq Y=>by
    rcases aao.mp Y with rfl|Y
    ·exact .inl ⟨rfl,bw,λv z=>by cases z⟩
    ·exact .inr ⟨.tail _ Y,pK q Y⟩
  ·by_cases hi:i<ds.length
   ·rw[aaP hi]at Z;exact ZL _ _ (ab i d' n' Z e2)
   ·rw[aaS (by lia)]at Z
    have bD:i=j:=by
     have:=(kL.mp Z).1;rw[aa1]at this
     lia
    subst bD;rw[ar,acy]at Z;have Z:d=d':=by simpa using Z
    rw[ZK]at e2;cases e2;rw[<-Z];exact U1
 ·rintro s' ⟨H3,ds,en,Ea,I3,ar,ab⟩;rw[Nat.zero_add]at ar;have Fe:=I3.pin (kS,_) (jF _ (.head _))
  try dsimp only
  refine aW (listItems_at Fe.1 rfl ?_);refine II I3 oK pK (Ea _ _ lK) rv a7 (by lia) ab hok J3 ae λs5 a3 hp Yp I5=>⟨_,rfl,aai ⟨_,rfl,?_⟩⟩
  have I6:Inv X pq σ (upd (upd H3 D (.lst [])) D (.lst (a3.map V.int))) s5:=I5.gZ λq Y=>I5.pin q (jF _ (.tail _ Y))
  have nD:∀b u,HL b=some u->b≠D:=λb u U z=>by rw[z,aw]at U;cases U
  have Yq:∀b u,HL b=some u->upd (upd H3 D (.lst [])) D (.lst (a3.map V.int)) b=some u:=λb u U=>by
   rw[ah (nD b u U),ah (nD b u U)];exact Ea _ _ (at2 _ _ U)
  have I7:=CQ I1 hP hc CO a4 I6 (Yq _ _ RC) (Yq _ _ OE);refine⟨.ref D,_,I7,rfl,RB D a3 _ (PV D aw) (CS hP hc CO (oc:=oc) λb u U=>Yq b u (by rw[<-a8];exact U)) ?_ hp Yp⟩
  unfold given;rw[ah (λz=>nD _ _ RC z.symm),ah (λz=>nD _ _ OE z.symm),ae]
end
end L2
namespace RM
section
variable {N:Net}{L:Nat->Int}
def C3(q m m' : Nat):N.par q (m^^^m')=(N.par q m^^N.par q m'):=by
 have e:∀a b:Nat,N.par a b=N.par b a:=λa b=>cj λk _=>Bool.and_comm _ _
 rw[e,o6,e m,e m']
def vH{f:Nat->Bool}:∀{n i:Nat},i<n->(∀k,k<n->k≠i->f k=false)->bZ f n=f i
 | 0,i,h,_=>absurd h (abf _)
 | n+1,i,h,hz=>by
   show(bZ f n^^f n)=f i
   by_cases e:i=n
   ·subst e;rw[jP λk hk=>hz k (by lia) (by lia),abM]
   ·rw[vH (show i<n by lia) λk hk ne=>hz k (by lia) ne,hz n (by lia) (λz=>e z.symm),abb]
def z9{f:Nat->Bool}:∀{n:Nat},bZ f n=true->∃i,i<n/\f i=true
 | 0,h=>by cases h
 | n+1,h=>by
   have h:(bZ f n^^f n)=true:=h;cases hf:f n with
   | true=>exact⟨n,by lia,hf⟩
   | false =>
     rw[hf,abb]at h;obtain⟨i,h1,h2⟩:=z9 h;exact⟨i,by lia,h2⟩
def xx(f:Nat->Bool):∀n,bZ f (n+1)=(f 0^^bZ (λi=>f (i+1)) n)
 | 0=>by
   show(false^^f 0)=(f 0^^false);rw[abM,abb]
 | n+1=>by
   show(bZ f (n+1)^^f (n+1))=(f 0^^(bZ (λi=>f (i+1)) n^^f (n+1)))
   rw[xx f n,Bool.xor_assoc]
def rM(m:Nat):∀(B:List Nat) (z:Nat),N.par (comb B z) m=bZ (λi=>z.testBit i&&N.par (B.getD i 0) m) B.length
 | [],z=>lZ m
 | b::B,z=>by
   show N.par ((if z.testBit 0=true then b else 0)^^^comb B (z/2)) m=bZ _ (B.length+1)
   rw[o6,rM m B (z/2),xx];have I:N.par (if z.testBit 0=true then b else 0) m=(z.testBit 0&&N.par b m):=by
    cases z.testBit 0 with
    | true=>simp
    | false=>simp[lZ]
   rw[I];have O:bZ (λi=>(z/2).testBit i&&N.par (B.getD i 0) m) B.length=bZ (λi=>z.testBit (i+1)&&N.par ((b::B).getD (i+1) 0) m) B.length:=cj λi _=>by
    rw[ab4];rfl
   rw[O];rfl
def len(N:Net)(L:Nat->Int)(r:Nat):Int:=lsum L (λk=>r.testBit k) N.n
structure DP(N:Net)(L:Nat->Int)(bs us:List Nat):Prop where
 lens:bs.length=us.length
 ring:∀b∈bs,N.Ring b/\b<2^N.n
 own:∀(i b w:Nat),bs[i]?=some b->us[i]?=some w->N.par b w=true/\∀r,N.Ring r->r<2^N.n->N.par r w=true->len N L b<=len N L r
 SK:∀(i j b w:Nat),i<j->bs[i]?=some b->us[j]?=some w->N.par b w=false
def DP.start:DP N L [] []:=⟨rfl,λb h=>(ab3 h).elim,λi b w h=>(by simp at h),λi j b w _ h=>(by simp at h)⟩
def DP.snoc{bs us:List Nat}{b w:Nat}(h:DP N L bs us)(hr:N.Ring b)(Y:b<2^N.n)(ho:N.par b w=true)(hm:∀r,N.Ring r->r<2^N.n->N.par r w=true->len N L b<=len N L r)(he:∀I∈bs,N.par I w=false):DP N L (bs++[b]) (us++[w]):=by
 have at_:∀{l:List Nat} {x i y:Nat},(l++[x])[i]?=some y->(i<l.length/\l[i]?=some y)\/(i=l.length/\y=x):=λ{l x i y} e=>by
  by_cases hi:i<l.length
  ·rw[aaP hi]at e;exact .inl ⟨hi,e⟩
  ·have h2:=(kL.mp e).1;rw[aaj,aa1]at h2;have h3:i=l.length:=by lia
   rw[aaS (by lia),h3,acy]at e
   exact .inr ⟨h3,(Option.some.inj e).symm⟩
 refine⟨by rw[aaj,aaj,h.lens];rfl,λI hb=>?_,λi I Z h1 h2=>?_,λi j I Z ab h1 h2=>?_⟩
 ·rcases aaH.mp hb with z|z
  ·exact h.ring I z
  ·rw[aax.mp z];exact⟨hr,Y⟩
 ·have Y:=h.lens;rcases at_ h1 with⟨l1,O⟩|⟨l1,O⟩<;>rcases at_ h2 with⟨l2,U⟩|⟨l2,U⟩
  ·exact h.own i I Z O U
  ·lia
  ·lia
  ·rw[O,U];exact⟨ho,hm⟩
 ·have Y:=h.lens;rcases at_ h1 with⟨l1,O⟩|⟨l1,O⟩<;>rcases at_ h2 with⟨l2,U⟩|⟨l2,U⟩
  ·exact h.SK i j I Z ab O U
  ·rw[U];exact he I (jY O)
  ·lia
  ·lia
section
variable {bs us:List Nat}
def DP.at(h:DP N L bs us){i:Nat}(hi:i<bs.length):∃w,us[i]?=some w/\bs[i]?=some (bs.getD i 0):=by
 have h1:i<us.length:=by rw[<-h.lens];exact hi
 exact⟨us[i],aam h1,by rw[aae,aam hi];rfl⟩
def A6{f:Nat->Prop}:∀{n i:Nat},i<n->f i->∃l,l<n/\f l/\∀j,l<j->j<n->¬ f j
 | 0,i,h,_=>absurd h (abf _)
 | n+1,i,h,hf=>by
   by_cases hn:f n
   ·exact⟨n,by lia,hn,λj h1 h2=>by lia⟩
   ·have hi:i<n:=by
     rcases Nat.lt_or_ge i n with z|z
     ·exact z
     ·have e:i=n:=by lia
      rw[e]at hf;exact absurd hf hn
    obtain⟨l,h1,h2,I⟩:=A6 hi hf;refine⟨l,by lia,h2,λj O U=>?_⟩
    by_cases e:j=n
    ·rw[e];exact hn
    ·exact I j O (by lia)
def DP.parts(h:DP N L bs us){z:Nat}(hr:N.Ring (comb bs z))(hl:comb bs z<2^N.n):∀i,i<bs.length->z.testBit i=true->len N L (bs.getD i 0)<=len N L (comb bs z):=by
 intro i hi hz;apply aaQ;intro hc;obtain⟨l,h1,⟨h2,Z⟩,h4⟩:=A6 (f:=λi=>z.testBit i=true/\¬ len N L (bs.getD i 0)<=len N L (comb bs z)) hi ⟨hz,hc⟩
 obtain⟨w,hw,hb⟩:=h.at h1;obtain⟨o1,o2⟩:=h.own l _ w hb hw;have U:=rM (N:=N) w bs z
 by_cases hx:∃j,l<j/\j<bs.length/\z.testBit j=true/\N.par (bs.getD j 0) w=true
 ·obtain⟨j,j1,Y,j3,j4⟩:=hx;obtain⟨_,_,I⟩:=h.at Y;obtain⟨rj,lj⟩:=h.ring _ (jY I);have k1:=o2 _ rj lj j4;have k2:len N L (bs.getD j 0)<=len N L (comb bs z):=aaQ λhn=>h4 j j1 Y ⟨j3,hn⟩
  lia
 ·rw[vH (i:=l) h1 (λj hj ne=>?_),h2,o1]at U
  ·exact Z (o2 _ hr hl U)
  ·cases Yr:z.testBit j with
   | false=>rfl
   | true =>
     rcases Nat.lt_or_ge j l with O|ab
     ·obtain⟨_,_,I⟩:=h.at hj;rw[h.SK j l _ w O I hw];rfl
     ·cases hpj:N.par (bs.getD j 0) w with
      | false=>rfl
      | true=>exact absurd ⟨j,by lia,hj,Yr,hpj⟩ hx
def DP.ind(h:DP N L bs us):Iu bs:=by
 intro z hz hc;apply aaQ;intro I;obtain⟨i,hi⟩:=abi I;have O:=nV hz hi;obtain⟨l,h1,h2,h4⟩:=A6 (f:=λi=>z.testBit i=true) O hi
 obtain⟨w,hw,hb⟩:=h.at h1;obtain⟨o1,_⟩:=h.own l _ w hb hw;have Y:=rM (N:=N) w bs z;rw[hc,lZ,vH (i:=l) h1 (λj hj ne=>?_),h2,o1]at Y
 ·cases Y
 ·cases Yr:z.testBit j with
  | false=>rfl
  | true =>
    have U:j<l:=by
     rcases Nat.lt_or_ge j l with z|z
     ·exact z
     ·exact absurd Yr (h4 j (by lia) hj)
    obtain⟨_,_,Z⟩:=h.at hj;rw[h.SK j l _ w U Z hw];rfl
end
def Base.span{rs:List Nat}(h:Base N rs){e:Nat}(he:N.gh e)(hl:e<2^N.n):∃z,z<2^rs.length/\comb rs z=e:=by
 apply AY;apply aaQ;intro hn;have h1:Iu (rs++[e]):=w5.mpr ⟨h.ind,hn⟩;have h2:=Rv (N:=N) h1 (λb hb=>by
  rcases aaH.mp hb with z|z
  ·exact⟨(h.ring b z).1.2.1,(h.ring b z).2⟩
  ·rw[aax.mp z];exact⟨he,hl⟩)
 rw[aaj,aa1,h.len]at h2
 lia
def LB(N:Net)(L:Nat->Int)(rs:List Nat):Prop:=Base N rs/\∀r m,N.Ring r->r<2^N.n->N.par r m=true->∃b∈rs,N.par b m=true/\len N L b<=len N L r
def LB.perm{rs rs' : List Nat}(h:LB N L rs)(p:rs'.Perm rs):LB N L rs':=⟨h.1.perm p,λr m h1 h2 I=>let⟨b,hb,q⟩:=h.2 r m h1 h2 I;⟨b,p.mem_iff.mpr hb,q⟩⟩
def DP.least{bs us:List Nat}(h:DP N L bs us)(hl:bs.length=N.aZ.length):LB N L bs:=by
 have O:Base N bs:=⟨hl,h.ring,h.ind⟩;refine⟨O,λr m hr I U=>?_⟩
 obtain⟨z,hz,rfl⟩:=O.span hr.2.1 I;rw[rM]at U;obtain⟨i,hi,h1⟩:=z9 U;have h1:=Bool.and_eq_true_iff.mp h1;obtain⟨_,_,hb⟩:=h.at hi;exact⟨_,jY hb,h1.2,h.parts hr I i hi h1.1⟩
structure Wt(N:Net)(bs ws cs:List Nat):Prop where
 lens:ws.length=cs.length
 sum:bs.length+ws.length=N.aZ.length
 ch:∀c∈cs,c<N.n/\N.nQ c=false
 lt:∀w∈ws,w<2^N.n
 bits:∀w∈ws,∀k,w.testBit k=true->N.nQ k=false
 own:∀(i j w c:Nat),ws[i]?=some w->cs[j]?=some c->w.testBit c=decide (i=j)
 jm:∀w∈ws,∀b∈bs,N.par b w=false
def Wt.odd{bs ws cs:List Nat}{w:Nat}(h:Wt N bs (w::ws) cs):∃r,N.Ring r/\r<2^N.n/\N.par r w=true:=by
 have U:=h.lens
 match cs,U,h with
 | c::cs,U,h =>
   obtain⟨I,O⟩:=h.ch c aaq;refine⟨N.ring c,zW I O,vz I,?_⟩;have e:N.par (N.ring c) w=((N.ring c).testBit c&&w.testBit c):=vH (f:=λk=>(N.ring c).testBit k&&w.testBit k) I λk hk ne=>by
    cases hw:w.testBit k with
    | false=>exact acm _
    | true =>
      have:=qv O (h.bits w aaq k hw);rw[this,gz (λz=>ne z.symm)]
      rfl
   rw[e,wm O,h.own 0 0 w c rfl rfl];rfl
def Wt.next{bs ws cs:List Nat}{w b:Nat}(h:Wt N bs (w::ws) cs)(ho:N.par b w=true):∃c I,cs=c::I/\Wt N (bs++[b]) (ws.map λv=>if N.par b v=true then v^^^w else v) I:=by
 have Y:=h.lens
 match cs,Y,h with
 | c::cs,Y,h =>
   refine⟨c,cs,rfl,?_⟩;have hw:=h.lt w aaq;have O:∀v∈ws,v∈w::ws:=λv z=>pP _ z
   refine⟨by rw[aaa];simpa using Y,?_,λd hd=>h.ch d (pP _ hd),λZ U=>?_,λZ U k hk=>?_,λi j Z d h1 h2=>?_,λZ U b' ab=>?_⟩
   ·have:=h.sum;rw[aaZ]at this;rw[aaj,aa1,aaa]
    lia
   ·obtain⟨v,m,rfl⟩:=aas.mp U
    split
    ·exact aa2 (h.lt v (O v m)) hw
    ·exact h.lt v (O v m)
   ·obtain⟨v,m,rfl⟩:=aas.mp U
    split at hk
    ·rw[aal]at hk;cases h1:v.testBit k with
     | true=>exact h.bits v (O v m) k h1
     | false =>
       rw[h1,abM]at hk;exact h.bits w aaq k hk
    ·exact h.bits v (O v m) k hk
   ·rw[aak]at h1;obtain⟨v,Pd,rfl⟩:=uQ.mp h1;have e1:=h.own (i+1) (j+1) v d (by simpa using Pd) (by simpa using h2)
    have e2:=h.own 0 (j+1) w d rfl (by simpa using h2)
    have e3:decide (i+1=j+1)=decide (i=j):=abh.mpr (by lia)
    rw[e3]at e1
    split
    ·rw[aal,e1,e2];simp
    ·exact e1
   ·obtain⟨v,m,rfl⟩:=aas.mp U;rcases aaH.mp ab with z|z
    ·have z1:=h.jm v (O v m) b' z;have z2:=h.jm w aaq b' z
     split
     ·rw[C3,z1,z2];rfl
     ·exact z1
    ·rw[aax.mp z]
     split
     ·rename_i hp
      rw[C3,hp,ho];rfl
     ·rename_i hp
      cases hq:N.par b v with
      | false=>rfl
      | true=>exact absurd hq hp
def Wt.start(nd:N.aZ.Nodup):Wt N [] (N.aZ.map λc=>2^c) N.aZ:=by
 refine⟨aaa ..,by rw[aaa];simp,λc hc=>dZ.mp hc,λw hw=>?_,λw hw k hk=>?_,λi j w c h1 h2=>?_,λw _ b hb=>by cases hb⟩
 ·obtain⟨c,hc,rfl⟩:=aas.mp hw;exact abO (by decide) (dZ.mp hc).1
 ·obtain⟨c,hc,rfl⟩:=aas.mp hw;rw[aaw]at hk;rw[<-kK hk];exact(dZ.mp hc).2
 ·rw[aak]at h1;obtain⟨d,hd,rfl⟩:=uQ.mp h1;rw[aaw];refine abh.mpr ⟨λz=>?_,λz=>?_⟩
  ·subst z;obtain⟨a1,a2⟩:=kL.mp hd;obtain⟨b1,b2⟩:=kL.mp h2;exact(acR nd).mp (a2.trans b2.symm)
  ·subst z;rw[hd]at h2;exact Option.some.inj h2
inductive Ff(N:Net)(L:Nat->Int)(RO:List Nat):List Nat->List Nat->Prop
 | start:Ff N L RO [] RO
 | step {bs ws:List Nat} {w e:Nat} {z:Int} (h:Ff N L RO bs (w::ws)) (lo:Lo N L w z e):Ff N L RO (bs++[e]) (ws.map λv=>if N.par e v=true then v^^^w else v)
def Ff.uniq(hL:∀k,k<N.n->0<L k){RO bs ws:List Nat}(h:Ff N L RO bs ws):∀{I U:List Nat},Ff N L RO I U->bs.length=I.length->bs=I/\ws=U:=by
 induction h with
 | start =>
   intro I U h' O;cases h' with
   | start=>exact⟨rfl,rfl⟩
   | step h lo=>rw[aaj]at O;simp at O
 | step h lo ih =>
   intro I U h' O;cases h' with
   | start=>rw[aaj]at O;simp at O
   | step h2 lo2 =>
     rw[aaj,aaj]at O;obtain⟨Y,Z⟩:=ih h2 (by simpa using O)
     obtain⟨rfl,rfl⟩:=List.cons.inj Z;obtain⟨_,rfl⟩:=lo.uniq hL lo2;rw[Y];exact⟨rfl,rfl⟩
end
def ia(B:List Nat):Nat->List Row3
 | 0=>[]
 | i+1=>if(cU (ia B i) (B.getD i 0) 0).1=0 then ia B i else yy (ia B i) ((cU (ia B i) (B.getD i 0) 0).1.log2,(cU (ia B i) (B.getD i 0) 0).1,(cU (ia B i) (B.getD i 0) 0).2^^^2^i)
def Fi{B:List Nat}{i b:Nat}{rows:List Row3}(e:rows=ia B i)(hb:B[i]?=some b)(h:(cU rows b 0).1≠0):yy rows ((cU rows b 0).1.log2,(cU rows b 0).1,(cU rows b 0).2^^^2^i)=ia B (i+1):=by
 subst e;have I:B.getD i 0=b:=by rw[aae,hb];rfl
 show _=if _ then _ else _
 rw[I,aab h]
def C4{B:List Nat}{i b:Nat}{rows:List Row3}(e:rows=ia B i)(hb:B[i]?=some b)(h:(cU rows b 0).1=0):rows=ia B (i+1):=by
 subst e;have I:B.getD i 0=b:=by rw[aae,hb];rfl
 show _=if _ then _ else _
 rw[I,aad h]
end RM
namespace L2
open PySem
def mT{lo:Int}{n:Nat}{g:TG}{tb:TS}{D:Ends}{σ:St}{H:Hp}(Pv:Nat->St->Hp->Prop)(h0:Pv 0 σ H)
 (hs:∀i,let I : Ends:={ D with nx:=Pv (i+1),ct:=Pv (i+1),bk:=D.nx};∀σ H,i<n->Pv i σ H->g (.int (lo+i)) σ H λσ2 H2=>tb I σ2 H2) (hd:∀σ H,Pv n σ H->D.nx σ H) :
 ∃W:Nat->Nat->St->Hp->Prop,(∃m,W 0 m σ H)/\∀i m σ H,W i m σ H->
   ((M5 lo n).stop i H/\D.nx σ H)\/((M5 lo n).go i H/\∃N:St->Hp->Prop,(∀σ' H',N σ' H'->∃m',m'<m/\W (i+1) m' σ' H')/\∀x H',(M5 lo n).J0 i H x H'->g x σ H' λσ2 H2=>tb { D with nx:=N,ct:=N,bk:=D.nx} σ2 H2) :=
 ze Pv h0 (λi σ H hi p=>hs i σ H hi p) hd
def iH{K:bE}{a:Addr}{xs:List V}{g:TG}{tb:TS}{D:Ends}{σ:St}{H:Hp}(Pv:Nat->St->Hp->Prop)(h0:Pv 0 σ H)(hl:∀i σ H,i<=xs.length->Pv i σ H->aO K H a xs)
 (hs:∀i x,let I : Ends:={ D with nx:=Pv (i+1),ct:=Pv (i+1),bk:=D.nx};∀σ H,xs[i]?=some x->Pv i σ H->g x σ H λσ2 H2=>tb I σ2 H2) (hd:∀σ H,Pv xs.length σ H->D.nx σ H) :
 ∃W:Nat->Nat->St->Hp->Prop,(∃m,W 0 m σ H)/\∀i m σ H,W i m σ H->
   ((Nq K a).stop i H/\D.nx σ H)\/((Nq K a).go i H/\∃N:St->Hp->Prop,(∀σ' H',N σ' H'->∃m',m'<m/\W (i+1) m' σ' H')/\∀x H',(Nq K a).J0 i H x H'->g x σ H' λσ2 H2=>tb { D with nx:=N,ct:=N,bk:=D.nx} σ2 H2) :=
 vN Pv h0 hl (λi x σ H hi p=>hs i x σ H hi p) hd
def G0{X:Cx}{e:Expr}{T:String}{r:V->List V->Hp->VK->Prop}{to:TE}{t:TA}(K:bE)(p:PE X e (XE X.K T r to t))(h:X.K=K:=by rfl):PE X e (XE K T r to t):=by subst h;exact p
def Ys{X:Cx}{e:Expr}{T:String}{r:V->List V->Hp->VK->Prop}{to:TE}(K:bE)(p:PE X e (QJ X.K T r to))(h:X.K=K:=by rfl):PE X e (QJ K T r to):=by subst h;exact p
def cV{K:bE}{H:Hp}{a:Addr}{xs:List V}{k:Int}{v:V}{R:V->Prop}(hs:aV K H a xs)(ha:Aq xs k=some v)(q:R v):∃p ys I w,V.ref a = .ref p/\V.int k = .int I/\aV K H p ys/\Aq ys I = some w/\R w:=⟨a,xs,k,v,rfl,rfl,hs,ha,q⟩
def nC{K:bE}{H:Hp}{a:Addr}{xs:List V}{k:Int}{v:V}{R:V->Prop}(hs:aO K H a xs)(ha:Aq xs k=some v)(q:R v):∃p ys I w,V.ref a = .ref p/\V.int k = .int I/\aO K H p ys/\Aq ys I = some w/\R w:=⟨a,xs,k,v,rfl,rfl,hs,ha,q⟩
def c6{i j:Int}{R:Int->Int->Prop}(h:R i j):∃I O,V.int i = .int I/\V.int j = .int O/\R I O:=⟨i,j,rfl,rfl,h⟩
def uI{K:bE}{H:Hp}{a:Addr}{xs:List V}{E:Addr->Prop}{R:List V->Prop}(e:E a)(h:aO K H a xs\/aV K H a xs)(q:R xs):∃p ys,E p/\(aO K H p ys\/aV K H p ys)/\R ys:=⟨a,xs,e,h,q⟩
def aq{α:Type}{A R:α->Prop}{x:α}(h:A x)(r:R x):∃x,A x/\R x:=⟨x,h,r⟩
open PySem PySem.Spec PyProof.Rows
section
variable {K:bE}{mg:nE}{x:Str}{st:Stmt}{f c0 p0:Addr}{fd:FuncData}{ps:List Str}{h:Heap}
structure Dc(K:bE)(mg:nE)(x:Str)(f:Addr)(fd:FuncData)(ps:List Str):Prop where
 m:mg x=some (.ref f)
 k:PySem.W.keepIn K (.ref f)=true
 b:Binds K fd ps []
structure Dk(K:bE)(x:Str)(st:Stmt)(f:Addr)(fd:FuncData):Prop where
 F:sF K x x st f fd
 n:PySem.W.nsIn K mainGlobals x=some (some (.ref f))
structure RP(K:bE)(x:Str)(st:Stmt)(f:Addr)(fd:FuncData)(c0 p0:Addr):Prop where
 F:E9 K x x st f fd c0 p0
 n:PySem.W.nsIn K mainGlobals x=some (some (.ref f))
structure Dn(K:bE)(mg:nE)(x:Str)(st:Stmt)(f:Addr)(fd:FuncData)(ps:List Str):Prop where
 F:sF K x x st f fd
 c:Dc K mg x f fd ps
structure PX(K:bE)(mg:nE)(x:Str)(st:Stmt)(f:Addr)(fd:FuncData)(ps:List Str)(c0 p0:Addr):Prop where
 F:E9 K x x st f fd c0 p0
 c:Dc K mg x f fd ps
def dk{oc:Value}{od an:Option Addr}{osl:Array (Option Value)}{kV doc pm cdv ct:Value}(a:PySem.W.nsIn K mainGlobals x=some (some (.ref f)))
 (l:K.lookup f=some ⟨oc,od,.func (PySem.W.fnOf x x (eZ st) (cC st) (aj st) .none kV doc pm an cdv ct),osl⟩) (c:PySem.W.codeIn K cdv x=true) (k:PySem.W.keepIn K (.ref f)=true) :
 Dk K x st f (PySem.W.fnOf x x (eZ st) (cC st) (aj st) .none kV doc pm an cdv ct):=⟨k6 l c k,a⟩
def dkL{oc:Value}{od an:Option Addr}{osl:Array (Option Value)}{kV doc pm ct:Value}(a:PySem.W.nsIn K mainGlobals x=some (some (.ref f)))
 (l:K.lookup f=some ⟨oc,od,.func (PySem.W.fnOf x x (eZ st) (cC st) (aj st) .none kV doc pm an (.ref c0) ct),osl⟩) (c:PySem.W.codeIn K (.ref c0) x=true) (k:PySem.W.keepIn K (.ref f)=true) (d:PySem.W.codeHdIn K c0 p0=true) :
 RP K x st f (PySem.W.fnOf x x (eZ st) (cC st) (aj st) .none kV doc pm an (.ref c0) ct) c0 p0:=⟨OH l c k d,a⟩
structure Ng(K:bE)(x:Str):Prop where
 n:PySem.W.nsIn K mainGlobals x=some none
def Bn(x:Str)(st:Stmt)(ps:List Str)(us:List Value):Prop:=∀(kV doc pm:Value) (an:Option Addr) (cdv ct:Value),bindArgs (PySem.W.fnOf x x (eZ st) (cC st) (aj st) .none kV doc pm an cdv ct) ⟨us,[]⟩=pure (ps.zip us)
def PY(h:∀us:List Value,us.length=ps.length->Bn x st ps us)(kV doc pm:Value)(an:Option Addr)(cdv ct:Value)(us:List Value)(hl:us.length=ps.length):
 bindArgs (PySem.W.fnOf x x (eZ st) (cC st) (aj st) .none kV doc pm an cdv ct) ⟨us,[]⟩=pure (ps.zip us):=h us hl kV doc pm an cdv ct
def Dk.dn(X:K.In h)(G:h.Ns mainGlobals mg)(D:Dk K x st f fd)(hb:∀us:List Value,us.length=ps.length->Bn x st ps us):Dn K mg x st f fd ps:=⟨D.F,PySem.W.mg_of X G D.n,D.F.kp,D.F.binds (PY hb)⟩
def RP.dn(X:K.In h)(G:h.Ns mainGlobals mg)(D:RP K x st f fd c0 p0)(hb:∀us:List Value,us.length=ps.length->Bn x st ps us):PX K mg x st f fd ps c0 p0:=⟨D.F,PySem.W.mg_of X G D.n,D.F.kp,D.F.binds (PY hb)⟩
def bn1{y:Str}(h:∀a,Bn x st [y] [a])(us:List Value)(hl:us.length=[y].length):Bn x st [y] us:=by obtain⟨_,rfl⟩:=ED us hl;exact h _
def ZM{y z:Str}(h:∀a b,Bn x st [y,z] [a,b])(us:List Value)(hl:us.length=[y,z].length):Bn x st [y,z] us:=by obtain⟨_,_,rfl⟩:=Q6 us hl;exact h _ _
def ZN{y z u:Str}(h:∀a b c,Bn x st [y,z,u] [a,b,c])(us:List Value)(hl:us.length=[y,z,u].length):Bn x st [y,z,u] us:=by obtain⟨_,_,_,rfl⟩:=XZ us hl;exact h _ _ _
def bn4{y z u v:Str}(h:∀a b c d,Bn x st [y,z,u,v] [a,b,c,d])(us:List Value)(hl:us.length=[y,z,u,v].length):Bn x st [y,z,u,v] us:=by obtain⟨_,_,_,_,rfl⟩:=UA us hl;exact h _ _ _ _
def C5{y:Str}(X:K.In h)(G:h.Ns mainGlobals mg)(D:Dk K x st f fd)(e:∀a,Bn x st [y] [a]:=by intros;exact λ_ _ _ _ _ _=>rfl):Dn K mg x st f fd [y]:=D.dn X G (bn1 e)
def pU{y z:Str}(X:K.In h)(G:h.Ns mainGlobals mg)(D:Dk K x st f fd)(e:∀a b,Bn x st [y,z] [a,b]:=by intros;exact λ_ _ _ _ _ _=>rfl):Dn K mg x st f fd [y,z]:=D.dn X G (ZM e)
def SN{y z u:Str}(X:K.In h)(G:h.Ns mainGlobals mg)(D:Dk K x st f fd)(e:∀a b c,Bn x st [y,z,u] [a,b,c]:=by intros;exact λ_ _ _ _ _ _=>rfl):Dn K mg x st f fd [y,z,u]:=D.dn X G (ZN e)
def dn4{y z u v:Str}(X:K.In h)(G:h.Ns mainGlobals mg)(D:Dk K x st f fd)(e:∀a b c d,Bn x st [y,z,u,v] [a,b,c,d]:=by intros;exact λ_ _ _ _ _ _=>rfl):Dn K mg x st f fd [y,z,u,v]:=D.dn X G (bn4 e)
def dl2{y z:Str}(X:K.In h)(G:h.Ns mainGlobals mg)(D:RP K x st f fd c0 p0)(e:∀a b,Bn x st [y,z] [a,b]:=by intros;exact λ_ _ _ _ _ _=>rfl):PX K mg x st f fd [y,z] c0 p0:=D.dn X G (ZM e)
def dl3{y z u:Str}(X:K.In h)(G:h.Ns mainGlobals mg)(D:RP K x st f fd c0 p0)(e:∀a b c,Bn x st [y,z,u] [a,b,c]:=by intros;exact λ_ _ _ _ _ _=>rfl):PX K mg x st f fd [y,z,u] c0 p0:=D.dn X G (ZN e)
def Dn.ok{P:Program}{w:World}{base:Heap}{N:List Str}{k:Nat}{sp:Sp}(D:Dn K mg x st f fd ps)(S:aA N ps (aj st))
 (hbody:∀(cdv:Value) (A:Around) (outer:List Env) (s:Shared) (H:Hp) (vs:List V) (Q:VK) (E:XK),dU k (A.deeper (envOfC x (aj st) s.heap.objs.size f cdv))->sp vs H Q E->
  ∃t,ym (uR vQ P w K mg base N x (aj st) f cdv A outer s H E).D8 (cC st) t/\t { nx:=λ_ H'=>Q .eF H',rt:=Q} (start N vs) H)
 (len:∀vs H Q E,sp vs H Q E->vs.length=ps.length:=by
  intro vs H Q E h
  first
  | (obtain⟨_,rfl,_⟩:=h;rfl)
  | (obtain⟨_,_,rfl,_⟩:=h;rfl)
  | (obtain⟨_,_,_,rfl,_⟩:=h;rfl)
  | (obtain⟨_,_,_,_,rfl,_⟩:=h;rfl)
  | (obtain⟨_,_,_,_,_,rfl,_⟩:=h;rfl)
  | (obtain⟨_,_,_,_,_,_,rfl,_⟩:=h;rfl)
  | (obtain⟨_,_,_,_,_,_,_,rfl,_⟩:=h;rfl)
  | (obtain⟨_,_,_,_,_,_,_,_,rfl,_⟩:=h;rfl)
  | (obtain⟨_,_,_,_,_,_,_,_,_,rfl,_⟩:=h;rfl)):gY P w K mg base vQ (k+1) f fd ps sp:=D.F.ok S len hbody
def PX.ok{P:Program}{w:World}{base:Heap}{N:List Str}{k:Nat}{sp:Sp}(D:PX K mg x st f fd ps c0 p0)(S:aA N ps (aj st))
 (hbody:∀(A:Around) (outer:List Env) (s:Shared) (H:Hp) (vs:List V) (Q:VK) (E:XK),dU k (A.deeper (envOfC x (aj st) s.heap.objs.size f (.ref c0)))->sp vs H Q E->
  ∃t,ym (uR vQ P w K mg base N x (aj st) f (.ref c0) A outer s H E).D8 (cC st) t/\t { nx:=λ_ H'=>Q .eF H',rt:=Q} (start N vs) H)
 (len:∀vs H Q E,sp vs H Q E->vs.length=ps.length:=by
  intro vs H Q E h
  first
  | (obtain⟨_,rfl,_⟩:=h;rfl)
  | (obtain⟨_,_,rfl,_⟩:=h;rfl)
  | (obtain⟨_,_,_,rfl,_⟩:=h;rfl)
  | (obtain⟨_,_,_,_,rfl,_⟩:=h;rfl)
  | (obtain⟨_,_,_,_,_,rfl,_⟩:=h;rfl)
  | (obtain⟨_,_,_,_,_,_,rfl,_⟩:=h;rfl)
  | (obtain⟨_,_,_,_,_,_,_,rfl,_⟩:=h;rfl)
  | (obtain⟨_,_,_,_,_,_,_,_,rfl,_⟩:=h;rfl)
  | (obtain⟨_,_,_,_,_,_,_,_,_,rfl,_⟩:=h;rfl)):gY P w K mg base vQ (k+1) f fd ps sp:=D.F.ok S len hbody
def Dn.GB{P:Program}{w:World}{base:Heap}{N:List Str}{k:Nat}{sp:Sp}(D:Dn K mg x st f fd ps)(S:aA N ps (aj st))
 (hbody:∀(cdv:Value) (A:Around) (outer:List Env) (s:Shared) (H:Hp) (vs:List V) (Q:VK) (E:XK),dU k (A.deeper (envOfC x (aj st) s.heap.objs.size f cdv))->sp vs H Q E->
  ∃t,ym (uR (KO P w) P w K mg base N x (aj st) f cdv A outer s H E) (cC st) t/\t { nx:=λ_ H'=>Q .eF H',rt:=Q} (start N vs) H)
 (len:∀vs H Q E,sp vs H Q E->vs.length=ps.length:=by
  intro vs H Q E h
  first
  | (obtain⟨_,rfl,_⟩:=h;rfl)
  | (obtain⟨_,_,rfl,_⟩:=h;rfl)
  | (obtain⟨_,_,_,rfl,_⟩:=h;rfl)
  | (obtain⟨_,_,_,_,rfl,_⟩:=h;rfl)
  | (obtain⟨_,_,_,_,_,rfl,_⟩:=h;rfl)
  | (obtain⟨_,_,_,_,_,_,rfl,_⟩:=h;rfl)
  | (obtain⟨_,_,_,_,_,_,_,rfl,_⟩:=h;rfl)
  | (obtain⟨_,_,_,_,_,_,_,_,rfl,_⟩:=h;rfl)
  | (obtain⟨_,_,_,_,_,_,_,_,_,rfl,_⟩:=h;rfl)):gY P w K mg base (KO P w) (k+1) f fd ps sp:=D.F.GB S len hbody
def RQ{y:Str}(D:Dk K x st f fd)(e:∀a,Bn x st [y] [a]:=by intros;exact λ_ _ _ _ _ _=>rfl)(s:Shared)(v:Value):BindsTo s fd ⟨[v],[]⟩ [(y,v)]:=by
 obtain⟨oc,od,kV,doc,pm,an,cdv,ct,osl,rfl,O,I⟩:=D.F.ex;exact .of_eq (e v kV doc pm an cdv ct)
end
section
variable {X:Cx}
def aE{CX:JM}{k r:Nat}{f:Addr}{fd:FuncData}{ps:List Str}{sp:Sp}{x:Str}{E:XK}{e:Expr}{es:List Expr}{t:TA}{p pos:Pos}
 (F:gY X.prog X.w X.K X.mg X.base CX k f fd ps sp) (hr:dU r X.A) (D:Dc X.K X.mg x f fd ps) (hx:Passes CX X E) (ha:PA X (e::es) t) (hk:k<=r:=by decide) (hg:Gl X x:=by rfl)
 (hdb:(x==("__debug__":Str))=false:=by decide) (he:starEach (e::es) X.env=(false,eval e X.env)::starEach es X.env:=by rfl) (hpl:(backTo pos (starEach es X.env)).any (·.1)=false:=by rfl) :
 PE X (.Call (.Name x p) (e::es) [] pos) (Pb sp [] E t):=Nz F (hr.mono hk) hg D.m D.k D.b .nil hx ha hdb he hpl
def jV(l:List Str)(h:l.Nodup:=by decide +kernel):l.Nodup:=h
def cz{p pos:Pos}{e:Expr}{es:List Expr}{t:TA}(K:bE)(hm:X.mg "len"=none)(ha:PA X (e::es) t)(hK:X.K=K:=by rfl)(hg:Gl X "len":=by rfl)
 (he:starEach (e::es) X.env=(false,eval e X.env)::starEach es X.env:=by rfl) (hpl:(backTo pos (starEach es X.env)).any (·.1)=false:=by rfl):PE X (.Call (.Name "len" p) (e::es) [] pos) (Xy (Uq K) t) :=
 bQ (XN K hK) hg hm PySem.boot_len ha (by decide) (by decide) he hpl
def aK{a b:Expr}{ta tb:TE}{pos:Pos}{r:R2}(hr:HD X r)(ha:PE X a ta)(hb:PE X b tb)(hs:Gs b:=by exact λ_ _=>rfl):PE X (.Subscript a b pos) (TL r ta tb):=T5 hr ha hb hs
def bq{x:Str}{pos:Pos}(i:Nat)(hN:X.N.Nodup)(hi:X.N[i]?=some x:=by exact rfl)(hx:Loc X.env.scope x:=by exact Or.inl rfl)(hf:X.fn x=true\/X.env.scope.names.lookup x=some .local:=by first | exact .inl rfl | exact .inr rfl | assumption):PG X (.Name x pos) (JY i):=vp hN hi hx hf
end
end L2
set_option maxHeartbeats 4000000
namespace K55
open PySem L2 Ring
local macro_rules | `(tactic| trivial)=>`(tactic| exact⟨rfl,rfl,rfl,by decide +kernel,rfl,by decide +kernel,by decide +kernel⟩)
def top(i:Nat):Stmt:=PySem.Challenge.pw_ringbase_k55_bases_of_now.main.body.getD i (.Pass ⟨0,0,0,0⟩)
section
variable {gm gM iu kH pB BP G3 Nc P0 SO U4 U5:TS}{jC Aa Pj WC ZO:TT}{qf WD:TI}{qg WE:TG}{D:Ends}{σ:St}{H:Hp}
abbrev mU:Stmt:=top 12
def C6:aA ["points","ties"] ["points","ties"] (aj mU):=by trivial
def C7(h:let I:=gm;let O:=gM;let U:=(ay (bh jC O aS) I);let Y:=iu;(ay (bh Aa Y aS) U) D σ H):(ay (bh Aa iu aS) (ay (bh jC gM aS) gm)) D σ H:=h
abbrev qy:Stmt:=top 13
def uJ:aA ["points","tie","end"] ["points","tie"] (aj qy):=by trivial
def C8(h:let I:=gm;let O:=gM;let U:=(ay (bh jC O aS) I);let Y:=iu;let Z:=(ay (bh Aa Y aS) U);let kJ:=kH;let uK:=(bh Pj kJ aS);let C9:=(ay (eI qf qg uK) Z);let De:=pB;(ay (bh WC De aS) C9) D σ H):(ay (bh WC pB aS) (ay (eI qf qg (bh Pj kH aS)) (ay (bh Aa iu aS) (ay (bh jC gM aS) gm)))) D σ H:=h
abbrev sY:Stmt:=top 14
def Fj:aA ["tie_set","tie"] ["tie_set","tie"] (aj sY):=by trivial
abbrev pC:Stmt:=top 15
def Fl:aA ["tie_set"] ["tie_set"] (aj pC):=by trivial
abbrev xy:Stmt:=top 16
def pD:aA ["web","ties","found","tie"] ["web","ties"] (aj xy):=by trivial
def Ab(h:let I:=gm;let O:=gM;let U:=iu;let Y:=(ay (bh jC U aS) O);let Z:=(ay (eI qf qg Y) I);(ay kH Z) D σ H):(ay kH (ay (eI qf qg (ay (bh jC iu aS) gM)) gm)) D σ H:=h
abbrev qz:Stmt:=top 17
def Df:aA ["web"] ["web"] (aj qz):=by trivial
abbrev xA:Stmt:=top 18
def IJ:aA ["web","number"] ["web","number"] (aj xA):=by trivial
abbrev nZ:Stmt:=top 19
def A7:aA ["web","tie_set"] ["web","tie_set"] (aj nZ):=by trivial
def A8(h:let I:=gm;(bh jC I aS) D σ H):(bh jC gm aS) D σ H:=h
abbrev jJ:Stmt:=top 20
def yC:aA ["web","tie_set"] ["web","tie_set"] (aj jJ):=by trivial
def iY(h:let I:=gm;(ay gM I) D σ H):(ay gM gm) D σ H:=h
abbrev kU:Stmt:=top 21
def A9:aA ["web","tie_set"] ["web","tie_set"] (aj kU):=by trivial
abbrev jK:Stmt:=top 22
def gi:aA ["web","tie_set","ends","one","other","length"] ["web","tie_set"] (aj jK):=by trivial
def yD(h:let I:=gm;let O:=gM;let U:=(ay iu O);let Y:=(ay (eI qf qg U) I);(ay kH Y) D σ H):(ay kH (ay (eI qf qg (ay iu gM)) gm)) D σ H:=h
abbrev fE:Stmt:=top 23
def ic:aA ["leasts","one","other","low","high"] ["leasts","one","other"] (aj fE):=by trivial
def ie(h:let I:=gm;let O:=(ay gM I);(ay iu O) D σ H):(ay iu (ay gM gm)) D σ H:=h
abbrev rN:Stmt:=top 24
def gO:aA ["web","tie_set","leasts","one","other","length","found","start"] ["web","tie_set"] (aj rN):=by trivial
def IK(h:let I:=gm;let O:=gM;let U:=(bh jC O aS);let Y:=(ay (eI qf qg U) I);let Z:=(ay iu Y);let kJ:=kH;let uK:=(ay (eI WD WE kJ) Z);(ay pB uK) D σ H):(ay pB (ay (eI WD WE kH) (ay iu (ay (eI qf qg (bh jC gM aS)) gm)))) D σ H:=h
abbrev Fo:Stmt:=top 25
def OL:aA ["web"] ["web"] (aj Fo):=by trivial
abbrev sZ:Stmt:=top 27
def Fp:aA ["web","tie_set"] ["web","tie_set"] (aj sZ):=by trivial
abbrev gn:Stmt:=top 28
def br:aA ["web","leasts","trails","tie","one","other","bridge","moved"] ["web"] (aj gn):=by trivial
def tu(h:let I:=gm;let O:=gM;let U:=(ay iu O);let Y:=(ay kH U);let Z:=(ay pB Y);let kJ:=(bh jC Z aS);let uK:=(ay BP kJ);let C9:=(ay G3 uK);let De:=(ay (eI qf qg C9) I);let G4:=(ay Nc De);(ay P0 G4) D σ H):(ay P0 (ay Nc (ay (eI qf qg (ay G3 (ay BP (bh jC (ay pB (ay kH (ay iu gM))) aS)))) gm))) D σ H:=h
abbrev xB:Stmt:=top 29
def pF:aA ["web","found","trail"] ["web"] (aj xB):=by trivial
def IL(h:let I:=gm;let O:=gM;let U:=(ay (eI qf qg O) I);(ay iu U) D σ H):(ay iu (ay (eI qf qg gM) gm)) D σ H:=h
abbrev xC:Stmt:=top 30
def IM:aA ["web"] ["web"] (aj xC):=by trivial
abbrev lg:Stmt:=top 31
def n5:aA ["web","trails","chord","tie"] ["web","trails","chord"] (aj lg):=by trivial
abbrev mV:Stmt:=top 32
def yE:aA ["web","tie"] ["web","tie"] (aj mV):=by trivial
def dB(h:let I:=gm;let O:=gM;(ay (bh jC O aS) I) D σ H):(ay (bh jC gM aS) gm) D σ H:=h
abbrev pG:Stmt:=top 34
def xD:aA ["web","tie_set","touched"] ["web","tie_set"] (aj pG):=by trivial
def Fq(h:let I:=gm;let O:=(ay gM I);let U:=iu;(ay (bh jC U aS) O) D σ H):(ay (bh jC iu aS) (ay gM gm)) D σ H:=h
abbrev iI:Stmt:=top 35
def rO:aA ["web","number"] ["web","number"] (aj iI):=by trivial
abbrev kW:Stmt:=top 36
def Ba:aA ["web","rings"] ["web","rings"] (aj kW):=by trivial
def cu:Pos:=⟨119,29,119,70⟩
abbrev xE:Stmt:=top 38
def IP:aA ["one","other"] ["one","other"] (aj xE):=by trivial
abbrev lq:Stmt:=top 39
def xF:aA ["tie_set","marks"] ["tie_set","marks"] (aj lq):=by trivial
abbrev tw:Stmt:=top 40
def mW:aA ["web","side","ahead","point"] ["web","side"] (aj tw):=by trivial
abbrev rP:Stmt:=top 41
def IQ:aA ["web","side"] ["web","side"] (aj rP):=by trivial
abbrev pH:Stmt:=top 42
def mX:aA ["web","tie_set","trails","side","amiss"] ["web","tie_set"] (aj pH):=by trivial
def Ft(h:let I:=gm;let O:=gM;let U:=(ay (bh jC O aS) I);let Y:=(ay iu U);let Z:=(ay kH Y);let kJ:=(ay pB Z);(ay BP kJ) D σ H):(ay BP (ay pB (ay kH (ay iu (ay (bh jC gM aS) gm))))) D σ H:=h
abbrev fF:Stmt:=top 44
def dm:aA ["web","marks","steps","tie","ends","turn"] ["web","marks"] (aj fF):=by trivial
def rQ(h:let I:=gm;let O:=gM;let U:=(ay iu O);let Y:=(ay kH U);let Z:=(ay (eI qf qg Y) I);(ay pB Z) D σ H):(ay pB (ay (eI qf qg (ay kH (ay iu gM))) gm)) D σ H:=h
abbrev ig:Stmt:=top 45
def bM:aA ["web","marks","start","steps","found","waiting","nearest","way","tie","point","turn","part","further"] ["web","marks","start"] (aj ig):=by trivial
def yF(h:let I:=gm;let O:=gM;let U:=(bh Aa O aS);let Y:=(ay iu U);let Z:=(ay kH Y);let kJ:=(eI qf qg Z);let uK:=(ay pB kJ);let C9:=(ay BP uK);let De:=(ay G3 C9);let G4:=(ay (vM jC De) I);let Dg:=(ay Nc G4);let Dh:=(ay P0 Dg);(ay SO Dh) D σ H):(ay SO (ay P0 (ay Nc (ay (vM jC (ay G3 (ay BP (ay pB (eI qf qg (ay kH (ay iu (bh Aa gM aS)))))))) gm)))) D σ H:=h
def bA:Pos:=⟨157,35,157,63⟩
abbrev jn:Stmt:=top 46
def tD:aA ["way"] ["way"] (aj jn):=by trivial
abbrev fG:Stmt:=top 47
def rR:aA ["ways"] ["ways"] (aj fG):=by trivial
abbrev fH:Stmt:=top 49
def rS:aA ["web","marks"] ["web","marks"] (aj fH):=by trivial
abbrev gp:Stmt:=top 50
def tE:aA ["ways"] ["ways"] (aj gp):=by trivial
abbrev mY:Stmt:=top 51
def yG:aA ["web","marks"] ["web","marks"] (aj mY):=by trivial
abbrev kX:Stmt:=top 52
def mZ:aA ["web","marks","ways","rounds"] ["web","marks"] (aj kX):=by trivial
def Bb(h:let I:=gm;let O:=gM;let U:=(ay (bh jC O aS) I);let Y:=(ay iu U);let Z:=(ay kH Y);(ay pB Z) D σ H):(ay pB (ay kH (ay iu (ay (bh jC gM aS) gm)))) D σ H:=h
abbrev ly:Stmt:=top 53
def xG:aA ["one","other","length"] ["one","other","length"] (aj ly):=by trivial
abbrev m3:Stmt:=top 54
def lz:aA ["tie","turn","worths","here","there"] ["tie","turn","worths"] (aj m3):=by trivial
abbrev ko:Stmt:=top 55
def gq:aA ["web","marks","worths","point","place","tie"] ["web","marks","worths"] (aj ko):=by trivial
def uV(h:let I:=gm;let O:=gM;let U:=(bh jC O aS);let Y:=(eI WD WE U);let Z:=iu;let kJ:=(ay (bh Aa Z aS) Y);let uK:=(ay (eI qf qg kJ) I);(ay kH uK) D σ H):(ay kH (ay (eI qf qg (ay (bh Aa iu aS) (eI WD WE (bh jC gM aS)))) gm)) D σ H:=h
abbrev fg:Stmt:=top 56
def nu:aA ["worths","length","rounds"] ["worths","length"] (aj fg):=by trivial
abbrev lA:Stmt:=top 57
def xH:aA ["web","marks","ring","worths"] ["web","marks","ring","worths"] (aj lA):=by trivial
abbrev tF:Stmt:=top 59
def fh:aA ["rows","tie_set","left","used","lead","row","places"] ["rows","tie_set"] (aj tF):=by trivial
def Fv(h:let I:=gm;let O:=gM;let U:=(ay iu O);let Y:=(bh jC U aS);let Z:=(ay (eI qf qg Y) I);let kJ:=(ay kH Z);(ay pB kJ) D σ H):(ay pB (ay kH (ay (eI qf qg (bh jC (ay iu gM) aS)) gm))) D σ H:=h
abbrev qA:Stmt:=top 60
def n8:aA ["rows","added","found","old"] ["rows","added"] (aj qA):=by trivial
def Di(h:let I:=gm;let O:=gM;let U:=iu;let Y:=(bh jC O U);let Z:=(ay (eI qf qg Y) I);(ay kH Z) D σ H):(ay kH (ay (eI qf qg (bh jC gM iu)) gm)) D σ H:=h
abbrev tG:Stmt:=top 61
def iJ:aA ["sets","rows","place","tie_set","rest"] ["sets"] (aj tG):=by trivial
def Fw(h:let I:=gm;let O:=gM;let U:=(bh jC O aS);let Y:=(ay iu U);let Z:=(ay (eI qf qg Y) I);(ay kH Z) D σ H):(ay kH (ay (eI qf qg (ay iu (bh jC gM aS))) gm)) D σ H:=h
abbrev pJ:Stmt:=top 62
def Fy:aA ["web","rings"] ["web","rings"] (aj pJ):=by trivial
abbrev kY:Stmt:=top 63
def jL:aA ["web","rings","rows","found","place"] ["web","rings"] (aj kY):=by trivial
def Bc(h:let I:=gm;let O:=gM;let U:=(ay (eI qf qg O) I);let Y:=(ay iu U);let Z:=(ay kH Y);let kJ:=pB;(ay (bh jC kJ aS) Z) D σ H):(ay (bh jC pB aS) (ay kH (ay iu (ay (eI qf qg gM) gm)))) D σ H:=h
abbrev gj:Stmt:=top 64
def dQ:aA ["web","waiting","found","marks","ring"] ["web"] (aj gj):=by trivial
def xJ(h:let I:=gm;let O:=gM;let U:=(ay iu O);let Y:=(ay kH U);let Z:=(ay pB Y);let kJ:=(ay (vM jC Z) I);let uK:=(ay BP kJ);(ay G3 uK) D σ H):(ay G3 (ay BP (ay (vM jC (ay pB (ay kH (ay iu gM)))) gm))) D σ H:=h
abbrev jM:Stmt:=top 65
def lB:aA ["web","rings","marks"] ["web"] (aj jM):=by trivial
abbrev pL:Stmt:=top 66
def Fz:aA ["web"] ["web"] (aj pL):=by trivial
abbrev jg:Stmt:=top 70
def m4:aA ["web","rings","marks","place","ring"] ["web","rings","marks"] (aj jg):=by trivial
def Bd(h:let I:=gm;let O:=gM;let U:=(bh jC O aS);let Y:=(ay (eI qf qg U) I);let Z:=iu;(ay (bh Aa Z aS) Y) D σ H):(ay (bh Aa iu aS) (ay (eI qf qg (bh jC gM aS)) gm)) D σ H:=h
abbrev eR:Stmt:=top 71
def oh:aA ["web","base","rings"] ["web","base"] (aj eR):=by trivial
def xK(h:let I:=gm;let O:=gM;let U:=(ay (bh jC O aS) I);let Y:=iu;let Z:=(ay (bh Aa Y aS) U);(ay kH Z) D σ H):(ay kH (ay (bh Aa iu aS) (ay (bh jC gM aS) gm))) D σ H:=h
abbrev qB:Stmt:=top 73
def Dl:aA ["script","k"] ["script","k"] (aj qB):=by trivial
abbrev qC:Stmt:=top 74
def uL:aA ["cell","stir"] ["cell"] (aj qC):=by trivial
abbrev om:Stmt:=top 75
def Be:aA ["found"] ["found"] (aj om):=by trivial
abbrev qD:Stmt:=top 76
def gP:aA ["cell","points","number","one","other"] ["cell","points"] (aj qD):=by trivial
def Dm(h:let I:=gm;let O:=(ay gM I);let U:=(ay iu O);let Y:=(ay kH U);let Z:=pB;let kJ:=(ay (bh jC Z aS) Y);(ay BP kJ) D σ H):(ay BP (ay (bh jC pB aS) (ay kH (ay iu (ay gM gm))))) D σ H:=h
abbrev oq:Stmt:=top 77
def dw:aA ["script","most","points","deeds","held","fresh","cell","turn"] ["script","most"] (aj oq):=by trivial
def Bf(h:let I:=gm;let O:=iu;let U:=(ay kH O);let Y:=(ay pB U);let Z:=gM;let kJ:=(bh Aa Y aS);let uK:=(bh jC Z kJ);let C9:=(ay BP uK);let De:=(ay (eI qf qg C9) I);let G4:=(ay G3 De);let Dg:=(ay Nc G4);let Dh:=(ay P0 Dg);(ay SO Dh) D σ H):(ay SO (ay P0 (ay Nc (ay G3 (ay (eI qf qg (ay BP (bh jC gM (bh Aa (ay pB (ay kH iu)) aS)))) gm))))) D σ H:=h
abbrev xM:Stmt:=top 78
def IS:aA ["standing","deed"] ["standing","deed"] (aj xM):=by trivial
def IT(h:let I:=gm;let O:=gM;(bh jC I O) D σ H):(bh jC gm gM) D σ H:=h
abbrev fj:Stmt:=top 79
def gr:aA ["standing","web","base","found"] ["standing"] (aj fj):=by trivial
def uW(h:let I:=gm;let O:=(ay gM I);let U:=iu;let Y:=(ay (bh jC U aS) O);let Z:=kH;let kJ:=(ay (bh Aa Z aS) Y);let uK:=(ay pB kJ);let C9:=BP;let De:=(ay (bh Pj C9 aS) uK);let G4:=(ay G3 De);(ay Nc G4) D σ H):(ay Nc (ay G3 (ay (bh Pj BP aS) (ay pB (ay (bh Aa kH aS) (ay (bh jC iu aS) (ay gM gm))))))) D σ H:=h
abbrev Mc:Stmt:=top 80
def xN:aA ["script","points","deeds","standing","k"] ["script"] (aj Mc):=by trivial
def RS(h:let I:=gm;let O:=gM;let U:=iu;let Y:=(ay (bh Aa U aS) O);let Z:=(ay kH Y);let kJ:=pB;let uK:=(ay (bh Pj kJ aS) Z);let C9:=(ay BP uK);let De:=G3;let G4:=(ay (bh WC De aS) C9);let Dg:=(ay Nc G4);let Dh:=(ay (bh jC Dg aS) I);let RT:=P0;let U6:=SO;let U7:=(ay (bh ZO U6 aS) RT);let U8:=(ay (eI qf qg U7) Dh);let U9:=(ay U4 U8);(ay U5 U9) D σ H):(ay U5 (ay U4 (ay (eI qf qg (ay (bh ZO SO aS) P0)) (ay (bh jC (ay Nc (ay (bh WC G3 aS) (ay BP (ay (bh Pj pB aS) (ay kH (ay (bh Aa iu aS) gM)))))) aS) gm)))) D σ H:=h
abbrev jo:Stmt:=inClass (top 68) 0
def tH:aA ["self","points"] ["self","points"] (aj jo):=by trivial
def tI(h:let I:=gm;let O:=(ay gM I);let U:=(ay iu O);let Y:=(ay kH U);(ay pB Y) D σ H):(ay pB (ay kH (ay iu (ay gM gm)))) D σ H:=h
abbrev kq:Stmt:=inClass (top 68) 1
def jq:aA ["self","one","other","length","tie","name"] ["self","one","other","length"] (aj kq):=by trivial
def uX(h:let I:=gm;let O:=(ay gM I);let U:=(ay iu O);let Y:=(ay kH U);let Z:=(ay pB Y);let kJ:=(ay BP Z);(ay G3 kJ) D σ H):(ay G3 (ay BP (ay pB (ay kH (ay iu (ay gM gm)))))) D σ H:=h
abbrev jr:Stmt:=inClass (top 68) 2
def tJ:aA ["self","name"] ["self","name"] (aj jr):=by trivial
abbrev jt:Stmt:=inClass (top 68) 3
def mw:aA ["self","deed"] ["self"] (aj jt):=by trivial
def tK(h:let I:=gm;let O:=(ay gM I);let U:=iu;let Y:=(bh jC O U);let Z:=(ay kH Y);let kJ:=pB;(ay (bh Aa kJ aS) Z) D σ H):(ay (bh Aa pB aS) (ay kH (bh jC (ay gM gm) iu))) D σ H:=h
abbrev iK:Stmt:=inClass (top 68) 4
def rT:aA ["self"] ["self"] (aj iK):=by trivial
abbrev dI:Stmt:=inClass (top 68) 5
def ou:aA ["self"] ["self"] (aj dI):=by trivial
abbrev gE:Stmt:=inClass (top 68) 6
def pV:aA ["self"] ["self"] (aj gE):=by trivial
abbrev fR:Stmt:=inClass (top 68) 7
def oz:aA ["self"] ["self"] (aj fR):=by trivial
abbrev eg:Stmt:=inClass (top 68) 8
def my:aA ["self"] ["self"] (aj eg):=by trivial
end
set_option genInjectivity false
set_option genSizeOf false
structure Yt where
 FA:Addr
 FD:FuncData
 FE:Addr
 FF:FuncData
 IU:Addr
 IV:FuncData
 IW:Addr
 IX:FuncData
 Me:Addr
 Mf:FuncData
 FG:Addr
 FH:FuncData
 Mg:Addr
 Mh:FuncData
 Dp:Addr
 Dq:FuncData
 Bg:Addr
 Bh:FuncData
 Dr:Addr
 Dt:FuncData
 Bj:Addr
 Bk:FuncData
 tM:Addr
 tN:FuncData
 Mi:Addr
 Mj:FuncData
 RU:Addr
 RV:FuncData
 IY:Addr
 IZ:FuncData
 uY:Addr
 uZ:FuncData
 Ml:Addr
 Mm:FuncData
 Mn:Addr
 Mp:FuncData
 yH:Addr
 yI:FuncData
 Bl:Addr
 Bm:FuncData
 Ja:Addr
 Jb:FuncData
 tO:Addr
 tP:FuncData
 Du:Addr
 Dv:FuncData
 Mq:Addr
 Mr:FuncData
 yJ:Addr
 yK:FuncData
 Jc:Addr
 Jd:FuncData
 Ms:Addr
 Mt:FuncData
 Je:Addr
 Jf:FuncData
 tQ:Addr
 tR:FuncData
 Bo:Addr
 Bp:FuncData
 u4:Addr
 u6:FuncData
 tS:Addr
 tT:FuncData
 tU:Addr
 tV:FuncData
 u9:Addr
 vc:FuncData
 Bq:Addr
 Br:FuncData
 Dw:Addr
 Dy:FuncData
 yL:Addr
 yM:FuncData
 Bs:Addr
 Bt:FuncData
 xO:Addr
 xP:FuncData
 xQ:Addr
 xR:FuncData
 yN:Addr
 yO:FuncData
 Jg:Addr
 Jh:FuncData
 FI:Addr
 FJ:FuncData
 Ji:Addr
 Jj:FuncData
 Jk:Addr
 Jl:FuncData
 Dz:Addr
 DA:FuncData
 yP:Addr
 yQ:FuncData
 Bu:Addr
 Bv:FuncData
 Jm:Addr
 Jo:FuncData
 DB:Addr
 DC:FuncData
 yR:Addr
 yS:FuncData
 FL:Addr
 FN:FuncData
 FO:Addr
 FP:FuncData
 DE:Addr
 DF:FuncData
 FQ:Addr
 FT:FuncData
 DG:Addr
 DH:FuncData
 Mu:Addr
 Mv:FuncData
 xS:Addr
 xT:FuncData
 Va:Addr
 Vb:FuncData
 ju:Addr
 jv:FuncData
 kr:Addr
 ku:FuncData
 jw:Addr
 jx:FuncData
 jy:Addr
 jz:FuncData
 iL:Addr
 iM:FuncData
 fT:Addr
 fU:FuncData
 gF:Addr
 gG:FuncData
 fV:Addr
 fW:FuncData
 ez:Addr
 eA:FuncData
 Mw:Addr
 eK:Addr
 FU:Addr
 tW:Addr
 xU:Addr
 Mx:Addr
 az:Addr
 DI:Addr
 cN:Addr
 Bw:Addr
 bN:Addr
structure Txt(P:Program)(w:World)(base:Heap)(K:bE)(mg:nE)(a:Yt):Prop where
 kA:Dn K mg "made_web" mU a.FA a.FD ["points","ties"]
 qF:Dn K mg "made_tie" qy a.FE a.FF ["points","tie"]
 gQ:Dn K mg "has_tie" sY a.IU a.IV ["tie_set","tie"]
 iN:Dn K mg "ties_in" pC a.IW a.IX ["tie_set"]
 rV:Dn K mg "set_of" xy a.Me a.Mf ["web","ties"]
 kB:Dn K mg "all_ties" qz a.FG a.FH ["web"]
 oA:Dn K mg "is_set" xA a.Mg a.Mh ["web","number"]
 gR:Dn K mg "check_set" nZ a.Dp a.Dq ["web","tie_set"]
 ik:Dn K mg "triples_in" jJ a.Bg a.Bh ["web","tie_set"]
 gU:Dn K mg "length_of" kU a.Dr a.Dt ["web","tie_set"]
 m5:Dn K mg "odd_points" jK a.Bj a.Bk ["web","tie_set"]
 fJ:Dn K mg "drawn_together" fE a.tM a.tN ["leasts","one","other"]
 rW:Dn K mg "pieces" rN a.Mi a.Mj ["web","tie_set"]
 FW:Dn K mg "rank" Fo a.RU a.RV ["web"]
 tX:Dn K mg "is_even" sZ a.IY a.IZ ["web","tie_set"]
 eM:Dn K mg "forest_trails" gn a.uY a.uZ ["web"]
 xV:Dn K mg "forest" xB a.Ml a.Mm ["web"]
 rX:Dn K mg "chords" xC a.Mn a.Mp ["web"]
 lC:Dn K mg "ring_closed" lg a.yH a.yI ["web","trails","chord"]
 m6:Dn K mg "chord_ring" mV a.Bl a.Bm ["web","tie"]
 tY:Dn K mg "is_ring" pG a.Ja a.Jb ["web","tie_set"]
 fK:Dn K mg "is_ring_number" iI a.tO a.tP ["web","number"]
 jh:PX K mg "by_length" kW a.Du a.Dv ["web","rings"] a.DI a.cN
 xW:Dn K mg "common" xE a.Mq a.Mr ["one","other"]
 eT:Dn K mg "bears_oddly" lq a.yJ a.yK ["tie_set","marks"]
 tZ:Dn K mg "is_side" tw a.Jc a.Jd ["web","side"]
 xX:Dn K mg "cut_of" rP a.Ms a.Mt ["web","side"]
 ua:Dn K mg "side_of" pH a.Je a.Jf ["web","tie_set"]
 iO:Dn K mg "steps_by_point" fF a.tQ a.tR ["web","marks"]
 jN:PX K mg "least_ways" ig a.Bo a.Bp ["web","marks","start"] a.Bw a.bN
 gv:Dn K mg "length_of_way" jn a.u4 a.u6 ["way"]
 iP:Dn K mg "worths_of_ways" fG a.tS a.tT ["ways"]
 fL:Dn K mg "all_least_ways" fH a.tU a.tV ["web","marks"]
 gw:Dn K mg "worths_of_all" gp a.u9 a.vc ["ways"]
 m7:Dn K mg "worths_for" mY a.Bq a.Br ["web","marks"]
 oB:Dn K mg "least_odd" kX a.Dw a.Dy ["web","marks"]
 iZ:Dn K mg "near_enough" ly a.yL a.yM ["one","other","length"]
 m8:Dn K mg "tie_stands" m3 a.Bs a.Bt ["tie","turn","worths"]
 kC:Dn K mg "worths_stand" ko a.xO a.xP ["web","marks","worths"]
 kD:Dn K mg "none_shorter" fg a.xQ a.xR ["worths","length"]
 lD:Dn K mg "ring_stands" lA a.yN a.yO ["web","marks","ring","worths"]
 uc:Dn K mg "reduced" tF a.Jg a.Jh ["rows","tie_set"]
 qG:Dn K mg "with_row" qA a.FI a.FJ ["rows","added"]
 pM:Dn K mg "rows_of" tG a.Ji a.Jj ["sets"]
 pN:Dn K mg "is_base" pJ a.Jk a.Jl ["web","rings"]
 oE:Dn K mg "marks_for" kY a.Dz a.DA ["web","rings"]
 i0:Dn K mg "least_rings" gj a.yP a.yQ ["web"]
 m9:Dn K mg "least_base" jM a.Bu a.Bv ["web"]
 mz:Dn K mg "lengths" pL a.Jm a.Jo ["web"]
 oF:Dn K mg "marks_fit" jg a.DB a.DC ["web","rings","marks"]
 lE:Dn K mg "base_judged" eR a.yR a.yS ["web","base"]
 qH:Dn K mg "_law_cell" qB a.FL a.FN ["script","k"]
 kE:Dn K mg "_law_turn" qC a.FO a.FP ["cell"]
 oG:Dn K mg "_law_whole" om a.DE a.DF ["found"]
 qI:Dn K mg "_law_near" qD a.FQ a.FT ["cell","points"]
 oH:Dn K mg "_law_deeds" oq a.DG a.DH ["script","most"]
 rY:Dn K mg "_law_do" xM a.Mu a.Mv ["standing","deed"]
 cW:Dn K mg "_law_now_good" fj a.xS a.xT ["standing"]
 P1:Dn K mg "law" Mc a.Va a.Vb ["script"]
 vd:sF K "__init__" "Standing.__init__" jo a.ju a.jv
 mk_Standing:Mk K a.az a.ju
 ve:Binds K a.jv ["self","points"] []
 xY:sF K "put" "Standing.put" kq a.kr a.ku
 nv:Meth K a.az "put" a.kr
 oJ:Binds K a.ku ["self","one","other","length"] []
 vf:sF K "drop" "Standing.drop" jr a.jw a.jx
 ud:Meth K a.az "drop" a.jw
 vg:Binds K a.jx ["self","name"] []
 vh:sF K "back" "Standing.back" jt a.jy a.jz
 mC:Meth K a.az "back" a.jy
 ny:Binds K a.jz ["self"] []
 ue:sF K "names" "Standing.names" iK a.iL a.iM
 rZ:Meth K a.az "names" a.iL
 uf:Binds K a.iM ["self"] []
 pW:sF K "ties_now" "Standing.ties_now" dI a.fT a.fU
 ji:Meth K a.az "ties_now" a.fT
 jD:Binds K a.fU ["self"] []
 qJ:sF K "web_now" "Standing.web_now" gE a.gF a.gG
 fX:Meth K a.az "web_now" a.gF
 gH:Binds K a.gG ["self"] []
 pX:sF K "base_now" "Standing.base_now" fR a.fV a.fW
 oM:Meth K a.az "base_now" a.fV
 pY:Binds K a.fW ["self"] []
 nc:sF K "lengths_now" "Standing.lengths_now" eg a.ez a.eA
 gV:Meth K a.az "lengths_now" a.ez
 iq:Binds K a.eA ["self"] []
 OM:mg "ValueError"=none
 Vc:mg "abs"=none
 G5:mg "all"=none
 RW:mg "bool"=none
 gW:mg "enumerate"=none
 Vd:mg "int"=none
 jO:mg "isinstance"=none
 dR:mg "len"=none
 FY:mg "list"=none
 G6:mg "max"=none
 My:mg "min"=none
 dJ:mg "range"=none
 xZ:mg "sorted"=none
 Ve:mg "sum"=none
 pO:mg "tuple"=none
 P4:mg "zip"=none
 yT:∃t,mg "MOST_POINTS"=some (.int 10 t)
 DJ:∃t,mg "MOST_TIES"=some (.int 24 t)
 Jp:∃t,mg "LONGEST"=some (.int 1000000000000000000000000000000 t)
 Vf:mg "BadWeb"=some (.ref a.Mw)
 Vg:mg "BadSet"=some (.ref a.eK)
 RX:mg "BadPoint"=some (.ref a.FU)
 SQ:mg "NoChord"=some (.ref a.tW)
 Vh:mg "NoBase"=some (.ref a.xU)
 Vi:mg "NoDeed"=some (.ref a.Mx)
 FZ:mg "Standing"=some (.ref a.az)
 aH:Kn K a.az
 na_points:kZ K a.az "points"
 na_standing_ties:kZ K a.az "standing_ties"
 na_next_name:kZ K a.az "next_name"
 na_done:kZ K a.az "done"
 Mz:∀h:Heap,K.In h->h.Ns mainGlobals mg->PyProof.Rows.OwnCls "BadSet" a.eK [.type "ValueError",.type "Exception",.type "BaseException",.type "object"] "ValueError.__new__" mg h
 Jq:∀h:Heap,K.In h->h.Ns mainGlobals mg->PyProof.Rows.OwnCls "NoChord" a.tW [.type "ValueError",.type "Exception",.type "BaseException",.type "object"] "ValueError.__new__" mg h
 MA:∀h:Heap,K.In h->h.Ns mainGlobals mg->PyProof.Rows.OwnCls "NoBase" a.xU [.type "ValueError",.type "Exception",.type "BaseException",.type "object"] "ValueError.__new__" mg h
section
variable {P:Program}{w:World}{K:bE}{mg:nE}{base:Heap}{a:Yt}{x:Str}{st:Stmt}{f c0 p0:Addr}{fd:FuncData}{ps:List Str}
abbrev Ok(_:Txt P w base K mg a)(_:Dn K mg x st f fd ps)(k:Nat)(sp:Sp):=gY P w K mg base vQ k f fd ps sp
abbrev JS(_:Txt P w base K mg a)(_:Dn K mg x st f fd ps)(k:Nat)(sp:Sp):=gY P w K mg base (KO P w) k f fd ps sp
abbrev ZP(_:Txt P w base K mg a)(_:PX K mg x st f fd ps c0 p0)(k:Nat)(sp:Sp):=gY P w K mg base vQ k f fd ps sp
end
def F0:Sp:=λvs H Q _=>∃(S:Int) (k:Nat),vs=[.int S,.int (k:Int)]/\Q (.bl (bit S k)) H
def F1:Sp:=λvs H Q _=>∃m:Nat,vs=[.int (m:Int)]/\Builtin.Int.intBits (m:Int)<=1000/\∀D H',H D=none->au H H'->H' D=some (.lst (aB (bx (m:Int))))->Q (.ref D) H'
def DK:Sp:=λvs H Q _=>∃w p ts,vs=[.ref w]/\bK H w p ts/\M8 p ts/\Q (.int (2^ts.length-1)) H
def Jr:Sp:=λvs H Q _=>∃w p ts S,vs=[.ref w,.int S]/\bK H w p ts/\M8 p ts/\Q (.bl (decide (0<=S/\S<2^ts.length))) H
def qh(ts:List cP)(S:Int)(bad:Prop)(R:Nat->Prop):Prop:=(∃m:Nat,S=(m:Int)/\m<2^ts.length/\R m)\/((S<0\/2^ts.length<=S)/\bad)
def Bx(C:Addr):Sp:=λvs H Q E=>∃w p ts S,vs=[.ref w,.int S]/\bK H w p ts/\M8 p ts/\qh ts S (E (.ref C) none H) λ_=>Q .eF H
def yU(C:Addr):Sp:=λvs H Q E=>∃w p ts S,vs=[.ref w,.int S]/\bK H w p ts/\M8 p ts/\qh ts S (E (.ref C) none H) λm =>
 ∀D ys H',H D=none->au H H'->H' D=some (.lst ys)->Paired (TupAt H') ys ((bx (m:Int)).map (bU ts))->Q (.ref D) H'
def yV(C:Addr):Sp:=λvs H Q E=>∃w p ts S,vs=[.ref w,.int S]/\bK H w p ts/\M8 p ts/\qh ts S (∀H',au H H'->E (.ref C) none H') λm =>
 ∀D H',au H H'->H' D=some (.lst (aB (vZ p ts (m:Int))))->Q (.ref D) H'
def F2(C:Addr):Sp:=λvs H Q E=>∃w p ts S,vs=[.ref w,.int S]/\bK H w p ts/\M8 p ts/\qh ts S (∀H',au H H'->E (.ref C) none H') λm=>∀H',au H H'->Q (.bl (decide (vZ p ts (m:Int)=[]))) H'
section
variable {P:Program}{w:World}{K:bE}{mg:nE}{base:Heap}{a:Yt}(T:Txt P w base K mg a)
def bI:Ok T T.gQ 1 F0:=by
 refine T.gQ.ok Fj λ_ A _ s H vs Q E hr h=>?_
 ·obtain⟨S,k,rfl,q⟩:=h;refine⟨_,(av (aC (dH i8 (aQ Kd (aQ Qz (pv 0) (pv 1)) ak) ak (aM _)))),?_⟩;refine(aq rfl (aq rfl (c6 ⟨(by lia),c6 ⟨rfl,?_⟩⟩)))
  rw[aap,Q9];exact q
def ck:Ok T T.iN 2 F1:=by
 have bI:=bI T;refine T.iN.ok Fl λ_ A _ s H vs Q E hr h=>?_
 ·obtain⟨m,rfl,hm,k⟩:=h;refine⟨_,(av (aC (bW (own:=["tie"]) (fq:=["tie_set"]) (js:=[0]) (aF (aj pC) ["tie_set"]) rfl (cA (by rfl) T.dJ (aa (Ez PySem.F.plainAttrs_int acX acY Gy (pv 0)) af)) (λ_ _ _ _=>(bq 0 (jV ["tie","tie_set"]))) (λ_ _ _ _=>(iU (cg (aE bI hr T.gQ.c aI (aa (pv 1) (aa (pv 0) af)))))) (λ_ _ _ _=>(pv 0))))),?_⟩
  refine(aq rfl ⟨rfl,aq rfl ⟨rfl,aq rfl ⟨(by lia),(by lia),λD I=>dY (lo:=0) (m:=Builtin.Int.intBits (m:Int)) (pQ (bit (m:Int)) H D) (.start I) (λi acc H2 _ p=>p.len) (dl (abu.mpr hm)) ?_ ?_⟩⟩⟩)
  ·intro i acc H2 hi p;rw[abp];refine⟨rfl,aq rfl (aq rfl ⟨(m:Int),i,rfl,aq rfl (?_)⟩)⟩;cases hb:bit (m:Int) i with
   | true=>exact(aq rfl (p.yes I (au.refl _) hb))
   | false=>exact p.no (au.refl _) hb
  ·intro acc H2 p;exact k D H2 I p.1 (by rw[p.2.1,p.2.2];rfl)
def eB:Ok T T.kB 1 DK:=by
 refine T.kB.ok Df λ_ A _ s H vs Q E hr h=>?_
 ·obtain⟨O,p,ts,rfl,hw,W,q⟩:=h;refine⟨_,(av (aC (aQ qm (aQ qo ak (cz K T.dR (aa (aK (c5 K) (pv 0) ak) af))) ak))),?_⟩;obtain⟨b,xs,h1,h2,h3⟩:=hw.ex;have I:=h3.length;have wl:=W.len;refine(aq rfl (cV (aV.of h1) (ao (j:=1) rfl) (uI rfl (.inr (aV.of h2)) (c6 ⟨⟨by lia,by lia,by decide⟩,c6 (?_)⟩))))
  rw[aap,I,Int.one_mul];exact q
def ir:Ok T T.oA 2 Jr:=by
 have eB:=eB T;refine T.oA.ok IJ λ_ A _ s H vs Q E hr h=>?_
 ·obtain⟨O,p,ts,S,rfl,hw,W,q⟩:=h;refine⟨_,(av (aC (qk (dH BX (pv 1) ak (aM _)) (nH (dH Kg (pv 1) (aE eB hr T.kB.c aI (aa (pv 0) af)) (aM _)))))),?_⟩;refine(aq rfl (c6 (aq rfl (qV (λI=>?_) (λI=>?_)))))
  ·have I:0<=S:=kK I;refine(aq rfl (aq rfl ⟨O,p,ts,rfl,hw,W,_,_,rfl,rfl,?_⟩));have e:decide (S<=2^ts.length-1)=decide (0<=S/\S<2^ts.length):=abh.mpr ⟨λz=>⟨I,by lia⟩,λz=>by lia⟩
   rw[<-e]at q;exact q
  ·have I : ¬ 0<=S:=λz=>I (eG z)
   rw[gz (λz=>I z.1)]at q
   exact q
def b7:JS T T.gR 3 (Bx a.eK):=by
 have ir:=ir T;refine T.gR.GB A7 λ_ A _ s H vs Q E hr h=>?_
 ·obtain⟨I,p,ts,S,rfl,hw,W,q⟩:=h;refine⟨_,(av (bC (eW (cg (aE ir hr T.oA.c aI (aa (pv 0) (aa (pv 1) af))))) (av (vX gA.XX rfl (by rfl) T.Mz acr (aa mJ af))) aU)),?_⟩
  refine A8 ?_;intro O;refine(aq rfl (aq rfl ⟨I,p,ts,S,rfl,hw,W,?_⟩));have h2:((2:Int)^ts.length)=((2^ts.length:Nat):Int):=by simp
  rcases q with⟨m,rfl,hm,q⟩|⟨U,q⟩
  ·rw[eG ⟨by lia,by lia⟩]
   exact(aq rfl (cO q))
  ·rw[gz (by lia)]
   exact(aq rfl (fb ⟨dl rfl,q⟩))
def cL:JS T T.ik 4 (yU a.eK):=by
 have b7:=b7 T;have ck:=ck T;refine T.ik.GB yC λ_ A _ s H vs Q E hr h=>?_
 ·obtain⟨wb,p,ts,S,rfl,hw,W,q⟩:=h;refine⟨_,(ai (bF (aE b7 hr T.gR.c gA.passes (aa (pv 0) (aa (pv 1) af))))
   (av (aC (bW (own:=["tie"]) (fq:=["web"]) (js:=[0]) (aF (aj jJ) ["web","tie_set"]) rfl (vt K (aE ck hr T.iN.c aI (aa (pv 1) af))) (λ_ _ _ _=>(bq 0 (jV ["tie","web"]))) (λ_ _ _ _=>bV) (λ_ _ _ _=>(aK (c5 K) (aK (c5 K) (pv 1) ak) (pv 0))))))),?_⟩
  refine iY ?_;intro cy;refine(aq rfl (aq rfl ⟨wb,p,ts,S,rfl,hw,W,?_⟩));rcases q with⟨m,rfl,hm,q⟩|⟨hS,q⟩
  ·refine .inl ⟨m,rfl,hm,?_⟩;have wl:=W.len;have hb:Builtin.Int.intBits (m:Int)<=ts.length:=bits_le hm;refine(aq rfl ⟨m,rfl,by lia,λL H1 _ s1 Z=>⟨L,rfl,⟨_,aO.of Z⟩,λD U=>?_⟩⟩)
   obtain⟨b,xs,h1,h2,h3⟩:=(hw.same s1).ex;have Js:=h3.length;refine bX (xs:=aB (bx (m:Int))) (λi acc H2=>au H1 H2/\H2 D=some (.lst acc)/\Paired (TupAt H2) acc (((bx (m:Int)).take i).map (bU ts))/\acc.length=i) ⟨au.new U,ae,.nil,rfl⟩ ?_ ?_ ?_ ?_
   ·rintro i acc H2 _ ⟨s2,hd,pr,I⟩;exact⟨aO.of (s2 _ _ Z),hd,acj I⟩
   ·rw[aG];refine dl (abu.mpr (aaB (aaI _ _) ?_));rw[aaA]
    lia
   ·rintro i x acc H2 hx ⟨s2,hd,pr,I⟩;obtain⟨k,hk,rfl⟩:=iD hx;have yt:k<ts.length:=vy hm (jY hk);have O:k<xs.length:=by lia
    obtain⟨t,ht,c,hc,Y⟩:=Paired.lQ h3 (i:=k) (x:=xs[k]) (by simp[O])
    have M9:bU ts k=t:=by
     unfold bU;rw[aae,ht];rfl
    refine⟨rfl,aq rfl (cV (aV.of (s2 _ _ h1)) (ao (j:=1) rfl) (aq rfl (cV (v:=xs[k]) (aV.of (s2 _ _ h2)) (ao (j:=k) (by simp[O])) (?_))))⟩
    rw[hc];refine⟨hd,s2.put U,ae,?_,by rw[aaj,aa1,I]⟩
    rw[aaM,hk,aar];refine Paired.snoc (Paired.imp' (λ_ _ z=>z.tups (bH.put hd)) pr) ?_
    rw[M9];exact⟨c,rfl,bH.put hd _ _ (s2 _ _ Y)⟩
   ·rintro acc H2 ⟨s2,hd,pr,I⟩;rw[aG,aaR]at pr;exact q D acc H2 (s1.free U) (s1.trans s2) hd pr
  ·exact .inr ⟨hS,q⟩
def ng:JS T T.m5 5 (yV a.eK):=by
 have cL:=cL T;refine T.m5.GB gi λ_ A _ s H vs Q E hr h=>?_
 ·obtain⟨wb,p,ts,S,rfl,hw,W,q⟩:=h;refine⟨_,(ai (aN (i:=2) gi.nd rfl (Or.inr rfl) (aQ KC (dX (aa ak af)) (aK (c5 K) (pv 0) ak)))
   (ai (qY rfl (vt K (aE cL hr T.ik.c gA.passes (aa (pv 0) (aa (pv 1) af)))) (BO K (n:=3) rfl (aJ (bq 3 gi.nd) (aJ (bq 4 gi.nd) (aJ (bq 5 gi.nd) cJ))))
   (ai (Gg (pv 2) (pv 3) (getL K) ak Gk set_list)
   (av (Gg (pv 2) (pv 4) (getL K) ak Gk set_list))))
   (av (aC (bW (own:=["point"]) (fq:=["ends"]) (js:=[2]) (aF (aj jK) ["web","tie_set","ends","one","other","length"]) rfl (cA (by rfl) T.dJ (aa (aK (c5 K) (pv 0) ak) af)) (λ_ _ _ _=>(bq 0 (jV ["point","ends"]))) (λ_ _ _ _=>(iU (aL i8 (aQ fP (aK (nA K) (pv 1) (pv 0)) ak) ak (aM _)))) (λ_ _ _ _=>(pv 0))))))),?_⟩
  refine yD ?_;intro cy cK dW eY;obtain⟨b,xs,h1,h2,h3⟩:=id hw.ex;have wp:=W.X7;refine⟨dl rfl,λl0 Gw=>?_⟩
  have s0:au H (upd H l0 (.lst [.int 0])):=au.new Gw;refine(aq rfl (cV (aV.of (s0 _ _ h1)) (ao (j:=0) rfl) ⟨l0,(p:Int),aq rfl ⟨rfl,ae,by lia,by lia,(by rw[aap];show 1*p<=sizeLine;exact dl (abu.mpr (by lia))),λe he=>?_⟩⟩))
  have s1:=s0.trans (au.new (o:=.lst (List.replicate (p:Int).toNat [V.int 0]).flatten) he);have U:upd (upd H l0 (.lst [.int 0])) e (.lst (List.replicate (p:Int).toNat [V.int 0]).flatten) e=some (.lst (nM (List.replicate p 0))):=by
   rw[ae,aap,KZ]
  generalize upd (upd H l0 (.lst [.int 0])) e (.lst (List.replicate (p:Int).toNat [V.int 0]).flatten)=H1 at s1 U;have ZQ:H e=none:=s0.free he;refine(aq rfl (aq rfl ⟨wb,p,ts,S,rfl,hw.same s1,W,?_⟩));rcases q with⟨m,rfl,hm,q⟩|⟨hS,q⟩
  ·refine .inl ⟨m,rfl,hm,λL ys H2 ZR s2 hL pr=>⟨L,rfl,⟨_,aO.of hL⟩,?_⟩⟩
   have ab:=s1.trans s2;have ag:e≠L:=aR U ZR;have Vj:ys.length<=24:=by
    rw[pr.length,aaa];have hb:Builtin.Int.intBits (m:Int)<=ts.length:=bits_le hm;have wl:=W.len;have:=aaI (bit (m:Int)) (List.range (Builtin.Int.intBits (m:Int)));rw[aaA]at this;exact aaB this (by lia)
   refine iH (K:=K) (a:=L) (xs:=ys) (λi σ H3=>∃v1 v2 v3,σ=[some (.ref wb),some (.int (m:Int)),some (.ref e),v1,v2,v3]/\(∀x o,H2 x=some o->x≠e->H3 x=some o)/\H3 e=some (.lst (nM ((((bx (m:Int)).map (bU ts)).take i).foldl stepT (List.replicate p 0)))))
    ⟨none,none,none,rfl,λ_ _ z _=>z,s2 _ _ U⟩ (λi σ H3 _ ⟨_,_,_,_,z,_⟩=>aO.of (z _ _ hL (aaE ag))) ?_ ?_
   ·rintro i y D' σ H3 hi ⟨v1,v2,v3,rfl,Y,O⟩;obtain⟨t,ht,c,rfl,hc⟩:=Paired.lQ pr hi;have ar:c≠e:=aP hc (s2 _ _ U) (by intro z;cases z)
    have aw:=Y _ _ hc ar;have ax:t∈ts:=by
     obtain⟨k,hk,rfl⟩:=aas.mp (jY ht);unfold bU;have yt:=vy hm hk;rw[aae];simp[yt]
    obtain⟨a0,a1,b0,b1⟩:=W.X6.ends t ax;obtain⟨t1,t2,t3⟩:=t;dsimp only at a0 a1 b0 b1;obtain⟨j1,rfl⟩:=ab8 a0;obtain⟨j2,rfl⟩:=ab8 b0;generalize Z:(((bx (m:Int)).map (bU ts)).take i).foldl stepT (List.replicate p 0)=EE at O;have ZS:EE.length=p:=by rw[<-Z,sJ,abv]
    have ZT:j1<EE.length:=by lia
    have Na:j2<(bump EE (j1:Int)).length:=by rw[lR];lia
    refine⟨c,_,rfl,aV.of aw,rfl,_,_,rfl,_,_,rfl,_,_,rfl,rfl,?_⟩;refine(aq rfl (aq rfl ⟨e,_,j1,_,rfl,rfl,aO.of O,sL ZT,_,_,rfl,rfl,e,_,_,j1,rfl,rfl,O,AB (by rw[nM,aaa];exact ZT),?_⟩))
    rw[we];refine(aq rfl (aq rfl ⟨e,_,j2,_,rfl,rfl,aO.of ae,sL Na,_,_,rfl,rfl,e,_,_,j2,rfl,rfl,ae,AB (by rw[nM,aaa];exact Na),?_⟩))
    rw[we];refine⟨_,_,_,rfl,λx o z hx=>by rw[ah hx,ah hx];exact Y x o z hx,?_⟩
    rw[ae,aaM,ht,abY,Z];rfl
   ·rintro σ H3 ⟨v1,v2,v3,rfl,Y,O⟩;have aT:wb≠e:=aR h1 ZQ;have oN:au H H3:=λx o z=>Y x o (ab x o z) (aR z ZQ)
    have Z:H3 e=some (.lst (nM (k8 p ts (m:Int)))):=by
     rw[O,acK (by rw[<-pr.length];exact aaf _),zx hm]
    have ZS:(k8 p ts (m:Int)).length=p:=by rw[zx hm,sJ,abv]
    refine(aq rfl (cV (aV.of (oN _ _ h1)) (ao (j:=0) rfl) (aq rfl ⟨(by lia),(by lia),λD hD=>dY (lo:=0) (m:=p) (pQ (λi=>decide ((k8 p ts (m:Int)).getD i 0%2=1)) H3 D) (.start hD) (λi acc H4 _ p=>p.len) (dl (abu.mpr (by lia))) ?_ ?_⟩)))
    ·intro i acc H4 hi I;rw[abp];refine⟨rfl,aq rfl (aq rfl (nC (aO.of (I.1 _ _ Z)) (ao (j:=i) (sL (by rw[ZS];exact hi))) (c6 ⟨(vV rfl),rfl,aq rfl (?_)⟩)))⟩
     rw[NX];cases hb:decide ((k8 p ts (m:Int)).getD i 0%2=1) with
     | true=>exact(aq rfl (I.yes hD (au.refl _) hb))
     | false=>exact I.no (au.refl _) hb
    ·intro acc H4 I;exact q D H4 (oN.trans I.1) (by rw[I.2.1,I.2.2];rfl)
  ·exact .inr ⟨hS,q _ s1⟩
def ug:JS T T.tX 6 (F2 a.eK):=by
 have ng:=ng T;refine T.tX.GB Fp λ_ A _ s H vs Q E hr h=>?_
 ·obtain⟨I,p,ts,S,rfl,hw,W,q⟩:=h;refine⟨_,(av (aC (dH (EB K hr.units) (aE ng hr T.m5.c gA.passes (aa (pv 0) (aa (pv 1) af))) (dX af) (aM _)))),?_⟩;refine(aq rfl (aq rfl ⟨I,p,ts,S,rfl,hw,W,?_⟩));rcases q with⟨m,rfl,hm,q⟩|⟨hS,q⟩
  ·refine .inl ⟨m,rfl,hm,λD H1 s1 O=>⟨dl rfl,λl U=>?_⟩⟩
   have s2:au H1 (upd H1 l (.lst [])):=au.new U;refine⟨_,_,.lst (aO.of (s2 _ _ O)) (lU _),.lst (aO.of ae) .nil,jb _,rfl,?_⟩;rw[NW];exact q _ (s1.trans s2)
  ·exact .inr ⟨hS,q⟩
def MB:Sp:=λvs H Q _=>∃(l:Addr) (L:Nat->Nat) (p u v:Nat),vs=[.ref l,.int (u:Int),.int (v:Int)]/\H l=some (.lst (jc L p))/\p<=10/\u<p/\v<p/\
 ∀D H',H D=none->au H H'->H' D=some (.lst (jc (RM.join L u v) p))->Q (.ref D) H'
def Jt(C:Addr):Sp:=λvs H Q E=>∃w p ts,∃g:aD p ts,∃S,vs=[.ref w,.int S]/\bK H w p ts/\qh ts S (∀H',au H H'->E (.ref C) none H') λm =>
 ∀D ys H',H D=none->au H H'->H' D=some (.lst ys)->Paired (Pn D H H') ys ((fC (bT p ts g m) p).map (pieceOf (bT p ts g m) p))->Q (.ref D) H'
def ON:Sp:=λvs H Q _=>∃w p ts,∃g:aD p ts,vs=[.ref w]/\bK H w p ts/\∀H',au H H'->Q (.int (g.N.aZ.length:Int)) H'
def cQ:Ok T T.fJ 1 MB:=by
 refine T.fJ.ok ic λ_ A _ s H vs Q E hr h=>?_
 ·obtain⟨l,L,p,u,v,rfl,O,hp,Y,Z,q⟩:=h;refine⟨_,(ai (aN (i:=3) ic.nd rfl (Or.inr rfl) (bQ (Ht rfl) (by rfl) T.My PyProof.Rows.boot_min (aa (aK (nA K) (pv 0) (pv 1)) (aa (aK (nA K) (pv 0) (pv 2)) af))))
   (ai (aN (i:=4) ic.nd rfl (Or.inr rfl) (bQ (oY rfl) (by rfl) T.G6 acp (aa (aK (nA K) (pv 0) (pv 1)) (aa (aK (nA K) (pv 0) (pv 2)) af))))
   (av (aC (bW (own:=["least"]) (fq:=["low","high"]) (js:=[3,4]) (aF (aj fE) ["leasts","one","other","low","high"]) rfl (vt K (pv 0)) (λ_ _ _ _=>(bq 0 (jV ["least","low","high"]))) (λ_ _ _ _=>bV) (λ_ _ _ _=>(lO (aL i8 (pv 0) (pv 2) (aM _)) (pv 1) (pv 0)))))))),?_⟩
  refine ie ?_;intro cy cK;refine(aq rfl (aq rfl (nC (aO.of O) (ao (j:=u) (cG Y)) (aq rfl (aq rfl (nC (aO.of O) (ao (j:=v) (cG Z)) ⟨_,_,rfl,?_⟩))))));refine(aq rfl (aq rfl (nC (aO.of O) (ao (j:=u) (cG Y)) (aq rfl (aq rfl (nC (aO.of O) (ao (j:=v) (cG Z)) ⟨_,_,rfl,?_⟩))))));refine(aq rfl ⟨l,rfl,⟨_,aO.of O⟩,λD U=>bX (xs:=jc L p) (AG (RM.join L u v) H D) (.start U) (λi acc H2 _ I=>⟨aO.of (I.1 _ _ O),I.len⟩) (by rw[h8];exact dl (abu.mpr (by lia))) ?_ ?_⟩)
  ·intro i x acc H2 hx I;obtain⟨hi,rfl⟩:=vA hx;refine⟨rfl,aq rfl (aq rfl ⟨rfl,aq rfl (?_)⟩)⟩;rw[GI,o5]
   by_cases hm:L i=max (L u) (L v)
   ·rw[eG hm];refine fb (aq rfl (I.next U (au.refl _) ?_));rw[N3];unfold RM.join;rw[aad hm]
   ·rw[gz hm];refine cO (aq rfl (I.next U (au.refl _) ?_));unfold RM.join;rw[aab hm]
  ·intro acc H2 I;rw[h8]at I;exact q D H2 U I.1 (by rw[I.2.1,I.2.2])
def mD:JS T T.rW 5 (Jt a.eK):=by
 have cL:=cL T;have cQ:=cQ T;refine T.rW.GB gO λ_ A _ s H vs Q E hr h=>?_
 ·obtain⟨wb,p,ts,g,S,rfl,hw,q⟩:=h;refine⟨_,(ai (aN (i:=2) gO.nd rfl (Or.inr rfl) (fk (Pk rfl) (by rfl) T.FY acN (aa (fk Cb (by rfl) T.dJ PyProof.Rows.boot_range (aa (aK (c5 K) (pv 0) ak) af)) af)))
   (ai (qY rfl (vt K (aE cL hr T.ik.c gA.passes (aa (pv 0) (aa (pv 1) af)))) (BO K (n:=3) rfl (aJ (bq 3 gO.nd) (aJ (bq 4 gO.nd) (aJ (bq 5 gO.nd) cJ))))
   (av (aN (i:=2) gO.nd rfl (Or.inr rfl) (aE cQ hr T.fJ.c aI (aa (pv 2) (aa (pv 3) (aa (pv 4) af)))))))
   (ai (aN (i:=6) gO.nd rfl (Or.inl rfl) (dX af))
   (ai (qY rfl (cA (by rfl) T.dJ (aa (aK (c5 K) (pv 0) ak) af)) (vp (i:=7) gO.nd rfl (Or.inr rfl))
   (av (bC (aL i8 (aK (nA K) (pv 2) (pv 7)) (pv 7) (aM _)) (av (bF (G0 K (kM aaL aaT aaU cB (pv 6) (aa (bW (own:=["point"]) (fq:=["leasts","start"]) (js:=[2,7]) (aF (aj rN) ["web","tie_set","leasts","one","other","length","found","start"]) rfl (cA (by rfl) T.dJ (aa (aK (c5 K) (pv 0) ak) af)) (λ_ _ _ _=>(bq 0 (jV ["point","leasts","start"]))) (λ_ _ _ _=>(iU (aL i8 (aK (nA K) (pv 1) (pv 0)) (pv 2) (aM _)))) (λ_ _ _ _=>(pv 0))) af))))) aU)))
   (av (aC (pv 6))))))),?_⟩
  refine IK ?_;intro cy cK dW eY gb kJ uK;obtain⟨b,xs,h1,h2,h3⟩:=id hw.ex;have W:=g.zz;have wp:=W.X7;have wl:=W.len;refine(aq rfl (cV (aV.of h1) (ao (j:=0) rfl) (aq rfl (λr hr=>⟨r,p,rfl,ae,by lia,λl hl=>?_⟩))))
  have s1:au H (upd (upd H r (.Hg 0 (p:Int))) l (.lst (yv p))):=(au.new hr).trans (au.new hl);have Y:upd (upd H r (.Hg 0 (p:Int))) l (.lst (yv p)) l=some (.lst (jc (λx=>x) p)):=ae
  generalize upd (upd H r (.Hg 0 (p:Int))) l (.lst (yv p))=H1 at s1 Y;refine(aq rfl (aq rfl ⟨wb,p,ts,S,rfl,hw.same s1,W,?_⟩));rcases q with⟨m,rfl,hm,q⟩|⟨hS,q⟩
  ·refine .inl ⟨m,rfl,hm,λT0 ys H2 Zx s2 hT pr=>⟨T0,rfl,⟨_,aO.of hT⟩,?_⟩⟩
   have Vj:ys.length<=24:=by
    rw[pr.length,aaa];have hb:Builtin.Int.intBits (m:Int)<=ts.length:=bits_le hm;have:=aaI (bit (m:Int)) (List.range (Builtin.Int.intBits (m:Int)));rw[aaA]at this;exact aaB this (by lia)
   refine iH (K:=K) (a:=T0) (xs:=ys) (λi σ H3=>∃Z v3 v4 v5,σ=[some (.ref wb),some (.int (m:Int)),some (.ref Z),v3,v4,v5,none,none]/\au H2 H3/\H3 Z=some (.lst (jc (uz p ts g ((bx (m:Int)).take i)) p)))
    ⟨l,none,none,none,rfl,au.refl _,s2 _ _ Y⟩ (λi σ H3 _ ⟨_,_,_,_,_,z,_⟩=>aO.of (z _ _ hT)) ?_ ?_
   ·rintro i y D' σ H3 hi ⟨Z,v3,v4,v5,rfl,s3,I⟩;obtain⟨t,ht,c,rfl,hc⟩:=Paired.lQ pr hi;have ab:=s3 _ _ hc;rw[aak]at ht;obtain⟨k,hk,hkt⟩:=uQ.mp ht;have yt:=vy hm (jY hk);have ea:=GF (g:=g) yt;have eb:=GG (g:=g) yt;rw[hkt]at ea eb;have ag:=g.N.al k yt;have ar:=g.N.bl k yt;refine⟨c,_,rfl,aV.of ab,rfl,_,_,rfl,_,_,rfl,_,_,rfl,rfl,?_⟩;refine(aq rfl (aq rfl (aq rfl ⟨Z,uz p ts g ((bx (m:Int)).take i),p,g.N.a k,g.N.b k,?_,I,wp,ag,ar,λD H4 OO s4 hD=>?_⟩)))
    ·rw[<-ea,<-eb];rfl
    ·refine⟨D,_,_,_,rfl,s3.trans s4,?_⟩;rw[hD,aaM,hk];show _=some (HO.lst (jc (uz p ts g ((bx (m:Int)).take i++[k])) p));rw[EH]
   ·rintro σ H3 ⟨Z,v3,v4,v5,rfl,s3,I⟩;have aw:ys.length=(bx (m:Int)).length:=by rw[pr.length,aaa]
    rw[aw,aaR,EI hm]at I;have oN:au H H3:=(s1.trans s2).trans s3;refine⟨dl rfl,λD hD=>?_⟩
    have t0:wB (bT p ts g m) p H3 D 0 (upd H3 D (.lst [])):=wB.start hD;generalize upd H3 D (.lst [])=H4 at t0;refine(aq rfl (cV (aV.of (t0.1 _ _ (oN _ _ h1))) (ao (j:=0) rfl) (aq rfl ⟨(by lia),(by lia),?_⟩)))
    refine mT (lo:=0) (n:=(p:Int).toNat) (λi σ H5=>∃v7,σ=[some (.ref wb),some (.int (m:Int)),some (.ref Z),v3,v4,v5,some (.ref D),v7]/\wB (bT p ts g m) p H3 D i H5) ⟨none,rfl,t0⟩ ?_ ?_
    ·rintro i D' σ H5 hi ⟨v7,rfl,U⟩;rw[aap]at hi;rw[abp];have Vl:=U.1 _ _ I;refine(aq rfl (aq rfl (nC (aO.of Vl) (ao (j:=i) (cG hi)) (aq rfl ⟨rfl,aq rfl (?_)⟩))));rw[o5]
     by_cases hr:bT p ts g m i=i
     ·rw[eG hr];obtain⟨a4,x6⟩:∃ys,H5 D=some (.lst ys):=let⟨_,ys,z,_⟩:=U;⟨ys,z⟩;refine fb (aq rfl ⟨.inl ⟨rfl,_,aO.of x6⟩,aq rfl (cV (aV.of (U.1 _ _ (oN _ _ h1))) (ao (j:=0) rfl) (aq rfl ⟨(by lia),(by lia),λB hB=>dY (lo:=0) (m:=(p:Int).toNat) (pQ (λx=>decide (bT p ts g m x=i)) H5 B) (.start hB) (λi acc H6 _ O=>O.len) (dl (abu.mpr (by lia))) ?_ ?_⟩))⟩)
      ·intro x acc H6 hx O;rw[aap]at hx;rw[abp];refine⟨rfl,aq rfl (aq rfl (nC (aO.of (O.1 _ _ Vl)) (ao (j:=x) (cG hx)) (aq rfl ⟨rfl,aq rfl (?_)⟩)))⟩;rw[o5];cases hb:decide (bT p ts g m x=i) with
       | true=>exact(aq rfl (O.yes hB (au.refl _) hb))
       | false=>exact O.no (au.refl _) hb
      ·intro acc H6 O;have ax:H6 B=some (.lst (aB (pieceOf (bT p ts g m) p i))):=by rw[O.2.1,O.2.2,aap];rfl
       obtain⟨aT,OP,Y,t7⟩:=U.push hD hr O.1 hB ax;exact⟨D,aT,_,rfl,rfl,OP,nN (by lia),aq rfl (t7)⟩
     ·rw[gz hr];exact cO (aq rfl (U.skip hr))
    ·rintro σ H5 ⟨v7,rfl,U⟩;rw[aap]at U;obtain⟨s5,a3,x6,OQ,a5⟩:=U;exact(aq rfl (q D a3 H5 (oN.free hD) (oN.trans s5) x6 (Paired.imp' (λ_ _ ⟨e,he,hn,h0,z⟩=>⟨e,he,hn,oN.free h0,z⟩) OQ)))
  ·exact .inr ⟨hS,q _ s1⟩
def F3:Ok T T.FW 6 ON:=by
 have mD:=mD T;have eB:=eB T;refine T.FW.ok OL λ_ A _ s H vs Q E hr h=>?_
 ·obtain⟨O,p,ts,g,rfl,hw,q⟩:=h;refine⟨_,(av (aC (aQ iz (aQ qm (cz K T.dR (aa (aK (c5 K) (pv 0) ak) af)) (aK (c5 K) (pv 0) ak)) (cz K T.dR (aa (aE mD hr T.rW.c qZ (aa (pv 0) (aa (aE eB hr T.kB.c aI (aa (pv 0) af)) af))) af))))),?_⟩;obtain⟨b,xs,h1,h2,h3⟩:=id hw.ex;have U:=h3.length;have Y:((2:Int)^ts.length-1)=((2^ts.length-1:Nat):Int):=by
   have h:((2:Int)^ts.length)=((2^ts.length:Nat):Int):=by simp
   have:=abt ts.length
   lia
  have I:2^ts.length-1<2^ts.length:=by have:=abt ts.length;lia
  refine(aq rfl (cV (aV.of h1) (ao (j:=1) rfl) (uI rfl (.inr (aV.of h2)) (aq rfl (cV (aV.of h1) (ao (j:=0) rfl) (c6 (?_)))))));refine(aq rfl (aq rfl ⟨O,p,ts,rfl,hw,g.zz,O,p,ts,g,_,rfl,hw,.inl ⟨2^ts.length-1,Y,I,λD ys H' OO s' Z pr=>(uI rfl (.inl (aO.of Z)) (c6 (?_)))⟩⟩))
  have hv:=N2 (g:=g);have hy:ys.length=(fC (bT p ts g (2^ts.length-1)) p).length:=by rw[pr.length,aaa]
  show Q (.int ((xs.length:Int)-(p:Int)+(ys.length:Int))) H';rw[U,hy,hv];exact q H' s'
def F4(C:Addr):Sp:=λvs H Q E=>∃w p ts,∃g:aD p ts,∃S,vs=[.ref w,.int S]/\bK H w p ts/\qh ts S (∀H',au H H'->E (.ref C) none H') λm=>∀H',au H H'->Q (.bl (uB p ts g m)) H'
def uh:JS T T.tY 7 (F4 a.eK):=by
 have ug:=ug T;have mD:=mD T;have ck:=ck T;refine T.tY.GB xD λ_ A _ s H vs Q E hr h=>?_
 ·obtain⟨Z,p,ts,g,S,rfl,hw,q⟩:=h;refine⟨_,(ai (bC (eW (cg (aE ug hr T.tX.c gA.passes (aa (pv 0) (aa (pv 1) af))))) (av (aC gf)) aU)
   (ai (iV (i:=2) xD.nd rfl rfl (own:=["piece"]) (fq:=[]) (js:=[]) (aF (aj pG) ["web","tie_set","touched"]) rfl (vt K (aE mD hr T.rW.c gA.passes (aa (pv 0) (aa (pv 1) af)))) (λ_ _ _ _=>(bq 0 (jV ["piece"]))) (λ_ _ _ _=>(iU (aL pZ (cz K T.dR (aa (pv 0) af)) ak (aM _)))) (λ_ _ _ _=>(pv 0)))
   (av (aC (qk (dH i8 (cz K T.dR (aa (pv 2) af)) ak (aM _)) (nH (dH i8 (cz K T.dR (aa (aK (nA K) (pv 2) ak) af)) (cz K T.dR (aa (aE ck hr T.iN.c aI (aa (pv 1) af)) af)) (aM _)))))))),?_⟩
  refine Fq ?_;intro cy cK dW;have W:=g.zz;have wp:=g.p2;have wl:=g.len;refine(aq rfl (aq rfl ⟨Z,p,ts,S,rfl,hw,W,?_⟩));rcases q with⟨m,rfl,hm,q⟩|⟨hS,q⟩
  ·refine .inl ⟨m,rfl,hm,λH1 s1=>(aq rfl (?_))⟩
   by_cases ev:vZ p ts (m:Int)=[]
   ·rw[eG ev];rw[EN ev]at q;refine cO (aq rfl (aq rfl ⟨Z,p,ts,g,_,rfl,hw.same s1,.inl ⟨m,rfl,hm,λD ys H2 OO s2 hD pr=>⟨D,rfl,⟨_,aO.of hD⟩,λC hC=>?_⟩⟩⟩))
    have Vj:ys.length<=10:=by
     rw[pr.length,aaa];unfold fC;have:=aaI (λx=>decide (bT p ts g m x=x)) (List.range p)
     rw[aaA]at this;exact aaB this wp
    refine bX (xs:=ys) (wK (λl=>decide (1<l.length)) ((fC (bT p ts g m) p).map (pieceOf (bT p ts g m) p)) H2 C) (.start hC) (λi acc H3 _ O=>⟨aO.of (O.1 _ _ hD),O.len⟩) (cZ (by lia)) ?_ ?_
    ·intro i x acc H3 hx O;obtain⟨l,hl,b,rfl,ab,ag,hb⟩:=Paired.lQ pr hx;refine⟨rfl,aq rfl (uI rfl (.inl (aO.of (O.1 _ _ hb))) (c6 (aq rfl (?_))))⟩;cases By:decide (1<l.length) with
     | true =>
       have e:decide ((1:Int)<((aB l).length:Int))=true:=eG (by have:=kK By;rw[aG];lia)
       show if decide ((1:Int)<((aB l).length:Int))=true then _ else _
       rw[e];exact fb (aq rfl (O.yes hC hl By ⟨b,rfl,hb⟩))
     | false =>
       have e:decide ((1:Int)<((aB l).length:Int))=false:=gz (by have:=of_decide_eq_false By;rw[aG];lia)
       show if decide ((1:Int)<((aB l).length:Int))=true then _ else _
       rw[e];exact cO (O.no hl By)
    ·intro acc H3 O;have U:Paired (Rh H2) acc ((eO (bT p ts g m) p).map (pieceOf (bT p ts g m) p)):=by
      have h:=O.2.2;rw[pr.length,aaR,List.filter_map]at h;exact h
     have I:=U.length;rw[aaa]at I;refine(aq rfl (uI rfl (.inl (aO.of O.2.1)) ⟨rfl,aq rfl (?_)⟩));have Y:=(s1.trans s2).trans O.1;have ar:Builtin.Int.intBits (m:Int)<=ts.length:=bits_le hm;generalize eO (bT p ts g m) p=tl at q U I;cases tl with
     | nil =>
       have I:acc.length=0:=I;rw[I];exact cO (q H3 Y)
     | cons s r =>
       cases r with
       | nil =>
         cases U with
         | cons hy pn =>
           cases pn;obtain⟨b,rfl,hb⟩:=hy;refine fb (aq rfl (nC (aO.of O.2.1) (ao (j:=0) rfl) (uI rfl (.inl (aO.of (O.1 _ _ hb))) (aq rfl ⟨m,rfl,by lia,λD4 H4 aw s4 DL=>(uI rfl (.inl (aO.of DL)) ⟨rfl,?_⟩)⟩))))
           rw[aG,aG,o5];exact q H4 (Y.trans s4)
       | cons t r =>
         have I:acc.length=r.length+2:=I;have e:decide (V.int ((acc.length:Nat):Int)=V.int 1)=false:=gz λz=>by
          have:=V.int.inj z
          lia
         rw[e];exact cO (q H3 Y)
   ·rw[gz ev];have er:uB p ts g m=false:=by
     unfold uB;rw[gz ev,ade]
    rw[er]at q;exact fb (q H1 s1)
  ·exact .inr ⟨hS,q⟩
def r6:Sp:=λvs H Q _=>∃w p ts,∃g:aD p ts,∃S:Int,vs=[.ref w,.int S]/\bK H w p ts/\∀H' (d:Bool),au H H'->(d=true↔∃m:Nat,S=(m:Int)/\m<2^ts.length/\g.N.Ring m)->Q (.bl d) H'
def cR:Ok T T.fK 8 r6:=by
 have ir:=ir T;have uh:=uh T;refine T.fK.ok rO λ_ A _ s H vs Q E hr h=>?_
 ·obtain⟨I,p,ts,g,S,rfl,hw,q⟩:=h;refine⟨_,(av (aC (qk (aE ir hr T.oA.c aI (aa (pv 0) (aa (pv 1) af))) (nH (aE uh hr T.tY.c qZ (aa (pv 0) (aa (pv 1) af))))))),?_⟩;have O:((2:Int)^ts.length)=((2^ts.length:Nat):Int):=by simp
  refine(aq rfl (aq rfl ⟨I,p,ts,S,rfl,hw,g.zz,_,rfl,?_⟩))
  by_cases hs:0<=S/\S<2^ts.length
  ·rw[eG hs];obtain⟨m,rfl⟩:=ab8 hs.1;have hm:m<2^ts.length:=by lia
   refine fb (aq rfl (aq rfl ⟨I,p,ts,g,_,rfl,hw,.inl ⟨m,rfl,hm,λH1 s1=>q H1 _ s1 ?_⟩⟩))
   rw[HX g hm];exact⟨λr=>⟨m,rfl,hm,r⟩,λ⟨m',e,_,r⟩=>by
    have:m=m':=by lia
    rw[this];exact r⟩
  ·rw[gz hs];refine cO (q H false (au.refl _) ⟨λz=>(aah z).elim,λ⟨m',e,hm,_⟩=>absurd ⟨by lia,by lia⟩ hs⟩)
def Ju:Sp:=λvs H Q _=>∃w p ts,∃g:aD p ts,vs=[.ref w]/\bK H w p ts/\∀D H',H D=none->au H H'->H' D=some (.lst (jc (g.N.trail ts.length) p))->Q (.ref D) H'
def Jv:Sp:=λvs H Q _=>∃w p ts,∃g:aD p ts,vs=[.ref w]/\bK H w p ts/\∀H',au H H'->Q (.int ((kP p ts g:Nat):Int)) H'
def Jw:Sp:=λvs H Q _=>∃w p ts,∃g:aD p ts,vs=[.ref w]/\bK H w p ts/\∀D H',H D=none->au H H'->H' D=some (.lst (aB g.N.aZ))->Q (.ref D) H'
def x8:Sp:=λvs H Q _=>∃w p ts,∃g:aD p ts,∃(D:Addr) (c:Nat),vs=[.ref w,.ref D,.int (c:Int)]/\bK H w p ts/\H D=some (.lst (jc (g.N.trail ts.length) p))/\c<ts.length/\Q (.int ((g.N.ring c:Nat):Int)) H
def F5{H:Hp}{xs:List V}{p:Nat}{ts:List cP}{g:aD p ts}{k:Nat}(h3:Paired (TupAt H) xs ts)(hk:k<ts.length):∃c,xs[k]?=some (.ref c)/\H c=some (.tup [.int ((g.N.a k:Nat):Int),.int ((g.N.b k:Nat):Int),.int (bU ts k).2.2]):=by
 have I:k<xs.length:=by rw[h3.length];exact hk
 obtain⟨t,ht,c,hc,O⟩:=Paired.lQ h3 (i:=k) (x:=xs[k]) (by simp[I])
 have U:t=bU ts k:=by
  have z:=sM hk;rw[ht]at z;exact Option.some.inj z
 refine⟨c,by rw[<-hc];simp[I],?_⟩
 rw[O,<-GF hk,<-GG hk,U];rfl
def bO:Ok T T.eM 2 Ju:=by
 have cQ:=cQ T;refine T.eM.ok br λ_ A _ s H vs Q E hr h=>?_
 ·obtain⟨wb,p,ts,g,rfl,hw,q⟩:=h;refine⟨_,(ai (aN (i:=1) br.nd rfl (Or.inl rfl) (fk (Pk rfl) (by rfl) T.FY acN (aa (fk Cb (by rfl) T.dJ PyProof.Rows.boot_range (aa (aK (c5 K) (pv 0) ak) af)) af)))
   (ai (aN (i:=2) br.nd rfl (Or.inl rfl) (aQ KC (dX (aa ak af)) (aK (c5 K) (pv 0) ak)))
   (ai (g7 PassesOwn.never rfl (cA (by rfl) T.dJ (aa (cz K T.dR (aa (aK (c5 K) (pv 0) ak) af)) af)) (bq 3 br.nd)
   (ai (aN (i:=4) br.nd rfl (Or.inl rfl) (aK (c5 K) (aK (c5 K) (aK (c5 K) (pv 0) ak) (pv 3)) ak))
   (ai (aN (i:=5) br.nd rfl (Or.inl rfl) (aK (c5 K) (aK (c5 K) (aK (c5 K) (pv 0) ak) (pv 3)) ak))
   (av (bC (aL BW (aK (nA K) (pv 1) (pv 4)) (aK (nA K) (pv 1) (pv 5)) (aM _)) (ai (aN (i:=6) br.nd rfl (Or.inr rfl) (aQ iA (aQ iA (aK (nA K) (pv 2) (pv 4)) (aK (nA K) (pv 2) (pv 5))) (aQ qo ak (pv 3))))
   (ai (aN (i:=7) br.nd rfl (Or.inr rfl) (bQ (oY rfl) (by rfl) T.G6 acp (aa (aK (nA K) (pv 1) (pv 4)) (aa (aK (nA K) (pv 1) (pv 5)) af))))
   (ai (iV (i:=2) br.nd rfl rfl (own:=["trail","least"]) (fq:=["bridge","moved"]) (js:=[6,7]) (aF (aj gn) ["web","leasts","trails","tie","one","other","bridge","moved"]) rfl (KS K (by rfl) T.P4 (aa (pv 2) (aa (pv 1) af))) (λ_ _ _ _=>(BO K (n:=2) rfl (aJ (bq 0 (jV ["trail","least","bridge","moved"])) (aJ (bq 1 (jV ["trail","least","bridge","moved"])) cJ)))) (λ_ _ _ _=>bV) (λ_ _ _ _=>(lO (aL i8 (pv 1) (pv 3) (aM _)) (aQ iA (pv 0) (pv 2)) (pv 0))))
   (av (aN (i:=1) br.nd rfl (Or.inl rfl) (aE cQ hr T.fJ.c aI (aa (pv 1) (aa (pv 4) (aa (pv 5) af))))))))) aU)))))
   (av (aC (pv 2)))))),?_⟩
  refine tu ?_;intro cy cK dW eY gb kJ uK C9 De G4;obtain⟨bt,xs,h1,h2,h3⟩:=id hw.ex;have wp:=g.p2;have wl:=g.len;have Js:=h3.length;refine(aq rfl (cV (aV.of h1) (ao (j:=0) rfl) (aq rfl (λr hr=>⟨r,p,rfl,ae,by lia,λl hl=>?_⟩))))
  have s1:au H (upd (upd H r (.Hg 0 (p:Int))) l (.lst (yv p))):=(au.new hr).trans (au.new hl);have ab:upd (upd H r (.Hg 0 (p:Int))) l (.lst (yv p)) l=some (.lst (jc (g.N.fZ 0) p)):=ae;generalize upd (upd H r (.Hg 0 (p:Int))) l (.lst (yv p))=H1 at s1 ab;refine⟨dl rfl,λl0 Gw=>?_⟩
  have s0:au H1 (upd H1 l0 (.lst [.int 0])):=au.new Gw;refine(aq rfl (cV (aV.of (s0 _ _ (s1 _ _ h1))) (ao (j:=0) rfl) ⟨l0,(p:Int),aq rfl ⟨rfl,ae,by lia,by lia,(by rw[aap];show 1*p<=sizeLine;exact dl (abu.mpr (by lia))),λe he=>?_⟩⟩))
  have s2:=s0.trans (au.new (o:=.lst (List.replicate (p:Int).toNat [V.int 0]).flatten) he);have SD:upd (upd H1 l0 (.lst [.int 0])) e (.lst (List.replicate (p:Int).toNat [V.int 0]).flatten) e=some (.lst (jc (g.N.trail 0) p)):=by
   rw[ae,aap,K6];rfl
  generalize upd (upd H1 l0 (.lst [.int 0])) e (.lst (List.replicate (p:Int).toNat [V.int 0]).flatten)=H2 at s2 SD;refine(aq rfl (cV (aV.of ((s1.trans s2) _ _ h1)) (ao (j:=1) rfl) (uI rfl (.inr (aV.of ((s1.trans s2) _ _ h2))) (aq rfl ⟨(by lia),(by lia),?_⟩))))
  refine mT (lo:=0) (n:=(xs.length:Int).toNat) (λk σ H3=>∃la ta v3 v4 v5 v6 v7,σ=[some (.ref wb),some (.ref la),some (.ref ta),v3,v4,v5,v6,v7]/\au H H3/\H3 la=some (.lst (jc (g.N.fZ k) p))/\H3 ta=some (.lst (jc (g.N.trail k) p))/\H ta=none)
   ⟨l,e,none,none,none,none,none,rfl,s1.trans s2,s2 _ _ ab,SD,s1.free (s0.free he)⟩ ?_ ?_
  ·rintro k D' σ H3 hk ⟨la,ta,v3,v4,v5,v6,v7,rfl,s3,I,Z,SH⟩;rw[aap,Js]at hk;rw[abp];obtain⟨c,ag,ar⟩:=F5 (g:=g) h3 hk;have hA:=g.N.al k hk;have hB:=g.N.bl k hk;have Y:=RM.Cg (N:=g.N) k;have OR:g.N.nQ k = !decide (g.N.fZ k (g.N.a k)=g.N.fZ k (g.N.b k)):=rfl;have U:g.N.trail (k+1)=if g.N.nQ k=true then λv=>if g.N.fZ k v=max (g.N.fZ k (g.N.a k)) (g.N.fZ k (g.N.b k)) then g.N.trail k v^^^(g.N.trail k (g.N.a k)^^^g.N.trail k (g.N.b k)^^^2^k) else g.N.trail k v else g.N.trail k:=rfl
   generalize g.N.a k=A0 at *;generalize g.N.b k=B0 at *;refine(aq rfl (cV (aV.of (s3 _ _ h1)) (ao (j:=1) rfl) (aq rfl (cV (aV.of (s3 _ _ h2)) (ao (j:=k) ag) (cV (aV.of (s3 _ _ ar)) (ao (j:=0) rfl) (?_))))));refine(aq rfl (cV (aV.of (s3 _ _ h1)) (ao (j:=1) rfl) (aq rfl (cV (aV.of (s3 _ _ h2)) (ao (j:=k) ag) (cV (aV.of (s3 _ _ ar)) (ao (j:=1) rfl) (?_))))));refine(aq rfl (aq rfl (nC (aO.of I) (ao (j:=A0) (cG hA)) (aq rfl (aq rfl (nC (aO.of I) (ao (j:=B0) (cG hB)) ⟨rfl,aq rfl (?_)⟩))))));rw[o5]
   by_cases he:g.N.fZ k A0=g.N.fZ k B0
   ·rw[eG he]at OR;rw[OR,aab (by decide)]at Y U
    rw[eG he];exact cO ⟨la,ta,_,_,_,_,_,rfl,s3,by rw[Y];exact I,by rw[U];exact Z,SH⟩
   ·rw[gz he]at OR;rw[OR,aad (by rfl)]at Y U
    rw[gz he];have aw:Builtin.bitXor (Builtin.bitXor ((g.N.trail k A0:Nat):Int) ((g.N.trail k B0:Nat):Int)) (1*2^(k:Int).toNat)=((g.N.trail k A0^^^g.N.trail k B0^^^2^k:Nat):Int):=by
     rw[rA,xor_int,xor_int]
    refine fb (aq rfl (aq rfl (nC (aO.of Z) (ao (j:=A0) (cG hA)) (aq rfl (aq rfl (nC (aO.of Z) (ao (j:=B0) (cG hB)) (c6 (aq rfl (c6 ⟨⟨by lia,by lia,by decide⟩,c6 (?_)⟩)))))))))
    refine(aq rfl (aq rfl (nC (aO.of I) (ao (j:=A0) (cG hA)) (aq rfl (aq rfl (nC (aO.of I) (ao (j:=B0) (cG hB)) ⟨_,_,rfl,?_⟩))))));refine(aq rfl (aq rfl ⟨ta,la,rfl,⟨_,aO.of Z⟩,⟨_,aO.of I⟩,λD hD=>Ca (xs:=jc (g.N.trail k) p) (ys:=jc (g.N.fZ k) p) (by rw[h8,h8]) (AG (g.N.trail (k+1)) H3 D) (.start hD) (λi acc H4 _ O=>⟨aO.of (O.1 _ _ Z),aO.of (O.1 _ _ I),O.len⟩) (by rw[h8];exact dl (abu.mpr (by lia))) ?_ ?_⟩))
    ·intro i x y T0 acc H4 hx hy O hT;obtain⟨hi,rfl⟩:=vA hx;obtain⟨_,rfl⟩:=vA hy;refine⟨T0,_,rfl,aV.of ae,rfl,_,_,rfl,_,_,rfl,rfl,rfl,aq rfl (aq rfl ⟨rfl,aq rfl (?_)⟩)⟩;rw[GI,o5]
     by_cases hm:g.N.fZ k i=max (g.N.fZ k A0) (g.N.fZ k B0)
     ·rw[eG hm];refine fb (aq rfl (aq rfl (c6 (O.next hD (au.new hT) ?_))));show V.int (Builtin.bitXor _ (Builtin.bitXor (Builtin.bitXor _ _) _))=_;rw[aw,xor_int,U];show _=V.int (((if _ then _ else _:Nat)):Int)
      rw[aad hm]
     ·rw[gz hm];refine cO (aq rfl (O.next hD (au.new hT) ?_));rw[U];show _=V.int (((if _ then _ else _:Nat)):Int)
      rw[aab hm]
    ·intro acc H4 O;rw[h8]at O;have DL:H4 D=some (.lst (jc (g.N.trail (k+1)) p)):=by rw[O.2.1,O.2.2]
     refine(aq rfl (aq rfl (aq rfl ⟨la,g.N.fZ k,p,A0,B0,rfl,O.1 _ _ I,wp,hA,hB,λD2 H5 ax s5 lK=>?_⟩)))
     exact⟨D2,D,_,_,_,_,_,rfl,(s3.trans O.1).trans s5,by rw[Y];exact lK,s5 _ _ DL,s3.free hD⟩
  ·rintro σ H3 ⟨la,ta,v3,v4,v5,v6,v7,rfl,s3,I,Z,SH⟩;rw[aap,Js]at Z;exact(aq rfl (q ta H3 SH s3 Z))
def x9:Ok T T.xV 3 Jv:=by
 have bO:=bO T;refine T.xV.ok pF λ_ A _ s H vs Q E hr h=>?_
 ·obtain⟨I,p,ts,g,rfl,hw,q⟩:=h;refine⟨_,(ai (aN (i:=1) pF.nd rfl (Or.inl rfl) ak)
   (ai (g7 PassesOwn.never rfl (vt K (aE bO hr T.eM.c aI (aa (pv 0) af))) (bq 2 pF.nd)
   (av (Ak (i:=1) pF.nd rfl (Or.inl rfl) (pv 2) Ke)))
   (av (aC (pv 1))))),?_⟩
  refine IL ?_;intro U Y Z;refine(aq rfl ⟨I,p,ts,g,rfl,hw,λD H1 OO s1 O=>⟨D,rfl,⟨_,aO.of O⟩,?_⟩⟩)
  refine iH (K:=K) (a:=D) (xs:=jc (g.N.trail ts.length) p) (λi σ H2=>∃v2,σ=[some (.ref I),some (.int ((SG (g.N.trail ts.length) i:Nat):Int)),v2]/\H2=H1) ⟨none,rfl,rfl⟩ (λi σ H2 _ ⟨_,_,z⟩=>by rw[z];exact aO.of O) ?_ ?_
  ·rintro i x D' σ H2 hx ⟨v2,rfl,rfl⟩;obtain⟨hi,rfl⟩:=vA hx;refine(aq rfl (aq rfl (c6 ⟨some (.int ((g.N.trail ts.length i:Nat):Int)),?_,rfl⟩)));show[_,some (V.int (Builtin.bitOr _ _)),_]=_;rw[or_int];rfl
  ·rintro σ H2 ⟨v2,rfl,rfl⟩;rw[h8,EK];exact(aq rfl (q _ s1))
def mE:Ok T T.rX 4 Jw:=by
 have x9:=x9 T;have eB:=eB T;have ck:=ck T;refine T.rX.ok IM λ_ A _ s H vs Q E hr h=>?_
 ·obtain⟨I,p,ts,g,rfl,hw,q⟩:=h;refine⟨_,(av (aC (aE ck hr T.iN.c aI (aa (aQ iA (aE eB hr T.kB.c aI (aa (pv 0) af)) (aE x9 hr T.xV.c aI (aa (pv 0) af))) af)))),?_⟩;have wl:=g.len;refine(aq rfl ⟨I,p,ts,rfl,hw,g.zz,_,rfl,I,p,ts,g,rfl,hw,λH1 s1=>(c6 ⟨(2^ts.length-1)^^^kP p ts g,?_,?_,λD H2 U s2 O=>?_⟩)⟩)
  ·show[V.int (Builtin.bitXor _ _)]=_;rw[N4,xor_int]
  ·exact aaB (bits_le zF) (by lia)
  ·rw[Ck]at O;exact q D H2 (s1.free U) (s1.trans s2) O
def lF:Ok T T.lC 1 x8:=by
 refine T.lC.ok n5 λ_ A _ s H vs Q E hr h=>?_
 ·obtain⟨Z,p,ts,g,D,c,rfl,hw,I,hc,q⟩:=h;refine⟨_,(ai (aN (i:=3) n5.nd rfl (Or.inl rfl) (aK (c5 K) (aK (c5 K) (pv 0) ak) (pv 2)))
   (av (aC (aQ iA (aQ iA (aK (nA K) (pv 1) (aK (c5 K) (pv 3) ak)) (aK (nA K) (pv 1) (aK (c5 K) (pv 3) ak))) (aQ qo ak (pv 2)))))),?_⟩
  refine iY ?_;intro cy;obtain⟨bt,xs,h1,h2,O⟩:=id hw.ex;have wl:=g.len;obtain⟨b,hxc,hct⟩:=F5 (g:=g) O hc;have U:=g.N.al c hc;have Y:=g.N.bl c hc;refine(aq rfl (cV (aV.of h1) (ao (j:=1) rfl) (aq rfl (cV (aV.of h2) (ao (j:=c) hxc) (?_)))));refine(aq rfl (aq rfl (cV (aV.of hct) (ao (j:=0) rfl) (nC (aO.of I) (ao (j:=g.N.a c) (cG U)) (aq rfl (aq rfl (cV (aV.of hct) (ao (j:=1) rfl) (nC (aO.of I) (ao (j:=g.N.b c) (cG Y)) (c6 (aq rfl (c6 ⟨⟨by lia,by lia,by decide⟩,c6 (?_)⟩)))))))))))
  show Q (V.int (Builtin.bitXor (Builtin.bitXor _ _) _)) H;rw[rA,xor_int,xor_int];exact q
def yW(C:Addr):Sp:=λvs H Q E=>∃w p ts,∃g:aD p ts,∃S,vs=[.ref w,.int S]/\bK H w p ts/\
 ((∃c:Nat,S=(c:Int)/\c∈g.N.aZ/\∀H',au H H'->Q (.int ((g.N.ring c:Nat):Int)) H')\/((∀c∈g.N.aZ,S≠((c:Nat):Int))/\∀H',au H H'->E (.ref C) none H'))
def nh:JS T T.m6 5 (yW a.tW):=by
 have mE:=mE T;have bO:=bO T;have lF:=lF T;refine T.m6.GB yE λ_ A _ s H vs Q E hr h=>?_
 ·obtain⟨I,p,ts,g,S,rfl,hw,q⟩:=h;refine⟨_,(ai (bC (aL (QZ K) (pv 1) (aE mE hr T.rX.c aI (aa (pv 0) af)) (by with_unfolding_all rfl)) (av (vX gA.XX rfl (by rfl) T.Jq acr (aa mJ af))) aU)
   (av (aC (aE lF hr T.lC.c aI (aa (pv 0) (aa (aE bO hr T.eM.c aI (aa (pv 0) af)) (aa (pv 1) af))))))),?_⟩
  refine dB ?_;intro cy cK;refine(aq rfl (aq rfl ⟨I,p,ts,g,rfl,hw,λD H1 OO s1 O=>(uI rfl (.inl (aO.of O)) ⟨rfl,sN _,_,rfl,?_⟩)⟩))
  rcases q with⟨c,rfl,hc,q⟩|⟨U,q⟩
  ·rw[wF,eG hc];refine cO (aq rfl (aq rfl ⟨I,p,ts,g,rfl,hw.same s1,λY H2 Z s2 lK=>(aq rfl ⟨I,p,ts,g,Y,c,rfl,hw.same (s1.trans s2),lK,(RM.dZ.mp hc).1,q _ (s1.trans s2)⟩)⟩))
  ·rw[Rf U];exact fb ⟨dl rfl,q _ s1⟩
def Jx:Sp:=λvs H Q _=>∃I O,∃a b:Nat,vs=[.int I,.int O]/\I=(a:Int)/\O=(b:Int)/\Builtin.Int.intBits ((a&&&b:Nat):Int)<=1000/\∀H',au H H'->Q (.int (((bx ((a&&&b:Nat):Int)).length:Nat):Int)) H'
def MC:Sp:=λvs H Q _=>∃I O,∃a b:Nat,vs=[.int I,.int O]/\I=(a:Int)/\O=(b:Int)/\Builtin.Int.intBits ((a&&&b:Nat):Int)<=1000/\∀H',au H H'->Q (.bl (decide ((bx ((a&&&b:Nat):Int)).length%2=1))) H'
structure RY(p:Nat)(xs:List Nat):Prop where
 up:xs.Pairwise (· < ·)
 lt:∀x∈xs,x<p
def F6:Sp:=λvs H Q _=>∃w p ts,∃(l:Addr) (xs:List Nat),vs=[.ref w,.ref l]/\bK H w p ts/\H l=some (.lst (aB xs))/\RY p xs/\Q (.bl true) H
def Jy:Sp:=λvs H Q _=>∃w p ts,∃(l:Addr) (ks:List Nat),vs=[.ref w,.ref l]/\bK H w p ts/\M8 p ts/\H l=some (.lst (aB ks))/\(∀k∈ks,k<ts.length)/\Q (.int ((orM ks:Nat):Int)) H
def Jz:Sp:=λvs H Q _=>∃w p ts,∃g:aD p ts,∃(l:Addr) (xs:List Nat),vs=[.ref w,.ref l]/\bK H w p ts/\H l=some (.lst (aB xs))/\RY p xs/\
 ∀H',au H H'->Q (.int ((g.N.cut (λx=>decide (x∈xs)):Nat):Int)) H'
def DM(p:Nat)(f:Nat->Bool):RY p ((List.range p).filter f):=⟨EJ,λx hx=>aaC.mp (aaK.mp hx).1⟩
def OS(n:Nat):decide (V.int (((n:Nat):Int)%2)=V.int 1)=decide (n%2=1):=abh.mpr ⟨λz=>by have:=V.int.inj z;lia,λz=>aaO V.int (by lia)⟩
def yb:Ok T T.xW 3 Jx:=by
 have ck:=ck T;refine T.xW.ok IP λ_ A _ s H vs Q E hr h=>?_
 ·obtain⟨O,U,u,v,rfl,rfl,rfl,hb,q⟩:=h;refine⟨_,(av (aC (cz K T.dR (aa (aE ck hr T.iN.c aI (aa (aQ Kd (pv 0) (pv 1)) af)) af)))),?_⟩;refine(aq rfl (aq rfl (c6 ⟨u&&&v,?_,hb,λD H1 hn s1 I=>(uI rfl (.inl (aO.of I)) (?_))⟩)))
  ·show[V.int (Builtin.bitAnd _ _)]=_;rw[and_int]
  ·rw[aG];exact q H1 s1
def bB:Ok T T.eT 4 MC:=by
 have yb:=yb T;refine T.eT.ok xF λ_ A _ s H vs Q E hr h=>?_
 ·obtain⟨I,O,u,v,rfl,rfl,rfl,hb,q⟩:=h;refine⟨_,(av (aC (dH i8 (aQ fP (aE yb hr T.xW.c aI (aa (pv 0) (aa (pv 1) af))) ak) ak (aM _)))),?_⟩;refine(aq rfl (aq rfl ⟨_,_,u,v,rfl,rfl,rfl,hb,λH1 s1=>(c6 ⟨(vV rfl),rfl,?_⟩)⟩))
  rw[OS];exact q H1 s1
def um:Ok T T.tZ 1 F6:=by
 refine T.tZ.ok mW λ_ A _ s H vs Q E hr h=>?_
 ·obtain⟨wb,p,ts,l,zs,rfl,hw,Y,Z,q⟩:=h;refine⟨_,(ai (aN (i:=2) mW.nd rfl (Or.inl rfl) (Gj Al ak))
   (ai (g7 PassesOwn.never rfl (vt K (pv 1)) (bq 3 mW.nd)
   (ai (bC (PW.pt (lN (aL Kg (pv 3) (pv 2) (aM _)) (jk (aL BX (pv 3) (aK (c5 K) (pv 0) ak) (aM _))))) (av (aC gf)) aU)
   (av (aN (i:=2) mW.nd rfl (Or.inl rfl) (pv 3)))))
   (av (aC gf)))),?_⟩
  refine Ab ?_;intro cy cK dW eY gb;obtain⟨bt,xs,h1,h2,h3⟩:=id hw.ex;refine(aq rfl (aq rfl ⟨l,rfl,⟨_,aO.of Y⟩,vN (K:=K) (a:=l) (xs:=aB zs) (λi σ H2=>∃z O,σ=[some (.ref wb),some (.ref l),some (.int z),O]/\H2=H/\∀x∈zs.drop i,z<(x:Int)) ⟨_,none,rfl,rfl,λx _=>by show(-1:Int)<_;lia⟩ (λi σ H2 _ ⟨_,_,_,z,_⟩=>by rw[z];exact aO.of Y) ?_ ?_⟩))
  ·rintro i y σ H2 U ⟨z,O,rfl,rfl,hz⟩;obtain⟨x,hx,rfl⟩:=iD U;have I:zs.drop i=x::zs.drop (i+1):=by
    obtain⟨hi,e⟩:=kL.mp hx;rw[List.drop_eq_getElem_cons hi,e]
   have ab:=hz x (by rw[I];exact aaq)
   have ag:=Z.lt x (jY hx);refine(aq rfl (aq rfl (c6 (aq rfl (k7 (by lia) (aq rfl (aq rfl (cV (aV.of h1) (ao (j:=0) rfl) (c6 (aq rfl (k7 (by lia) ?_)))))))))))
   refine(aq rfl ⟨(x:Int),aq rfl ⟨rfl,λy U=>?_⟩⟩)
   have pw:(zs.drop i).Pairwise (· < ·):=Z.up.sublist (List.drop_sublist _ _);rw[I]at pw;have:=(acA.mp pw).1 y U
   lia
  ·rintro σ H2 ⟨z,O,rfl,rfl,_⟩;exact q
def mF:Ok T T.rV 1 Jy:=by
 refine T.rV.ok pD λ_ A _ s H vs Q E hr h=>?_
 ·obtain⟨Y,p,ts,l,ks,rfl,hw,W,U,hk,q⟩:=h;refine⟨_,(ai (aN (i:=2) pD.nd rfl (Or.inl rfl) ak)
   (ai (g7 PassesOwn.never rfl (vt K (pv 1)) (bq 3 pD.nd)
   (ai (bC (PW.pt (lN (aL zf (pv 3) ak (aM _)) (jk (aL BX (pv 3) (cz K T.dR (aa (aK (c5 K) (pv 0) ak) af)) (aM _))))) eN aU)
   (av (Ak (i:=2) pD.nd rfl (Or.inl rfl) (aQ qo ak (pv 3)) Ke))))
   (av (aC (pv 2))))),?_⟩
  refine Ab ?_;intro cy cK dW eY gb;obtain⟨bt,xs,h1,h2,Z⟩:=id hw.ex;have Js:=Z.length;have wl:=W.len;refine(aq rfl ⟨l,rfl,⟨_,aO.of U⟩,vN (K:=K) (a:=l) (xs:=aB ks) (λi σ H2=>∃O,σ=[some (.ref Y),some (.ref l),some (.int ((orM (ks.take i):Nat):Int)),O]/\H2=H) ⟨none,rfl,rfl⟩ (λi σ H2 _ ⟨_,_,z⟩=>by rw[z];exact aO.of U) ?_ ?_⟩)
  ·rintro i x σ H2 hx ⟨O,rfl,rfl⟩;obtain⟨k,I,rfl⟩:=iD hx;have ab:=hk k (jY I);refine(aq rfl (c6 (aq rfl (k7 (by lia) (aq rfl (aq rfl (cV (aV.of h1) (ao (j:=1) rfl) (uI rfl (.inr (aV.of h2)) (c6 (aq rfl (k7 (by lia) ?_)))))))))))
   refine(aq rfl (aq rfl (c6 ⟨⟨by lia,by lia,by decide⟩,c6 ⟨some (.int (k:Int)),?_,rfl⟩⟩)))
   show[_,_,some (V.int (Builtin.bitOr _ (1*2^(k:Int).toNat))),_]=_;rw[rA,or_int,aaM,I];unfold Ring.orM;rw[abY];rfl
  ·rintro σ H2 ⟨O,rfl,rfl⟩;rw[aG,aaR];exact(aq rfl (q))
def yc:Ok T T.xX 2 Jz:=by
 have um:=um T;have mF:=mF T;refine T.xX.ok IQ λ_ A _ s H vs Q E hr h=>?_
 ·obtain⟨wb,p,ts,g,l,zs,rfl,hw,hl,sd,q⟩:=h;refine⟨_,(ai (bC (eW (cg (aE um hr T.tZ.c aI (aa (pv 0) (aa (pv 1) af))))) eN aU)
   (av (aC (aE mF hr T.rV.c aI (aa (pv 0) (aa (bW (own:=["k","tie"]) (fq:=["side"]) (js:=[1]) (aF (aj rP) ["web","side"]) rfl (wL K (by rfl) T.gW (aa (aK (c5 K) (pv 0) ak) af)) (λ_ _ _ _=>(BO K (n:=2) rfl (aJ (bq 0 (jV ["k","tie","side"])) (aJ (bq 1 (jV ["k","tie","side"])) cJ)))) (λ_ _ _ _=>(iU (aL BW (dH (Zs K) (aK (c5 K) (pv 1) ak) (pv 2) (by with_unfolding_all rfl)) (dH (Zs K) (aK (c5 K) (pv 1) ak) (pv 2) (by with_unfolding_all rfl)) (aM _)))) (λ_ _ _ _=>(pv 0))) af)))))),?_⟩
  refine dB ?_;intro cy cK;obtain⟨bt,xs,h1,h2,h3⟩:=id hw.ex;have Js:=h3.length;have wl:=g.len;refine(aq rfl (aq rfl ⟨wb,p,ts,l,zs,rfl,hw,hl,sd,_,rfl,cO ?_⟩));refine(aq rfl (aq rfl (cV (aV.of h1) (ao (j:=1) rfl) ⟨bt,rfl,⟨_,aV.of h2⟩,λD Z=>ET (xs:=xs) (pQ (λk=>decide (g.N.a k∈zs)^^decide (g.N.b k∈zs)) H D) (.start Z) (λi acc H2 _ I=>⟨aV.of (I.1 _ _ h2),I.len⟩) (cZ (by lia)) ?_ ?_⟩)))
  ·intro i x T0 acc H2 hx I O;have hi:i<ts.length:=by have:=(kL.mp hx).1;lia
   obtain⟨b,U,ab⟩:=F5 (g:=g) h3 hi;rw[hx]at U;cases U;have Vm:upd H2 T0 (.tup [.int (i:Int),.ref b]) b=some _:=au.new O _ _ (I.1 _ _ ab);have Y:upd H2 T0 (.tup [.int (i:Int),.ref b]) l=some _:=au.new O _ _ (I.1 _ _ hl);refine⟨T0,_,rfl,aV.of ae,rfl,_,_,rfl,_,_,rfl,rfl,rfl,?_⟩;refine(aq rfl (cV (aV.of Vm) (ao (j:=0) rfl) (aq rfl (uI rfl (.inl (aO.of Y)) ⟨rfl,sN _,_,rfl,cV (aV.of Vm) (ao (j:=1) rfl) (aq rfl (uI rfl (.inl (aO.of Y)) ⟨rfl,sN _,rfl,aq rfl (?_)⟩))⟩))));rw[wF,wF];cases e1:decide (g.N.a i∈zs)<;>cases e2:decide (g.N.b i∈zs)
   ·exact I.no (au.new O) (by rw[e1,e2];rfl)
   ·exact(aq rfl (I.yes Z (au.new O) (by rw[e1,e2];rfl)))
   ·exact(aq rfl (I.yes Z (au.new O) (by rw[e1,e2];rfl)))
   ·exact I.no (au.new O) (by rw[e1,e2];rfl)
  ·intro acc H2 I;refine⟨wb,p,ts,D,_,rfl,hw.same I.1,g.zz,by rw[I.2.1,I.2.2],λk hk=>?_,?_⟩
   ·have:=aaC.mp (aaK.mp hk).1
    lia
   ·rw[EU,Js];exact q H2 I.1
def uM(p:Nat)(ts:List cP)(g:aD p ts)(m:Nat):List Nat:=(List.range p).filter λx=>g.N.par (g.N.trail ts.length x) m
def Told(p:Nat)(ts:List cP)(g:aD p ts)(m:Nat)(H H' : Hp)(t:Addr):Prop :=
 (m=g.N.cut (λx=>decide (x∈uM p ts g m))/\∃l,H l=none/\H' t=some (.tup [.str "side",.ref l])/\H' l=some (.lst (aB (uM p ts g m))))\/
 (∃c,c∈g.N.aZ/\g.N.par (g.N.ring c) m=true/\H' t=some (.tup [.str "ring",.int ((g.N.ring c:Nat):Int)]))
def F8(C:Addr):Sp:=λvs H Q E=>∃w p ts,∃g:aD p ts,∃S,vs=[.ref w,.int S]/\bK H w p ts/\qh ts S (E (.ref C) none H) λm=>∀t H',H t=none->au H H'->Told p ts g m H H' t->Q (.ref t) H'
def DN{p:Nat}{ts:List cP}{g:aD p ts}{m:Nat}:g.N.cut (λx=>decide (x∈uM p ts g m))=g.N.cut λx=>g.N.par (g.N.trail g.N.n x) m:=RM.Ia λx hx=>by
 unfold uM;rw[aa4,decide_eq_true_eq,aaK,aaC];exact⟨λz=>z.2,λz=>⟨hx,z⟩⟩
def F9{m:Nat}(h:m≠0):∃c,(bx (m:Int))[0]?=some c/\m.testBit c=true:=by
 obtain⟨k,hk⟩:=abi h;have hm:k∈bx (m:Int):=by
  unfold bx;refine aaK.mpr ⟨aaC.mpr (Nat.lt_of_not_le λz=>?_),by rw[iW];exact hk⟩
  have:=Ce z;rw[iW,hk]at this;cases this
 cases e:bx (m:Int) with
 | nil =>
   rw[e]at hm;cases hm
 | cons c r =>
   have hc:c∈bx (m:Int):=by rw[e];exact aaq
   unfold bx at hc;have:=(aaK.mp hc).2;rw[iW]at this;exact⟨c,rfl,this⟩
def jf{u v:Nat}(h:u^^^v=0):u=v:=by
 have:=aaO (λx=>x^^^v) h
 simpa[aa9]using this
def MD(n:Nat):decide (V.int ((n:Nat):Int)=V.int 0)=decide (n=0):=abh.mpr ⟨λz=>by have:=V.int.inj z;lia,λz=>by rw[z];rfl⟩
def uo:JS T T.ua 6 (F8 a.eK):=by
 have b7:=b7 T;have bO:=bO T;have bB:=bB T;have yc:=yc T;have ck:=ck T;have nh:=nh T;refine T.ua.GB mX λ_ A _ s H vs Q E hr h=>?_
 ·obtain⟨O,p,ts,g,S,rfl,hw,q⟩:=h;refine⟨_,(ai (bF (aE b7 hr T.gR.c gA.passes (aa (pv 0) (aa (pv 1) af))))
   (ai (aN (i:=2) mX.nd rfl (Or.inr rfl) (aE bO hr T.eM.c aI (aa (pv 0) af)))
   (ai (iV (i:=3) mX.nd rfl rfl (own:=["point"]) (fq:=["tie_set","trails"]) (js:=[1,2]) (aF (aj pH) ["web","tie_set","trails","side","amiss"]) rfl (cA (by rfl) T.dJ (aa (aK (c5 K) (pv 0) ak) af)) (λ_ _ _ _=>(bq 0 (jV ["point","tie_set","trails"]))) (λ_ _ _ _=>(iU (cg (aE bB hr T.eT.c aI (aa (aK (nA K) (pv 2) (pv 0)) (aa (pv 1) af)))))) (λ_ _ _ _=>(pv 0)))
   (ai (aN (i:=4) mX.nd rfl (Or.inl rfl) (aQ iA (pv 1) (aE yc hr T.xX.c aI (aa (pv 0) (aa (pv 3) af)))))
   (ai (bC (aL i8 (pv 4) ak (aM _)) (av (aC (cE (aa mJ (aa (pv 3) af))))) aU)
   (av (aC (cE (aa mJ (aa (aE nh hr T.m6.c gA.passes (aa (pv 0) (aa (aK (nA K) (aE ck hr T.iN.c aI (aa (pv 4) af)) ak) af))) af)))))))))),?_⟩
  refine Ft ?_;intro cy cK dW eY gb kJ;obtain⟨bt,xs,h1,h2,h3⟩:=id hw.ex;have wl:=g.len;have wp:=g.p2;have W:=g.zz;rcases q with⟨m,rfl,hm,q⟩|⟨hS,q⟩
  case inr=>exact(aq rfl (aq rfl ⟨O,p,ts,_,rfl,hw,W,.inr ⟨hS,q⟩⟩))
  refine(aq rfl (aq rfl ⟨O,p,ts,_,rfl,hw,W,.inl ⟨m,rfl,hm,?_⟩⟩));refine(aq rfl ⟨O,p,ts,g,rfl,hw,λD H1 ar s1 hD=>?_⟩)
  refine(aq rfl (cV (aV.of (s1 _ _ h1)) (ao (j:=0) rfl) (aq rfl ⟨(by lia),(by lia),λC hC=>dY (lo:=0) (m:=(p:Int).toNat) (pQ (λx=>g.N.par (g.N.trail ts.length x) m) H1 C) (.start hC) (λi acc H2 _ I=>I.len) (cZ (by lia)) ?_ ?_⟩)))
  ·intro i acc H2 hi I;rw[aap]at hi;rw[abp];have yd:Builtin.Int.intBits ((g.N.trail ts.length i&&&m:Nat):Int)<=1000:=aaB (bits_le (acf _ hm)) (by lia)
   refine⟨rfl,aq rfl (aq rfl (nC (aO.of (I.1 _ _ hD)) (ao (j:=i) (cG hi)) (aq rfl ⟨_,_,g.N.trail ts.length i,m,rfl,rfl,rfl,yd,λH3 s3=>(aq rfl (?_))⟩)))⟩
   rw[AO (g:=g) hm];cases hb:g.N.par (g.N.trail ts.length i) m with
   | true=>exact(aq rfl (I.yes hC s3 hb))
   | false=>exact I.no s3 hb
  ·intro acc H2 I;have ZU:H2 C=some (.lst (aB (uM p ts g m))):=by rw[I.2.1,I.2.2,aap];rfl
   have U:=s1.trans I.1;refine(aq rfl (aq rfl (aq rfl ⟨O,p,ts,g,C,_,rfl,hw.same U,ZU,DM p _,λH3 s3=>(c6 (?_))⟩)))
   have Z:=U.trans s3;dsimp only;rw[xor_int,DN];have ac:=λk=>RM.Cp (N:=g.N) (m:=m) (k:=k) hm
   have Y:(m^^^g.N.cut λx=>g.N.par (g.N.trail g.N.n x) m)<2^ts.length:=aa2 hm (RM.Rj _)
   have hz:(m^^^g.N.cut λx=>g.N.par (g.N.trail g.N.n x) m)=0->m=g.N.cut (λx=>decide (x∈uM p ts g m)):=λz=>by rw[DN];exact jf z
   generalize (m^^^g.N.cut λx=>g.N.par (g.N.trail g.N.n x) m)=A at ac Y hz
   refine(aq rfl ⟨rfl,aq rfl (?_)⟩);rw[MD]
   by_cases hA:A=0
   ·rw[eG hA];refine fb (aq rfl ⟨dl rfl,λt ht=>q t _ (Z.free ht) (Z.trans (au.new ht)) (.inl ⟨hz hA,C,s1.free hC,ae,au.new ht _ _ (s3 _ _ ZU)⟩)⟩)
   ·rw[gz hA];obtain⟨c,ab,ag⟩:=F9 hA;obtain⟨hcn,hcf,hcp⟩:=ac c ag;refine cO (aq rfl (aq rfl ⟨A,rfl,aaB (bits_le Y) (by lia),λD4 H4 aw s4 DL=>(nC (aO.of DL) (ao (j:=0) (N5 ab)) ⟨O,p,ts,g,_,rfl,hw.same (Z.trans s4),.inl ⟨c,rfl,RM.dZ.mpr ⟨hcn,hcf⟩,λH5 s5=>⟨dl rfl,λt ht=>?_⟩⟩⟩)⟩))
    have Vn:=(Z.trans s4).trans s5;exact q t _ (Vn.free ht) (Vn.trans (au.new ht)) (.inr ⟨c,RM.dZ.mpr ⟨hcn,hcf⟩,hcp,ae⟩)
def BA(C:Addr):Sp:=λvs H Q E=>∃w p ts S,vs=[.ref w,.int S]/\bK H w p ts/\M8 p ts/\qh ts S (∀H',au H H'->E (.ref C) none H') λm=>∀H',au H H'->Q (.int (lenOf ts m)) H'
def b8:JS T T.gU 5 (BA a.eK):=by
 have cL:=cL T;refine T.gU.GB A9 λ_ A _ s H vs Q E hr h=>?_
 ·obtain⟨Y,p,ts,S,rfl,hw,W,q⟩:=h;refine⟨_,(av (aC (bQ (sumK K rfl) (by rfl) T.Ve PyProof.Rows.boot_sum (aa (bW (own:=["tie"]) (fq:=[]) (js:=[]) (aF (aj kU) ["web","tie_set"]) rfl (vt K (aE cL hr T.ik.c gA.passes (aa (pv 0) (aa (pv 1) af)))) (λ_ _ _ _=>(bq 0 (jV ["tie"]))) (λ_ _ _ _=>bV) (λ_ _ _ _=>(aK (c5 K) (pv 0) ak))) af)))),?_⟩
  refine(aq rfl (aq rfl ⟨Y,p,ts,S,rfl,hw,W,?_⟩));rcases q with⟨m,rfl,hm,q⟩|⟨Z,q⟩
  ·refine .inl ⟨m,rfl,hm,λL ys H1 ZR s1 I pr=>⟨L,rfl,⟨_,aO.of I⟩,λD O=>?_⟩⟩
   have wl:=W.len;have U:ys.length=(bx (m:Int)).length:=by rw[pr.length,aaa]
   have Yu:ys.length<=24:=by
    rw[U];have hb:Builtin.Int.intBits (m:Int)<=ts.length:=bits_le hm;have:=aaI (bit (m:Int)) (List.range (Builtin.Int.intBits (m:Int)));rw[aaA]at this;exact aaB this (by lia)
   refine bX (xs:=ys) (yw (λk=>(bU ts k).2.2) (bx (m:Int)) H1 D) (.start O) (λi acc H2 _ pm=>⟨aO.of (pm.1 _ _ I),pm.len⟩) (cZ Yu) ?_ ?_
   ·intro i x acc H2 hx pm;obtain⟨t,ht,c,rfl,hc⟩:=Paired.lQ pr hx;rw[aak]at ht;obtain⟨k,hk,rfl⟩:=uQ.mp ht;exact⟨rfl,aq rfl (cV (aV.of (pm.1 _ _ hc)) (ao (j:=2) rfl) (pm.next O (au.refl _) hk rfl))⟩
   ·intro acc H2 pm;rw[U]at pm;exact⟨D,_,rfl,aO.of pm.fin,q H2 (s1.trans pm.1)⟩
  ·exact .inr ⟨Z,q _ (au.refl _)⟩
def jE(ts:List cP)(x y:Nat):Prop:=lenOf ts x<lenOf ts y\/(lenOf ts x=lenOf ts y/\x<=y)
def ME(t:Addr)(lp:Pos):Sp:=λvs H Q _=>∃w p ts,∃g:aD p ts,∃(l:Addr) (ms:List Nat),vs=[.ref w,.ref l]/\bK H w p ts/\H l=some (.lst (aB ms))/\ms.length<64/\(∀m∈ms,m<2^ts.length)/\H t=some (.jj (dG (kI "by_length") lp))/\
 ∀D I H',H D=none->au H H'->H' D=some (.lst (aB I))->I.Perm ms->I.Pairwise (jE ts)->Q (.ref D) H'
def MF:∀{l:List Int},(∀x∈l,0<=x)->∃ms:List Nat,l=ms.map (λx=>((x:Nat):Int))
 | [],_=>⟨[],rfl⟩
 | x::r,h=>by
   obtain⟨ms,e⟩:=MF (l:=r) λy I=>h y (pP _ I)
   have hx:=h x aaq;refine⟨x.toNat::ms,?_⟩;rw[aay,<-e]
   congr 1
   lia
def gX:ZP T T.jh 9 (ME a.cN cu):=by
 have b8:=b8 T;refine T.jh.ok Ba λA _ s H vs Q E hr h=>?_
 ·obtain⟨wb,p,ts,g,l,ms,rfl,hw,hl,U,I,Y,q⟩:=h;refine⟨_,(av (aC (Mb (x:="ring") (fq:=["web"]) (js:=[0]) hr (aF (aj kW) ["web","rings"]) rfl (by rfl) T.xZ rfl T.jh.F.hd (aa (pv 1) af) (λ_ _ _ _ hr=>(cE (aa (aE b8 hr T.gU.c qZ (aa (pv 1) (aa (pv 0) af))) (aa (pv 0) af))))))),?_⟩
  have W:=g.zz;have wl:=g.len;have big:(2:Nat)^ts.length<=2^24:=abN (by decide) wl
  have Z:∀n,n∈ms.map (λx=>((x:Nat):Int))->∃m:Nat,n=(m:Int)/\m∈ms:=λn hn=>by
   obtain⟨m,hm,rfl⟩:=aas.mp hn;exact⟨m,rfl,hm⟩
  refine(aq rfl ⟨l,ms.map (λx=>((x:Nat):Int)),λz=>(lenOf ts z.toNat,z),rfl,by rw[<-gC];exact hl,by rw[aaa];exact U,λn hn=>?_,Y,λH3 hk n hn=>?_,λD ab H4 hD s4 DL hp hs=>?_⟩)
  ·obtain⟨m,rfl,hm⟩:=Z n hn;have:=I m hm;exact⟨by show(0:Int)<=(m:Int);lia,by show(m:Int)<1073741824;lia⟩
  ·obtain⟨m,rfl,hm⟩:=Z n hn;have tp:bH H H3:=λb xs e=>hk b _ e (λy z=>nomatch z) (λy z=>nomatch z)
   refine(aq rfl (aq rfl ⟨wb,p,ts,_,rfl,hw.tups tp,W,.inl ⟨m,rfl,I m hm,λH4 s4=>(aq rfl ⟨dl rfl,λd hd=>?_⟩)⟩⟩))
   exact⟨s4.trans (au.new hd),d,rfl,ae⟩
  ·obtain⟨O,rfl⟩:∃O : List Nat,ab = O.map (λx=>((x:Nat):Int)):=by
    refine MF λx hx=>?_
    obtain⟨m,rfl,_⟩:=Z x (hp.mem_iff.mp hx)
    lia
   have Vo:O.Perm ms:=by
    have:=hp.map Int.toNat;rw[aa7,aa7]at this;have e:∀l:List Nat,l.map (Int.toNat∘λx=>((x:Nat):Int))=l:=λl=>by
     induction l with
     | nil=>rfl
     | cons x r ih=>rw[aay,ih];rfl
    rw[e,e]at this;exact this
   refine q D O H4 hD s4 (by rw[gC];exact DL) Vo ?_
   rw[abP]at hs;refine ab5 (λ{x y} hx hy h=>?_) hs
   have hx:=I x (Vo.mem_iff.mp hx);have hy:=I y (Vo.mem_iff.mp hy);have h:lenOf ts x*1073741824+(x:Int)<=lenOf ts y*1073741824+(y:Int):=h;unfold jE
   lia
def MG:Sp:=λvs H Q _=>∃w p ts,∃g:aD p ts,∃m:Nat,vs=[.ref w,.int (m:Int)]/\bK H w p ts/\m<2^ts.length/\
 ∀D es S H',es.length=p->ID m H D es S H'->PR g.N ts.length S->Q (.ref D) H'
def R0{b:Bool}{σ:St}{f:VK}{H:Hp}(h:f (.int (b.toNat:Int)) H):if b=true then tC (.int 1) σ H f else tC (.int 0) σ H f:=by
 cases b<;>exact h
def iQ:Ok T T.iO 2 MG:=by
 have bI:=bI T;refine T.iO.ok dm λ_ A _ s H vs Q E hr h=>?_
 ·obtain⟨wb,p,ts,g,m,rfl,hw,hm,q⟩:=h;refine⟨_,(ai (iV (i:=2) dm.nd rfl rfl (own:=["point"]) (fq:=[]) (js:=[]) (aF (aj fF) ["web","marks","steps","tie","ends","turn"]) rfl (cA (by rfl) T.dJ (aa (aK (c5 K) (pv 0) ak) af)) (λ_ _ _ _=>(bq 0 (jV ["point"]))) (λ_ _ _ _=>bV) (λ_ _ _ _=>(dX af)))
   (ai (g7 PassesOwn.never rfl (wL K (by rfl) T.gW (aa (aK (c5 K) (pv 0) ak) af)) (BO K (n:=2) rfl (aJ (bq 3 dm.nd) (aJ (bq 4 dm.nd) cJ)))
   (ai (aN (i:=5) dm.nd rfl (Or.inl rfl) (lO (cg (aE bI hr T.gQ.c aI (aa (pv 1) (aa (pv 3) af)))) ak ak))
   (ai (bF (G0 K (kM aaL aaT aaU cB (aK (nA K) (pv 2) (aK (c5 K) (pv 4) ak)) (aa (cE (aa (pv 3) (aa (aK (c5 K) (pv 4) ak) (aa (pv 5) af)))) af))))
   (av (bF (G0 K (kM aaL aaT aaU cB (aK (nA K) (pv 2) (aK (c5 K) (pv 4) ak)) (aa (cE (aa (pv 3) (aa (aK (c5 K) (pv 4) ak) (aa (pv 5) af)))) af))))))))
   (av (aC (pv 2))))),?_⟩
  refine rQ ?_;intro cy cK dW eY gb;obtain⟨bt,xs,h1,h2,h3⟩:=id hw.ex;have Js:=h3.length;have wp:=g.p2;have wl:=g.len;refine(aq rfl (cV (aV.of h1) (ao (j:=0) rfl) (aq rfl ⟨(by lia),(by lia),λD hD=>dY (lo:=0) (m:=p) (PN m H D) (.start hD) (λi acc H2 _ z=>z.len) (dl (abu.mpr (by lia))) ?_ ?_⟩)))
  ·rintro i acc H2 hi f2;exact⟨rfl,dl rfl,λl hl=>f2.next hl⟩
  rintro acc H2 ⟨es,rfl,U,f2⟩;refine(aq rfl (cV (aV.of (f2.same _ _ h1)) (ao (j:=1) rfl) ⟨bt,rfl,⟨_,aV.of (f2.same _ _ h2)⟩,?_⟩));refine zT (K:=K) (a:=bt) (xs:=xs) (λk σ H3=>∃Y v4 Z,σ=[some (.ref wb),some (.int (m:Int)),some (.ref D),Y,v4,Z]/\∃S,ID m H D es S H3/\PR g.N k S) ⟨none,none,none,rfl,_,f2,PR.start⟩ (λk σ H3 _ ⟨_,_,_,_,_,z,_⟩=>aV.of (z.same _ _ h2)) ?_ ?_
  ·rintro k x T0 σ H3 hk ⟨Y,v4,Z,rfl,S,f3,I⟩ hT;have ar:k<xs.length:=(kL.mp hk).1;have yt:k<ts.length:=by lia
   obtain⟨ct,ex,O⟩:=Ls (g:=g) h3 yt;rw[hk]at ex;cases ex;have s4:au H3 (upd H3 T0 (.tup [.int (k:Int),.ref ct])):=au.new hT;have M6:upd H3 T0 (.tup [.int (k:Int),.ref ct]) T0=some (.tup [.int (k:Int),.ref ct]):=ae;have f4:=f3.go s4;generalize upd H3 T0 (.tup [.int (k:Int),.ref ct])=H4 at f4 M6;refine⟨T0,_,rfl,aV.of M6,rfl,_,_,rfl,_,_,rfl,rfl,?_⟩;refine(aq rfl (aq rfl ⟨(m:Int),k,rfl,aq rfl (?_)⟩));rw[iW];have ha:g.N.a k<p:=g.N.al k yt;have hb:g.N.b k<p:=g.N.bl k yt;have R1:=f4.same _ _ O;refine R0 ?_;obtain⟨b1,Yv,e1,e1',hb1,q1⟩:=f4.get (i:=g.N.a k) (by lia)
   refine(aq rfl (aq rfl (cV (aV.of R1) (ao (j:=0) rfl) (nC (aO.of f4.lst) (ao e1) (?_)))));have l1:Yv.length<=2*k:=by rw[q1.length];exact I.len _
   refine⟨.inl ⟨rfl,_,aO.of hb1⟩,aq rfl (aq rfl (cV (aV.of R1) (ao (j:=1) rfl) (aq rfl ⟨dl rfl,λt1 uN=>?_⟩)))⟩
   have s5:au H4 (upd H4 t1 (.tup [.int (k:Int),.int (g.N.b k:Int),.int ((m.testBit k).toNat:Int)])):=au.new uN;have u5:kj m (upd H4 t1 (.tup [.int (k:Int),.int (g.N.b k:Int),.int ((m.testBit k).toNat:Int)])) t1 (k,g.N.b k):=ae;have f5:=f4.go s5;have WH:=s5 _ _ hb1;have aw:=s5 _ _ R1;have q5:Paired (kj m (upd H4 t1 (.tup [.int (k:Int),.int (g.N.b k:Int),.int ((m.testBit k).toNat:Int)]))) Yv (S (g.N.a k)):=Paired.Ah q1 λ_ _ z=>s5 _ _ z
   refine⟨b1,_,_,rfl,rfl,WH,nN (by rw[aaa];lia),?_⟩
   have f6:=f5.put e1' WH q5 u5;have R3:=f6.same _ _ O;generalize upd (upd H4 t1 (.tup [.int (k:Int),.int (g.N.b k:Int),.int ((m.testBit k).toNat:Int)])) b1 (.lst (Yv.map V.ref++[.ref t1]))=H6 at f6 R3;obtain⟨b2,ab,e2,ag,By,q2⟩:=f6.get (i:=g.N.b k) (by lia)
   refine(aq rfl (aq rfl (cV (aV.of R3) (ao (j:=1) rfl) (nC (aO.of f6.lst) (ao e2) (?_)))));have l2:ab.length<=2*k+1:=by
    rw[q2.length];unfold xq;have:=I.len (g.N.b k)
    split
    ·rw[aaj,aa1];lia
    ·lia
   refine⟨.inl ⟨rfl,_,aO.of By⟩,aq rfl (aq rfl (cV (aV.of R3) (ao (j:=0) rfl) (aq rfl ⟨dl rfl,λt2 uO=>?_⟩)))⟩
   have s7:au H6 (upd H6 t2 (.tup [.int (k:Int),.int (g.N.a k:Int),.int ((m.testBit k).toNat:Int)])):=au.new uO;have u7:kj m (upd H6 t2 (.tup [.int (k:Int),.int (g.N.a k:Int),.int ((m.testBit k).toNat:Int)])) t2 (k,g.N.a k):=ae;have f7:=f6.go s7;have SR:=s7 _ _ By;refine⟨b2,_,_,rfl,rfl,SR,nN (by rw[aaa];lia),?_⟩
   exact⟨_,_,_,rfl,_,f7.put ag SR (Paired.Ah q2 λ_ _ z=>s7 _ _ z) u7,I.next⟩
  ·rintro σ H3 ⟨Y,v4,Z,rfl,S,f3,I⟩;refine(aq rfl (q D es S H3 U f3 ?_));rw[<-Js];exact I
def lG(p:Nat)(N:RM.Net)(L:Nat->Int)(m u:Nat)(D:Addr)(F:RM.OW)(H0 H:Hp):Prop:=∃es:List Addr,es.length=p/\H D=some (.lst (es.map V.ref))/\
 (∀(i:Nat) b,es[i]?=some b->∃v0 v1,H b=some (.lst [v0,v1])/\wV H (F i false) v0/\wV H (F i true) v1)/\(∀x s,RM.uT N L m u x s ((F x s).map (·.1)))/\(∀x s d,F x s=some d->RM.Wz N L m u x s d.1 d.2)/\(∀b∈es,H0 b=none)/\RM.Fx N L m u F
def OT(a b:Bool):Builtin.bitXor ((a.toNat:Nat):Int) ((b.toNat:Nat):Int)=(((a^^b).toNat:Nat):Int):=by
 cases a<;>cases b<;>decide
def yX(t:Addr)(lp:Pos):Sp:=λvs H Q _=>∃w p ts,∃g:aD p ts,∃(m u:Nat),vs=[.ref w,.int (m:Int),.int (u:Int)]/\bK H w p ts/\m<2^ts.length/\u<p/\H t=some (.jj (dG (kI "least_ways") lp))/\
 ∀D F H',H D=none->au H H'->lG p g.N (bg ts) m u D F H H'->Q (.ref D) H'
def ni:ZP T T.jN 5 (yX a.bN bA):=by
 have iQ:=iQ T;refine T.jN.ok bM λA _ s H vs Q E hr h=>?_
 ·obtain⟨wb,p,ts,g,m,u,rfl,hw,hm,hu,ba,q⟩:=h;refine⟨_,(ai (aN (i:=3) bM.nd rfl (Or.inl rfl) (aE iQ hr T.iO.c aI (aa (pv 0) (aa (pv 1) af))))
   (ai (iV (i:=4) bM.nd rfl rfl (own:=["point"]) (fq:=[]) (js:=[]) (aF (aj ig) ["web","marks","start","steps","found","waiting","nearest","way","tie","point","turn","part","further"]) rfl (cA (by rfl) T.dJ (aa (aK (c5 K) (pv 0) ak) af)) (λ_ _ _ _=>(bq 0 (jV ["point"]))) (λ_ _ _ _=>bV) (λ_ _ _ _=>(dX (aa iw (aa iw af)))))
   (ai (aN (i:=5) bM.nd rfl (Or.inr rfl) (LW (by exact qU hr) (cE (aa (pv 2) (aa ak af))) (cE (aa ak (aa ak af)))))
   (ai (BV PassesOwn.never (aL pZ (bQ Yi (by rfl) T.dR PySem.boot_len (aa (pv 5) af)) ak (aM _)) (ai (aN (i:=6) bM.nd rfl (Or.inl rfl) (OD (x:="place") (fq:=["waiting"]) (js:=[5]) hr (aF (aj ig) ["web","marks","start","steps","found","waiting","nearest","way","tie","point","turn","part","further"]) rfl (by rfl) T.My rfl T.jN.F.hd (aa (pv 5) af) (λ_ _ _ _ hr=>(GP (by exact qU hr) (pv 1) (pv 0) (λ_ _=>rfl)))))
   (ai (aN (i:=7) bM.nd rfl (Or.inl rfl) (LV (by exact qU hr) (pv 5) (pv 6) ⟨rfl,rfl,rfl,rfl⟩))
   (ai (JZ (pv 7) (Qv (aK (nA K) (pv 4) (aK (c5 K) (pv 6) ak)) (aK (c5 K) (pv 6) ak) set_list))
   (av (g7 PassesOwn.never rfl (vt K (aK (nA K) (pv 3) (aK (c5 K) (pv 6) ak))) (BO K (n:=3) rfl (aJ (bq 8 bM.nd) (aJ (bq 9 bM.nd) (aJ (bq 10 bM.nd) cJ))))
   (ai (aN (i:=11) bM.nd rfl (Or.inl rfl) (aQ iA (aK (c5 K) (pv 6) ak) (pv 10)))
   (ai (aN (i:=12) bM.nd rfl (Or.inl rfl) (cE (aa (aQ iz (aK (c5 K) (pv 7) ak) (aK (c5 K) (aK (c5 K) (aK (c5 K) (pv 0) ak) (pv 8)) ak)) (aa (aQ iA (aK (c5 K) (pv 7) ak) (aQ qo ak (pv 8))) af))))
   (av (bC (PW.pt (Ed (aL nJ (aK (nA K) (aK (nA K) (pv 4) (pv 9)) (pv 11)) iw (aM _)) (Aj (aL (RL hr.Es) (pv 12) (Ll (by exact qU hr) (pv 5) (cE (aa (pv 9) (aa (pv 11) af))) (pv 12) ⟨rfl,rfl,rfl,rfl⟩) (aM _))))) (av (AR (by exact qU hr) (pv 5) (cE (aa (pv 9) (aa (pv 11) af))) (pv 12) rfl)) aU))))))))))
   (av (aC (pv 4))))))),?_⟩
  refine yF ?_;intro cy cK dW eY gb kJ uK C9 De G4 Dg Dh;obtain⟨bt,xs,h1,h2,h3⟩:=id hw.ex;have Js:=h3.length;have wp:=g.p2;have wl:=g.len;refine(aq rfl (aq rfl ⟨wb,p,ts,g,m,rfl,hw,hm,λDs dr S H1 dq f1 k1=>?_⟩))
  have s1:=f1.same;refine(aq rfl (cV (aV.of (s1 _ _ h1)) (ao (j:=0) rfl) (aq rfl ⟨(by lia),(by lia),λD hD=>dY (lo:=0) (m:=p) (CH H1 D) (.start hD) (λi acc H2 _ z=>z.len) (dl (abu.mpr (by lia))) ?_ ?_⟩)))
  ·rintro i acc H2 hi f2;exact⟨rfl,dl rfl,λl Y=>f2.next Y⟩
  rintro acc H2 ⟨es,rfl,bb,f2⟩;refine λwd ZV=>(aq rfl ⟨dl rfl,λt1 uN=>⟨dl rfl,λt2 uO=>?_⟩⟩)
  have ZW:au (upd H2 wd (.dT [])) (upd (upd H2 wd (.dT [])) t1 (.tup [.int (u:Int),.int 0])):=au.new uN;have Yw:au (upd (upd H2 wd (.dT [])) t1 (.tup [.int (u:Int),.int 0])) (upd (upd (upd H2 wd (.dT [])) t1 (.tup [.int (u:Int),.int 0])) t2 (.tup [.int 0,.int 0])):=au.new uO;have f3:=((f2.go (au.new ZV (o:=.dT []))).go ZW).go Yw;have w3:=Yw _ _ (ZW _ _ (ae (H:=H2) (a:=wd) (o:=.dT [])));have u3:=Yw _ _ (ae (H:=upd H2 wd (.dT [])) (a:=t1) (o:=.tup [.int (u:Int),.int 0]));have v3:(upd (upd (upd H2 wd (.dT [])) t1 (.tup [.int (u:Int),.int 0])) t2 (.tup [.int 0,.int 0])) t2=some (.tup [.int 0,.int 0]):=ae;generalize upd (upd (upd H2 wd (.dT [])) t1 (.tup [.int (u:Int),.int 0])) t2 (.tup [.int 0,.int 0])=H3 at f3 w3 u3 v3;refine⟨t1,ky u false,rfl,u3,w3,?_⟩;have bc:=xo.start f3 hu w3 (f2.same.free ZV) v3;have Yx:=s1 _ _ ba;have hL:∀k,k<g.N.n->0<=bg ts k:=l9 g;have OU:∀k,k<g.N.n->0<bg ts k:=λk hk=>by
   have:=(g.wg _ (fB hk)).l0;unfold bg
   lia
  refine⟨λn σ H4=>∃v6 v7 v8 v9 v10 v11 P6,σ=[some (.ref wb),some (.int (m:Int)),some (.int (u:Int)),some (.ref Ds),some (.ref D),some (.ref wd),v6,v7,v8,v9,v10,v11,P6]/\∃kvs F W,xo p H1 D wd es kvs F W H4/\RM.Dx g.N (bg ts) m u F W none (λ_ _=>False)/\n=RM.left F p,⟨_,none,none,none,none,none,none,none,rfl,_,_,_,bc,RM.Dx.start,rfl⟩,?_⟩
  rintro n σ H4 ⟨v6,v7,v8,v9,v10,v11,P6,rfl,kvs,F,W,lw,dj,rfl⟩;refine(aq rfl ⟨wd,kvs,rfl,.inl lw.dt,_,_,rfl,rfl,aq rfl (qV (λhlen=>?_) (λhlen=>?_))⟩)
  case refine_2 =>
   have Y : ¬(0:Int)<(kvs.length:Int):=λz=>hlen (eG z)
   have e:kvs=[]:=ac9 (by lia)
   subst e;have hW:∀x s,W x s=none:=λx s=>by
    rcases lw.val x s with⟨z,_⟩|⟨_,_,_,z,_⟩
    ·exact z
    ·rw[wM]at z;cases z
   exact(aq rfl (q D F H4 (s1.free lw.Dn) (s1.trans lw.same) ⟨es,bb,lw.lst,lw.at_,dj.dj.best hW,dj.dj.fw,λb hb=>s1.free (lw.fr b hb),dj.fin OU hu hW⟩))
  have hlen:(0:Int)<(kvs.length:Int):=kK hlen;refine⟨λσ' H'=>∃v6 v7 v8 v9 v10 v11 P6,σ' = [some (.ref wb),some (.int (m:Int)),some (.int (u:Int)),some (.ref Ds),some (.ref D),some (.ref wd),v6,v7,v8,v9,v10,v11,P6]/\∃O F' W',xo p H1 D wd es O F' W' H'/\RM.Dx g.N (bg ts) m u F' W' none (λ_ _=>False)/\RM.left F' p<RM.left F p,λσ' H' ⟨a6,a7,a8,a9,Yy,Yz,YA,e,O,F',W',b1,b2,b3⟩=>⟨_,b3,a6,a7,a8,a9,Yy,Yz,YA,e,O,F',W',b1,b2,rfl⟩,?_⟩
  refine(aq rfl ⟨wd,kvs,L3 W kvs,rfl,lw.dt,(by lia),lw.same _ _ Yx,λob H5 Iw bo i kv b ag hb=>?_,λi kv b H5 ag ar s5 hb=>?_⟩)
  ·obtain⟨x,t,d,c,hx,ek,Vp,YB,_,hc,YC⟩:=lw.entry ag;have bp:c≠wd:=aP hc lw.dt (by intro z;cases z)
   refine(aq rfl (aq rfl ⟨wd,.ref c,rfl,.inr ⟨kvs,ky x t,b,.inr ⟨ob,bo⟩,rfl,by rw[<-ek];exact hb,YB.symm⟩,au.refl _,c,rfl,?_⟩))
   rw[YC];exact aV.of (Iw c _ hc bp (by intro y z;cases z) (by intro y z;cases z))
  obtain⟨x,t,d,c,hx,ek,Vp,YB,_,hc,YC⟩:=lw.entry ag;rw[ek]at hb;have bD:∀y t' d',W y t' = some d'->d.1<=d'.1:=λy t' d' bP=>by
   obtain⟨j,ZH,hj,_,ej⟩:=lw.find bP;have:=ar j (kL.mp hj).1;rw[ej,YC]at this;exact A3 this
  have Z:=lw.go s5;have aw:=s5 _ _ hc;have hF:F x t=none:=dj.dj.dj x t d Vp;refine(aq rfl ⟨wd,rfl,.inr ⟨kvs,.inl Z.dt⟩,aq rfl ⟨kvs,ky x t,b,.ref c,Z.dt,rfl,hb,YB,?_⟩⟩);obtain⟨rb,r0,r1,er,bR,ab,du,dv⟩:=Z.row (i:=x) (by lia)
  have bw:b≠wd:=aP hb Z.dt (by intro z;cases z)
  have b4:rb≠wd:=aP ab Z.dt (by intro z;cases z)
  have ZX:upd H5 wd (.dT (bL kvs (ky x t))) b=some (.tup [.int (x:Int),.int (t.toNat:Int)]):=by rw[ah bw];exact hb
  have OP:upd H5 wd (.dT (bL kvs (ky x t))) D=some (.lst (es.map V.ref)):=by rw[ah (aaE Z.wD)];exact Z.lst
  have b5:upd H5 wd (.dT (bL kvs (ky x t))) rb=some (.lst [r0,r1]):=by rw[ah b4];exact ab
  refine(aq rfl (aq rfl (aq rfl (cV (aV.of ZX) (ao (j:=0) rfl) (nC (aO.of OP) (ao er) (aq rfl (cV (aV.of ZX) (ao (j:=1) rfl) ⟨rb,_,_,t.toNat,rfl,rfl,b5,AB (n:=2) (j:=t.toNat) (by cases t<;>decide),?_⟩)))))))
  have SS:=Z.take Vp aw bR ab;have YD:=dj.pop Vp bD;have b6:0<=d.1:=by
   obtain⟨pre,w0⟩:=dj.dj.ww x t d Vp;exact(RM.l8 hL hu w0).2.2.2.2.2
  have ax:RM.left (RM.ki F x t d) p<RM.left F p:=RM.CY hF hx;have ZY:bH H5 (upd (upd H5 wd (.dT (bL kvs (ky x t)))) rb (.lst (([r0,r1]:List V).set t.toNat (.ref c)))):=λz ys e=>by
   rw[ah (aP e ab (by intro z;cases z)),ah (aP e Z.dt (by intro z;cases z))]
   exact e
  have SR:=ZY _ _ hb;have OX:=ZY _ _ aw;generalize upd (upd H5 wd (.dT (bL kvs (ky x t)))) rb (.lst (([r0,r1]:List V).set t.toNat (.ref c)))=H7 at SS SR OX;generalize RM.A2 W x t=W7 at SS YD;have WI:RM.ki F x t d x t=some d:=RM.b9 _ _ _ _;generalize RM.ki F x t d=F7 at SS YD ax WI;obtain⟨sb,cs,cb,dy,UO,YE⟩:=f1.get (i:=x) (by lia)
  have dA:=k1.len x;refine(aq rfl (aq rfl (cV (aV.of SR) (ao (j:=0) rfl) (nC (aO.of (SS.same _ _ f1.lst)) (ao cb) ⟨sb,rfl,⟨_,aO.of (SS.same _ _ UO)⟩,?_⟩))));refine iH (K:=K) (a:=sb) (xs:=cs.map V.ref) (λj σ U=>∃v8 v9 v10 v11 P6,σ=[some (.ref wb),some (.int (m:Int)),some (.int (u:Int)),some (.ref Ds),some (.ref D),some (.ref wd),some (.ref b),some (.ref c),v8,v9,v10,v11,P6]/\bH H7 U/\∃BB W8,xo p H1 D wd es BB F7 W8 U/\RM.Dx g.N (bg ts) m u F7 W8 (some (x,t)) (λk y=>∃I,I<j/\(S x)[I]?=some (k,y)))
   ⟨_,_,_,_,_,rfl,(au.refl _).tups,_,_,SS,?_⟩ (λj σ U _ ⟨_,_,_,_,_,_,_,_,_,z,_⟩=>aO.of (z.same _ _ UO)) ?_ ?_
  ·exact YD.less λk y ⟨I,h0,_⟩=>absurd h0 (abf _)
  ·rintro j y cn σ U hj ⟨v8,v9,v10,v11,P6,rfl,WJ,BB,W8,R4,Vq⟩;obtain⟨cc,aT,rfl⟩:∃cc,cs[j]?=some cc/\y = .ref cc:=by
    rw[aak]at hj;obtain⟨cc,h1,h2⟩:=uQ.mp hj;exact⟨cc,h1,h2.symm⟩
   have LK:j<(S x).length:=by rw[<-YE.length];exact(kL.mp aT).1
   have eS:(S x)[j]?=some (S x)[j]:=aam LK;have ZZ:=L2.iG YE aT eS;generalize dC:(S x)[j]=kw at eS ZZ;obtain⟨k,y⟩:=kw;have a3:=(k1.mem x (k,y)).mp (jY eS);obtain⟨hk,D9⟩:=a3;have hk:k<ts.length:=hk;have D9:RM.Jn g.N k x y:=D9;have hy:y<p:=D9.lt hk;have YF:=R4.same _ _ ZZ;have YF:U cc=some (.tup [.int (k:Int),.int (y:Int),.int ((m.testBit k).toNat:Int)]):=YF;refine⟨cc,_,rfl,aV.of YF,rfl,_,_,rfl,_,_,rfl,_,_,rfl,rfl,?_⟩;have cp:=WJ _ _ SR;have Z0:=WJ _ _ OX;refine(aq rfl (cV (aV.of cp) (ao (j:=1) rfl) (aq rfl (c6 (?_)))));dsimp only;rw[OT];obtain⟨ct,ex,hct⟩:=Ls (g:=g) h3 hk;have cq:=R4.same _ _ (s1 _ _ h1);have cv:=R4.same _ _ (s1 _ _ h2);have YG:=R4.same _ _ (s1 _ _ hct);refine(aq rfl (cV (aV.of Z0) (ao (j:=0) rfl) (aq rfl (cV (aV.of cq) (ao (j:=1) rfl) (aq rfl (cV (aV.of cv) (ao (j:=k) ex) (cV (aV.of YG) (ao (j:=2) rfl) (?_))))))));refine(c6 (aq rfl (cV (aV.of Z0) (ao (j:=1) rfl) (aq rfl (c6 ⟨⟨by lia,by lia,by decide⟩,c6 ⟨dl rfl,λf hf=>?_⟩⟩)))))
   have ef:Builtin.bitXor ((d.2:Nat):Int) (1*2^((k:Nat):Int).toNat)=((d.2^^^2^k:Nat):Int):=by
    rw[aap,Int.one_mul,show((2:Int)^k)=((2^k:Nat):Int) by simp]
    exact xor_int _ _
   dsimp only;rw[ef];have s9:au U (upd U f (.tup [.int (d.1+(bU ts k).2.2),.int ((d.2^^^2^k:Nat):Int)])):=au.new hf;have Z1:upd U f (.tup [.int (d.1+(bU ts k).2.2),.int ((d.2^^^2^k:Nat):Int)]) f=some (.tup [.int (d.1+bg ts k),.int ((d.2^^^2^k:Nat):Int)]):=ae;have SV:=R4.go s9;have YH:bH H7 (upd U f (.tup [.int (d.1+(bU ts k).2.2),.int ((d.2^^^2^k:Nat):Int)])):=λz ys e=>s9 _ _ (WJ _ _ e)
   generalize upd U f (.tup [.int (d.1+(bU ts k).2.2),.int ((d.2^^^2^k:Nat):Int)])=H9 at SV Z1 YH;obtain⟨dE,q0,q1,cw,dV,YI,wI,c1⟩:=SV.row (i:=y) (by lia)
   obtain⟨vv,c3,SW⟩:∃vv,([q0,q1]:List V)[(t^^m.testBit k).toNat]?=some vv/\wV H9 (F7 y (t^^m.testBit k)) vv:=by
    cases(t^^m.testBit k) with
    | false=>exact⟨q0,rfl,wI⟩
    | true=>exact⟨q1,rfl,c1⟩
   have Lk:=hL k hk;refine(aq rfl (aq rfl (nC (aO.of SV.lst) (ao cw) (aq rfl (nC (aO.of YI) (ao c3) (?_))))));refine⟨rfl,aq rfl (?_)⟩;have dn:∀{G7:Nat->Nat->Prop} {Wx:RM.OW},RM.Dx g.N (bg ts) m u F7 Wx (some (x,t)) (λk' y'=>(∃I,I<j/\(S x)[I]?=some (k',y'))\/(k' = k/\y' = y))->
    RM.Dx g.N (bg ts) m u F7 Wx (some (x,t)) (λk' y'=>∃I,I<j+1/\(S x)[I]?=some (k',y')):=λ{G7 Wx} h =>
    h.less λk' y' ⟨I,h0,h5⟩=>by
     by_cases ej:I = j
     ·subst ej;rw[eS]at h5;cases h5;exact .inr ⟨rfl,rfl⟩
     ·exact .inl ⟨I,by lia,h5⟩
   cases WK:F7 y (t^^m.testBit k) with
   | some d2 =>
     rw[WK]at SW;obtain⟨c2,rfl,a4⟩:=SW;refine k7 (λz=>nomatch z) ?_
     exact⟨_,_,_,_,_,rfl,YH,BB,W8,SV,dn (G7:=λ_ _=>False) (Vq.skip WI (OU k hk) (.inl WK))⟩
   | none =>
     rw[WK]at SW;have SW:vv = .eF:=SW;subst SW;refine HH rfl ?_;refine(aq rfl (aq rfl ⟨wd,rfl,.inr ⟨BB,.inl SV.dt⟩,aq rfl (aq rfl ⟨dl rfl,λt3 c4=>?_⟩)⟩))
     have YJ:au H9 (upd H9 t3 (.tup [.int (y:Int),.int ((t^^m.testBit k).toNat:Int)])):=au.new c4;have Vr:upd H9 t3 (.tup [.int (y:Int),.int ((t^^m.testBit k).toNat:Int)]) t3=some (.tup ((ky y (t^^m.testBit k)).map kV)):=ae;have JA:=SV.go YJ;have MH:=YJ _ _ Z1;have R5:bH H7 (upd H9 t3 (.tup [.int (y:Int),.int ((t^^m.testBit k).toNat:Int)])):=λz ys e=>YJ _ _ (YH _ _ e)
     generalize upd H9 t3 (.tup [.int (y:Int),.int ((t^^m.testBit k).toNat:Int)])=H10 at JA MH Vr R5;refine(aq rfl ⟨dF BB (ky y (t^^m.testBit k)),.inr ⟨BB,ky y (t^^m.testBit k),t3,.inl JA.dt,rfl,Vr,rfl⟩,?_⟩);have Z2:=JA.len;have put:(∀d',W8 y (t^^m.testBit k)=some d'->RM.lx (RM.stp (bg ts) d k) d')->cK cn [some (.ref wb),some (.int (m:Int)),some (.int (u:Int)),some (.ref Ds),some (.ref D),some (.ref wd),some (.ref b),some (.ref c),some (.int (k:Int)),some (.int (y:Int)),some (.int ((m.testBit k).toNat:Int)),some (.int ((t^^m.testBit k).toNat:Int)),some (.ref f)] H10:=λhle=>by
      refine(aq rfl (aq rfl (aq rfl (aq rfl ⟨dl rfl,λt4 YK=>?_⟩))))
      have YL:au H10 (upd H10 t4 (.tup [.int (y:Int),.int ((t^^m.testBit k).toNat:Int)])):=au.new YK;have YM:upd H10 t4 (.tup [.int (y:Int),.int ((t^^m.testBit k).toNat:Int)]) t4=some (.tup ((ky y (t^^m.testBit k)).map kV)):=ae;have R6:=JA.go YL;have YN:=YL _ _ MH;refine⟨wd,_,rfl,AQ.t R6.dt YM (bS (by lia)),?_⟩
      have YO:=R6.wait (x:=y) (s:=(t^^m.testBit k)) (d:=(d.1+bg ts k,d.2^^^2^k)) hy YN;refine⟨_,_,_,_,_,rfl,λz ys e=>?_,_,_,YO,dn (G7:=λ_ _=>False) (Vq.put WI b6 hk (OU k hk) D9 WK hle)⟩
      have Z3:=YL _ _ (R5 _ _ e);rw[ah (aP Z3 R6.dt (by intro z;cases z))]
      exact Z3
     rcases JA.val y (t^^m.testBit k) with⟨da,dd⟩|⟨d2,c2,Z4,de,a4⟩
     ·rw[dd];refine⟨f,f,_,_,_,_,rfl,rfl,aV.of MH,aV.of MH,_,rfl,qV (λ_=>put λd' e=>by rw[da]at e;cases e) λz=>absurd ((HT.AZ _ _ _ _).mpr (.inr ⟨rfl,abF _⟩)) z⟩
     ·rw[de];refine⟨f,c2,_,_,_,_,rfl,rfl,aV.of MH,aV.of a4,_,rfl,qV (λY=>?_) (λY=>?_)⟩
      ·have Y:=(HT.AZ _ _ _ _).mp Y;refine put λd' e=>?_
       rw[Z4]at e;cases e;unfold RM.lx RM.stp;simp only
       lia
      ·have Y:=λz=>Y ((HT.AZ _ _ _ _).mpr z)
       refine⟨_,_,_,_,_,rfl,R5,BB,W8,JA,dn (G7:=λ_ _=>False) (Vq.skip WI (OU k hk) (.inr ⟨Z4,?_⟩))⟩
       have h6 : ¬ d.1+bg ts k<d2.1:=λz=>Y (.inl z)
       have h7 : ¬(d.1+bg ts k=d2.1/\((d.2^^^2^k:Nat):Int)<=(d2.2:Int)):=λz=>Y (.inr z)
       unfold RM.lx RM.stp;simp only
       lia
  ·rintro σ U ⟨v8,v9,v10,v11,P6,rfl,WJ,BB,W8,R4,Vq⟩;refine⟨_,_,_,_,_,_,_,rfl,BB,F7,W8,R4,Vq.all λk y hk D9=>?_,ax⟩
   have df:=(k1.mem x (k,y)).mpr ⟨hk,D9⟩;obtain⟨I,a5⟩:=aaN df;have YQ:=(kL.mp a5).1;exact⟨I,by rw[aaa,YE.length];exact YQ,a5⟩
def JB:Sp:=λvs H Q _=>∃v o,vs=[v]/\wV H o v/\Q (oV (o.map (·.1))) H
abbrev yY(F:RM.OW):Nat->Bool->Option Int:=λx s=>(F x s).map (·.1)
def DO:Sp:=λvs H Q _=>∃(D:Addr) (es:List Addr) (F:RM.OW),vs=[.ref D]/\H D=some (.lst (es.map V.ref))/\es.length<=900/\(∀(i:Nat) b,es[i]?=some b->∃v0 v1,H b=some (.lst [v0,v1])/\wV H (F i false) v0/\wV H (F i true) v1)/\
 ∀b ys H',au H H'->H' b=some (.tup ys)->Paired (iF H') ys (mh (yY F) es.length)->Q (.ref b) H'
def gx:Ok T T.gv 1 JB:=by
 refine T.gv.ok tD λ_ A _ s H vs Q E hr h=>?_
 ·obtain⟨v,o,rfl,I,q⟩:=h;refine⟨_,(av (aC (lO (aL nJ (pv 0) iw (aM _)) iw (aK (c5 K) (pv 0) ak)))),?_⟩;cases o with
  | none =>
    have I:v = .eF:=I;subst I;exact(aq rfl ⟨rfl,aq rfl (HH rfl q)⟩)
  | some d =>
    obtain⟨c,rfl,hc⟩:=I;exact(aq rfl ⟨rfl,aq rfl (k7 (λz=>nomatch z) (aq rfl (cV (aV.of hc) (ao (j:=0) rfl) (q))))⟩)
def iR:Ok T T.iP 2 DO:=by
 have gx:=gx T;refine T.iP.ok rR λ_ A _ s H vs Q E hr h=>?_
 ·obtain⟨D,es,F,rfl,U,O,Z,q⟩:=h;refine⟨_,(av (aC (fk (B8 K) (by rfl) T.pO abA (aa (bW (own:=["even","odd"]) (fq:=[]) (js:=[]) (aF (aj fG) ["ways"]) rfl (vt K (pv 0)) (λ_ _ _ _=>(Yn K rfl (aJ (bq 0 (jV ["even","odd"])) (aJ (bq 1 (jV ["even","odd"])) cJ)))) (λ_ _ _ _=>bV) (λ_ _ _ _=>(cE (aa (aE gx hr T.gv.c aI (aa (pv 0) af)) (aa (aE gx hr T.gv.c aI (aa (pv 1) af)) af))))) af)))),?_⟩
  refine(aq rfl ⟨D,rfl,⟨_,aO.of U⟩,λL Y=>bX (K:=K) (a:=D) (xs:=es.map V.ref) (λi acc H2=>au H H2/\H2 L=some (.lst acc)/\Paired (iF H2) acc (mh (yY F) i)) ⟨au.new Y,ae,.nil⟩ (λi acc H2 _ z=>⟨aO.of (z.1 _ _ U),z.2.1,by rw[z.2.2.length,AW];exact aaf _⟩) (dl (abu.mpr (by rw[aaa];lia))) ?_ ?_⟩)
  ·rintro i x acc H2 hx ⟨s2,I,pr⟩;obtain⟨b,hb,rfl⟩:∃b,es[i]?=some b/\x = .ref b:=by
    rw[aak]at hx;obtain⟨b,h1,h2⟩:=uQ.mp hx;exact⟨b,h1,h2.symm⟩
   obtain⟨v0,v1,hv,w0,w1⟩:=Z i b hb;refine⟨b,v0,v1,rfl,aO.of (s2 _ _ hv),_,_,rfl,_,_,rfl,rfl,rfl,aq rfl ⟨v0,_,rfl,w0.tups s2.tups,_,rfl,v1,_,rfl,w1.tups s2.tups,dl rfl,λt ht=>?_⟩⟩
   have s3:au H2 (upd H2 t (.tup [oV (yY F i false),oV (yY F i true)])):=au.new ht;have tL:t≠L:=λz=>by rw[z,I]at ht;cases ht
   have PU:H L=none:=Y;refine⟨s3 _ _ I,(s2.trans s3).put PU,ae,?_⟩;rw[LC];have keep:∀z pr,iF H2 z pr->iF (upd (upd H2 t (.tup [oV (yY F i false),oV (yY F i true)])) L (.lst (acc++[.ref t]))) z pr:=λz pr ⟨b,e,hb⟩=>⟨b,e,by rw[ah (aP hb I (by intro z;cases z))];exact s3 _ _ hb⟩
   exact Paired.snoc (Paired.imp' (λ_ _ z=>keep _ _ z) pr) ⟨t,rfl,by rw[ah tL,ae]⟩
  ·rintro acc H2 ⟨s2,I,pr⟩;rw[aaa]at pr;refine⟨L,_,rfl,.inl ⟨aO.of I,λl O=>?_⟩⟩
   exact q l acc _ (s2.trans (au.new O)) ae (Paired.imp' (λ_ _ ⟨b,e,hb⟩=>⟨b,e,au.new O _ _ hb⟩) pr)
def lG.same{p:Nat}{N:RM.Net}{L:Nat->Int}{m u:Nat}{D:Addr}{F:RM.OW}{H0 H H' : Hp}(h:lG p N L m u D F H0 H)(s:au H H'):lG p N L m u D F H0 H':=by
 obtain⟨es,I,O,U,Y,Z,e6⟩:=h;exact⟨es,I,s _ _ O,λi b hb=>let⟨v0,v1,q1,q2,q3⟩:=U i b hb;⟨v0,v1,s _ _ q1,q2.tups s.tups,q3.tups s.tups⟩,Y,Z,e6⟩
def lG.put{p:Nat}{N:RM.Net}{L:Nat->Int}{m u:Nat}{D X:Addr}{F:RM.OW}{H0 H:Hp}{xs ys:List V}(h:lG p N L m u D F H0 H)(hD:H0 D=none)(hX:H X=some (.lst xs))(hX0:∃o,H0 X=some o):lG p N L m u D F H0 (upd H X (.lst ys)):=by
 obtain⟨es,O,U,Y,Z,e5,I⟩:=h;obtain⟨o,ho⟩:=hX0;have ne:∀b,H0 b=none->b≠X:=λb hb z=>by rw[z,ho]at hb;cases hb
 have tp:bH H (upd H X (.lst ys)):=bH.put hX;refine⟨es,O,by rw[ah (ne D hD)];exact U,λi b hb=>?_,Z,e5,I⟩
 obtain⟨v0,v1,q1,q2,q3⟩:=Y i b hb;exact⟨v0,v1,by rw[ah (ne b (I.1 b (jY hb)))];exact q1,q2.tups tp,q3.tups tp⟩
def G8(p:Nat)(N:RM.Net)(L:Nat->Int)(m i:Nat)(ds:List Addr)(Fs:Nat->RM.OW)(H:Hp):Prop:=ds.length=i/\∀(j:Nat) d,ds[j]?=some d->∃H0,lG p N L m j d (Fs j) H0 H
def DQ(t:Addr)(lp:Pos):Sp:=λvs H Q _=>∃w p ts,∃g:aD p ts,∃m:Nat,vs=[.ref w,.int (m:Int)]/\bK H w p ts/\m<2^ts.length/\H t=some (.jj (dG (kI "least_ways") lp))/\
 ∀D ds I H',H D=none->au H H'->H' D=some (.lst (ds.map V.ref))->G8 p g.N (bg ts) m p ds I H'->Q (.ref D) H'
def cS:Ok T T.fL 6 (DQ a.bN bA):=by
 have ni:=ni T;refine T.fL.ok rS λ_ A _ s H vs Q E hr h=>?_
 ·obtain⟨wb,p,ts,g,m,rfl,hw,hm,Y,q⟩:=h;refine⟨_,(av (aC (bW (own:=["start"]) (fq:=["web","marks"]) (js:=[0,1]) (aF (aj fH) ["web","marks"]) rfl (cA (by rfl) T.dJ (aa (aK (c5 K) (pv 0) ak) af)) (λ_ _ _ _=>(bq 0 (jV ["start","web","marks"]))) (λ_ _ _ _=>bV) (λ_ _ _ _=>(aE ni hr T.jN.c aI (aa (pv 1) (aa (pv 2) (aa (pv 0) af)))))))),?_⟩
  obtain⟨bt,xs,h1,h2,h3⟩:=id hw.ex;have wp:=g.p2;refine(aq rfl (cV (aV.of h1) (ao (j:=0) rfl) (aq rfl ⟨(by lia),(by lia),λD Z=>dY (lo:=0) (m:=(p:Int).toNat) (λi acc H2=>au H H2/\H2 D=some (.lst acc)/\∃ds I,acc=ds.map V.ref/\ds.length=i/\∀(j:Nat) d,ds[j]?=some d->∃H0,lG p g.N (bg ts) m j d (I j) H0 H2/\H0 d=none/\∃o,H0 D=some o) ⟨au.new Z,ae,[],λ_ _ _=>none,rfl,rfl,λj d e=>by cases e⟩ (λi acc H2 _ ⟨_,z,ds,_,e,l,_⟩=>⟨z,by rw[e,aaa];lia⟩) (dl (abu.mpr (by lia))) ?_ ?_⟩)))
  ·rintro i acc H2 hi ⟨s2,O,ds,I,rfl,U,all⟩;rw[aap]at hi;rw[abp];refine⟨rfl,aq rfl (aq rfl (aq rfl ⟨wb,p,ts,g,m,i,rfl,hw.same s2,hm,hi,s2 _ _ Y,λd F H3 hd s3 wa=>?_⟩))⟩
   have zu:=s3 _ _ O;refine⟨zu,(s2.trans s3).put Z,ae,ds++[d],λj=>if j=i then F else I j,by simp,by simp[U],λj d' e=>?_⟩
   by_cases ej:j<ds.length
   ·rw[aaP ej]at e;obtain⟨H0,w0,n0,o0⟩:=all j d' e;dsimp only;rw[aab (show ¬ j=i by lia)]
    exact⟨H0,(w0.same s3).put n0 zu o0,n0,o0⟩
   ·rw[aaS (by lia)]at e
    have hj:j=i:=by
     have:=(kL.mp e).1;simp at this
     lia
    subst hj;rw[U,acy]at e;have e:d=d':=by simpa using e
    subst e;dsimp only;rw[aad rfl];exact⟨H2,wa.put hd zu ⟨_,O⟩,hd,_,O⟩
  ·rintro acc H2 ⟨s2,O,ds,I,rfl,U,all⟩;rw[aap]at U;exact q D ds I H2 Z s2 O ⟨U,λj d e=>let⟨H0,w0,_⟩:=all j d e;⟨H0,w0⟩⟩
def BC:Sp:=λvs H Q _=>∃(D:Addr) (ds:List Addr) (I:Nat->RM.OW),∃p N L m,vs=[.ref D]/\H D=some (.lst (ds.map V.ref))/\p<=900/\G8 p N L m p ds I H/\
 ∀b H',au H H'->ff H' b ((List.range p).map λi=>mh (yY (I i)) p)->Q (.ref b) H'
def c9:Ok T T.gw 3 BC:=by
 have iR:=iR T;refine T.gw.ok tE λ_ A _ s H vs Q E hr h=>?_
 ·obtain⟨D,ds,Y,p,N,L,m,rfl,Z,hp,⟨O,all⟩,q⟩:=h;refine⟨_,(av (aC (fk (B8 K) (by rfl) T.pO abA (aa (bW (own:=["from_point"]) (fq:=[]) (js:=[]) (aF (aj gp) ["ways"]) rfl (vt K (pv 0)) (λ_ _ _ _=>(bq 0 (jV ["from_point"]))) (λ_ _ _ _=>bV) (λ_ _ _ _=>(aE iR hr T.iP.c aI (aa (pv 0) af)))) af)))),?_⟩
  refine(aq rfl ⟨D,rfl,⟨_,aO.of Z⟩,λX hX=>bX (K:=K) (a:=D) (xs:=ds.map V.ref) (λi acc H2=>au H H2/\H2 X=some (.lst acc)/\Paired (RowW H2) acc ((List.range i).map λi=>mh (yY (Y i)) p)) ⟨au.new hX,ae,.nil⟩ (λi acc H2 _ z=>⟨aO.of (z.1 _ _ Z),z.2.1,by rw[z.2.2.length,aaa,aaA];exact aaf _⟩) (dl (abu.mpr (by rw[aaa];lia))) ?_ ?_⟩)
  ·rintro i x acc H2 hx ⟨s2,I,pr⟩;obtain⟨d,hd,rfl⟩:∃d,ds[i]?=some d/\x = .ref d:=by
    rw[aak]at hx;obtain⟨b,h1,h2⟩:=uQ.mp hx;exact⟨b,h1,h2.symm⟩
   obtain⟨H0,wa⟩:=all i d hd;obtain⟨es,e1,e2,e3,_⟩:=wa.same s2;refine⟨rfl,aq rfl ⟨d,es,Y i,rfl,e2,(by lia),e3,λb ys H3 s3 hb SX=>?_⟩⟩
   have U:=s3 _ _ I;refine⟨U,(s2.trans s3).put hX,ae,?_⟩;rw[abe,aar,e1]at *;exact Paired.snoc (Paired.imp' (λ_ _ z=>z.tups (s3.tups.trans (bH.put U))) pr) (RowW.tups (bH.put U) ⟨b,ys,rfl,hb,SX⟩)
  ·rintro acc H2 ⟨s2,I,pr⟩;rw[aaa,O]at pr;refine⟨X,_,rfl,.inl ⟨aO.of I,λl O=>?_⟩⟩
   exact q l _ (s2.trans (au.new O)) ⟨acc,ae,Paired.imp' (λ_ _ z=>z.same (au.new O)) pr⟩
def OY:Sp:=λvs H Q _=>∃(x y:Option Int) (l:Int),vs=[oV x,oV y,.int l]/\Q (.bl (wU x y l)) H
def yZ:Sp:=λvs H Q _=>∃(b c:Addr) (t:cP) (u:Bool) (ys:List V) (R:List Pr),vs=[.ref b,.int (u.toNat:Int),.ref c]/\H b=some (.tup (lT t))/\H c=some (.tup ys)/\Paired (iF H) ys R/\0<=t.1/\t.1<(R.length:Int)/\0<=t.2.1/\t.2.1<(R.length:Int)/\Q (.bl (CA R t u)) H
def vj(C:Addr):Sp:=λvs H Q E=>∃(w b:Addr) (p:Nat) (ts:List cP) (W:List (List Pr)) (S:Int),vs=[.ref w,.int S,.ref b]/\bK H w p ts/\M8 p ts/\ff H b W/\JQ p W/\qh ts S (∀H',au H H'->E (.ref C) none H') λm =>
 (AU p ts m W->∀H',au H H'->Q (.bl true) H')/\(¬ AU p ts m W->∀H',au H H'->Q (.bl false) H')
def OZ(a:Option Int):QA (oV a) (V.int 0)=true:=by cases a<;>rfl
def P7{x y:V}{A B:Prop}(h:x≠y)(ha:A):if(!decide (x=y))=true then A else B:=by
 rw[gz h];exact fb ha
def i7:Ok T T.iZ 1 OY:=by
 refine T.iZ.ok xG λ_ A _ s H vs Q E hr h=>?_
 ·obtain⟨x,y,l,rfl,q⟩:=h;refine⟨_,(ai (bC (PW.pt (lN (aL nJ (pv 0) iw (aM _)) (jk (aL nJ (pv 1) iw (aM _))))) (av (aC (qk (dH nJ (pv 0) iw (aM _)) (nH (dH nJ (pv 1) iw (aM _)))))) aU)
   (av (aC (dH Kg (bQ Kh (by rfl) T.Vc PyProof.Rows.boot_abs (aa (aQ qm (pv 0) (pv 1)) af)) (pv 2) (aM _))))),?_⟩
  refine dB ?_;intro I O;cases x with
  | none =>
    refine(aq rfl ⟨rfl,aq rfl (HH rfl (aq rfl ⟨rfl,aq rfl (HH rfl (aq rfl ⟨rfl,?_⟩))⟩))⟩);cases y with
    | none=>exact q
    | some y=>exact q
  | some x =>
    cases y with
    | none=>exact(aq rfl ⟨rfl,aq rfl (k7 (λz=>nomatch z) (aq rfl ⟨rfl,aq rfl (HH rfl (aq rfl ⟨rfl,aq rfl (k7 (λz=>nomatch z) q)⟩))⟩))⟩)
    | some y=>exact(aq rfl ⟨rfl,aq rfl (k7 (λz=>nomatch z) (aq rfl ⟨rfl,aq rfl (k7 (λz=>nomatch z) (aq rfl (aq rfl (c6 (aq rfl (aq rfl (c6 (q))))))))⟩))⟩)
def nj:Ok T T.m8 2 yZ:=by
 have i7:=i7 T;refine T.m8.ok lz λ_ A _ s H vs Q E hr h=>?_
 ·obtain⟨b,c,t,u,ys,R,rfl,hb,hc,pr,a0,a1,b0,b1,q⟩:=h;refine⟨_,(ai (aN (i:=3) lz.nd rfl (Or.inl rfl) (aK (c5 K) (pv 2) (aK (c5 K) (pv 0) ak)))
   (ai (aN (i:=4) lz.nd rfl (Or.inl rfl) (aK (c5 K) (pv 2) (aK (c5 K) (pv 0) ak)))
   (av (aC (qk (aE i7 hr T.iZ.c aI (aa (aK (c5 K) (pv 3) ak) (aa (aK (c5 K) (pv 4) (pv 1)) (aa (aK (c5 K) (pv 0) ak) af)))) (nH (aE i7 hr T.iZ.c aI (aa (aK (c5 K) (pv 3) ak) (aa (aK (c5 K) (pv 4) (aQ qm ak (pv 1))) (aa (aK (c5 K) (pv 0) ak) af)))))))))),?_⟩
  refine ie ?_;intro cy cK;obtain⟨I,O,h1⟩:=RowW.at pr (i:=t.1.toNat) (by lia)
  obtain⟨U,Y,h2⟩:=RowW.at pr (i:=t.2.1.toNat) (by lia)
  have Z:Aq ys t.1=some (.ref I):=by
   have:=ao O
   rwa [Int.toNat_of_nonneg a0]at this
  have i2:Aq ys t.2.1=some (.ref U):=by
   have:=ao Y
   rwa [Int.toNat_of_nonneg b0]at this
  have eu:(1:Int)-(u.toNat:Int)=((!u).toNat:Int):=by cases u<;>rfl
  refine(aq rfl (aq rfl (cV (aV.of hb) (ao (j:=0) rfl) (cV (aV.of hc) (Z) (?_)))));refine(aq rfl (aq rfl (cV (aV.of hb) (ao (j:=1) rfl) (cV (aV.of hc) (i2) (?_)))));refine(aq rfl (cV (aV.of h1) (ao (j:=0) rfl) (aq rfl (aq rfl (cV (aV.of h2) (ao (Lp _ u)) (aq rfl (cV (aV.of hb) (ao (j:=2) rfl) ⟨_,_,_,rfl,_,rfl,?_⟩)))))));unfold CA at q;cases hB:wU (fD R t.1.toNat).1 (sel (fD R t.2.1.toNat) u) t.2.2 with
  | false =>
    rw[hB]at q;exact cO q
  | true =>
    rw[hB]at q;refine fb (aq rfl (cV (aV.of h1) (ao (j:=1) rfl) (aq rfl (aq rfl (c6 (cV (aV.of h2) (?_) (aq rfl (cV (aV.of hb) (ao (j:=2) rfl) ⟨_,_,_,rfl,q⟩))))))));rw[eu];exact ao (Lp _ (!u))
def kF:JS T T.kC 4 (vj a.eK):=by
 have b7:=b7 T;have bI:=bI T;have nj:=nj T;refine T.kC.GB gq λ_ A _ s H vs Q E hr h=>?_
 ·obtain⟨wb,b,p,ts,W,S,rfl,hw,Z,hW,sq,q⟩:=h;refine⟨_,(ai (bF (aE b7 hr T.gR.c gA.passes (aa (pv 0) (aa (pv 1) af))))
   (ai (qY rfl (cA (by rfl) T.dJ (aa (aK (c5 K) (pv 0) ak) af)) (bq 3 gq.nd)
   (ai (bC (aL BW (aK (c5 K) (aK (c5 K) (aK (c5 K) (pv 2) (pv 3)) (pv 3)) ak) ak (aM _)) (av (aC gf)) aU)
   (av (g7 PassesOwn.never rfl (wL K (by rfl) T.gW (aa (aK (c5 K) (pv 0) ak) af)) (BO K (n:=2) rfl (aJ (bq 4 gq.nd) (aJ (bq 5 gq.nd) cJ)))
   (av (bC (eW (cg (aE nj hr T.m8.c aI (aa (pv 5) (aa (lO (cg (aE bI hr T.gQ.c aI (aa (pv 1) (aa (pv 4) af)))) ak ak) (aa (aK (c5 K) (pv 2) (pv 3)) af)))))) (av (aC gf)) aU))))))
   (av (aC gf)))),?_⟩
  refine uV ?_;intro cy cK dW eY gb kJ uK;refine(aq rfl (aq rfl ⟨wb,p,ts,S,rfl,hw,Z,?_⟩));rcases q with⟨m,rfl,hm,q1,q2⟩|⟨hS,q⟩
  ·refine .inl ⟨m,rfl,hm,?_⟩;obtain⟨bt,xs,h1,h2,h3⟩:=id hw.ex;obtain⟨ws,hws,WL⟩:=id hW;have Js:=h3.length;have wp:=Z.X7;have wl:=Z.len;refine(aq rfl (cV (aV.of h1) (ao (j:=0) rfl) (aq rfl ⟨(by lia),(by lia),?_⟩)))
   refine ze (lo:=0) (n:=(p:Int).toNat) (λi σ H2=>∃v3 v4 O,σ=[some (.ref wb),some (.int (m:Int)),some (.ref b),v3,v4,O]/\au H H2/\∀j,j<i->PD ts m j (W.getD j [])) ⟨none,none,none,rfl,au.refl _,λj hj=>by lia⟩ ?_ ?_
   ·rintro i σ H2 hi ⟨v3,v4,O,rfl,s2,ok⟩;rw[aap]at hi;rw[abp];obtain⟨x,hx,bR,ys,rfl,Vt,Vu⟩:=iG WL (i:=i) (by rw[sq.1];exact hi) []
    have rl:=sq.row hi;obtain⟨bP,eP,CP⟩:=RowW.at Vu (i:=i) (by lia)
    refine(aq rfl (aq rfl (cV (aV.of (s2 _ _ hws)) (ao (j:=i) hx) (aq rfl (cV (aV.of (s2 _ _ Vt)) (ao (j:=i) eP) (cV (aV.of (s2 _ _ CP)) (ao (j:=0) rfl) (?_)))))));refine⟨OZ _,_,rfl,?_⟩
    by_cases h0:(fD (W.getD i []) i).1=some 0
    case neg =>
     refine P7 (λz=>h0 ?_) (q2 (λz=>h0 (z i hi).1) _ s2)
     have e:=Om (fD (W.getD i []) i).1;rw[eG z]at e;exact kK e.symm
    refine Gv (by rw[h0];rfl) ?_
    refine(aq rfl (cV (aV.of (s2 _ _ h1)) (ao (j:=1) rfl) ⟨bt,rfl,⟨_,aV.of (s2 _ _ h2)⟩,?_⟩));refine zT (K:=K) (a:=bt) (xs:=xs) (λk σ H3=>∃v4 O,σ=[some (.ref wb),some (.int (m:Int)),some (.ref b),some (.int (i:Int)),v4,O]/\au H H3/\∀j,j<k->CA (W.getD i []) (bU ts j) (m.testBit j)=true) ⟨v4,O,rfl,s2,λj hj=>by lia⟩ (λk σ H3 _ ⟨_,_,_,z,_⟩=>aV.of (z _ _ h2)) ?_ ?_
    ·rintro k x T0 σ H3 hk ⟨v4,O,rfl,s3,U⟩ hT;have ab:k<xs.length:=(kL.mp hk).1;obtain⟨t,ht,ct,rfl,Y⟩:=Paired.lQ h3 hk;have M9:bU ts k=t:=by
      unfold bU;rw[aae,ht];rfl
     obtain⟨g0,g1,g2,g3⟩:=Z.X6.ends t (jY ht);have s4:au H3 (upd H3 T0 (.tup [.int (k:Int),.ref ct])):=au.new hT;have M6:upd H3 T0 (.tup [.int (k:Int),.ref ct]) T0=some (.tup [.int (k:Int),.ref ct]):=ae;generalize upd H3 T0 (.tup [.int (k:Int),.ref ct])=H4 at s4 M6;have I:=s3.trans s4;refine⟨T0,_,rfl,aV.of M6,rfl,_,_,rfl,_,_,rfl,rfl,?_⟩;refine(aq rfl (aq rfl (aq rfl ⟨(m:Int),k,rfl,aq rfl (?_)⟩)));rw[iW];cases hb:m.testBit k with
     | true =>
       refine fb (aq rfl (aq rfl (cV (aV.of (I _ _ hws)) (ao (j:=i) hx) ⟨ct,bR,t,true,ys,_,rfl,I _ _ Y,I _ _ Vt,Paired.imp' (λ_ _ z=>z.same I) Vu,g0,by lia,g2,by lia,_,rfl,?_⟩)))
       cases hB:CA (W.getD i []) t true with
       | false=>exact fb (q2 (λz=>by
        have:=(z i hi).2 k (by lia)
        rw[M9,hb,hB]at this;cases this) _ I)
       | true =>
         refine cO ⟨_,_,rfl,I,λj hj=>?_⟩
         by_cases e:j=k
         ·rw[e,M9,hb];exact hB
         ·exact U j (by lia)
     | false =>
       refine cO (aq rfl (aq rfl (cV (aV.of (I _ _ hws)) (ao (j:=i) hx) ⟨ct,bR,t,false,ys,_,rfl,I _ _ Y,I _ _ Vt,Paired.imp' (λ_ _ z=>z.same I) Vu,g0,by lia,g2,by lia,_,rfl,?_⟩)))
       cases hB:CA (W.getD i []) t false with
       | false=>exact fb (q2 (λz=>by
        have:=(z i hi).2 k (by lia)
        rw[M9,hb,hB]at this;cases this) _ I)
       | true =>
         refine cO ⟨_,_,rfl,I,λj hj=>?_⟩
         by_cases e:j=k
         ·rw[e,M9,hb];exact hB
         ·exact U j (by lia)
    ·rintro σ H3 ⟨v4,O,rfl,s3,U⟩;rw[Js]at U;refine⟨_,_,_,rfl,s3,λj hj=>?_⟩
     by_cases e:j=i
     ·rw[e];exact⟨h0,U⟩
     ·exact ok j (by lia)
   ·rintro σ H2 ⟨v3,v4,O,rfl,s2,ok⟩;rw[aap]at ok;exact q1 ok _ s2
  ·exact .inr ⟨hS,q _ (au.refl _)⟩
def O0(p:Nat)(ts:List cP)(g:aD p ts)(m:Nat)(H H' : Hp)(t:Addr):Prop :=
 ((∀x z,x<p->¬ RM.Wy g.N (bg ts) m x x true z)/\m=g.N.cut (λx=>decide (x∈uM p ts g m))/\∃l,H l=none/\H' t=some (.tup [.str "side",.ref l])/\H' l=some (.lst (aB (uM p ts g m))))\/
 ∃(z:Int) (e:Nat) (b:Addr) (W:List (List Pr)),RM.Lo g.N (bg ts) m z e/\RM.xr g.N (bg ts) m z e/\H' t=some (.tup [.str "ring",.int (e:Int),.ref b])/\ff H' b W/\W.length=p/\(∀R∈W,R.length=p)/\rJ p ts g m W
def BD(C t:Addr)(lp:Pos):Sp:=λvs H Q E=>∃w p ts,∃g:aD p ts,∃S,vs=[.ref w,.int S]/\bK H w p ts/\H t=some (.jj (dG (kI "least_ways") lp))/\qh ts S (E (.ref C) none H) λm=>∀r H',H r=none->au H H'->O0 p ts g m H H' r->Q (.ref r) H'
def ye(H:Hp)(v:V)(d:Int×Nat):Prop:=∃c,v = .ref c/\H c=some (.tup [.int d.1,.int (d.2:Int)])
def ye.tups{H H' : Hp}{v:V}{d:Int×Nat}(h:ye H v d)(s:bH H H'):ye H' v d:=let⟨c,e,q⟩:=h;⟨c,e,s _ _ q⟩
def qK(d:Int×Nat):PyData:=.tuple [.int d.1,.int (d.2:Int)]
def DR{K:bE}{H:Hp}:∀{ys:List V} {R:List (Int×Nat)},Paired (ye H) ys R->DatVs K H ys (R.map qK)
 | _,_,.nil=>.nil
 | _,_,.cons h r=>by
   obtain⟨b,rfl,hb⟩:=h;exact .cons (.tup (aV.of hb) (.cons (.int _) (.cons (.int _) .nil))) (DR r)
def MI:∀l:List (Int×Nat),PyData.eqv (.list (l.map qK)) (.list [])=decide (l=[])
 | []=>rfl
 | _::_=>rfl
def DS:∀R:List (Int×Nat),PyData.canLayAll0 (R.map qK)=true
 | []=>rfl
 | q::r=>by
   have I:=DS r;have e:(qK q).canLay0=true:=by simp[qK,PyData.canLay0,PyData.canLayAll0]
   simp only[aay,PyData.canLayAll0,I,acP,e]
def Ac:∀R:List (Int×Nat),PyData.depthAll (R.map qK)<=1
 | []=>aaF _
 | q::r=>by
   have I:=Ac r;show max (PyData.depth (qK q)) (PyData.depthAll (r.map qK))<=1;have e:PyData.depth (qK q)=1:=by simp[qK,PyData.depth,PyData.depthAll]
   lia
def Ad{H:Hp}:∀{ys:List V} {R:List (Int×Nat)},Paired (ye H) ys R->∃cs:List Addr,ys=cs.map V.ref/\Paired (λ(c:Addr) (d:Int×Nat)=>H c=some (.tup [.int d.1,.int (d.2:Int)])) cs R
 | _,_,.nil=>⟨[],rfl,.nil⟩
 | _,_,.cons h r=>by
   obtain⟨b,rfl,hb⟩:=h;obtain⟨cs,rfl,pr⟩:=Ad r;exact⟨b::cs,rfl,.cons hb pr⟩
def DT(R:List (Int×Nat)):SeqAt.shaped (.list (R.map qK))=true:=by
 unfold SeqAt.shaped;have e:(PyData.list (R.map qK)).canLay0=PyData.canLayAll0 (R.map qK):=by simp[PyData.canLay0]
 rw[e,DS,abo];refine eG ?_;have h:=Ac R;have I:PyData.depth (PyData.list (R.map qK))=PyData.depthAll (R.map qK)+1:=by simp[PyData.depth]
 rw[I]
 lia
def A3{a b:Int×Nat}(h:HT.lexLt [a.1,(a.2:Int)] [b.1,(b.2:Int)]=false):RM.lx b a:=by
 rw[HT.iB]at h;unfold RM.lx
 by_cases e:a.1=b.1
 ·rw[aad e,HT.iB]at h;refine .inr ⟨e.symm,?_⟩
  by_cases I:(a.2:Int)=(b.2:Int)
  ·lia
  ·rw[aab I]at h;have:=of_decide_eq_false h
   lia
 ·rw[aab e]at h;have:=of_decide_eq_false h;exact .inl (by lia)
def oO:JS T T.oB 7 (BD a.eK a.bN bA):=by
 have b7:=b7 T;have cS:=cS T;have c9:=c9 T;have uo:=uo T;refine T.oB.GB mZ λ_ A _ s H vs Q E hr h=>?_
 ·obtain⟨wb,p,ts,g,S,rfl,hw,a5,q⟩:=h;refine⟨_,(ai (bF (aE b7 hr T.gR.c gA.passes (aa (pv 0) (aa (pv 1) af))))
   (ai (aN (i:=2) mZ.nd rfl (Or.inr rfl) (aE cS hr T.fL.c aI (aa (pv 0) (aa (pv 1) af))))
   (ai (iV (i:=3) mZ.nd rfl rfl (own:=["point"]) (fq:=["ways"]) (js:=[2]) (aF (aj kX) ["web","marks","ways","rounds"]) rfl (cA (by rfl) T.dJ (aa (aK (c5 K) (pv 0) ak) af)) (λ_ _ _ _=>(bq 0 (jV ["point","ways"]))) (λ_ _ _ _=>(iU (aL Nv (aK (nA K) (aK (nA K) (aK (nA K) (pv 1) (pv 0)) (pv 0)) ak) iw (aM _)))) (λ_ _ _ _=>(aK (nA K) (aK (nA K) (aK (nA K) (pv 1) (pv 0)) (pv 0)) ak)))
   (ai (bC (aL (EB K hr.units) (pv 3) (dX af) (aM _)) (av (aC (aE uo hr T.ua.c gA.passes (aa (pv 0) (aa (pv 1) af))))) aU)
   (av (aC (cE (aa mJ (aa (aK (c5 K) (bQ (Yo hr.hd hr.in1.Es) (by rfl) T.My PyProof.Rows.boot_min (aa (pv 3) af)) ak) (aa (aE c9 hr T.gw.c aI (aa (pv 2) af)) af)))))))))),?_⟩
  refine Bb ?_;intro cy cK dW eY gb;obtain⟨bt,xs,h1,h2,h3⟩:=id hw.ex;have wp:=g.p2;have W:=g.zz;rcases q with⟨m,rfl,hm,q⟩|⟨hS,q⟩
  case inr=>exact(aq rfl (aq rfl ⟨wb,p,ts,_,rfl,hw,W,.inr ⟨hS,q⟩⟩))
  refine(aq rfl (aq rfl ⟨wb,p,ts,_,rfl,hw,W,.inl ⟨m,rfl,hm,?_⟩⟩));refine(aq rfl (aq rfl ⟨wb,p,ts,g,m,rfl,hw,hm,a5,λD ds I H1 hD s1 yz al=>?_⟩))
  obtain⟨hl,all⟩:=id al;have JC:∀i,i<p->∃d H0,ds[i]?=some d/\lG p g.N (bg ts) m i d (I i) H0 H1:=λi hi=>by
   have e:ds[i]?=some ds[i]:=aam (by lia)
   obtain⟨H0,h0⟩:=all i _ e;exact⟨_,H0,e,h0⟩
  refine(aq rfl (cV (aV.of (s1 _ _ h1)) (ao (j:=0) rfl) (aq rfl ⟨(by lia),(by lia),λX hX=>dY (lo:=0) (m:=(p:Int).toNat) (λi acc H2=>au H1 H2/\H2 X=some (.lst acc)/\Paired (ye H2) acc ((List.range i).filterMap λj=>I j j true)) ⟨au.new hX,ae,.nil⟩ (λi acc H2 _ z=>⟨z.2.1,by rw[z.2.2.length];exact aaB (List.length_filterMap_le ..) (by simp)⟩) (dl (abu.mpr (by lia))) ?_ ?_⟩)))
  ·rintro i acc H2 hi ⟨s2,O,pr⟩;rw[aap]at hi;rw[abp];obtain⟨d,H0,hd,es,e1,e2,e3,_⟩:=JC i hi;have ab:es[i]?=some es[i]:=aam (by lia)
   obtain⟨v0,v1,hv,w0,w1⟩:=e3 i _ ab;have fm:(List.range (i+1)).filterMap (λj=>I j j true)=(List.range i).filterMap (λj=>I j j true)++(I i i true).toList:=by
    rw[abe,List.filterMap_append];cases U:I i i true<;>simp[U]
   rw[fm];have Z5:(ds.map V.ref)[i]?=some (.ref d):=by rw[aak,hd];rfl
   have ag:(es.map V.ref)[i]?=some (.ref es[i]):=by rw[aak,ab];rfl
   refine⟨rfl,aq rfl (aq rfl (nC (aO.of (s2 _ _ yz)) (ao (j:=i) Z5) (aq rfl (nC (aO.of (s2 _ _ e2)) (ao (j:=i) ag) (nC (aO.of (s2 _ _ hv)) (ao (j:=1) rfl) ⟨rfl,aq rfl (?_)⟩)))))⟩;cases U:I i i true with
   | none =>
     rw[U]at w1;have w1:v1 = .eF:=w1;subst w1;refine Gv rfl ⟨s2,O,?_⟩;rw[show(none:Option (Int×Nat)).toList=[] from rfl,abT]
     exact pr
   | some dd =>
     rw[U]at w1;obtain⟨c,rfl,hc⟩:=w1;refine P7 (λz=>nomatch z) (aq rfl (aq rfl (nC (aO.of (s2 _ _ yz)) (ao (j:=i) Z5) (aq rfl (nC (aO.of (s2 _ _ e2)) (ao (j:=i) ag) (nC (aO.of (s2 _ _ hv)) (ao (j:=1) rfl) ⟨O,s2.put hX,ae,?_⟩))))))
     have tp:bH H2 (upd H2 X (.lst (acc++[.ref c]))):=bH.put O;exact Paired.snoc (Paired.imp' (λ_ _ z=>z.tups tp) pr) ⟨c,rfl,tp _ _ (s2 _ _ hc)⟩
  ·rintro acc H2 ⟨s2,O,pr⟩;rw[aap]at pr;generalize hR:(List.range p).filterMap (λj=>I j j true)=R at pr
   have a6:=s1.trans s2;have OU:∀k,k<g.N.n->0<bg ts k:=λk hk=>by
    have:=(g.wg _ (fB hk)).l0;unfold bg
    lia
   have inR:∀j d,j<p->I j j true=some d->d∈R:=λj d hj hd=>by
    rw[<-hR];exact ab9.mpr ⟨j,aaC.mpr hj,hd⟩
   have a7:∀d,d∈R->∃j,j<p/\I j j true=some d:=λd hd=>by
    rw[<-hR]at hd;obtain⟨j,hj,e⟩:=ab9.mp hd;exact⟨j,aaC.mp hj,e⟩
   have best:∀i,i<p->∀x s,RM.uT g.N (bg ts) m i x s ((I i x s).map (·.1)):=λi hi=>by
    obtain⟨d,H0,hd,es,e1,e2,e3,e4,_⟩:=JC i hi;exact e4
   refine(aq rfl ⟨dl rfl,λl0 Gw=>⟨_,_,.lst (aO.of (au.new Gw _ _ O)) (DR (Paired.imp' (λ_ _ z=>z.tups (au.new Gw).tups) pr)),.lst (aO.of ae) .nil,DT _,rfl,aq rfl (?_)⟩⟩)
   rw[MI];have s3:=a6.trans (au.new (o:=.lst []) Gw);have YR:=s2.trans (au.new (o:=.lst []) Gw);have Eb:=au.new (o:=.lst []) Gw _ _ O;have SX:=Paired.imp' (λ_ _ z=>ye.tups z (au.new (o:=.lst []) Gw).tups) pr
   clear O pr;generalize upd H2 l0 (.lst [])=H3 at s3 YR Eb SX
   by_cases Y:R=[]
   ·rw[eG Y];have no:∀x z,x<p->¬ RM.Wy g.N (bg ts) m x x true z:=λx z hx hw=>by
     have b:=best x hx x true;cases U:I x x true with
     | none=>rw[U]at b;exact b z hw
     | some d=>have:=inR x d hx U;rw[Y]at this;cases this
    refine fb (aq rfl (aq rfl ⟨wb,p,ts,g,_,rfl,hw.same s3,.inl ⟨m,rfl,hm,λt H4 ht s4 told=>?_⟩⟩))
    refine q t H4 (s3.free ht) (s3.trans s4) (.inl ⟨no,?_⟩);rcases told with⟨h0,l,hl,YK,a8⟩|⟨c,hc,hp,_⟩
    ·exact⟨h0,l,s3.free hl,YK,a8⟩
    ·obtain⟨c1,c2⟩:=RM.dZ.mp hc;rw[RM.L6 (λk hk=>aco (OU k hk)) no (RM.zW c1 c2) (RM.vz c1)]at hp
     cases hp
   ·rw[gz Y];obtain⟨cs,rfl,Z6⟩:=Ad SX;have bb:=Z6.length;have ar:0<cs.length:=by
     have:=List.length_pos_iff.mpr Y
     lia
    have aw:∀(i:Nat) c,cs[i]?=some c->∃d,R[i]?=some d/\H3 c=some (.tup [.int d.1,.int (d.2:Int)]):=λi c hc=>Paired.lQ Z6 hc
    refine cO (aq rfl ⟨X,cs,λi=>[(R.getD i (0,0)).1,((R.getD i (0,0)).2:Int)],rfl,aO.of Eb,ar,λi c hc=>?_,λi c hc ax=>?_⟩)
    ·obtain⟨d,hd,h⟩:=aw i c hc;have e:R.getD i (0,0)=d:=by rw[aae,hd];rfl
     dsimp only;rw[e];exact aV.of h
    obtain⟨d,hd,a9⟩:=aw i c hc;obtain⟨u,hu,Z7⟩:=a7 d (jY hd);have aT:∀j d',j<p->I j j true=some d'->RM.lx d d':=λj d' hj U=>by
     obtain⟨i',a3⟩:=aaN (inR j d' hj U);have ba:i'<cs.length:=by
      have:=(kL.mp a3).1
      lia
     have Z:=ax i' ba;have e:R.getD i (0,0)=d:=by rw[aae,hd];rfl
     have e' : R.getD i' (0,0)=d':=by rw[aae,a3];rfl
     dsimp only at Z;rw[e,e']at Z;exact A3 Z
    have a4:∀x z',x<p->RM.Wy g.N (bg ts) m x x true z'->d.1<=z':=λx z' hx hw=>by
     have b:=best x hx x true;cases U:I x x true with
     | none=>rw[U]at b;exact absurd hw (b z')
     | some d' =>
       rw[U]at b;have h1:d'.1<=z':=b.2 z' hw;have h2:=aT x d' hx U;unfold RM.lx at h2
       lia
    obtain⟨_,_,_,es,_,_,_,_,wz,_,_⟩:=JC u hu;have Z8:=wz u true d Z7;obtain⟨r1,r2,r3,r4⟩:=RM.Fc OU (show u<g.N.p from hu) Z8 a4
    refine(cV (aV.of a9) (ao (j:=1) rfl) (aq rfl ⟨D,ds,I,p,g.N,bg ts,m,rfl,YR _ _ yz,(by lia),⟨hl,λj d e=>let⟨H0,w0⟩:=all j d e;⟨H0,w0.same YR⟩⟩,λb H4 s4 hW=>⟨dl rfl,λt ht=>?_⟩⟩))
    have s5:au H4 (upd H4 t (.tup [.str "ring",.int (d.2:Int),.ref b])):=au.new ht;refine q t _ ((s3.trans s4).free ht) ((s3.trans s4).trans s5) (.inr ⟨d.1,d.2,b,_,⟨I,λi hi=>?_,⟨u,hu,Z7⟩,aT⟩,⟨r1,r2,r3,r4,⟨u,hu,?_⟩,a4⟩,ae,hW.same s5,by rw[aaa,aaA],λR hR=>?_,λi hi x s hx=>?_⟩)
    ·obtain⟨_,_,_,_,_,_,_,_,_,_,fx⟩:=JC i hi;exact fx
    ·obtain⟨pre,w0⟩:=Z8;exact⟨pre,_,w0⟩
    ·obtain⟨i,_,rfl⟩:=aas.mp hR;exact AW _ _
    ·rw[aae,aak,acs hi];show RM.uT _ _ m i x s (sel (fD (mh (yY (I i)) p) x) s);rw[LA hx];exact best i hi x s
def Ga:Sp:=λvs H Q _=>∃(l:Addr) (rows:List RM.Row3) (x:Nat),vs=[.ref l,.int (x:Int)]/\jI H l rows/\∀c H',au H H'->H' c=some (.tup [.int (((RM.cU rows x 0).1:Nat):Int),.int (((RM.cU rows x 0).2:Nat):Int)])->Q (.ref c) H'
def DU:Sp:=λvs H Q _=>∃(l b:Addr) (rows:List RM.Row3) (a:RM.Row3),vs=[.ref l,.ref b]/\jI H l rows/\H b=some (.tup (uF a))/\rows.length<=200/\∀I H',au H H'->jI H' I (RM.yy rows a)->Q (.ref I) H'
def Gb:Sp:=λvs H Q _=>∃(l:Addr) (B:List Nat),vs=[.ref l]/\H l=some (.lst (aB B))/\B.length<=200/\∀I rows H',au H H'->jI H' I rows->RM.Rw B rows->rows=RM.ia B B.length->Q (.ref I) H'
def P8(p:Nat)(ts:List cP)(g:aD p ts)(zs:List Int):Prop:=∃rs:List Nat,zs=rs.map (λx=>((x:Nat):Int))/\RM.Base g.N rs
def Gd:Sp:=λvs H Q _=>∃w p ts,∃g:aD p ts,∃(l:Addr) (zs:List Int),vs=[.ref w,.ref l]/\bK H w p ts/\H l=some (.lst (zs.map V.int))/\zs.length<=200/\∀H' (d:Bool),au H H'->(d=true↔P8 p ts g zs)->Q (.bl d) H'
def cast_inj{xs ys:List Nat}(e:xs.map (λx=>((x:Nat):Int))=ys.map λx=>((x:Nat):Int)):xs=ys:=by
 have:=aaO (List.map Int.toNat) e;rw[aa7,aa7]at this;have h1:(Int.toNat∘λx=>((x:Nat):Int))=id:=funext λx=>rfl
 rw[h1,List.map_id,List.map_id]at this;exact this
def Vv{x y:V}{A B:Prop}(h:x≠y)(ha:A):if(!decide (x=y))=true then A else B:=by
 rw[gz h];exact fb ha
def uq:Ok T T.uc 2 Ga:=by
 have bI:=bI T;refine T.uc.ok fh λ_ A _ s H vs Q E hr h=>?_
 ·obtain⟨l,rows,x,rfl,Z,q⟩:=h;refine⟨_,(ai (aN (i:=2) fh.nd rfl (Or.inl rfl) (pv 1))
   (ai (aN (i:=3) fh.nd rfl (Or.inl rfl) ak)
   (ai (g7 PassesOwn.never rfl (vt K (pv 0)) (BO K (n:=3) rfl (aJ (bq 4 fh.nd) (aJ (bq 5 fh.nd) (aJ (bq 6 fh.nd) cJ))))
   (av (bC (cg (aE bI hr T.gQ.c aI (aa (pv 2) (aa (pv 4) af)))) (ai (Ak (i:=2) fh.nd rfl (Or.inl rfl) (pv 5) Gm)
   (av (Ak (i:=3) fh.nd rfl (Or.inl rfl) (pv 6) Gm))) aU)))
   (av (aC (cE (aa (pv 2) (aa (pv 3) af)))))))),?_⟩
  refine Fv ?_;intro cy cK dW eY gb kJ;obtain⟨xs,Y,pr⟩:=id Z;refine(aq rfl (aq rfl ⟨l,rfl,⟨_,aO.of Y⟩,iH (K:=K) (a:=l) (xs:=xs) (λi σ H2=>∃v4 U v6,σ=[some (.ref l),some (.int (x:Int)),some (.int (((RM.cU (rows.take i) x 0).1:Nat):Int)),some (.int (((RM.cU (rows.take i) x 0).2:Nat):Int)),v4,U,v6]/\H2=H) ⟨none,none,none,rfl,rfl⟩ (λi σ H2 _ ⟨_,_,_,_,z⟩=>by rw[z];exact aO.of Y) ?_ ?_⟩))
  ·rintro i y D' σ H2 hi ⟨v4,U,v6,rfl,rfl⟩;obtain⟨I,hq,b,rfl,hb⟩:=Paired.lQ pr hi;refine⟨b,_,rfl,aV.of hb,rfl,_,_,rfl,_,_,rfl,_,_,rfl,rfl,?_⟩;refine(aq rfl (aq rfl ⟨_,I.1,rfl,aq rfl (?_)⟩));rw[iW];have O:=Iz (rows.take i) I x 0;rw[<-take3 hq]at O;cases Cr:(RM.cU (rows.take i) x 0).1.testBit I.1 with
   | true =>
     rw[Cr,aad rfl]at O;refine fb (aq rfl (aq rfl (c6 (aq rfl (aq rfl (c6 ⟨some (.int (I.1:Int)),some (.int (I.2.1:Int)),some (.int (I.2.2:Int)),?_,rfl⟩))))));rw[O];show[_,_,some (V.int (Builtin.bitXor _ _)),some (V.int (Builtin.bitXor _ _)),_,_,_]=_;rw[xor_int,xor_int]
   | false =>
     rw[Cr,aab (by decide)]at O
     refine cO ⟨some (.int (I.1:Int)),some (.int (I.2.1:Int)),some (.int (I.2.2:Int)),?_,rfl⟩;rw[O];rfl
  ·rintro σ H2 ⟨v4,U,v6,rfl,rfl⟩;rw[pr.length,aaR];exact(aq rfl (aq rfl ⟨dl rfl,λc hc=>q c _ (au.new hc) ae⟩))
def qL:Ok T T.qG 2 DU:=by
 have bI:=bI T;refine T.qG.ok n8 λ_ A _ s H vs Q E hr h=>?_
 ·obtain⟨l,b,rows,ad,rfl,hR,hb,hlen,q⟩:=h;refine⟨_,(ai (aN (i:=2) n8.nd rfl (Or.inl rfl) (dX (aa (pv 1) af)))
   (ai (g7 PassesOwn.never rfl (vt K (pv 0)) (bq 3 n8.nd)
   (av (bC (cg (aE bI hr T.gQ.c aI (aa (aK (c5 K) (pv 3) ak) (aa (aK (c5 K) (pv 1) ak) af)))) (av (bF (G0 K (kM aaL aaT aaU cB (pv 2) (aa (cE (aa (aK (c5 K) (pv 3) ak) (aa (aQ iA (aK (c5 K) (pv 3) ak) (aK (c5 K) (pv 1) ak)) (aa (aQ iA (aK (c5 K) (pv 3) ak) (aK (c5 K) (pv 1) ak)) af)))) af))))) (av (bF (G0 K (kM aaL aaT aaU cB (pv 2) (aa (pv 3) af))))))))
   (av (aC (pv 2))))),?_⟩
  refine Di ?_;intro cy cK dW eY gb;obtain⟨xs,hl,pr⟩:=id hR;have Z:=pr.length;refine(aq rfl ⟨dl rfl,λD hD=>?_⟩)
  have s1:au H (upd H D (.lst [.ref b])):=au.new hD;have yz:upd H D (.lst [.ref b]) D=some (.lst [.ref b]):=ae;generalize upd H D (.lst [.ref b])=H1 at s1 yz;refine(aq rfl ⟨l,rfl,⟨_,aO.of (s1 _ _ hl)⟩,iH (K:=K) (a:=l) (xs:=xs) (λi σ H2=>∃v3 acc,σ=[some (.ref l),some (.ref b),some (.ref D),v3]/\au H H2/\H2 D=some (.lst acc)/\acc.length=i+1/\Paired (w9 H2) acc (RM.yy (rows.take i) ad)) ⟨none,_,rfl,s1,yz,rfl,.cons ⟨b,rfl,s1 _ _ hb⟩ .nil⟩ (λi σ H2 _ ⟨_,_,_,z,_⟩=>aO.of (z _ _ hl)) ?_ ?_⟩)
  ·rintro i y D' σ H2 hi ⟨v3,acc,rfl,s2,U,al,Y⟩;obtain⟨I,hq,c,rfl,hc⟩:=Paired.lQ pr hi;have Rl:=(kL.mp hi).1;have O:=s2 _ _ hc;have By:=s2 _ _ hb;have put:RM.yy (rows.take (i+1)) ad=RM.yy (rows.take i) ad++[if I.2.1.testBit ad.1=true then(I.1,I.2.1^^^ad.2.1,I.2.2^^^ad.2.2) else I]:=by
    unfold RM.yy;rw[take3 hq,aar];rfl
   refine(aq rfl (cV (aV.of O) (ao (j:=1) rfl) (aq rfl (cV (aV.of By) (ao (j:=0) rfl) ⟨_,ad.1,rfl,aq rfl (?_)⟩))));rw[iW];cases Cr:I.2.1.testBit ad.1 with
   | true =>
     rw[Cr,aad rfl]at put;refine fb (aq rfl ⟨.inl ⟨rfl,_,aO.of U⟩,aq rfl (cV (aV.of O) (ao (j:=0) rfl) (aq rfl (cV (aV.of O) (ao (j:=1) rfl) (aq rfl (cV (aV.of By) (ao (j:=1) rfl) (c6 (aq rfl (cV (aV.of O) (ao (j:=2) rfl) (aq rfl (cV (aV.of By) (ao (j:=2) rfl) (c6 ⟨dl rfl,λd hd=>?_⟩)))))))))))⟩)
     have s3:au H2 (upd H2 d (.tup (uF (I.1,I.2.1^^^ad.2.1,I.2.2^^^ad.2.2)))):=au.new hd;have Wn:upd H2 d (.tup (uF (I.1,I.2.1^^^ad.2.1,I.2.2^^^ad.2.2))) d=some (.tup (uF (I.1,I.2.1^^^ad.2.1,I.2.2^^^ad.2.2))):=ae;have ev:[V.int (I.1:Int),V.int (Builtin.bitXor (I.2.1:Int) (ad.2.1:Int)),V.int (Builtin.bitXor (I.2.2:Int) (ad.2.2:Int))]=uF (I.1,I.2.1^^^ad.2.1,I.2.2^^^ad.2.2):=by
      rw[xor_int,xor_int];rfl
     dsimp only;rw[ev];generalize upd H2 d (.tup (uF (I.1,I.2.1^^^ad.2.1,I.2.2^^^ad.2.2)))=H3 at s3 Wn;have zu:=s3 _ _ U;refine⟨D,_,_,rfl,rfl,zu,nN (by lia),_,acc++[.ref d],rfl,(s2.trans s3).put hD,ae,by rw[aaj,al];rfl,?_⟩
     rw[put];exact Paired.snoc (Paired.imp' (λ_ _ z=>z.tups (s3.tups.trans (bH.put zu))) Y) ⟨d,rfl,bH.put zu _ _ Wn⟩
   | false =>
     rw[Cr,aab (by decide)]at put
     refine cO (aq rfl ⟨.inl ⟨rfl,_,aO.of U⟩,aq rfl ⟨D,_,_,rfl,rfl,U,nN (by lia),_,acc++[.ref c],rfl,s2.put hD,ae,by rw[aaj,al];rfl,?_⟩⟩)
     rw[put];exact Paired.snoc (Paired.imp' (λ_ _ z=>z.tups (bH.put U)) Y) ⟨c,rfl,bH.put U _ _ O⟩
  ·rintro σ H2 ⟨v3,acc,rfl,s2,U,al,Y⟩;rw[Z,aaR]at Y;exact(aq rfl (q D H2 s2 ⟨acc,U,Y⟩))
def jW:Ok T T.pM 3 Gb:=by
 have uq:=uq T;have qL:=qL T;refine T.pM.ok iJ λ_ A _ s H vs Q E hr h=>?_
 ·obtain⟨l,B,rfl,hl,hB,q⟩:=h;refine⟨_,(ai (aN (i:=1) iJ.nd rfl (Or.inl rfl) (dX af))
   (ai (g7 PassesOwn.never rfl (AA K (by rfl) T.gW (aa (pv 0) af)) (BO K (n:=2) rfl (aJ (bq 2 iJ.nd) (aJ (bq 3 iJ.nd) cJ)))
   (ai (aN (i:=4) iJ.nd rfl (Or.inl rfl) (aE uq hr T.uc.c aI (aa (pv 1) (aa (pv 3) af))))
   (av (bC (aL pZ (aK (c5 K) (pv 4) ak) ak (aM _)) (av (aN (i:=1) iJ.nd rfl (Or.inl rfl) (aE qL hr T.qG.c aI (aa (pv 1) (aa (cE (aa (aQ qm (Ez PySem.F.plainAttrs_int acX acY Gy (aK (c5 K) (pv 4) ak)) ak) (aa (aK (c5 K) (pv 4) ak) (aa (aQ iA (aK (c5 K) (pv 4) ak) (aQ qo ak (pv 2))) af)))) af))))) aU))))
   (av (aC (pv 1))))),?_⟩
  refine Fw ?_;intro cy cK dW eY gb;refine⟨dl rfl,λD hD=>?_⟩
  have s1:au H (upd H D (.lst [])):=au.new hD;have yz:upd H D (.lst []) D=some (.lst []):=ae;generalize upd H D (.lst [])=H1 at s1 yz;refine(aq rfl ⟨l,rfl,⟨_,aO.of (s1 _ _ hl)⟩,B9 (K:=K) (a:=l) (xs:=aB B) (λi σ H2=>∃I rows v2 v3 v4,σ=[some (.ref l),some (.ref I),v2,v3,v4]/\au H H2/\jI H2 I rows/\RM.Rw (B.take i) rows/\rows=RM.ia B i) ⟨D,[],none,none,none,rfl,s1,⟨[],yz,.nil⟩,RM.Rw.start,rfl⟩ (λi σ H2 _ ⟨_,_,_,_,_,_,z,_⟩=>aO.of (z _ _ hl)) ?_ ?_⟩)
  ·rintro i x T0 σ H2 hx ⟨I,rows,v2,v3,v4,rfl,s2,Y,O,Z⟩ hT;obtain⟨b,hb,rfl⟩:=iD hx;have Rl:=(kL.mp hb).1;have s3:au H2 (upd H2 T0 (.tup [.int (i:Int),.int (b:Int)])):=au.new hT;have Z9:upd H2 T0 (.tup [.int (i:Int),.int (b:Int)]) T0=some (.tup [.int (i:Int),.int (b:Int)]):=ae;generalize upd H2 T0 (.tup [.int (i:Int),.int (b:Int)])=H3 at s3 Z9;refine⟨T0,_,rfl,aV.of Z9,rfl,_,_,rfl,_,_,rfl,rfl,?_⟩;refine(aq rfl (aq rfl ⟨I,rows,b,rfl,Y.same s3,λc H4 s4 hc=>?_⟩))
   have ag:(B.take i).length=i:=by rw[aa3];lia
   refine(aq rfl (cV (aV.of hc) (ao (j:=0) rfl) (c6 (aq rfl (qV (λh0=>?_) (λh0=>?_))))))
   ·have h0:(0:Int)<_:=kK h0;have U:(RM.cU rows b 0).1≠0:=by lia
    have Vx:=O.put U;rw[ag,<-take3 hb]at Vx;have Vy:=(Y.same s3).same s4;have WM:rows.length<=200:=by have:=O.le;lia
    refine(aq rfl (aq rfl (cV (aV.of hc) (ao (j:=0) rfl) ⟨rfl,aq rfl ⟨rfl,c6 (aq rfl (cV (aV.of hc) (ao (j:=0) rfl) (aq rfl (cV (aV.of hc) (ao (j:=1) rfl) (aq rfl (c6 ⟨⟨by lia,by lia,by decide⟩,c6 ⟨dl rfl,λd hd=>?_⟩⟩))))))⟩⟩)))
    have ev:[V.int (((Builtin.Int.intBits (((RM.cU rows b 0).1:Nat):Int):Nat):Int)-1),V.int (((RM.cU rows b 0).1:Nat):Int),V.int (Builtin.bitXor (((RM.cU rows b 0).2:Nat):Int) (1*2^((i:Nat):Int).toNat))]=uF ((RM.cU rows b 0).1.log2,(RM.cU rows b 0).1,(RM.cU rows b 0).2^^^2^i):=by
     rw[LL U,rA,xor_int];rfl
    dsimp only;rw[ev];refine⟨I,d,rows,_,rfl,Vy.same (au.new hd),ae,WM,λl5 H5 s5 ar=>?_⟩
    exact⟨l5,_,_,_,_,rfl,((s2.trans (s3.trans s4)).trans (au.new hd)).trans s5,ar,Vx,RM.Fi Z hb U⟩
   ·have U:(RM.cU rows b 0).1=0:=by
     have : ¬(0:Int)<_:=λz=>h0 (eG z)
     lia
    have ab:=O.skip ((O.sW b 0).mp U);rw[<-take3 hb]at ab;exact⟨I,rows,_,_,_,rfl,s2.trans (s3.trans s4),(Y.same s3).same s4,ab,RM.C4 Z hb U⟩
  ·rintro σ H2 ⟨I,rows,v2,v3,v4,rfl,s2,Y,O,Z⟩;rw[aG]at Z;rw[aG,aaR]at O;exact(aq rfl (q I rows H2 s2 Y O Z))
def jX:Ok T T.pN 9 Gd:=by
 have F3:=F3 T;have cR:=cR T;have jW:=jW T;refine T.pN.ok Fy λ_ A _ s H vs Q E hr h=>?_
 ·obtain⟨wb,p,ts,g,l,zs,rfl,hw,hl,hz,q⟩:=h;refine⟨_,(ai (bC (PW.pt (lN (aL BW (cz K T.dR (aa (pv 1) af)) (aE F3 hr T.FW.c aI (aa (pv 0) af)) (aM _)) (jk (eW (cg (bQ (Ov K rfl) (by rfl) T.G5 acq (aa (bW (own:=["ring"]) (fq:=["web"]) (js:=[0]) (aF (aj pJ) ["web","rings"]) rfl (vt K (pv 1)) (λ_ _ _ _=>(bq 0 (jV ["ring","web"]))) (λ_ _ _ _=>bV) (λ_ _ _ _=>(aE cR hr T.fK.c aI (aa (pv 1) (aa (pv 0) af))))) af))))))) (av (aC gf)) aU)
   (av (aC (dH i8 (cz K T.dR (aa (aE jW hr T.pM.c aI (aa (pv 1) af)) af)) (cz K T.dR (aa (pv 1) af)) (aM _))))),?_⟩
  refine dB ?_;intro cy cK;refine(aq rfl (uI rfl (.inl (aO.of hl)) (aq rfl ⟨wb,p,ts,g,rfl,hw,λH1 s1=>⟨rfl,aq rfl (?_)⟩⟩)))
  by_cases hn:zs.length=g.N.aZ.length
  case neg =>
   refine Vv (λz=>hn ?_) (q H1 false s1 ⟨(λz=>nomatch z),λ⟨rs,e,b⟩=>absurd b.len (λz=>hn ?_)⟩)
   ·have z:=V.int.inj z;rw[aaa]at z
    lia
   ·rw[e,aaa];exact z
  refine Gv (by rw[aaa,hn]) ?_
  have O:=s1 _ _ hl;refine(aq rfl ⟨l,rfl,⟨_,aO.of O⟩,λD hD=>bX (xs:=zs.map V.int) (λi acc H2=>au H1 H2/\H2 D=some (.lst acc)/\∃bs:List Bool,acc=bs.map V.bl/\bs.length=i/\∀(j:Nat) z d,j<i->zs[j]?=some z->bs[j]?=some d->(d=true↔∃m:Nat,z=(m:Int)/\m<2^ts.length/\g.N.Ring m)) ⟨au.new hD,ae,[],rfl,rfl,(λj z d h=>by lia)⟩ (λi acc H2 _ z=>⟨aO.of (z.1 _ _ O),z.2.1,by obtain⟨bs,e,e2,_⟩:=z.2.2;rw[e,aaa,e2];exact aaf _⟩) (aa6 (nN (by rw[aaa];lia))) ?_ ?_⟩)
  ·rintro i x acc H2 hx ⟨s2,lK,bs,rfl,bl,all⟩;rw[aak]at hx;obtain⟨z,hz,rfl⟩:=uQ.mp hx;refine⟨rfl,aq rfl (aq rfl ⟨wb,p,ts,g,z,rfl,hw.same (s1.trans s2),λH3 d s3 hd=>?_⟩)⟩
   refine⟨s3 _ _ lK,(s2.trans s3).put hD,ae,bs++[d],by rw[aar];rfl,by rw[aaj,bl];rfl,λj z' d' hj I U=>?_⟩
   by_cases e:j=i
   ·subst e;rw[hz]at I;cases I;rw[aaS (by lia),bl,acy]at U
    cases U;exact hd
   ·rw[aaP (by lia)]at U
    exact all j z' d' (by lia) I U
  ·rintro acc H2 ⟨s2,lK,bs,rfl,bl,all⟩;rw[aaa]at bl all;refine⟨D,_,rfl,aO.of lK,_,rfl,?_⟩;have ok:bs.all id=true↔∃rs:List Nat,zs=rs.map (λx=>((x:Nat):Int))/\∀r∈rs,g.N.Ring r/\r<2^ts.length:=by
    rw[abm]
    constructor
    ·intro h;have each:∀z∈zs,∃m:Nat,z=(m:Int)/\m<2^ts.length/\g.N.Ring m:=λz I=>by
      obtain⟨j,hj⟩:=aaN I;have LK:=(kL.mp hj).1;have hb:bs[j]?=some (bs[j]'(by lia)):=aam _
      exact(all j z _ LK hj hb).mp (h _ (jY hb))
     refine⟨zs.map Int.toNat,?_,λr hr=>?_⟩
     ·rw[aa7];refine(List.map_id zs).symm.trans (List.map_congr_left λz I=>?_)
      obtain⟨m,rfl,_⟩:=each z I;rfl
     ·obtain⟨z,I,rfl⟩:=aas.mp hr;obtain⟨m,rfl,h1,h2⟩:=each z I;exact⟨h2,h1⟩
    ·rintro⟨rs,rfl,Y⟩ d hd;obtain⟨j,hj⟩:=aaN hd;have LK:=(kL.mp hj).1;have hr:rs[j]?=some (rs[j]'(by rw[aaa]at bl;lia)):=aam _
     have hm:=Y _ (jY hr);exact(all j _ d (by lia) (by rw[aak,hr];rfl) hj).mpr (aq rfl ⟨hm.2,hm.1⟩)
   cases hall:bs.all id with
   | false =>
     refine fb (q H2 false (s1.trans s2) ⟨(λz=>nomatch z),λ⟨rs,e,b⟩=>?_⟩)
     rw[ok.mpr ⟨rs,e,b.ring⟩]at hall;cases hall
   | true =>
     obtain⟨rs,rfl,Y⟩:=ok.mp hall;rw[aaa]at hz hn;rw[<-gC]at O;have Z:=s2 _ _ O;refine cO (aq rfl ⟨l,rs,rfl,Z,hz,λl3 rows H3 s3 WN ab _=>?_⟩)
     obtain⟨xs,Vz,SX⟩:=id WN;refine(uI rfl (.inl (aO.of Vz)) (aq rfl (uI rfl (.inl (aO.of (s3 _ _ Z))) ⟨rfl,q H3 _ ((s1.trans s2).trans s3) ?_⟩)));rw[aG,SX.length,adh]
     constructor
     ·intro e;have e:=V.int.inj e;exact⟨rs,rfl,hn,Y,ab.len.mp (by lia)⟩
     ·rintro⟨ag,e,b⟩;rw[<-cast_inj e]at b;have:=ab.len.mpr b.ind;rw[this]
def MarksOf(N:RM.Net)(rs ms:List Nat):Prop:=ms.length=rs.length/\∀(i m:Nat),ms[i]?=some m->m<2^N.n/\∀(j r:Nat),rs[j]?=some r->N.par r m=decide (i=j)
def BE(C:Addr):Sp:=λvs H Q E=>∃w p ts,∃g:aD p ts,∃(l:Addr) (zs:List Int),vs=[.ref w,.ref l]/\bK H w p ts/\H l=some (.lst (zs.map V.int))/\zs.length<=200/\
 ((∃rs:List Nat,zs=rs.map (λx=>((x:Nat):Int))/\RM.Base g.N rs/\∀(D:Addr) (ms:List Nat) (H' : Hp),H D=none->au H H'->H' D=some (.lst (aB ms))->MarksOf g.N rs ms->ms=(List.range rs.length).map (λi=>orM (RM.di (RM.ia rs rs.length) i))->Q (.ref D) H')\/(¬ P8 p ts g zs/\∀H',au H H'->E (.ref C) none H'))
def oQ:JS T T.oE 10 (BE a.xU):=by
 have jX:=jX T;have jW:=jW T;have bI:=bI T;have mF:=mF T;refine T.oE.GB jL λ_ A _ s H vs Q E hr h=>?_
 ·obtain⟨wb,p,ts,g,l,zs,rfl,hw,Y,hz,q⟩:=h;refine⟨_,(ai (bC (eW (cg (aE jX hr T.pN.c aI (aa (pv 0) (aa (pv 1) af))))) (av (vX gA.XX rfl (by rfl) T.MA acr (aa mJ af))) aU)
   (ai (aN (i:=2) jL.nd rfl (Or.inl rfl) (aE jW hr T.pM.c aI (aa (pv 1) af)))
   (ai (aN (i:=3) jL.nd rfl (Or.inl rfl) (dX af))
   (ai (qY rfl (cA (by rfl) T.dJ (aa (cz K T.dR (aa (pv 1) af)) af)) (vp (i:=4) jL.nd rfl (Or.inr rfl))
   (av (bF (G0 K (kM aaL aaT aaU cB (pv 3) (aa (aE mF hr T.rV.c aI (aa (pv 0) (aa (bW (own:=["lead","row","places"]) (fq:=["place"]) (js:=[4]) (aF (aj kY) ["web","rings","rows","found","place"]) rfl (vt K (pv 2)) (λ_ _ _ _=>(BO K (n:=3) rfl (aJ (bq 0 (jV ["lead","row","places","place"])) (aJ (bq 1 (jV ["lead","row","places","place"])) (aJ (bq 2 (jV ["lead","row","places","place"])) cJ))))) (λ_ _ _ _=>(iU (cg (aE bI hr T.gQ.c aI (aa (pv 2) (aa (pv 3) af)))))) (λ_ _ _ _=>(pv 0))) af))) af))))))
   (av (aC (pv 3))))))),?_⟩
  refine Bc ?_;intro cy cK dW eY gb kJ;refine(aq rfl (aq rfl ⟨wb,p,ts,g,l,zs,rfl,hw,Y,hz,λH1 d s1 hd=>(aq rfl (?_))⟩))
  rcases q with⟨rs,rfl,bs,q⟩|⟨hn,q⟩
  case inr =>
   cases d with
   | true=>exact absurd (hd.mp rfl) hn
   | false=>exact fb ⟨dl rfl,q H1 s1⟩
  rw[hd.mpr ⟨rs,rfl,bs⟩];refine cO ?_;rw[aaa]at hz;rw[<-gC]at Y;have ab:=s1 _ _ Y;refine(aq rfl ⟨l,rs,rfl,ab,hz,λZ rows H2 s2 P9 MJ R7=>?_⟩)
  refine⟨dl rfl,λD hD=>?_⟩
  have s3:au H2 (upd H2 D (.lst [])):=au.new hD;have zu:upd H2 D (.lst []) D=some (.lst (aB [])):=ae;generalize upd H2 D (.lst [])=H3 at s3 zu;have oN:=(s1.trans s2).trans s3;have OO:H D=none:=(s1.trans s2).free hD;have Vz:=oN _ _ Y;have WN:=P9.same s3;obtain⟨xs,aT,a3⟩:=id WN;have a4:=MJ.le;refine(aq rfl (uI rfl (.inl (aO.of Vz)) (aq rfl ⟨(by rw[aG];lia),(by rw[aG];lia),?_⟩)))
  refine mT (lo:=0) (n:=((aB rs).length:Int).toNat) (λi σ H4=>∃v4 ms,σ=[some (.ref wb),some (.ref l),some (.ref Z),some (.ref D),v4]/\au H H4/\jI H4 Z rows/\H4 D=some (.lst (aB ms))/\ms=(List.range i).map λj=>orM (RM.di rows j)) ⟨none,[],rfl,oN,WN,zu,rfl⟩ ?_ ?_
  ·rintro i D' σ H4 hi ⟨v4,ms,rfl,s4,Vy,DL,I⟩;rw[aG,aap]at hi;rw[abp];obtain⟨ag,VA,R8⟩:=id Vy;have a5:ms.length=i:=by rw[I,aaa,aaA]
   have YS:D≠Z:=λe=>by
    obtain⟨ys,e1,_⟩:=P9;rw[e,e1]at hD;cases hD
   refine(aq rfl ⟨.inl ⟨rfl,_,aO.of DL⟩,aq rfl (aq rfl ⟨Z,rfl,⟨_,aO.of VA⟩,λC hC=>bX (xs:=ag) (λj acc U=>au H4 U/\U C=some (.lst acc)/\acc=aB (RM.di (rows.take j) i)) ⟨au.new hC,ae,rfl⟩ ?_ (aa6 (nN (by rw[R8.length];lia))) ?_ ?_⟩)⟩)
   ·rintro j acc U hj ⟨s5,O,rfl⟩;refine⟨aO.of (s5 _ _ VA),O,?_⟩;rw[aG];unfold RM.di;rw[aaa];have h1:=aaI (λq:RM.Row3=>q.2.2.testBit i) (rows.take j)
    rw[aa3]at h1
    lia
   ·rintro j x acc U hx ⟨s5,O,rfl⟩;obtain⟨qq,hq,c,rfl,hc⟩:=Paired.lQ R8 hx;have ar:=s5 _ _ hc;have lead:RM.di (rows.take (j+1)) i=RM.di (rows.take j) i++(if qq.2.2.testBit i=true then[qq.1] else[]):=by
     unfold RM.di;rw[take3 hq,abx,aar]
     congr 1
     rw[aaD];cases qq.2.2.testBit i<;>rfl
    refine⟨c,_,rfl,aV.of ar,rfl,_,_,rfl,_,_,rfl,_,_,rfl,rfl,rfl,aq rfl (aq rfl ⟨_,i,rfl,aq rfl (?_)⟩)⟩;rw[iW];cases hb:qq.2.2.testBit i with
    | true =>
      rw[hb,aad rfl]at lead;refine(aq rfl ⟨O,s5.put hC,ae,?_⟩);rw[lead,gB]
    | false =>
      rw[hb,aab (by decide),abT]at lead
      exact⟨s5,O,by rw[lead]⟩
   ·rintro acc U ⟨s5,O,rfl⟩;rw[R8.length,aaR]at O;have aw:rs[i]?=some rs[i]:=aam hi;have mk:=MJ.marks (N:=g.N) bs.ind (λb hb=>(bs.ring b hb).2) (i:=i) aw
    refine⟨wb,p,ts,C,_,rfl,hw.same (s4.trans s5),g.zz,O,mk.2,?_⟩;have x6:=s5 _ _ DL;refine⟨D,_,_,rfl,rfl,x6,nN (by rw[aG];lia),_,ms++[orM (RM.di rows i)],rfl,(s4.trans s5).put OO,?_,?_,?_⟩
    ·obtain⟨ys,e1,e2⟩:=Vy.same s5;exact⟨ys,by rw[ah YS.symm];exact e1,Paired.imp' (λ_ _ z=>z.tups (bH.put x6)) e2⟩
    ·rw[ae,gB]
    ·rw[abe,aar,I];rfl
  ·rintro σ H4 ⟨v4,ms,rfl,s4,Vy,DL,I⟩;rw[aG,aap]at I;refine(aq rfl (q D ms H4 OO s4 DL ⟨by rw[I,aaa,aaA],λi m hm=>?_⟩ (by rw[I,<-R7])))
   rw[I,aak]at hm;obtain⟨j,hj,rfl⟩:=uQ.mp hm;have ej:j=i/\i<rs.length:=by
    obtain⟨h1,h2⟩:=kL.mp hj;rw[List.getElem_range]at h2;rw[aaA]at h1;exact⟨h2.symm,h1⟩
   obtain⟨rfl,LK⟩:=ej;have mk:=λj' r (h:rs[j']?=some r)=>MJ.marks (N:=g.N) bs.ind (λb hb=>(bs.ring b hb).2) (i:=j) h
   have ax:rs[j]?=some rs[j]:=aam LK;exact⟨Rk (mk j _ ax).2,λj' r hr=>(mk j' r hr).1⟩
def JD(t1 t2:Addr)(MK JE:Pos):Sp:=λvs H Q _=>∃w p ts,∃g:aD p ts,vs=[.ref w]/\bK H w p ts/\H t1=some (.jj (dG (kI "least_ways") MK))/\H t2=some (.jj (dG (kI "by_length") JE))/\
 ∀D rs H',H D=none->au H H'->H' D=some (.lst (aB rs))->RM.LB g.N (bg ts) rs->rs.Pairwise (jE ts)->(∃bs,RM.Ff g.N (bg ts) (g.N.aZ.map λc=>2^c) bs []/\rs.Perm bs)->Q (.ref D) H'
def eU:Ok T T.i0 10 (JD a.bN a.cN bA cu):=by
 have mE:=mE T;have oO:=oO T;have bB:=bB T;have gX:=gX T;refine T.i0.ok dQ λ_ A _ s H vs Q E hr h=>?_
 ·obtain⟨wb,p,ts,g,rfl,hw,uN,uO,q⟩:=h;refine⟨_,(ai (iV (i:=1) dQ.nd rfl rfl (own:=["chord"]) (fq:=[]) (js:=[]) (aF (aj gj) ["web","waiting","found","marks","ring"]) rfl (vt K (aE mE hr T.rX.c aI (aa (pv 0) af))) (λ_ _ _ _=>(bq 0 (jV ["chord"]))) (λ_ _ _ _=>bV) (λ_ _ _ _=>(aQ qo ak (pv 0))))
   (ai (aN (i:=2) dQ.nd rfl (Or.inl rfl) (dX af))
   (ai (BV PassesOwn.never (aL pZ (cz K T.dR (aa (pv 1) af)) ak (aM _)) (ai (aN (i:=3) dQ.nd rfl (Or.inr rfl) (aK (nA K) (pv 1) ak))
   (ai (aN (i:=4) dQ.nd rfl (Or.inr rfl) (aK (c5 K) (aE oO hr T.oB.c qZ (aa (pv 0) (aa (pv 3) af))) ak))
   (ai (bF (G0 K (kM aaL aaT aaU cB (pv 2) (aa (pv 4) af))))
   (av (iV (i:=1) dQ.nd rfl rfl (own:=["later"]) (fq:=["marks","ring"]) (js:=[3,4]) (aF (aj gj) ["web","waiting","found","marks","ring"]) rfl (vt K (B4 (Zr K) (pv 1) (An ak) NH)) (λ_ _ _ _=>(bq 0 (jV ["later","marks","ring"]))) (λ_ _ _ _=>bV) (λ_ _ _ _=>(lO (cg (aE bB hr T.eT.c aI (aa (pv 2) (aa (pv 0) af)))) (aQ iA (pv 0) (pv 1)) (pv 0)))))))))
   (av (aC (aE gX hr T.jh.c aI (aa (pv 0) (aa (pv 2) af)))))))),?_⟩
  refine xJ ?_;intro cy cK dW eY gb kJ uK;have wl:=g.len;have cn:g.N.aZ.length<=24:=by
   have:g.N.aZ.length<=(List.range g.N.n).length:=aaI ..;rw[aaA]at this;have h2:g.N.n=ts.length:=rfl
   lia
  have b5:(100:Nat)<sizeLine:=by decide
  refine(aq rfl ⟨wb,p,ts,g,rfl,hw,λDc H1 b6 s1 ab=>⟨Dc,rfl,⟨_,aO.of ab⟩,λX hX=>bX (K:=K) (a:=Dc) (xs:=aB g.N.aZ) (λi acc H2=>au H1 H2/\H2 X=some (.lst acc)/\acc=aB ((g.N.aZ.take i).map λc=>2^c)) ⟨au.new hX,ae,rfl⟩ (λi acc H2 _ z=>⟨aO.of (z.1 _ _ ab),z.2.1,by rw[z.2.2,aG,aaa,aa3];lia⟩) (cZ (by rw[aG];lia)) ?_ ?_⟩⟩)
  ·rintro i x acc H2 hx ⟨s2,I,rfl⟩;obtain⟨c,ag,rfl⟩:∃c,g.N.aZ[i]?=some c/\x = .int (c:Int):=by
    unfold aB at hx;rw[aak]at hx;obtain⟨c,h1,h2⟩:=uQ.mp hx;exact⟨c,h1,h2.symm⟩
   have ar:=(RM.dZ.mp (jY ag)).1;have ar:c<ts.length:=ar;refine⟨rfl,aq rfl (c6 ⟨⟨by lia,by lia,by decide⟩,I,s2.put hX,ae,?_⟩)⟩
   rw[aaM,ag];show _=aB (List.map _ (List.take i g.N.aZ++[c]));rw[aar,List.map_singleton,gB];dsimp only;rw[rA]
  rintro acc H2 ⟨s2,I,rfl⟩;rw[aG,aaR]at I;refine⟨dl rfl,λF hF=>?_⟩
  have s3:au H2 (upd H2 F (.lst [])):=au.new hF;have Eb:=s3 _ _ I;have aw:upd H2 F (.lst []) F=some (.lst (aB [])):=ae;have bt:H F=none:=(s1.trans s2).free hF;have bw:X≠F:=λz=>by rw[<-z,I]at hF;cases hF
  have S0:=(s1.trans s2).trans s3;generalize upd H2 F (.lst [])=H3 at Eb aw S0;have nd:g.N.aZ.Nodup:=RM.Ip;have hL:=l9 g;refine⟨λn σ H4=>∃X bs us ws cs Z v4,σ=[some (.ref wb),some (.ref X),some (.ref F),Z,v4]/\au H H4/\H4 X=some (.lst (aB ws))/\H4 F=some (.lst (aB bs))/\X≠F/\RM.DP g.N (bg ts) bs us/\RM.Wt g.N bs ws cs/\RM.Ff g.N (bg ts) (g.N.aZ.map λc=>2^c) bs ws/\n=ws.length,⟨_,X,[],[],_,_,none,none,rfl,S0,Eb,aw,bw,RM.DP.start,RM.Wt.start nd,.start,rfl⟩,?_⟩
  rintro n σ H4 ⟨X,bs,us,ws,cs,Z,v4,rfl,Y,S3,ax,YT,dp,U,lr,rfl⟩;refine(aq rfl (uI rfl (.inl (aO.of S3)) (c6 (aq rfl (qV (λhlen=>?_) (λhlen=>?_))))))
  case refine_2 =>
   have hl : ¬(0:Int)<((aB ws).length:Int):=λz=>hlen (eG z)
   have e:ws=[]:=ac9 (by rw[aG]at hl;lia)
   subst e;have hb:bs.length=g.N.aZ.length:=by
    have:=U.sum;rw[acd]at this
    lia
   refine(aq rfl (aq rfl ⟨wb,p,ts,g,F,bs,rfl,hw.same Y,ax,by lia,λm hm=>(dp.ring m hm).2,Y _ _ uO,λD bD H5 hD s5 x6 hp hs=>?_⟩))
   exact q D bD H5 (Y.free hD) (Y.trans s5) x6 ((dp.least hb).perm hp) hs ⟨bs,lr,hp⟩
  have hlen:(0:Int)<((aB ws).length:Int):=kK hlen;rw[aG]at hlen;refine⟨λσ' H'=>∃X bs us O cs Z v4,σ' = [some (.ref wb),some (.ref X),some (.ref F),Z,v4]/\au H H'/\H' X=some (.lst (aB O))/\H' F=some (.lst (aB bs))/\X≠F/\RM.DP g.N (bg ts) bs us/\RM.Wt g.N bs O cs/\RM.Ff g.N (bg ts) (g.N.aZ.map λc=>2^c) bs O/\O.length<ws.length,λσ' H' ⟨X,bs,us,O,cs,Z,v4,e,a1,a2,a3,a4,a5,a6,a8,a7⟩=>⟨_,a7,X,bs,us,O,cs,Z,v4,e,a1,a2,a3,a4,a5,a6,a8,rfl⟩,?_⟩
  obtain⟨m,ws,rfl⟩:∃m O,ws=m::O:=by
   cases ws with
   | nil=>simp at hlen
   | cons m O=>exact⟨m,O,rfl⟩
  have bP:m<2^ts.length:=U.lt m aaq;refine(aq rfl (nC (aO.of S3) (ao (j:=0) rfl) (?_)));refine(aq rfl (aq rfl ⟨wb,p,ts,g,(m:Int),rfl,hw.same Y,Y _ _ uN,.inl ⟨m,rfl,bP,λr H5 cb s5 told=>?_⟩⟩))
  obtain⟨r0,g1,g2,g3⟩:=U.odd;rcases told with⟨n1,_⟩|⟨z,e,b2,W,lo,le,a1,_⟩
  ·obtain⟨x,hx,aT⟩:=RM.rH hL m g1 g2;rw[g3]at aT;exact absurd aT (n1 x _ hx)
  refine(cV (aV.of a1) (ao (j:=1) rfl) (?_));have a9:=s5 _ _ ax;have bR:=s5 _ _ S3;have cp:bs.length<=24:=by have:=U.sum;lia
  refine(aq rfl ⟨(.inl ⟨rfl,_,aO.of a9⟩),aq rfl ⟨F,_,_,rfl,rfl,a9,(by rw[aG];lia),?_⟩⟩)
  have VB:au H (upd H5 F (.lst (aB bs++[.int (e:Int)]))):=(Y.trans s5).put bt;have ba:upd H5 F (.lst (aB bs++[.int (e:Int)])) F=some (.lst (aB (bs++[e]))):=by rw[ae,gB]
  have ML:upd H5 F (.lst (aB bs++[.int (e:Int)])) X=some (.lst (aB (m::ws))):=by rw[ah YT];exact bR
  generalize upd H5 F (.lst (aB bs++[.int (e:Int)]))=H6 at VB ba ML;have Sa:yp (aB (m::ws)) (some (1:Int)) none=aB ws:=Lc (m::ws) (i:=1) (by simp)
  have YU:=U.next le.par;obtain⟨cc,b3,_,YU⟩:=YU;have b4:=dp.snoc le.ring le.lt le.par (λr h1 h2 h3=>by
   have:=le.least hL h1 h2 h3;have e1:RM.len g.N (bg ts) e=z:=le.len;rw[e1];exact this) (U.jm m aaq)
  have cq:ws.length<=24:=by have:=U.sum;rw[aaZ]at this;lia
  refine(aq rfl (aq rfl ⟨X,_,rfl,aO.of ML,λc hc=>?_⟩))
  rw[Sa];have bb:au H (upd H6 c (.lst (aB ws))):=VB.trans (au.new hc);have YV:=au.new hc (o:=.lst (aB ws)) _ _ ba;have OX:upd H6 c (.lst (aB ws)) c=some (.lst (aB ws)):=ae;generalize upd H6 c (.lst (aB ws))=H7 at bb YV OX;refine⟨c,rfl,⟨_,aO.of OX⟩,λX' VC=>bX (K:=K) (a:=c) (xs:=aB ws) (λi acc H8=>au H7 H8/\H8 X' = some (.lst acc)/\acc=aB ((ws.take i).map λv=>if g.N.par e v=true then v^^^m else v)) ⟨au.new VC,ae,rfl⟩ (λi acc H8 _ z=>⟨aO.of (z.1 _ _ OX),z.2.1,by rw[z.2.2,aG,aaa,aa3];lia⟩) (cZ (by rw[aG];lia)) ?_ ?_⟩
  ·rintro i x acc H8 hx ⟨s8,WO,rfl⟩;obtain⟨v,Pd,rfl⟩:∃v,ws[i]?=some v/\x = .int (v:Int):=by
    unfold aB at hx;rw[aak]at hx;obtain⟨c,h1,h2⟩:=uQ.mp hx;exact⟨c,h1,h2.symm⟩
   have bc:v<2^ts.length:=U.lt v (pP _ (jY Pd));have yd:Builtin.Int.intBits ((e&&&v:Nat):Int)<=1000:=aaB (bits_le (acf _ bc)) (by lia)
   have snoc:∀y,(if g.N.par e v=true then v^^^m else v)=y->aB ((ws.take i).map λv=>if g.N.par e v=true then v^^^m else v)++[.int (y:Int)]=aB ((ws.take (i+1)).map λv=>if g.N.par e v=true then v^^^m else v):=λy hy=>by
    rw[aaM,Pd];show _=aB (List.map _ (List.take i ws++[v]));rw[aar,List.map_singleton,gB,hy]
   refine⟨rfl,aq rfl (aq rfl ⟨_,_,e,v,rfl,rfl,rfl,yd,λH9 s9=>(aq rfl (?_))⟩)⟩
   rw[AO (g:=g) bc];have bo:=s8.trans s9;have bp:=s9 _ _ WO;cases hb:g.N.par e v with
   | true =>
     refine fb (aq rfl (aq rfl (c6 ⟨bp,bo.put VC,ae,?_⟩)));dsimp only;rw[xor_int];exact snoc _ (aad hb)
   | false=>exact cO (aq rfl ⟨bp,bo.put VC,ae,snoc _ (aab (by rw[hb];decide))⟩)
  ·rintro acc H8 ⟨s8,WO,rfl⟩;rw[aG,aaR]at WO;refine⟨X',bs++[e],us++[m],_,b3,_,_,rfl,bb.trans s8,WO,s8 _ _ YV,?_,b4,YU,lr.step lo,by rw[aaa];simp⟩
   intro z;rw[z,YV]at VC;cases VC
def BF(t:Addr)(lp:Pos):Sp:=λvs H Q _=>∃w p ts,∃g:aD p ts,∃m:Nat,vs=[.ref w,.int (m:Int)]/\bK H w p ts/\m<2^ts.length/\H t=some (.jj (dG (kI "least_ways") lp))/\∀b W H',au H H'->ff H' b W->JQ p W->rJ p ts g m W->Q (.ref b) H'
abbrev Qa:=Nat×Nat×List (List Pr)
def y9(H:Hp)(v:V)(t:Qa):Prop:=∃c b,v = .ref c/\H c=some (.tup [.int (t.1:Int),.int (t.2.1:Int),.ref b])/\ff H b t.2.2
def y9.tups{H H' : Hp}{v:V}{t:Qa}(s:bH H H')(h:y9 H v t):y9 H' v t:=let⟨c,b,e,h1,ys,h2,h3⟩:=h;⟨c,b,e,s _ _ h1,ys,s _ _ h2,Paired.imp' (λ_ _ z=>z.tups s) h3⟩
def MM(t1 t2:Addr)(MK JE:Pos):Sp:=λvs H Q _=>∃w p ts,∃g:aD p ts,vs=[.ref w]/\bK H w p ts/\H t1=some (.jj (dG (kI "least_ways") MK))/\H t2=some (.jj (dG (kI "by_length") JE))/\
 ∀b ys (I:List Qa) H',H b=none->au H H'->H' b=some (.tup ys)->Paired (y9 H') ys I->RM.LB g.N (bg ts) (I.map (·.1))->(I.map (·.1)).Pairwise (jE ts)->MarksOf g.N (I.map (·.1)) (I.map (·.2.1))->(∀t∈I,JQ p t.2.2/\rJ p ts g t.2.1 t.2.2)->(∃bs,RM.Ff g.N (bg ts) (g.N.aZ.map λc=>2^c) bs []/\(I.map (·.1)).Perm bs)->I.map (·.2.1)=(List.range (I.map (·.1)).length).map (λi=>orM (RM.di (RM.ia (I.map (·.1)) (I.map (·.1)).length) i))->Q (.ref b) H'
def nk:Ok T T.m7 7 (BF a.bN bA):=by
 have cS:=cS T;have c9:=c9 T;refine T.m7.ok yG λ_ A _ s H vs Q E hr h=>?_
 ·obtain⟨U,p,ts,g,m,rfl,hw,hm,I,q⟩:=h;refine⟨_,(av (aC (aE c9 hr T.gw.c aI (aa (aE cS hr T.fL.c aI (aa (pv 0) (aa (pv 1) af))) af)))),?_⟩;have wp:=g.p2;refine(aq rfl (aq rfl ⟨U,p,ts,g,m,rfl,hw,hm,I,λD ds O H1 hD s1 Y al=>?_⟩))
  obtain⟨hl,all⟩:=id al;refine⟨D,ds,O,p,g.N,bg ts,m,rfl,Y,(by lia),al,λb H2 s2 Z=>?_⟩
  refine q b _ H2 (s1.trans s2) Z ⟨by rw[aaa,aaA],λR hR=>?_⟩ λi hi x s hx=>?_
  ·obtain⟨i,_,rfl⟩:=aas.mp hR;exact AW _ _
  ·have e:ds[i]?=some ds[i]:=aam (by lia)
   obtain⟨H0,es,e1,e2,e3,e4,_⟩:=all i _ e;rw[aae,aak,acs hi];show RM.uT _ _ m i x s (sel (fD (mh (yY (O i)) p) x) s);rw[LA hx];exact e4 x s
def nq:Ok T T.m9 11 (MM a.bN a.cN bA cu):=by
 have eU:=eU T;have oQ:=oQ T;have nk:=nk T;refine T.m9.ok lB λ_ A _ s H vs Q E hr h=>?_
 ·obtain⟨Z,p,ts,g,rfl,hw,uN,uO,q⟩:=h;refine⟨_,(ai (aN (i:=1) lB.nd rfl (Or.inl rfl) (aE eU hr T.i0.c aI (aa (pv 0) af)))
   (ai (aN (i:=2) lB.nd rfl (Or.inl rfl) (aE oQ hr T.oE.c qZ (aa (pv 0) (aa (pv 1) af))))
   (av (aC (fk (B8 K) (by rfl) T.pO abA (aa (bW (own:=["ring","own"]) (fq:=["web"]) (js:=[0]) (aF (aj jM) ["web","rings","marks"]) rfl (KS K (by rfl) T.P4 (aa (pv 1) (aa (pv 2) af))) (λ_ _ _ _=>(BO K (n:=2) rfl (aJ (bq 0 (jV ["ring","own","web"])) (aJ (bq 1 (jV ["ring","own","web"])) cJ)))) (λ_ _ _ _=>bV) (λ_ _ _ _=>(cE (aa (pv 0) (aa (pv 1) (aa (aE nk hr T.m7.c aI (aa (pv 2) (aa (pv 1) af))) af)))))) af)))))),?_⟩
  refine ie ?_;intro cy cK;have wl:=g.len;refine(aq rfl ⟨Z,p,ts,g,rfl,hw,uN,uO,λD rs H1 hD s1 yz lb pw lr=>?_⟩)
  have ax:rs.length<=24:=by
   have h1:g.N.aZ.length<=(List.range g.N.n).length:=aaI ..;rw[aaA,<-lb.1.len]at h1;exact aaB h1 wl
  refine(aq rfl (aq rfl ⟨Z,p,ts,g,D,rs.map (λx=>((x:Nat):Int)),rfl,hw.same s1,by rw[<-gC];exact yz,by rw[aaa];lia,.inl ⟨rs,rfl,lb.1,λD2 ms H2 lK s2 VD mo ab=>?_⟩⟩))
  have VE:=s2 _ _ yz;have U:=s1.trans s2;have ag:=mo.1;refine(aq rfl (aq rfl ⟨D,D2,rfl,⟨_,aO.of VE⟩,⟨_,aO.of VD⟩,λX hX=>Ca (xs:=aB rs) (ys:=aB ms) (by rw[aG,aG];lia) (λi acc H3=>au H2 H3/\H3 X=some (.lst acc)/\∃I:List Qa,Paired (y9 H3) acc I/\I.map (·.1)=rs.take i/\I.map (·.2.1)=ms.take i/\∀t∈I,JQ p t.2.2/\rJ p ts g t.2.1 t.2.2) ⟨au.new hX,ae,[],.nil,rfl,rfl,λt ht=>by cases ht⟩ (λi acc H3 _ ⟨z1,z2,I,z3,z4,_⟩=>⟨aO.of (z1 _ _ VE),aO.of (z1 _ _ VD),z2,?_⟩) (cZ (by rw[aG];lia)) ?_ ?_⟩))
  ·have h1:=z3.length;have h2:=aaO List.length z4;rw[aaa,aa3]at h2
   lia
  ·rintro i x y T0 acc H3 hx hy ⟨s3,Eb,I,pr,O,Y,al⟩ ar;have item:∀{l:List Nat} {v:V},(aB l)[i]?=some v->∃c,l[i]?=some c/\v = .int (c:Int):=λ{l v} h=>by
    unfold aB at h;rw[aak]at h;obtain⟨c,h1,h2⟩:=uQ.mp h;exact⟨c,h1,h2.symm⟩
   obtain⟨r,B3,rfl⟩:=item hx;obtain⟨m,hmi,rfl⟩:=item hy;have aw:=(mo.2 i m hmi).1;have s4:au H3 (upd H3 T0 (.tup [.int (r:Int),.int (m:Int)])):=au.new ar;have JF:=(U.trans s3).trans s4;refine⟨T0,_,rfl,aV.of ae,rfl,_,_,rfl,_,_,rfl,rfl,rfl,aq rfl (aq rfl (aq rfl (aq rfl ⟨Z,p,ts,g,m,rfl,hw.same JF,aw,JF _ _ uN,λb W H5 s5 hW sq bw=>⟨dl rfl,λc hc=>?_⟩⟩)))⟩
   have s6:au H5 (upd H5 c (.tup [.int (r:Int),.int (m:Int),.ref b])):=au.new hc;have YW:=(s4.trans s5).trans s6;have ML:=YW _ _ Eb;refine⟨ML,(s3.trans YW).put hX,ae,I++[(r,m,W)],?_,?_,?_,λt ht=>?_⟩
   ·exact Paired.snoc (Paired.imp' (λ_ _ z=>y9.tups (YW.tups.trans (bH.put ML)) z) pr) (y9.tups (bH.put ML) ⟨c,b,rfl,ae,hW.same s6⟩)
   ·rw[aar,O,aaM,B3];rfl
   ·rw[aar,Y,aaM,hmi];rfl
   ·rcases aaH.mp ht with z|z
    ·exact al t z
    ·rw[aax.mp z];exact⟨sq,bw⟩
  ·rintro acc H3 ⟨s3,Eb,I,pr,O,Y,al⟩;rw[aG,aaR]at O;rw[aG,<-ag,aaR]at Y;refine⟨X,_,rfl,.inl ⟨aO.of Eb,λl hl=>?_⟩⟩
   have s4:au H3 (upd H3 l (.tup acc)):=au.new hl;exact q l acc I _ ((U.trans s3).free hl) ((U.trans s3).trans s4) ae (Paired.imp' (λ_ _ z=>y9.tups s4.tups z) pr) (by rw[O];exact lb) (by rw[O];exact pw) (by rw[O,Y];exact mo) al (by rw[O];exact lr) (by rw[O,Y];exact ab)
def Ge(t1 t2:Addr)(MK JE:Pos):Sp:=λvs H Q _=>∃w p ts,∃g:aD p ts,vs=[.ref w]/\bK H w p ts/\H t1=some (.jj (dG (kI "least_ways") MK))/\H t2=some (.jj (dG (kI "by_length") JE))/\
 ∀D rs H',H D=none->au H H'->H' D=some (.lst ((rs.map (lenOf ts)).map V.int))->RM.LB g.N (bg ts) rs->rs.Pairwise (jE ts)->(∃bs,RM.Ff g.N (bg ts) (g.N.aZ.map λc=>2^c) bs []/\rs.Perm bs)->Q (.ref D) H'
def iS:Ok T T.mz 11 (Ge a.bN a.cN bA cu):=by
 have eU:=eU T;have b8:=b8 T;refine T.mz.ok Fz λ_ A _ s H vs Q E hr h=>?_
 ·obtain⟨Y,p,ts,g,rfl,hw,uN,uO,q⟩:=h;refine⟨_,(av (aC (bW (own:=["ring"]) (fq:=["web"]) (js:=[0]) (aF (aj pL) ["web"]) rfl (vt K (aE eU hr T.i0.c aI (aa (pv 0) af))) (λ_ _ _ _=>(bq 0 (jV ["ring","web"]))) (λ_ _ _ _=>bV) (λ_ _ _ _=>(aE b8 hr T.gU.c qZ (aa (pv 1) (aa (pv 0) af))))))),?_⟩
  have wl:=g.len;have W:=g.zz;refine(aq rfl ⟨Y,p,ts,g,rfl,hw,uN,uO,λD rs H1 hD s1 Z O pw lr=>?_⟩)
  have ab:rs.length<=24:=by
   have h1:g.N.aZ.length<=(List.range g.N.n).length:=aaI ..;rw[aaA,<-O.1.len]at h1;exact aaB h1 wl
  refine⟨D,rfl,⟨_,aO.of Z⟩,λX U=>bX (K:=K) (a:=D) (xs:=aB rs) (λi acc H2=>au H1 H2/\H2 X=some (.lst acc)/\acc=((rs.take i).map (lenOf ts)).map V.int) ⟨au.new U,ae,rfl⟩ (λi acc H2 _ z=>⟨aO.of (z.1 _ _ Z),z.2.1,by rw[z.2.2,aaa,aaa,aa3];lia⟩) (cZ (by rw[aG];lia)) ?_ ?_⟩
  ·rintro i x acc H2 hx ⟨s2,I,rfl⟩;obtain⟨r,B3,rfl⟩:∃r,rs[i]?=some r/\x = .int (r:Int):=by
    unfold aB at hx;rw[aak]at hx;obtain⟨c,h1,h2⟩:=uQ.mp hx;exact⟨c,h1,h2.symm⟩
   have WM:=(O.1.ring r (jY B3)).2;refine⟨rfl,aq rfl (aq rfl ⟨Y,p,ts,_,rfl,hw.same (s1.trans s2),W,.inl ⟨r,rfl,WM,λH3 s3=>⟨s3 _ _ I,(s2.trans s3).put U,ae,?_⟩⟩⟩)⟩
   rw[aaM,B3];show _=List.map V.int (List.map (lenOf ts) (List.take i rs++[r]));rw[aar,aar];rfl
  ·rintro acc H2 ⟨s2,I,rfl⟩;rw[aG,aaR]at I;exact q X rs H2 (s1.free U) (s1.trans s2) I O pw lr
def MN(p:Nat)(W:List (List Pr))(l:Int):Prop:=∀i,i<p->∀d,(fD (W.getD i []) i).2=some d->l<=d
def Nh(o:Option Int)(l:Int):Bool:=match o with
 | none=>true
 | some d=>decide (l<=d)
def za(W:List (List Pr))(i:Nat):List V:=(List.range i).map λj=>oV (fD (W.getD j []) j).2
def JG(W:List (List Pr))(i:Nat):za W (i+1)=za W i++[oV (fD (W.getD i []) i).2]:=by
 unfold za;rw[abe,aar];rfl
def vm:Sp:=λvs H Q _=>∃(b:Addr) (p:Nat) (W:List (List Pr)) (l:Int),vs=[.ref b,.int l]/\ff H b W/\JQ p W/\p<=10/\∀H' (d:Bool),au H H'->(d=true↔MN p W l)->Q (.bl d) H'
def YX(p:Nat)(ts:List cP)(g:aD p ts)(m:Nat)(z:Int)(W:List (List Pr)):Prop:=∃r:Nat,z=(r:Int)/\r<2^ts.length/\g.N.Ring r/\(bx ((r&&&m:Nat):Int)).length%2=1/\AU p ts m W/\MN p W (lenOf ts r)
def yf:Sp:=λvs H Q _=>∃(w b:Addr) (p:Nat) (ts:List cP),∃g:aD p ts,∃(W:List (List Pr)) (m:Nat) (z:Int),vs=[.ref w,.int (m:Int),.int z,.ref b]/\bK H w p ts/\ff H b W/\JQ p W/\m<2^ts.length/\
 ∀H' (d:Bool),au H H'->(d=true↔YX p ts g m z W)->Q (.bl d) H'
def kG:Ok T T.kD 1 vm:=by
 refine T.kD.ok nu λ_ A _ s H vs Q E hr h=>?_
 ·obtain⟨b,p,W,l,rfl,hW,Y,hp,q⟩:=h;refine⟨_,(ai (iV (i:=2) nu.nd rfl rfl (own:=["point"]) (fq:=["worths"]) (js:=[0]) (aF (aj fg) ["worths","length","rounds"]) rfl (cA (by rfl) T.dJ (aa (cz K T.dR (aa (pv 0) af)) af)) (λ_ _ _ _=>(bq 0 (jV ["point","worths"]))) (λ_ _ _ _=>bV) (λ_ _ _ _=>(aK (c5 K) (aK (c5 K) (aK (c5 K) (pv 1) (pv 0)) (pv 0)) ak)))
   (av (aC (bQ (Ov K rfl) (by rfl) T.G5 acq (aa (bW (own:=["worth"]) (fq:=["length"]) (js:=[1]) (aF (aj fg) ["worths","length","rounds"]) rfl (vt K (pv 2)) (λ_ _ _ _=>(bq 0 (jV ["worth","length"]))) (λ_ _ _ _=>bV) (λ_ _ _ _=>(Tp (dH nJ (pv 0) iw (aM _)) (nH (dH BX (pv 0) (pv 1) (aM _)))))) af))))),?_⟩
  refine iY ?_;intro cy;obtain⟨ws,O,WL⟩:=id hW;have Z:ws.length=p:=by rw[WL.length,Y.1]
  refine(aq rfl (uI rfl (.inr (aV.of O)) (aq rfl ⟨(by lia),(by lia),λD hD=>dY (lo:=0) (m:=ws.length) (λi acc H2=>au H H2/\H2 D=some (.lst acc)/\acc=za W i) ⟨au.new hD,ae,rfl⟩ (λi acc H2 _ z=>⟨z.2.1,by rw[z.2.2];unfold za;rw[aaa,aaA];exact aaf _⟩) (cZ (by lia)) ?_ ?_⟩)))
  ·rintro i acc H2 hi ⟨s2,U,e2⟩;rw[abp];have hi:i<p:=by lia
   obtain⟨x,hx,bR,ys,rfl,Vt,Vu⟩:=iG WL (i:=i) (by rw[Y.1];exact hi) []
   have rl:=Y.row hi;obtain⟨bP,eP,CP⟩:=RowW.at Vu (i:=i) (by lia)
   refine⟨rfl,aq rfl (aq rfl (cV (aV.of (s2 _ _ O)) (ao (j:=i) hx) (aq rfl (cV (aV.of (s2 _ _ Vt)) (ao (j:=i) eP) (cV (aV.of (s2 _ _ CP)) (ao (j:=1) rfl) ⟨U,s2.put hD,ae,?_⟩)))))⟩;rw[JG,e2]
  ·rintro acc H2 ⟨s2,U,rfl⟩;refine(aq rfl ⟨D,rfl,⟨_,aO.of U⟩,λI VF=>bX (xs:=za W ws.length) (λi acc H3=>au H2 H3/\H3 I=some (.lst acc)/\acc=((List.range i).map λj=>Nh (fD (W.getD j []) j).2 l).map V.bl) ⟨au.new VF,ae,rfl⟩ (λi acc H3 _ z=>⟨aO.of (z.1 _ _ U),z.2.1,by rw[z.2.2];rw[aaa,aaa,aaA];exact aaf _⟩) (cZ (by unfold za;rw[aaa,aaA];lia)) ?_ ?_⟩)
   ·rintro i x acc H3 hx ⟨s3,zu,rfl⟩;unfold za at hx;rw[aak]at hx;obtain⟨j,hj,rfl⟩:=uQ.mp hx;have ej:j=i:=by
     obtain⟨h1,h2⟩:=kL.mp hj;rw[List.getElem_range]at h2;exact h2.symm
    subst ej;have YY:∀bl,Nh (fD (W.getD j []) j).2 l=bl->H3 I=some (.lst (((List.range j).map λj=>Nh (fD (W.getD j []) j).2 l).map V.bl))/\au H2 (upd H3 I (.lst ((((List.range j).map λj=>Nh (fD (W.getD j []) j).2 l).map V.bl)++[.bl bl])))/\upd H3 I (.lst ((((List.range j).map λj=>Nh (fD (W.getD j []) j).2 l).map V.bl)++[.bl bl])) I=some (.lst ((((List.range j).map λj=>Nh (fD (W.getD j []) j).2 l).map V.bl)++[.bl bl]))/\(((List.range j).map λj=>Nh (fD (W.getD j []) j).2 l).map V.bl)++[.bl bl]=((List.range (j+1)).map λj=>Nh (fD (W.getD j []) j).2 l).map V.bl:=by
     intro bl hb;refine⟨zu,s3.put VF,ae,?_⟩;rw[abe,aar,aar];show _=_++[V.bl (Nh (fD (W.getD j []) j).2 l)];rw[hb]
    generalize hv:(fD (W.getD j []) j).2=o at YY;cases o with
    | none=>exact⟨rfl,aq rfl ⟨rfl,aq rfl (HH rfl (YY true rfl))⟩⟩
    | some d=>exact⟨rfl,aq rfl ⟨rfl,aq rfl (k7 (λz=>nomatch z) (aq rfl (aq rfl (c6 (YY _ rfl)))))⟩⟩
   ·rintro acc H3 ⟨s3,zu,rfl⟩;refine⟨I,_,rfl,aO.of zu,q H3 _ (s2.trans s3) ?_⟩;rw[abm];have hl:(za W ws.length).length=p:=by unfold za;rw[aaa,aaA,Z]
    rw[hl]
    constructor
    ·intro h i hi d hd;have:=h _ (aas.mpr ⟨i,aaC.mpr hi,rfl⟩);rw[hd]at this;exact kK this
    ·intro h x hx;obtain⟨j,hj,rfl⟩:=aas.mp hx;have hj:=aaC.mp hj;show Nh _ l=true;cases hd:(fD (W.getD j []) j).2 with
     | none=>rfl
     | some d=>exact eG (h j hj d hd)
def lH:Ok T T.lD 9 yf:=by
 have cR:=cR T;have bB:=bB T;have kF:=kF T;have kG:=kG T;have b8:=b8 T;refine T.lD.ok xH λ_ A _ s H vs Q E hr h=>?_
 ·obtain⟨Z,b,p,ts,g,W,m,z,rfl,hw,hW,sq,hm,q⟩:=h;refine⟨_,(ai (bC (PW.pt (lN (eW (cg (aE cR hr T.fK.c aI (aa (pv 0) (aa (pv 2) af))))) (jk (eW (cg (aE bB hr T.eT.c aI (aa (pv 2) (aa (pv 1) af)))))))) (av (aC gf)) aU)
   (av (aC (qk (aE kF hr T.kC.c qZ (aa (pv 0) (aa (pv 1) (aa (pv 3) af)))) (nH (aE kG hr T.kD.c aI (aa (pv 3) (aa (aE b8 hr T.gU.c qZ (aa (pv 0) (aa (pv 2) af))) af)))))))),?_⟩
  refine dB ?_;intro cy cK;have wl:=g.len;have wp:=g.p2;refine(aq rfl (aq rfl ⟨Z,p,ts,g,z,rfl,hw,λH1 d s1 hd=>(aq rfl (?_))⟩))
  cases d with
  | false=>exact fb (q H1 false s1 ⟨λz=>(aah z).elim,λ⟨r,e,hr,rg,_⟩=>hd.mpr ⟨r,e,hr,rg⟩⟩)
  | true =>
    obtain⟨r,rfl,U,rg⟩:=hd.mp rfl;have yd:Builtin.Int.intBits ((r&&&m:Nat):Int)<=1000:=by
     have h1:r&&&m<2^ts.length:=acf _ hm;have h2:=bits_le h1
     lia
    have one:∀O:Nat,(r:Int)=(O:Int)->O=r:=λO e=>by lia
    refine cO (aq rfl (aq rfl ⟨_,_,r,m,rfl,rfl,rfl,yd,λH2 s2=>(aq rfl (?_))⟩))
    by_cases Y:(bx ((r&&&m:Nat):Int)).length%2=1
    case neg =>
     rw[gz Y];refine fb (q H2 false (s1.trans s2) ⟨λz=>(aah z).elim,λ⟨O,e,_,_,h,_⟩=>absurd h ?_⟩)
     rw[one O e];exact Y
    rw[eG Y];have I:=s1.trans s2;refine cO (aq rfl (aq rfl (aq rfl ⟨Z,b,p,ts,W,_,rfl,hw.same I,g.zz,hW.same I,sq,.inl ⟨m,rfl,hm,λst H3 s3=>?_,λab H3 s3=>?_⟩⟩)))
    ·have oN:=I.trans s3;refine(aq rfl (fb (aq rfl (aq rfl (aq rfl ⟨Z,p,ts,_,rfl,hw.same oN,g.zz,.inl ⟨r,rfl,U,λH4 s4=>?_⟩⟩)))))
     have JF:=oN.trans s4;refine⟨b,p,W,_,rfl,hW.same JF,sq,wp,λH5 d5 s5 WQ=>q H5 d5 (JF.trans s5) ?_⟩
     rw[WQ];exact⟨λh=>⟨r,rfl,U,rg,Y,st,h⟩,λ⟨O,e,_,_,_,_,h⟩=>by rw[one O e]at h;exact h⟩
    ·refine(aq rfl (cO (q H3 false (I.trans s3) ⟨λz=>(aah z).elim,λ⟨O,e,_,_,_,st,_⟩=>absurd st ab⟩)))
abbrev VG:=Int×Int×List (List Pr)
def VH(p:Nat)(H:Hp)(v:V)(t:VG):Prop:=∃c b,v = .ref c/\H c=some (.tup [.int t.1,.int t.2.1,.ref b])/\ff H b t.2.2/\JQ p t.2.2
def Qc(n:Nat)(N:RM.Net)(rs:List Nat)(zs:List Int):Prop:=∃ms:List Nat,zs=ms.map (λx=>((x:Nat):Int))/\MarksOf N rs ms
def MO(p:Nat)(ts:List cP)(g:aD p ts)(I:List VG):Prop:=∃rs:List Nat,I.map (·.1)=rs.map (λx=>((x:Nat):Int))/\RM.Base g.N rs/\rs.Pairwise (jE ts)/\Qc ts.length g.N rs (I.map (·.2.1))/\∀t∈I,YX p ts g t.2.1.toNat t.1 t.2.2
def BG:Sp:=λvs H Q _=>∃w p ts,∃g:aD p ts,∃(l I:Addr) (rs:List Nat) (zs:List Int),vs=[.ref w,.ref l,.ref I]/\bK H w p ts/\H l=some (.lst (aB rs))/\(∀r∈rs,r<2^ts.length)/\H I=some (.lst (zs.map V.int))/\zs.length=rs.length/\rs.length<=24/\
 ∀H' (d:Bool),au H H'->(d=true↔Qc ts.length g.N rs zs)->Q (.bl d) H'
def yg(t2:Addr)(JE:Pos):Sp:=λvs H Q _=>∃w p ts,∃g:aD p ts,∃(b:Addr) (ys:List V) (I:List VG),vs=[.ref w,.ref b]/\bK H w p ts/\H t2=some (.jj (dG (kI "by_length") JE))/\H b=some (.tup ys)/\Paired (VH p H) ys I/\I.length<=60/\
 ∀H' (d:Bool),au H H'->(d=true↔MO p ts g I)->Q (.bl d) H'
def Ae{ts:List cP}{x y:Nat}(h1:jE ts x y)(h2:jE ts y x):x=y:=by
 unfold jE at h1 h2
 lia
def yh{f:Nat->Bool}{n j:Nat}(hj:j<n):(List.range n).filter f=[j]↔∀k,k<n->f k=decide (k=j):=by
 constructor
 ·intro e k hk;have hm:k∈(List.range n).filter f↔k=j:=by rw[e,aax]
  rw[aaK,aaC]at hm;cases h:f k with
  | true=>exact(eG (hm.mp ⟨hk,h⟩)).symm
  | false=>exact(gz λz=>by have:=(hm.mpr z).2;rw[h]at this;cases this).symm
 ·intro h;rw[adj (q:=λk=>decide (k=j)) λk hk=>h k (aaC.mp hk)]
  clear h
  induction n with
  | zero=>lia
  | succ n I =>
    rw[abe,abx]
    by_cases e:j=n
    ·subst e;rw[acM.mpr λx hx=>by have:=aaC.mp hx;simp;lia]
     simp
    ·rw[I (by lia)]
     have:n≠j:=aaE e;simp[this]
def MP{n:Nat}{zs:List Int}(h:∀z∈zs,0<=z/\z<2^n):∃ms:List Nat,zs=ms.map (λx=>((x:Nat):Int))/\∀m∈ms,m<2^n:=by
 obtain⟨ms,e⟩:=MF (l:=zs) λx hx=>(h x hx).1
 refine⟨ms,e,λm hm=>?_⟩
 have h1:=(h (m:Int) (by rw[e];exact aas.mpr ⟨m,hm,rfl⟩)).2
 have I:((2^n:Nat):Int)=2^n:=by rw[Int.natCast_pow];rfl
 lia
def oR:Ok T T.oF 5 BG:=by
 have ir:=ir T;have bB:=bB T;refine T.oF.ok m4 λ_ A _ s H vs Q E hr h=>?_
 ·obtain⟨wb,p,ts,g,l,l2,rs,zs,rfl,hw,hl,aw,O,Wg,a3,q⟩:=h;refine⟨_,(ai (bC (eW (cg (bQ (Ov K rfl) (by rfl) T.G5 acq (aa (bW (own:=["own"]) (fq:=["web"]) (js:=[0]) (aF (aj jg) ["web","rings","marks","place","ring"]) rfl (vt K (pv 2)) (λ_ _ _ _=>(bq 0 (jV ["own","web"]))) (λ_ _ _ _=>bV) (λ_ _ _ _=>(aE ir hr T.oA.c aI (aa (pv 1) (aa (pv 0) af))))) af)))) (av (aC gf)) aU)
   (ai (g7 PassesOwn.never rfl (AA K (by rfl) T.gW (aa (pv 1) af)) (BO K (n:=2) rfl (aJ (bq 3 m4.nd) (aJ (vp (i:=4) m4.nd rfl (Or.inr rfl)) cJ)))
   (av (bC (aL (vW K hr.units) (bW (own:=["k","own"]) (fq:=["ring"]) (js:=[4]) (aF (aj jg) ["web","rings","marks","place","ring"]) rfl (AA K (by rfl) T.gW (aa (pv 2) af)) (λ_ _ _ _=>(BO K (n:=2) rfl (aJ (bq 0 (jV ["k","own","ring"])) (aJ (bq 1 (jV ["k","own","ring"])) cJ)))) (λ_ _ _ _=>(iU (cg (aE bB hr T.eT.c aI (aa (pv 2) (aa (pv 1) af)))))) (λ_ _ _ _=>(pv 0))) (dX (aa (pv 3) af)) (aM _)) (av (aC gf)) aU)))
   (av (aC gf)))),?_⟩
  refine Bd ?_;intro cy cK dW eY gb;have wl:=g.len;have W:=g.zz;refine(aq rfl ⟨l2,rfl,⟨_,aO.of O⟩,λD hD=>bX (K:=K) (a:=l2) (xs:=zs.map V.int) (λi acc H2=>au H H2/\H2 D=some (.lst acc)/\acc=((zs.take i).map λz=>decide (0<=z/\z<2^ts.length)).map V.bl) ⟨au.new hD,ae,rfl⟩ (λi acc H2 _ z=>⟨aO.of (z.1 _ _ O),z.2.1,by rw[z.2.2,aaa,aaa,aa3];lia⟩) (cZ (by rw[aaa];lia)) ?_ ?_⟩)
  ·rintro i x acc H2 hx ⟨s2,U,rfl⟩;rw[aak]at hx;obtain⟨z,hz,rfl⟩:=uQ.mp hx;refine⟨rfl,aq rfl (aq rfl ⟨wb,p,ts,z,rfl,hw.same s2,W,U,s2.put hD,ae,?_⟩)⟩;rw[aaM,hz];show _=List.map V.bl (List.map _ (List.take i zs++[z]));rw[aar,aar];rfl
  rintro acc H2 ⟨s2,U,rfl⟩;rw[aaa,aaR]at U;refine⟨D,_,rfl,aO.of U,_,rfl,?_⟩
  by_cases I:∀z∈zs,0<=z/\z<2^ts.length
  case neg =>
   have e1:(List.map (λz=>decide (0<=z/\z<2^ts.length)) zs).all id=false:=by
    rw[aci];intro z;rw[abm]at z;exact I λx hx=>kK (z _ (aas.mpr ⟨x,hx,rfl⟩))
   rw[e1];refine fb (q H2 false s2 ⟨λz=>(aah z).elim,λ⟨ms,e,mo⟩=>(I λx hx=>?_).elim⟩)
   rw[e]at hx;obtain⟨m,hm,rfl⟩:=aas.mp hx;obtain⟨j,hj⟩:=aaN hm;have h1:m<2^ts.length:=(mo.2 j m hj).1;have e2:((2^ts.length:Nat):Int)=2^ts.length:=by rw[Int.natCast_pow];rfl
   lia
  have e1:(List.map (λz=>decide (0<=z/\z<2^ts.length)) zs).all id=true:=by
   rw[abm];intro x hx;obtain⟨z,hz,rfl⟩:=aas.mp hx;exact eG (I z hz)
  rw[e1];obtain⟨ms,rfl,ag⟩:=MP I;rw[aaa]at Wg;rw[<-gC]at O;refine cO (aq rfl ⟨l,rfl,⟨_,aO.of (s2 _ _ hl)⟩,B9 (K:=K) (a:=l) (xs:=aB rs) (λi σ H3=>∃v3 v4,σ=[some (.ref wb),some (.ref l),some (.ref l2),v3,v4]/\au H H3/\∀j r,j<i->rs[j]?=some r->∀k,k<ms.length->g.N.par r (ms.getD k 0)=decide (k=j)) ⟨none,none,rfl,s2,λj r hj=>by lia⟩ (λi σ H3 _ ⟨_,_,_,z,_⟩=>aO.of (z _ _ hl)) ?_ ?_⟩)
  ·rintro i x T0 σ H3 hx ⟨v3,v4,rfl,s3,Nd⟩ hT;obtain⟨r,B3,rfl⟩:=iD hx;have Rl:=(kL.mp B3).1;have WM:=aw r (jY B3);have s4:au H3 (upd H3 T0 (.tup [.int (i:Int),.int (r:Int)])):=au.new hT;have M6:upd H3 T0 (.tup [.int (i:Int),.int (r:Int)]) T0=some (.tup [.int (i:Int),.int (r:Int)]):=ae;generalize upd H3 T0 (.tup [.int (i:Int),.int (r:Int)])=H4 at s4 M6;have vI:=s3.trans s4;refine⟨T0,_,rfl,aV.of M6,rfl,_,_,rfl,_,_,rfl,rfl,?_⟩;refine(aq rfl ⟨l2,rfl,⟨_,aO.of (vI _ _ O)⟩,λD2 U=>E6 (K:=K) (a:=l2) (xs:=aB ms) (pQ (λk=>g.N.par r (ms.getD k 0)) H4 D2) (.start U) (λi acc H5 _ Y=>⟨aO.of (Y.1 _ _ (vI _ _ O)),Y.len⟩) (cZ (by rw[aG];lia)) ?_ ?_⟩)
   ·intro k y T1 acc H5 hy Y ax;obtain⟨m,ar,rfl⟩:=iD hy;have Z:=ag m (jY ar);have em:ms.getD k 0=m:=by rw[aae,ar];rfl
    have yd:Builtin.Int.intBits ((r&&&m:Nat):Int)<=1000:=aaB (bits_le (acf _ Z)) (by lia)
    refine⟨T1,_,rfl,aV.of ae,rfl,_,_,rfl,_,_,rfl,rfl,rfl,aq rfl (aq rfl ⟨_,_,r,m,rfl,rfl,rfl,yd,λH6 s6=>(aq rfl (?_))⟩)⟩
    have s7:=(au.new ax).trans s6
    by_cases z:g.N.par r m=true
    ·rw[eG ((AX Z).mpr z)];exact fb (aq rfl (Y.yes U s7 (by rw[em];exact z)))
    ·rw[gz λy=>z ((AX Z).mp y)]
     exact cO (Y.no s7 (by rw[em];exact aci.mpr z))
   ·intro acc H5 Y;obtain⟨s5,x6,e5⟩:=Y;rw[aG]at e5;rw[e5]at x6;refine(aq rfl ⟨dl rfl,λL hL=>?_⟩)
    have s6:au H5 (upd H5 L (.lst (aB [i]))):=au.new hL;refine⟨_,_,.lst (aO.of (s6 _ _ x6)) (lU _),.lst (aO.of ae) (lU [i]),jb _,jb _,_,rfl,?_⟩;rw[zH];have VB:=(vI.trans s5).trans s6
    by_cases z:(List.range ms.length).filter (λk=>g.N.par r (ms.getD k 0))=[i]
    ·rw[eG z];have z:=(yh (by lia)).mp z
     refine cO ⟨_,_,rfl,VB,λj r' hj ab=>?_⟩
     by_cases e:j=i
     ·subst e;rw[B3]at ab;rw[<-Option.some.inj ab];exact z
     ·exact Nd j r' (by lia) ab
    ·rw[gz z];refine fb (q _ false VB ⟨λz=>(aah z).elim,λ⟨a4,e,mo⟩=>(z ((yh (by lia)).mpr λk hk=>?_)).elim⟩)
     have e:=cast_inj e;subst e;have aT:ms[k]?=some (ms.getD k 0):=by rw[aae,aam hk];rfl
     exact(mo.2 k _ aT).2 i r B3
  ·rintro σ H3 ⟨v3,v4,rfl,s3,Nd⟩;rw[aG]at Nd;refine q H3 true s3 ⟨λ_=>⟨ms,rfl,Wg,λk m hk=>⟨ag m (jY hk),λj r hj=>?_⟩⟩,λ_=>rfl⟩
   have:=Nd j r (kL.mp hj).1 hj k (kL.mp hk).1
   rwa [aae,hk]at this
def lJ:Ok T T.lE 10 (yg a.cN cu):=by
 have jX:=jX T;have gX:=gX T;have oR:=oR T;have lH:=lH T;refine T.lE.ok oh λ_ A _ s H vs Q E hr h=>?_
 ·obtain⟨wb,p,ts,g,b,ys,tr,rfl,hw,aw,hb,WR,tl,q⟩:=h;refine⟨_,(ai (iV (i:=2) oh.nd rfl rfl (own:=["ring","marks","worths"]) (fq:=[]) (js:=[]) (aF (aj eR) ["web","base","rings"]) rfl (Us K (pv 1)) (λ_ _ _ _=>(BO K (n:=3) rfl (aJ (bq 0 (jV ["ring","marks","worths"])) (aJ (bq 1 (jV ["ring","marks","worths"])) (aJ (bq 2 (jV ["ring","marks","worths"])) cJ))))) (λ_ _ _ _=>bV) (λ_ _ _ _=>(pv 0)))
   (ai (bC (PW.pt (lN (eW (cg (aE jX hr T.pN.c aI (aa (pv 0) (aa (pv 2) af))))) (jk (aL (vW K hr.units) (pv 2) (aE gX hr T.jh.c aI (aa (pv 0) (aa (pv 2) af))) (aM _))))) (av (aC gf)) aU)
   (ai (bC (eW (cg (aE oR hr T.oF.c aI (aa (pv 0) (aa (pv 2) (aa (bW (own:=["ring","marks","worths"]) (fq:=[]) (js:=[]) (aF (aj eR) ["web","base","rings"]) rfl (Us K (pv 1)) (λ_ _ _ _=>(BO K (n:=3) rfl (aJ (bq 0 (jV ["ring","marks","worths"])) (aJ (bq 1 (jV ["ring","marks","worths"])) (aJ (bq 2 (jV ["ring","marks","worths"])) cJ))))) (λ_ _ _ _=>bV) (λ_ _ _ _=>(pv 1))) af)))))) (av (aC gf)) aU)
   (av (aC (bQ (Ov K rfl) (by rfl) T.G5 acq (aa (bW (own:=["ring","marks","worths"]) (fq:=["web"]) (js:=[0]) (aF (aj eR) ["web","base","rings"]) rfl (Us K (pv 1)) (λ_ _ _ _=>(BO K (n:=3) rfl (aJ (bq 0 (jV ["ring","marks","worths","web"])) (aJ (bq 1 (jV ["ring","marks","worths","web"])) (aJ (bq 2 (jV ["ring","marks","worths","web"])) cJ))))) (λ_ _ _ _=>bV) (λ_ _ _ _=>(aE lH hr T.lD.c aI (aa (pv 3) (aa (pv 1) (aa (pv 0) (aa (pv 2) af))))))) af))))))),?_⟩
  refine xK ?_;intro cy cK dW eY gb;have wl:=g.len;have VI:=WR.length;refine(aq rfl ⟨b,rfl,⟨_,aV.of hb⟩,λX hX=>nL (K:=K) (a:=b) (xs:=ys) (λi acc H2=>au H H2/\H2 X=some (.lst acc)/\acc=((tr.take i).map (·.1)).map V.int) ⟨au.new hX,ae,rfl⟩ (λi acc H2 _ z=>⟨aV.of (z.1 _ _ hb),z.2.1,by rw[z.2.2,aaa,aaa,aa3];lia⟩) (aa6 (bS (by lia))) ?_ ?_⟩)
  ·rintro i x acc H2 hx ⟨s2,U,rfl⟩;obtain⟨t,O,c,bw,rfl,hc,_⟩:=Paired.lQ WR hx;refine⟨c,_,rfl,aV.of (s2 _ _ hc),rfl,_,_,rfl,_,_,rfl,_,_,rfl,rfl,rfl,aq rfl ⟨U,s2.put hX,ae,?_⟩⟩;rw[aaM,O];show _=List.map V.int (List.map _ (List.take i tr++[t]));rw[aar,aar];rfl
  rintro acc H2 ⟨s2,U,rfl⟩;rw[VI,aaR]at U;refine(aq rfl (aq rfl ⟨wb,p,ts,g,X,_,rfl,hw.same s2,U,(by rw[aaa];lia),λH3 d s3 hd=>(aq rfl (?_))⟩))
  have oN:=s2.trans s3;cases d with
  | false =>
    refine fb (q H3 false oN ⟨λz=>(aah z).elim,λ⟨rs,e,ba,_⟩=>hd.mpr ⟨rs,e,ba⟩⟩)
  | true =>
    obtain⟨rs,WS,ba⟩:=hd.mp rfl;have a5:rs.length=tr.length:=by have:=aaO List.length WS;rw[aaa,aaa]at this;exact this.symm
    have Sb:rs.length<=24:=by
     have h1:g.N.aZ.length<=(List.range g.N.n).length:=aaI ..;rw[aaA,<-ba.len]at h1;exact aaB h1 wl
    have UX:∀r∈rs,r<2^ts.length:=λr hr=>(ba.ring r hr).2
    have Eb:H3 X=some (.lst (aB rs)):=by rw[gC,<-WS];exact s3 _ _ U
    have one:∀I,tr.map (·.1)=I.map (λx=>((x:Nat):Int))->I = rs:=λI e=>cast_inj (e.symm.trans WS)
    refine cO (aq rfl (aq rfl (aq rfl ⟨wb,p,ts,g,X,rs,rfl,hw.same oN,Eb,by lia,UX,oN _ _ aw,λD ar H4 hD s4 DL pm pw=>?_⟩)))
    have JF:=oN.trans s4;have S3:=s4 _ _ Eb;refine⟨_,_,.lst (aO.of S3) (lU rs),.lst (aO.of DL) (lU ar),jb _,jb _,_,rfl,?_⟩;rw[zH]
    by_cases ab:rs=ar
    case neg =>
     rw[gz ab];refine fb (q H4 false JF ⟨λz=>(aah z).elim,λ⟨I,e,_,WT,_⟩=>(ab ?_).elim⟩)
     rw[one I e]at WT;exact(pm.eq_of_pairwise (λx y _ _ h1 h2=>Ae h1 h2) pw WT).symm
    rw[eG ab];subst ab;refine cO ?_;refine(aq rfl (aq rfl (aq rfl ⟨b,rfl,⟨_,aV.of (JF _ _ hb)⟩,λY hY=>nL (K:=K) (a:=b) (xs:=ys) (λi acc H5=>au H4 H5/\H5 Y=some (.lst acc)/\acc=((tr.take i).map (·.2.1)).map V.int) ⟨au.new hY,ae,rfl⟩ (λi acc H5 _ z=>⟨aV.of (z.1 _ _ (JF _ _ hb)),z.2.1,by rw[z.2.2,aaa,aaa,aa3];lia⟩) (aa6 (bS (by lia))) ?_ ?_⟩)))
    ·rintro i x acc H5 hx ⟨s5,WU,rfl⟩;obtain⟨t,O,c,bw,rfl,hc,_⟩:=Paired.lQ WR hx;refine⟨c,_,rfl,aV.of (s5 _ _ (JF _ _ hc)),rfl,_,_,rfl,_,_,rfl,_,_,rfl,rfl,rfl,aq rfl ⟨WU,s5.put hY,ae,?_⟩⟩;rw[aaM,O];show _=List.map V.int (List.map _ (List.take i tr++[t]));rw[aar,aar];rfl
    rintro acc H5 ⟨s5,WU,rfl⟩;rw[VI,aaR]at WU;have Vn:=JF.trans s5;refine⟨wb,p,ts,g,X,Y,rs,_,rfl,hw.same Vn,s5 _ _ S3,UX,WU,(by rw[aaa];lia),Sb,λH6 d s6 Ui=>(aq rfl (?_))⟩
    have O1:=Vn.trans s6;cases d with
    | false=>exact fb (q H6 false O1 ⟨λz=>(aah z).elim,λ⟨I,e,_,_,mf,_⟩=>Ui.mpr (by rw[one I e]at mf;exact mf)⟩)
    | true =>
      obtain⟨ms,Nf,mo⟩:=Ui.mp rfl;refine cO (aq rfl ⟨b,rfl,⟨_,aV.of (O1 _ _ hb)⟩,λZ hZ=>nL (K:=K) (a:=b) (xs:=ys) (λi acc H7=>au H6 H7/\H7 Z=some (.lst acc)/\∃bs:List Bool,acc=bs.map V.bl/\bs.length=i/\∀(j:Nat) (t:VG),j<i->tr[j]?=some t->(bs.getD j false=true↔YX p ts g t.2.1.toNat t.1 t.2.2)) ⟨au.new hZ,ae,[],rfl,rfl,λj t hj=>by lia⟩ (λi acc H7 _ ⟨z1,z2,bs,z3,z4,_⟩=>⟨aV.of (z1 _ _ (O1 _ _ hb)),z2,by rw[z3,aaa,z4];exact aaf _⟩) (aa6 (bS (by lia))) ?_ ?_⟩)
      ·rintro i x acc H7 hx ⟨s7,YZ,bs,rfl,bl,ok⟩;obtain⟨t,O,c,bw,rfl,hc,hW,sq⟩:=Paired.lQ WR hx;have O2:=O1.trans s7;obtain⟨m,hmi,em⟩:∃m:Nat,ms[i]?=some m/\t.2.1=(m:Int):=by
        have h1:(tr.map (·.2.1))[i]?=some t.2.1:=by rw[aak,O];rfl
        rw[Nf,aak]at h1;obtain⟨m,h1,h2⟩:=uQ.mp h1;exact⟨m,h1,h2.symm⟩
       have ax:=(mo.2 i m hmi).1;have OX:=O2 _ _ hc;rw[em]at OX;refine⟨c,_,rfl,aV.of OX,rfl,_,_,rfl,_,_,rfl,_,_,rfl,rfl,rfl,aq rfl (aq rfl (aq rfl (aq rfl ⟨wb,bw,p,ts,g,t.2.2,m,t.1,rfl,hw.same O2,hW.same O2,sq,ax,λH8 d s8 aT=>?_⟩)))⟩
       have a3:=s8 _ _ YZ;refine⟨a3,(s7.trans s8).put hZ,ae,bs++[d],by rw[aar];rfl,by rw[aaj,bl];rfl,λj t' hj ag=>?_⟩
       by_cases e:j=i
       ·subst e;rw[O]at ag;rw[<-Option.some.inj ag,em,aap,<-aT,aae,aaS (by lia),bl,acy]
        rfl
       ·rw[aae,aaP (by lia),<-aae]
        exact ok j t' (by lia) ag
      ·rintro acc H7 ⟨s7,YZ,bs,rfl,bl,ok⟩;rw[VI]at bl ok;refine⟨Z,bs,rfl,aO.of YZ,q H7 _ (O1.trans s7) ?_⟩;rw[abm]
       constructor
       ·intro h;refine⟨rs,WS,ba,pw,⟨ms,Nf,mo⟩,λt ht=>?_⟩
        obtain⟨j,hj⟩:=aaN ht;have LK:=(kL.mp hj).1;refine(ok j t LK hj).mp ?_;rw[aae,aam (by lia)]
        exact h _ (ab1 _)
       ·rintro⟨_,_,_,_,_,al⟩ x hx;obtain⟨j,hj⟩:=aaN hx;have LK:=(kL.mp hj).1;have a4:tr[j]?=some (tr[j]'(by lia)):=aam _
        have:=(ok j _ (by lia) a4).mpr (al _ (ab1 _))
        rwa [aae,hj]at this
def uP:Sp:=λvs H Q _=>∃(p:Nat) (x:V) (t:cP),vs=[.int (p:Int),x]/\TupAt H x t/\iX (p:Int) t/\∀b H',au H H'->H' b=some (.tup (lT t))->Q (.ref b) H'
def DV:Sp:=λvs H Q _=>∃(p:Nat) (l:Addr) (xs:List V) (ts:List cP),vs=[.int (p:Int),.ref l]/\(H l=some (.lst xs)\/H l=some (.tup xs))/\Paired (TupAt H) xs ts/\aD p ts/\∀w H',au H H'->bK H' w p ts->Q (.ref w) H'
def qM:Ok T T.qF 1 uP:=by
 refine T.qF.ok uJ λ_ A _ s H vs Q E hr h=>?_
 ·obtain⟨p,x,t,rfl,⟨b,rfl,hb⟩,g,k⟩:=h;refine⟨_,(ai (bC (aL BW (cz K T.dR (aa (pv 1) af)) ak (aM _)) eN aU)
   (ai (g7 PassesOwn.never rfl (Us K (cE (aa (aK (Sy K) (pv 1) ak) (aa (aK (Sy K) (pv 1) ak) af)))) (bq 2 uJ.nd)
   (av (bC (PW.pt (lN (aL zf (pv 2) ak (aM _)) (jk (aL BX (pv 2) (pv 0) (aM _))))) eN aU)))
   (ai (bC (aL i8 (aK (Sy K) (pv 1) ak) (aK (Sy K) (pv 1) ak) (aM _)) eN aU)
   (ai (bC (PW.pt (lN (aL zf (aK (Sy K) (pv 1) ak) ak (aM _)) (jk (aL pZ (aK (Sy K) (pv 1) ak) (Ay (by rfl) T.Jp) (aM _))))) eN aU)
   (av (aC (fk (B8 K) (by rfl) T.pO abA (aa (pv 1) af)))))))),?_⟩
  refine C8 ?_;intro Z cK dW eY gb kJ uK C9 De;have hs:aO K H b (lT t)\/aV K H b (lT t):=.inr (aV.of hb);refine(aq rfl ⟨b,lT t,rfl,hs,rfl,aq rfl (Gv rfl ?_)⟩);refine(aq rfl (sG hs (v:=.int t.1) (ao (j:=0) rfl) (aq rfl (sG hs (v:=.int t.2.1) (ao (j:=1) rfl) ⟨(dl rfl),λq O=>⟨q,rfl,⟨_,aV.of ae⟩,?_⟩⟩))))
  have I:au H (upd H q (.tup [.int t.1,.int t.2.1])):=au.new O;have hs' : aO K (upd H q (.tup [.int t.1,.int t.2.1])) b (lT t)\/aV K (upd H q (.tup [.int t.1,.int t.2.1])) b (lT t):=hs.imp I.seq I.Zq;refine Nt (K:=K) (a:=q) (xs:=[.int t.1,.int t.2.1]) (λi σ H2=>∃v,σ=[some (.int (p:Int)),some (.ref b),v]/\H2=upd H q (.tup [.int t.1,.int t.2.1])) ⟨none,rfl,rfl⟩ (λi σ H2 _ ⟨_,_,e⟩=>by rw[e];exact aV.of ae) ?_ ?_
  ·rintro i y σ H2 hi ⟨v,rfl,rfl⟩;obtain⟨z,rfl,U,Y⟩:∃z,y=V.int z/\0<=z/\z<(p:Int):=by
    match i,hi with
    | 0,hi=>exact⟨t.1,(Option.some.inj hi).symm,g.a0,g.a1⟩
    | 1,hi=>exact⟨t.2.1,(Option.some.inj hi).symm,g.b0,g.b1⟩
   refine(aq rfl (c6 (aq rfl (k7 (by lia) (aq rfl (aq rfl (c6 (aq rfl (k7 (by lia) ?_)))))))))
   exact(aq rfl (rfl))
  ·rintro σ H2 ⟨v,rfl,rfl⟩;refine(aq rfl (sG hs' (v:=.int t.1) (ao (j:=0) rfl) (aq rfl (sG hs' (v:=.int t.2.1) (ao (j:=1) rfl) ⟨rfl,aq rfl (k7 (λz=>g.ne (V.int.inj z)) ?_)⟩))))
   refine(aq rfl (sG hs' (v:=.int t.2.2) (ao (j:=2) rfl) (c6 (aq rfl (k7 (by have:=g.l0;lia) (aq rfl (sG hs' (v:=.int t.2.2) (ao (j:=2) rfl) (c6 (aq rfl (k7 (by have:=g.l1;lia) ?_))))))))))
   exact(aq rfl ⟨b,lT t,rfl,.inr ⟨aV.of (I _ _ hb),k b _ I (I _ _ hb)⟩⟩)
def eE:Ok T T.kA 2 DV:=by
 have qM:=qM T;refine T.kA.ok C6 λ_ A _ s H vs Q E hr h=>?_
 ·obtain⟨p,l,xs,ts,rfl,Z,hp,g,k⟩:=h;refine⟨_,(ai (bC (PW.pt (lN (aL zf (pv 0) ak (aM _)) (jk (aL pZ (pv 0) (Ay (by rfl) T.yT) (aM _))))) eN aU)
   (ai (bC (aL pZ (cz K T.dR (aa (pv 1) af)) (Ay (by rfl) T.DJ) (aM _)) eN aU)
   (av (aC (cE (aa (pv 0) (aa (fk (B8 K) (by rfl) T.pO abA (aa (bW (own:=["tie"]) (fq:=["points"]) (js:=[0]) (aF (aj mU) ["points","ties"]) rfl (piS K (pv 1)) (λ_ _ _ _=>(bq 0 (jV ["tie","points"]))) (λ_ _ _ _=>bV) (λ_ _ _ _=>(aE qM hr T.qF.c aI (aa (pv 1) (aa (pv 0) af))))) af)) af))))))),?_⟩
  refine C7 ?_;intro cy cK dW eY;have hs:aO K H l xs\/aV K H l xs:=Z.imp aO.of aV.of;have hlen:=hp.length;have gl:=g.len;have g1:=g.p1;have g2:=g.p2;refine(aq rfl (c6 (aq rfl (k7 (by lia) (aq rfl (c6 (aq rfl (k7 (by lia) ?_))))))))
  refine(aq rfl ⟨l,xs,rfl,hs,_,_,rfl,rfl,aq rfl (k7 (by lia) ?_)⟩)
  refine(aq rfl (?_));have start:∀D,H D=none->((λ(i:Nat) (acc:List V) (H2:Hp)=>au H H2/\H2 D=some (.lst acc)/\Paired (TupAt H2) acc (ts.take i)/\acc.length=i) 0 [] (upd H D (.lst []))):=λD O=>⟨au.new O,ae,.nil,rfl⟩
  have turn:∀(D:Addr),H D=none->∀(i:Nat) (x:V) (acc:List V) (H2:Hp),xs[i]?=some x->(au H H2/\H2 D=some (.lst acc)/\Paired (TupAt H2) acc (ts.take i)/\acc.length=i)->
   uP [.int (p:Int),x] H2 (λv H4=>H4 D=some (.lst acc)/\(au H (upd H4 D (.lst (acc++[v])))/\upd H4 D (.lst (acc++[v])) D=some (.lst (acc++[v]))/\Paired (TupAt (upd H4 D (.lst (acc++[v])))) (acc++[v]) (ts.take (i+1))/\(acc++[v]).length=i+1)) E0:=by
   rintro D O i x acc H2 hx ⟨s2,hd,pr,I⟩;obtain⟨t,ht,ab⟩:=Paired.lQ hp hx;refine⟨p,x,t,rfl,ab.tups s2.tups,g.wg t (jY ht),λb H4 s4 hb=>?_⟩
   have U1:H4 D=some (.lst acc):=s4 _ _ hd;refine⟨U1,(s2.trans s4).put O,ae,?_,by rw[aaj,aa1,I]⟩
   rw[aaM,ht];refine Paired.snoc (Paired.imp' (λ_ _ z=>z.tups (s4.tups.trans (bH.put U1))) pr) ?_
   exact⟨b,rfl,bH.put U1 _ _ hb⟩
  have fin:∀(D:Addr) (acc:List V) (H2:Hp),H D=none->(au H H2/\H2 D=some (.lst acc)/\Paired (TupAt H2) acc (ts.take xs.length)/\acc.length=xs.length)->
   ∀U,H2 U = none->([V.int (p:Int),.ref U]:List V).length<=sizeLine/\∀w',upd H2 U (.tup acc) w' = none->Q (.ref w') (upd (upd H2 U (.tup acc)) w' (.tup [.int (p:Int),.ref U])):=by
   rintro D acc H2 O ⟨s2,hd,pr,I⟩ U ag;refine⟨dl rfl,λw' hw=>?_⟩
   have n1:au H2 (upd H2 U (.tup acc)):=au.new ag;have n2:=n1.trans (au.new (o:=.tup [.int (p:Int),.ref U]) hw);rw[hlen,aaR]at pr;refine k w' _ (s2.trans n2) ⟨U,acc,ae,?_,Paired.imp' (λ_ _ z=>z.tups n2.tups) pr⟩
   rw[ah (aR ae hw),ae]
  rcases Z with Z|Z
  ·refine .inl (aq rfl ⟨l,rfl,⟨xs,aO.of Z⟩,λD O=>bX (xs:=xs) (λi acc H2=>au H H2/\H2 D=some (.lst acc)/\Paired (TupAt H2) acc (ts.take i)/\acc.length=i) (start D O) ?_ (cZ (by lia)) ?_ ?_⟩)
   ·rintro i acc H2 _ ⟨s2,hd,pr,I⟩;exact⟨aO.of (s2 _ _ Z),hd,acj I⟩
   ·intro i x acc H2 hx Y;exact⟨rfl,aq rfl (aq rfl (turn D O i x acc H2 hx Y))⟩
   ·intro acc H2 Y;exact⟨D,acc,rfl,.inl ⟨aO.of Y.2.1,fin D acc H2 O Y⟩⟩
  ·refine .inr (aq rfl ⟨l,rfl,⟨xs,aV.of Z⟩,λD O=>nL (xs:=xs) (λi acc H2=>au H H2/\H2 D=some (.lst acc)/\Paired (TupAt H2) acc (ts.take i)/\acc.length=i) (start D O) ?_ (cZ (by lia)) ?_ ?_⟩)
   ·rintro i acc H2 _ ⟨s2,hd,pr,I⟩;exact⟨aV.of (s2 _ _ Z),hd,acj I⟩
   ·intro i x acc H2 hx Y;exact⟨rfl,aq rfl (aq rfl (turn D O i x acc H2 hx Y))⟩
   ·intro acc H2 Y;exact⟨D,acc,rfl,.inl ⟨aO.of Y.2.1,fin D acc H2 O Y⟩⟩
def MQ(C:Addr):Sp:=λvs H Q _=>∃(p dx:Addr) (n:Nat),vs=[.ref p,.int (n:Int)]/\H p=some (.ins C dx [])/\1<=n/\n<=10/\
 ∀d q H',H d=none->H q=none->k9 C H' p d q n [(0,[])] []->(∀b o,H b=some o->b≠p->H' b=some o)->Q .eF H'
def JH(C:Addr):Sp:=λvs H Q _=>∃(p d q:Addr) (n f:Nat) (m:cF) (hs:List (Nat×cF)) (ds:List l6),vs=[.ref p]/\k9 C H p d q n ((f,m)::hs) ds/\
 ∀l,H l=none->Q (.ref l) (upd H l (.lst (aB (m.map (·.1)))))
def BH(C:Addr):Sp:=λvs H Q _=>∃(p d q:Addr) (n f:Nat) (m:cF) (hs:List (Nat×cF)) (ds:List l6),vs=[.ref p]/\k9 C H p d q n ((f,m)::hs) ds/\
 ∀l xs H',H l=none->au H H'->H' l=some (.lst xs)->Paired (TupAt H') xs (m.map (·.2))->Q (.ref l) H'
def DW(C:Addr):Sp:=λvs H Q _=>∃(p d q:Addr) (n f:Nat) (m:cF) (hs:List (Nat×cF)) (ds:List l6),vs=[.ref p]/\k9 C H p d q n ((f,m)::hs) ds/\
 ∀w H',au H H'->bK H' w n (m.map (·.2))->Q (.ref w) H'
def O3(C:Addr):Sp:=λvs H Q _=>∃(p d q:Addr) (n f:Nat) (m:cF) (hs:List (Nat×cF)) (ds:List l6) (t:cP),vs=[.ref p,.int t.1,.int t.2.1,.int t.2.2]/\k9 C H p d q n ((f,m)::hs) ds/\
 iX (n:Int) t/\m.length<24/\ds.length<=900/\∀H',Kept H H' p d q->k9 C H' p d q n ((f+1,m++[(f,t)])::(f,m)::hs) (.put f::ds)->Q (.int (f:Int)) H'
def MR(C:Addr):Sp:=λvs H Q _=>∃(p d q:Addr) (n f:Nat) (m:cF) (hs:List (Nat×cF)) (ds:List l6) (x:Nat) (t:cP),vs=[.ref p,.int (x:Int)]/\k9 C H p d q n ((f,m)::hs) ds/\
 (x,t)∈m/\ds.length<=900/\∀H',Kept H H' p d q->k9 C H' p d q n ((f,without x m)::(f,m)::hs) (.drop x t::ds)->Q .eF H'
def MS(C:Addr):Sp:=λvs H Q _=>∃(p d q:Addr) (n:Nat) (s1 s2:Nat×cF) (hs:List (Nat×cF)) (e:l6) (ds:List l6),vs=[.ref p]/\k9 C H p d q n (s1::s2::hs) (e::ds)/\
 ∀H',Kept H H' p d q->k9 C H' p d q n (s2::hs) ds->Q .eF H'
def DX{n:Nat}(h:n<=24):n<sizeLine:=bS (by lia)
def jA(T:Txt P w base K mg a):gY P w K mg base vQ 3 a.ju a.jv ["self","points"] (MQ a.az):=by
 have eE:=eE T;refine T.vd.ok tH (λvs H Q E h=>?_) (λ_ A _ s H vs Q E hr h=>?_)
 ·obtain⟨p,dx,n,rfl,_⟩:=h;rfl
 ·obtain⟨p,dx,n,rfl,hp,p1,p2,k⟩:=h;refine⟨_,(ai (bF (aE eE hr T.kA.c aI (aa (pv 1) (aa (dX af) af))))
   (ai (sD (pv 0) (pv 1) rfl)
   (ai (sD (pv 0) Lj rfl)
   (ai (sD (pv 0) ak rfl)
   (av (sD (pv 0) (dX af) rfl)))))),?_⟩
  refine tI ?_;intro cy cK dW eY;refine(aq rfl ⟨dl rfl,λl hl=>⟨n,l,[],[],rfl,.inl ae,.nil,⟨p1,p2,aaF _,(λ_ h=>nomatch h)⟩,λw0 H2 s2 hw=>?_⟩⟩)
  have I:au H H2:=(au.new hl).trans s2;have JP:=I _ _ hp;refine(aq rfl (aq rfl ⟨p,_,dx,_,rfl,JP,T.aH,T.na_points,(by show 0<1000;decide),λd hd=>?_⟩))
  have O:p≠d:=aR ae hd;refine(aq rfl ⟨p,_,dx,_,rfl,(by rw[ah O];exact ae),T.aH,T.na_standing_ties,(by show 1<1000;decide),aq rfl ⟨p,_,dx,_,rfl,ae,T.aH,T.na_next_name,(by show _<1000;exact abL (i9 _ _ _) (by show 2<1000;decide)),?_⟩⟩)
  refine⟨dl rfl,λq U=>?_⟩
  have Y:p≠q:=aR ae U;have WQ:∀o o',(upd (upd (upd (upd H2 p o) d (.dK [])) p o') p)=(upd (upd (upd (upd H2 p o) d (.dK [])) p o') p):=λ_ _=>rfl
  refine(aq rfl ⟨p,_,dx,_,rfl,(by rw[ah Y];exact ae),T.aH,T.na_done,(by show _<1000;exact abL (i9 _ _ _) (abL (Nat.add_le_add_right (i9 _ _ _) 1) (by show 3<1000;decide))),?_⟩)
  have JT:d≠q:=λz=>by
   rw[<-z,ah (aaE O),ah (aaE O),ae]at U;cases U
  have kp:∀b o,H b=some o->b≠p->b≠d->b≠q->upd (upd (upd (upd (upd (upd H2 p (.ins a.az dx (c7 "points" (.int (n:Int)) []))) d (.dK [])) p (.ins a.az dx (c7 "standing_ties" (.ref d) (c7 "points" (.int (n:Int)) [])))) p (.ins a.az dx (c7 "next_name" (.int 0) (c7 "standing_ties" (.ref d) (c7 "points" (.int (n:Int)) []))))) q (.lst [])) p (.ins a.az dx (c7 "done" (.ref q) (c7 "next_name" (.int 0) (c7 "standing_ties" (.ref d) (c7 "points" (.int (n:Int)) []))))) b=some o:=λb o e h1 h2 h3=>by
   rw[ah h1,ah h3,ah h1,ah h1,ah h2,ah h1];exact I _ _ e
  have Z:H d=none:=none_of (λb o e h1=>by rw[ah h1];exact I _ _ e) hd (aaE O)
  have wI:H q=none:=by
   rw[ah (aaE Y),ah (aaE Y),ah (aaE JT),ah (aaE Y)]at U;exact I.free U
  refine k d q _ Z wI ⟨.nil,p1,p2,⟨dx,0,[],[],rfl,Eq.trans ae (aaO (λl=>some (HO.ins a.az dx l)) (jS n d 0 q)),[],?_,.refl _,(λ_ h=>nomatch h)⟩,[],?_,.nil⟩ λb o e h1=>?_
  ·rw[ah (aaE O),ah JT,ah (aaE O),ah (aaE O),ae];rfl
  ·rw[ah (aaE Y),ae]
  ·exact kp b o e h1 (aR e Z) (aR e wI)
def iT(T:Txt P w base K mg a):gY P w K mg base vQ 1 a.iL a.iM ["self"] (JH a.az):=by
 refine T.ue.ok rT (λvs H Q E h=>?_) (λ_ A _ s H vs Q E hr h=>?_)
 ·obtain⟨p,d,q,n,f,m,hs,ds,rfl,_⟩:=h;rfl
 ·obtain⟨p,d,q,n,f,m,hs,ds,rfl,S,k⟩:=h;refine⟨_,(av (aC (bQ (Og rfl) (by rfl) T.xZ PyProof.Rows.boot_sorted (aa (e8 K (pv 0)) af)))),?_⟩
  have ok:=S.ch.ok;obtain⟨dx,_,_,_,e,U,hd⟩:=S.ob;cases e;obtain⟨kvs,ns,h1,h2,h3,h4⟩:=hd.sorted ok;refine(aq rfl ⟨p,_,dx,_,_,rfl,U,T.aH,T.na_standing_ties,mR,d,kvs,ns,rfl,h1,h2,h3,λl I Y Z O=>?_⟩)
  rw[h4 I Z O];exact k l Y
def bY(T:Txt P w base K mg a):gY P w K mg base vQ 2 a.fT a.fU ["self"] (BH a.az):=by
 have iT:=iT T;refine T.pW.ok ou (λvs H Q E h=>?_) (λ_ A _ s H vs Q E hr h=>?_)
 ·obtain⟨p,d,q,n,f,m,hs,ds,rfl,_⟩:=h;rfl
 ·obtain⟨p,d,q,n,f,m,hs,ds,rfl,S,k⟩:=h;refine⟨_,(av (aC (bW (own:=["name"]) (fq:=["self"]) (js:=[0]) (aF (aj dI) ["self"]) rfl (vt K (fc (pv 0) T.aH T.rZ iT (hr.mono (by decide)) T.uf .nil aI)) (λ_ _ _ _=>(bq 0 (jV ["name","self"]))) (λ_ _ _ _=>bV) (λ_ _ _ _=>(GP (by exact qU hr) (e8 K (pv 1)) (pv 0) (λ_ _=>rfl)))))),?_⟩
  have ok:=S.ch.ok;obtain⟨dx,_,_,_,e,Y,hd⟩:=S.ob;cases e;have few:=ok.few;refine(aq rfl ⟨p,dx,_,rfl,Y,kR (by decide +kernel) (by decide +kernel) (by decide +kernel) (by decide +kernel),p,d,q,n,f,m,hs,ds,rfl,S,λl Z=>⟨l,rfl,⟨_,aO.of ae⟩,λD U=>?_⟩⟩)
  have s1:au H (upd H l (.lst (aB (m.map (·.1))))):=au.new Z;have S4:H D=none:=s1.free U;have ab:l≠D:=aR ae U;refine bX (xs:=aB (m.map (·.1))) (λi acc H2=>au (upd H l (.lst (aB (m.map (·.1))))) H2/\H2 D=some (.lst acc)/\Paired (TupAt H2) acc ((m.map (·.2)).take i)/\acc.length=i) ⟨au.new U,ae,.nil,rfl⟩ ?_ (by rw[aG,aaa];exact cZ few) ?_ ?_
  ·rintro i acc H2 _ ⟨s2,hd2,pr,I⟩;exact⟨aO.of (s2 _ _ ae),hd2,acj I⟩
  ·rintro i x acc H2 hx ⟨s2,hd2,pr,I⟩;obtain⟨nm,O,rfl⟩:=iD hx;rw[aak]at O;obtain⟨⟨nm',t⟩,hmt,e⟩:=uQ.mp O;have e:nm' = nm:=e;subst e;obtain⟨kvs,b,g1,g2,g3⟩:=(hd.same (s1.trans s2)).get ok (jY hmt);have JP:=s2 _ _ (s1 _ _ Y);refine⟨rfl,aq rfl ⟨p,_,dx,_,_,rfl,JP,T.aH,T.na_standing_ties,mR,_,rfl,d,.ref b,rfl,(by have z:=wO.k (k:=kN nm') g1;rw[g2]at z;exact z),hd2,s2.put U,ae,?_,by rw[aaj,aa1,I]⟩⟩
   rw[aaM,aak,hmt];exact Paired.snoc (Paired.imp' (λ_ _ z=>z.tups (bH.put hd2)) pr) ⟨b,rfl,bH.put hd2 _ _ g3⟩
  ·rintro acc H2 ⟨s2,hd2,pr,I⟩;rw[aG,aaa,show m.length=(m.map (·.2)).length from(aaa _).symm,aaR]at pr
   exact k D acc H2 S4 (s1.trans s2) hd2 pr
def bj(T:Txt P w base K mg a):gY P w K mg base vQ 3 a.gF a.gG ["self"] (DW a.az):=by
 have eE:=eE T;have bY:=bY T;refine T.qJ.ok pV (λvs H Q E h=>?_) (λ_ A _ s H vs Q E hr h=>?_)
 ·obtain⟨p,d,q,n,f,m,hs,ds,rfl,_⟩:=h;rfl
 ·obtain⟨p,d,q,n,f,m,hs,ds,rfl,S,k⟩:=h;refine⟨_,(av (aC (aE eE hr T.kA.c aI (aa (e8 K (pv 0)) (aa (fc (pv 0) T.aH T.ji bY (hr.mono (by decide)) T.jD .nil aI) af))))),?_⟩
  have ok:=S.ch.ok;obtain⟨dx,_,_,_,e,O,hd⟩:=S.ob;cases e;refine(aq rfl ⟨p,_,dx,_,_,rfl,O,T.aH,T.na_points,zS,_,rfl,p,dx,_,rfl,O,kR (by decide +kernel) (by decide +kernel) (by decide +kernel) (by decide +kernel),p,d,q,n,f,m,hs,ds,rfl,S,λl xs H2 Y s2 I pr=>?_⟩)
  exact⟨n,l,xs,_,rfl,.inl I,pr,ok.zz S.p1 S.p2,λU H3 s3 hw=>k U H3 (s2.trans s3) hw⟩
def dS(T:Txt P w base K mg a):gY P w K mg base vQ 3 a.kr a.ku ["self","one","other","length"] (O3 a.az):=by
 have eE:=eE T;have bY:=bY T;refine T.xY.ok jq (λvs H Q E h=>?_) (λ_ A _ s H vs Q E hr h=>?_)
 ·obtain⟨p,d,q,n,f,m,hs,ds,t,rfl,_⟩:=h;rfl
 ·obtain⟨p,d,q,n,f,m,hs,ds,t,rfl,S,gt,few,VJ,k⟩:=h;refine⟨_,(ai (aN (i:=4) jq.nd rfl (Or.inl rfl) (cE (aa (pv 1) (aa (pv 2) (aa (pv 3) af)))))
   (ai (Oh (av (bF (aE eE hr T.kA.c aI (aa (e8 K (pv 0)) (aa (aQ (XY K) (fc (pv 0) T.aH T.ji bY (hr.mono (by decide)) T.jD .nil aI) (dX (aa (pv 4) af))) af))))))
   (ai (aN (i:=5) jq.nd rfl (Or.inl rfl) (e8 K (pv 0)))
   (ai (AR (by exact qU hr) (e8 K (pv 0)) (pv 5) (pv 4) rfl)
   (ai (sD (pv 0) (aQ iz (pv 5) ak) rfl)
   (ai (bF (G0 K (kM aaL aaT aaU cB (e8 K (pv 0)) (aa (cE (aa (pv 5) (aa iw af))) af))))
   (av (aC (pv 5))))))))),?_⟩
  refine uX ?_;intro cy cK dW eY gb kJ;have ok:=S.ch.ok;refine(aq rfl (aq rfl (aq rfl ⟨dl rfl,λb hb=>?_⟩)))
  have s1:au H (upd H b (.tup (lT t))):=au.new hb;have Y:upd H b (.tup (lT t)) b=some (.tup (lT t)):=ae;have S1:=S.same s1;obtain⟨dx,_,_,_,e,CV,aT⟩:=S1.ob;cases e;refine(aq rfl ⟨p,_,dx,_,_,rfl,CV,T.aH,T.na_points,zS,_,rfl,p,dx,_,rfl,CV,kR (by decide +kernel) (by decide +kernel) (by decide +kernel) (by decide +kernel),p,d,q,n,f,m,hs,ds,rfl,S1,λl xs H2 hl s2 ar pr=>?_⟩)
  have hlen:=pr.length;rw[aaa]at hlen;refine(aq rfl ⟨dl rfl,λl2 aw=>?_⟩)
  have s3:au H2 (upd H2 l2 (.lst [.ref b])):=au.new aw;refine⟨l,l2,xs,[.ref b],rfl,rfl,aO.of (s3 _ _ ar),aO.of ae,cZ (by show xs.length+1<=24;lia),λl3 Vz=>?_⟩
  have s4:=s3.trans (au.new (o:=.lst (xs++[.ref b])) Vz);have Z:=(ok.put gt few).zz S.p1 S.p2;rw[aar]at Z;refine⟨n,l3,xs++[.ref b],_,rfl,.inl ae,Paired.snoc (Paired.imp' (λ_ _ z=>z.tups s4.tups) pr) ⟨b,rfl,s4 _ _ (s2 _ _ Y)⟩,Z,λw0 I s5 hw=>?_⟩
  have Y0:au H I:=((s1.trans s2).trans s4).trans s5;have S5:=S.same Y0;have WH:I b=some (.tup (lT t)):=s5 _ _ (s4 _ _ (s2 _ _ Y));obtain⟨dx,_,_,_,e,U,WQ⟩:=S5.ob;cases e;obtain⟨ys,Y3,pd5⟩:=S5.dn;obtain⟨kvs,h1,h2,h3⟩:=WQ.put ok.fresh WH;have Ec:p≠d:=aP U h1 (by intro z;cases z)
  have JI:p≠q:=aP U Y3 (by intro z;cases z)
  have JT:d≠q:=aP h1 Y3 (by intro z;cases z)
  refine(aq rfl ⟨p,_,dx,_,_,rfl,U,T.aH,T.na_next_name,Ol,?_⟩);refine(aq rfl (aq rfl ⟨p,_,dx,_,_,rfl,U,T.aH,T.na_standing_ties,mR,_,rfl,d,_,rfl,AQ.k (k:=kN f) h1 (DX (by lia)),?_⟩))
  have ax:upd I d (.dK (putK kvs (kN f) (.ref b))) p=some (.ins a.az dx (jH n d f q)):=by rw[ah Ec];exact U
  refine(aq rfl (c6 (aq rfl ⟨p,_,dx,_,rfl,ax,T.aH,T.na_next_name,(by show 4<1000;decide),?_⟩)))
  have e7:c7 "next_name" (.int ((f:Int)+1)) (jH n d f q)=jH n d (f+1) q:=zR n d f (f+1) q;have VL:upd (upd I d (.dK (putK kvs (kN f) (.ref b)))) p (.ins a.az dx (c7 "next_name" (.int ((f:Int)+1)) (jH n d f q))) p=some (.ins a.az dx (jH n d (f+1) q)):=by rw[ae,e7]
  have VM:upd (upd I d (.dK (putK kvs (kN f) (.ref b)))) p (.ins a.az dx (c7 "next_name" (.int ((f:Int)+1)) (jH n d f q))) q=some (.lst ys):=by rw[ah (aaE JI),ah (aaE JT)];exact Y3
  have ab:upd (upd I d (.dK (putK kvs (kN f) (.ref b)))) p (.ins a.az dx (c7 "next_name" (.int ((f:Int)+1)) (jH n d f q))) d=some (.dK (putK kvs (kN f) (.ref b))):=by rw[ah (aaE Ec),ae]
  have WV:bH I (upd (upd I d (.dK (putK kvs (kN f) (.ref b)))) p (.ins a.az dx (c7 "next_name" (.int ((f:Int)+1)) (jH n d f q)))):=λc zs e=>by
   rw[ah (aP e U (by intro z;cases z)),ah (aP e h1 (by intro z;cases z))]
   exact e
  have ag:∀c o,I c=some o->c≠p->c≠d->c≠q->upd (upd I d (.dK (putK kvs (kN f) (.ref b)))) p (.ins a.az dx (c7 "next_name" (.int ((f:Int)+1)) (jH n d f q))) c=some o:=λc o e h1 h2 _=>by
   rw[ah h1,ah h2];exact e
  generalize upd (upd I d (.dK (putK kvs (kN f) (.ref b)))) p (.ins a.az dx (c7 "next_name" (.int ((f:Int)+1)) (jH n d f q)))=H7 at VL VM ab WV ag;refine(aq rfl ⟨p,_,dx,_,_,rfl,VL,T.aH,T.na_done,vD,.inl ⟨rfl,_,aO.of VM⟩,aq rfl ⟨dl rfl,λb2 By=>?_⟩⟩)
  have O:au H7 (upd H7 b2 (.tup [.int (f:Int),.eF])):=au.new By;have Y4:=pd5.length;rw[List.length_reverse]at Y4;refine⟨q,ys,_,rfl,rfl,O _ _ VM,bS (by lia),aq rfl (?_)⟩
  have t9:bH H7 (upd (upd H7 b2 (.tup [.int (f:Int),.eF])) q (.lst (ys++[.ref b2]))):=O.tups.trans (bH.put (O _ _ VM));refine k _ ⟨(Y0.tups.trans WV).trans t9,λc o e h1 h2 h3=>?_⟩ ⟨.put S.ch gt few,S.p1,S.p2,⟨dx,f+1,m++[(f,t)],_,rfl,?_,?_⟩,ys++[.ref b2],ae,?_⟩
  ·rw[ah h3];exact O _ _ (ag c o (Y0 _ _ e) h1 h2 h3)
  ·rw[ah JI];exact O _ _ VL
  ·refine h3 _ _ (WV.trans t9) ?_ (.refl _);rw[ah JT];exact O _ _ ab
  ·rw[adl];refine Paired.snoc (Paired.imp' (λ_ _ z=>z.tups (WV.trans t9)) pd5) ⟨b2,rfl,bH.put (O _ _ VM) _ _ ae⟩
def jB(T:Txt P w base K mg a):gY P w K mg base vQ 1 a.jw a.jx ["self","name"] (MR a.az):=by
 refine T.vf.ok tJ (λvs H Q E h=>?_) (λ_ A _ s H vs Q E hr h=>?_)
 ·obtain⟨p,d,q,n,f,m,hs,ds,x,t,rfl,_⟩:=h;rfl
 ·obtain⟨p,d,q,n,f,m,hs,ds,x,t,rfl,S,hx,VJ,k⟩:=h;refine⟨_,(ai (bC (Qp (Ih (by exact qU hr) (pv 1) (e8 K (pv 0)))) eN aU)
   (av (bF (G0 K (kM aaL aaT aaU cB (e8 K (pv 0)) (aa (cE (aa (pv 1) (aa (Cw (e8 K (pv 0)) (pv 1) ⟨rfl,rfl,rfl,rfl⟩) af))) af)))))),?_⟩
  refine dB ?_;intro cy cK;have ok:=S.ch.ok;obtain⟨dx,_,_,_,e,U,hd⟩:=S.ob;cases e;obtain⟨ys,hq,pd⟩:=S.dn;obtain⟨kvs,b,h1,h2,Y,h4⟩:=hd.pop ok hx;have Ec:p≠d:=aP U h1 (by intro z;cases z)
  have JI:p≠q:=aP U hq (by intro z;cases z)
  have JT:d≠q:=aP h1 hq (by intro z;cases z)
  refine(aq rfl (aq rfl ⟨p,_,dx,_,_,rfl,U,T.aH,T.na_standing_ties,mR,d,_,rfl,(by have z:=wO.k (k:=kN x) h1;rw[h2]at z;exact z),aq rfl (?_)⟩))
  refine cO ?_;have CV:upd H d (.dK (bL kvs (kN x))) p=some (.ins a.az dx (jH n d f q)):=by rw[ah Ec];exact U
  have I:upd H d (.dK (bL kvs (kN x))) q=some (.lst ys):=by rw[ah (aaE JT)];exact hq
  have Z:upd H d (.dK (bL kvs (kN x))) b=some (.tup (lT t)):=by rw[ah (aP Y h1 (by intro z;cases z))];exact Y
  have ab:upd H d (.dK (bL kvs (kN x))) d=some (.dK (bL kvs (kN x))):=ae;have t1:bH H (upd H d (.dK (bL kvs (kN x)))):=λc zs e=>by
   rw[ah (aP e h1 (by intro z;cases z))]
   exact e
  have k1:∀c o,H c=some o->c≠p->c≠d->c≠q->upd H d (.dK (bL kvs (kN x))) c=some o:=λc o e _ h2 _=>by
   rw[ah h2];exact e
  refine(aq rfl ⟨p,_,dx,_,_,rfl,U,T.aH,T.na_done,vD,.inl ⟨rfl,_,aO.of hq⟩,aq rfl (aq rfl ⟨p,_,dx,_,_,rfl,U,T.aH,T.na_standing_ties,mR,d,rfl,.inl ⟨_,.inl h1⟩,aq rfl ⟨kvs,kN x,.ref b,h1,rfl,h2,?_⟩⟩)⟩);generalize upd H d (.dK (bL kvs (kN x)))=H1 at CV I Z ab t1 k1;refine⟨dl rfl,λb2 By=>?_⟩
  have O:au H1 (upd H1 b2 (.tup [.int (x:Int),.ref b])):=au.new By;have Y4:=pd.length;rw[List.length_reverse]at Y4;refine⟨q,ys,_,rfl,rfl,O _ _ I,bS (by lia),?_⟩
  have t9:bH H1 (upd (upd H1 b2 (.tup [.int (x:Int),.ref b])) q (.lst (ys++[.ref b2]))):=O.tups.trans (bH.put (O _ _ I));refine k _ ⟨t1.trans t9,λc o e h1 h2 Y=>?_⟩ ⟨.drop S.ch hx,S.p1,S.p2,⟨dx,f,without x m,_,rfl,?_,?_⟩,ys++[.ref b2],ae,?_⟩
  ·rw[ah Y];exact O _ _ (k1 c o e h1 h2 Y)
  ·rw[ah JI];exact O _ _ CV
  ·refine h4 _ (t1.trans t9) ?_;rw[ah JT];exact O _ _ ab
  ·rw[adl];refine Paired.snoc (Paired.imp' (λ_ _ z=>z.tups (t1.trans t9)) pd) ⟨b2,b,rfl,bH.put (O _ _ I) _ _ ae,t9 _ _ Z⟩
def gy(T:Txt P w base K mg a):gY P w K mg base vQ 1 a.jy a.jz ["self"] (MS a.az):=by
 refine T.vh.ok mw (λvs H Q E h=>?_) (λ_ A _ s H vs Q E hr h=>?_)
 ·obtain⟨p,d,q,n,s1,s2,hs,e,ds,rfl,_⟩:=h;rfl
 ·obtain⟨p,d,q,n,s1,s2,hs,e,ds,rfl,S,k⟩:=h;refine⟨_,(ai (bC (aL i8 (cz K T.dR (aa (e8 K (pv 0)) af)) ak (aM _)) eN aU)
   (ai (aN (i:=1) mw.nd rfl (Or.inl rfl) (Ys K (Ez aaL PySem.F.slot_list_pop PySem.F.type_list_pop QL (e8 K (pv 0)))))
   (av (bC (aL nJ (aK (c5 K) (pv 1) ak) iw (aM _)) (ai (bF (Cw (e8 K (pv 0)) (aK (c5 K) (pv 1) ak) ⟨rfl,rfl,rfl,rfl⟩))
   (av (sD (pv 0) (aK (c5 K) (pv 1) ak) rfl))) (av (AR (by exact qU hr) (e8 K (pv 0)) (aK (c5 K) (pv 1) ak) (aK (c5 K) (pv 1) ak) rfl)))))),?_⟩
  refine tK ?_;intro cy cK dW eY gb kJ;obtain⟨dx,f,m,_,e0,Y,hd⟩:=S.ob;cases e0;obtain⟨ys,hq,pd⟩:=S.dn;rw[adl]at pd;obtain⟨ys',y,rfl,pd',hy⟩:=EY pd;obtain⟨adt,hd0,yt⟩:=hd.len;have Ec:p≠d:=aP Y hd0 (by intro z;cases z)
  have JI:p≠q:=aP Y hq (by intro z;cases z)
  have JT:d≠q:=aP hd0 hq (by intro z;cases z)
  refine(aq rfl ⟨p,_,dx,_,_,rfl,Y,T.aH,T.na_done,vD,uI rfl (.inl (aO.of hq)) ⟨rfl,aq rfl (k7 (λz=>by have z:=V.int.inj z;rw[aaj]at z;simp at z;lia) ?_)⟩⟩)
  refine(aq rfl ⟨p,_,dx,_,_,rfl,Y,T.aH,T.na_done,vD,.inl ⟨rfl,_,aO.of hq⟩,q,_,y,rfl,rfl,hq,by simp,?_⟩)
  rw[List.dropLast_concat];have U:upd H q (.lst ys') p=some (.ins a.az dx (jH n d f q)):=by rw[ah JI];exact Y
  have I:upd H q (.lst ys') q=some (.lst ys'):=ae;have t1:bH H (upd H q (.lst ys')):=bH.put hq;have k1:∀c o,H c=some o->c≠p->c≠d->c≠q->upd H q (.lst ys') c=some o:=λc o e _ _ h3=>by
   rw[ah h3];exact e
  have O:dO (upd H q (.lst ys')) d m:=hd.keep t1 (by rw[ah JT])
  generalize upd H q (.lst ys')=H1 at U I t1 k1 O;have US:=hy.tups t1;have Z:Paired (wR H1) ys' ds.reverse:=Paired.imp' (λ_ _ z=>z.tups t1) pd'
  cases S.ch with
  | put c g hl =>
    obtain⟨b,rfl,hb⟩:=US
    rename_i f0 m0 t0
    refine(aq rfl (cV (aV.of hb) (ao (j:=1) rfl) ⟨rfl,aq rfl (fb ?_)⟩));obtain⟨kvs,bt,h1,h2,h3,h4⟩:=O.pop (c.ok.put g hl) (n:=f0) (t:=t0) (jF _ aaq);refine(aq rfl ⟨p,_,dx,_,_,rfl,U,T.aH,T.na_standing_ties,mR,d,rfl,.inl ⟨_,.inl h1⟩,aq rfl (cV (aV.of hb) (ao (j:=0) rfl) ⟨kvs,kN f0,.ref bt,h1,rfl,h2,?_⟩)⟩);have JP:upd H1 d (.dK (bL kvs (kN f0))) p=some (.ins a.az dx (jH n d (f0+1) q)):=by rw[ah Ec];exact U
    have By:upd H1 d (.dK (bL kvs (kN f0))) b=some (.tup [.int (f0:Int),.eF]):=by rw[ah (aP hb h1 (by intro z;cases z))];exact hb
    refine(aq rfl (cV (aV.of By) (ao (j:=0) rfl) (aq rfl ⟨p,_,dx,_,rfl,JP,T.aH,T.na_next_name,(by show 4<1000;decide),?_⟩)))
    have t3:bH H1 (upd (upd H1 d (.dK (bL kvs (kN f0)))) p (.ins a.az dx (c7 "next_name" (.int (f0:Int)) (jH n d (f0+1) q)))):=λc zs e=>by
     rw[ah (aP e U (by intro z;cases z)),ah (aP e h1 (by intro z;cases z))]
     exact e
    refine k _ ⟨t1.trans t3,λc o e g1 g2 g3=>?_⟩ ⟨c,S.p1,S.p2,⟨dx,f0,m0,_,rfl,Eq.trans ae (aaO (λl=>some (HO.ins a.az dx l)) (zR n d (f0+1) f0 q)),?_⟩,ys',?_,Paired.imp' (λ_ _ z=>z.tups t3) Z⟩
    ·rw[ah g1,ah g2];exact k1 c o e g1 g2 g3
    ·have z:=h4 _ t3 (by rw[ah (aaE Ec),ae])
     rw[Cz c.ok.fresh]at z;exact z
    ·rw[ah (aaE JI),ah (aaE JT)];exact I
  | drop c hm =>
    obtain⟨b,bt,rfl,hb,Y5⟩:=US
    rename_i m0 x0 t0
    refine(aq rfl (cV (aV.of hb) (ao (j:=1) rfl) ⟨rfl,aq rfl (k7 (λz=>nomatch z) ?_)⟩))
    obtain⟨kvs,h1,h2,h3⟩:=O.put (n:=x0) (t:=t0) (b:=bt) (λz=>by
     obtain⟨e,he,q⟩:=aas.mp z;have:=(aaK.mp he).2;simp[q]at this) Y5
    refine(aq rfl (cV (aV.of hb) (ao (j:=1) rfl) (aq rfl ⟨p,_,dx,_,_,rfl,U,T.aH,T.na_standing_ties,mR,_,rfl,cV (aV.of hb) (ao (j:=0) rfl) ⟨d,_,rfl,AQ.k (k:=kN x0) h1 (DX (by rw[h2];exact(c.ok.drop x0).few)),?_⟩⟩)))
    have t3:bH H1 (upd H1 d (.dK (putK kvs (kN x0) (.ref bt)))):=λc zs e=>by
     rw[ah (aP e h1 (by intro z;cases z))]
     exact e
    refine k _ ⟨t1.trans t3,λc o e g1 g2 g3=>?_⟩ ⟨c,S.p1,S.p2,⟨dx,f,m0,_,rfl,?_,?_⟩,ys',?_,Paired.imp' (λ_ _ z=>z.tups t3) Z⟩
    ·rw[ah g2];exact k1 c o e g1 g2 g3
    ·rw[ah Ec];exact U
    ·exact h3 _ _ t3 ae (perm_back c.ok.nodup hm)
    ·rw[ah (aaE JT)];exact I
def BI(C t1 t2:Addr)(MK JE:Pos):Sp:=λvs H Q _=>∃(p d q:Addr) (n f:Nat) (m:cF) (hs:List (Nat×cF)) (ds:List l6),∃g:aD n (m.map (·.2)),vs=[.ref p]/\k9 C H p d q n ((f,m)::hs) ds/\H t1=some (.jj (dG (kI "least_ways") MK))/\H t2=some (.jj (dG (kI "by_length") JE))/\
 ∀b ys (I:List Qa) H',au H H'->H' b=some (.tup ys)->Paired (y9 H') ys I->RM.LB g.N (bg (m.map (·.2))) (I.map (·.1))->(I.map (·.1)).Pairwise (jE (m.map (·.2)))->MarksOf g.N (I.map (·.1)) (I.map (·.2.1))->(∀t∈I,JQ n t.2.2/\rJ n (m.map (·.2)) g t.2.1 t.2.2)->(∃bs,RM.Ff g.N (bg (m.map (·.2))) (g.N.aZ.map λc=>2^c) bs []/\(I.map (·.1)).Perm bs)->Q (.ref b) H'
def vn(C t1 t2:Addr)(MK JE:Pos):Sp:=λvs H Q _=>∃(p d q:Addr) (n f:Nat) (m:cF) (hs:List (Nat×cF)) (ds:List l6),∃g:aD n (m.map (·.2)),vs=[.ref p]/\k9 C H p d q n ((f,m)::hs) ds/\H t1=some (.jj (dG (kI "least_ways") MK))/\H t2=some (.jj (dG (kI "by_length") JE))/\
 ∀D rs H',H D=none->au H H'->H' D=some (.lst ((rs.map (lenOf (m.map (·.2)))).map V.int))->RM.LB g.N (bg (m.map (·.2))) rs->rs.Pairwise (jE (m.map (·.2)))->(∃bs,RM.Ff g.N (bg (m.map (·.2))) (g.N.aZ.map λc=>2^c) bs []/\rs.Perm bs)->Q (.ref D) H'
def fY(T:Txt P w base K mg a):gY P w K mg base vQ 12 a.fV a.fW ["self"] (BI a.az a.bN a.cN bA cu):=by
 have nq:=nq T;have bj:=bj T;refine T.pX.ok oz (λvs H Q E h=>?_) (λ_ A _ s H vs Q E hr h=>?_)
 ·obtain⟨p,d,q,n,f,m,hs,ds,g,rfl,_⟩:=h;rfl
 ·obtain⟨p,d,q,n,f,m,hs,ds,g,rfl,S,I,O,k⟩:=h;refine⟨_,(av (aC (aE nq hr T.m9.c aI (aa (fc (pv 0) T.aH T.fX bj (hr.mono (by decide)) T.gH .nil aI) af)))),?_⟩
  obtain⟨dx,_,_,_,e,U,hd⟩:=S.ob;cases e;refine(aq rfl ⟨p,dx,_,rfl,U,kR (by decide +kernel) (by decide +kernel) (by decide +kernel) (by decide +kernel),p,d,q,n,f,m,hs,ds,rfl,S,λY H1 s1 hw=>?_⟩)
  exact⟨Y,n,_,g,rfl,hw,s1 _ _ I,s1 _ _ O,λb ys Z H2 _ s2 hb pr lb pw mo al lr _=>k b ys Z H2 (s1.trans s2) hb pr lb pw mo al lr⟩
def cM(T:Txt P w base K mg a):gY P w K mg base vQ 12 a.ez a.eA ["self"] (vn a.az a.bN a.cN bA cu):=by
 have iS:=iS T;have bj:=bj T;refine T.nc.ok my (λvs H Q E h=>?_) (λ_ A _ s H vs Q E hr h=>?_)
 ·obtain⟨p,d,q,n,f,m,hs,ds,g,rfl,_⟩:=h;rfl
 ·obtain⟨p,d,q,n,f,m,hs,ds,g,rfl,S,I,O,k⟩:=h;refine⟨_,(av (aC (aE iS hr T.mz.c aI (aa (fc (pv 0) T.aH T.fX bj (hr.mono (by decide)) T.gH .nil aI) af)))),?_⟩
  obtain⟨dx,_,_,_,e,U,hd⟩:=S.ob;cases e;refine(aq rfl ⟨p,dx,_,rfl,U,kR (by decide +kernel) (by decide +kernel) (by decide +kernel) (by decide +kernel),p,d,q,n,f,m,hs,ds,rfl,S,λY H1 s1 hw=>?_⟩)
  exact⟨Y,n,_,g,rfl,hw,s1 _ _ I,s1 _ _ O,λD rs H2 Z s2 lK lb pw lr=>k D rs H2 (s1.free Z) (s1.trans s2) lK lb pw lr⟩
def O4(K:bE):Sp:=λvs H Q _=>∃(a:Addr) (ns:List Int) (k:Nat),vs=[.ref a,.int (k:Int)]/\aO K H a (ns.map V.int)/\∀z,Q (.int z) H
def O5:Sp:=λvs H Q _=>∃c,vs=[.int c]/\∀z,0<=z->z<1000000007->Q (.int z) H
inductive Dd where
 | put (t:cP)
 | drop (x:Nat)
def WW:Dd->List V
 | .put t=>[.str "put",.int t.1,.int t.2.1,.int t.2.2]
 | .drop x=>[.str "drop",.int (x:Int)]
def MT(H:Hp)(v:V)(d:Dd):Prop:=∃c,v = .ref c/\H c=some (.tup (WW d))
def MT.tups{H H' : Hp}{v:V}{d:Dd}(s:bH H H')(h:MT H v d):MT H' v d:=let⟨c,e,h1⟩:=h;⟨c,e,s _ _ h1⟩
def stp(s:Nat×cF):Dd->Nat×cF
 | .put t=>(s.1+1,s.2++[(s.1,t)])
 | .drop x=>(s.1,without x s.2)
def VN(n:Nat)(s:Nat×cF):Dd->Prop
 | .put t=>iX (n:Int) t/\s.2.length<n+3
 | .drop x=>∃t,(x,t)∈s.2
def Rn(n:Nat):Nat×cF->List Dd->Prop
 | _,[]=>True
 | s,d::r=>VN n s d/\Rn n (stp s d) r
def oU(s:Nat×cF)(ds:List Dd):Nat×cF:=ds.foldl stp s
def ur(s:Nat×cF)(ds:List Dd)(d:Dd):oU s (ds++[d])=stp (oU s ds) d:=by
 unfold oU;rw[abY];rfl
def Rn.snoc{n:Nat}{d:Dd}:∀{ds:List Dd} {s:Nat×cF},Rn n s ds->VN n (oU s ds) d->Rn n s (ds++[d])
 | [],_,_,c=>⟨c,trivial⟩
 | _::_,_,⟨h1,h2⟩,c=>⟨h1,Rn.snoc h2 c⟩
def Rn.VO{n:Nat}{d:Dd}:∀{ds:List Dd} {s:Nat×cF} {i:Nat},Rn n s ds->ds[i]?=some d->VN n (oU s (ds.take i)) d
 | _::_,_,0,⟨h1,_⟩,e=>by cases e;exact h1
 | x::r,s,i+1,⟨_,h2⟩,e=>Rn.VO (ds:=r) (s:=stp s x) (i:=i) h2 e
def BJ{n:Nat}:∀{ds:List Dd} {s:Nat×cF},n<=6->cT n s.1 s.2->Rn n s ds->cT n (oU s ds).1 (oU s ds).2
 | [],_,_,h,_=>h
 | .put t::r,s,hn,h,⟨⟨g,hl⟩,h2⟩=>BJ (ds:=r) hn (h.put g (by lia)) h2
 | .drop x::r,s,hn,h,⟨_,h2⟩=>BJ (ds:=r) hn (h.drop x) h2
def yi:∀(l:List Nat) (j:Nat),(aB l).eraseIdx j=aB (l.eraseIdx j)
 | [],_=>rfl
 | _::_,0=>rfl
 | x::r,j+1=>aaO (V.int (x:Int) :: ·) (yi r j)
def qi:∀{m:cF} {k x:Nat},(m.map (·.1)).Nodup->(m.map (·.1))[k]?=some x->(m.map (·.1)).eraseIdx k=(without x m).map (·.1)
 | [],_,_,_,h=>by cases h
 | e::r,0,x,hn,h=>by
   have ex:e.1=x:=Option.some.inj h;rw[aay]at hn;have h1:=(aaX.mp hn).1;rw[ex]at h1;have q:=mQ (n:=x) (m:=r) h1;unfold Ring.without at q ⊢;rw[aaD,aab (by rw[ex];simp),q]
   rfl
 | e::r,k+1,x,hn,h=>by
   rw[aay]at hn h;have hx:x∈r.map (·.1):=jY (show(r.map (·.1))[k]?=some x from h)
   have ne:e.1≠x:=λz=>(aaX.mp hn).1 (z▸hx)
   have I:=qi (m:=r) (k:=k) (x:=x) (aaX.mp hn).2 h;have hr:without x (e::r)=e::without x r:=by
    unfold Ring.without;rw[aaD,aad (by simp[ne])]
   rw[hr,aay,aay,<-I];rfl
def JU(p:Nat):Int:=if(p:Int)-1 > 1 then(p:Int)-1 else 1
def Sd{p:Nat}(h:2<=p):JU p=(p:Int)-1:=by
 unfold JU
 split<;>lia
def Qe(y:Int):∃m,Aq [V.int 9,.int 1,.int (10^(30:Int).toNat)] (y/7%3)=some (.int m)/\1<=m/\m<=1000000000000000000000000000000:=by
 obtain⟨h0,h1⟩:=p8 (y/7) 3 (by decide)
 generalize y/7%3=i at h0 h1;have hi:i=0\/i=1\/i=2:=by lia
 rcases hi with rfl|rfl|rfl
 ·exact⟨9,ao (j:=0) rfl,by decide,by decide⟩
 ·exact⟨1,ao (j:=1) rfl,by decide,by decide⟩
 ·exact⟨10^(30:Int).toNat,ao (j:=2) rfl,by decide,by decide⟩
def VP(y:Int):∃m:Nat,Aq [V.int 2,.int 3,.int 3,.int 4,.int 4,.int 5,.int 5,.int 6] (y%8)=some (.int (m:Int))/\2<=m/\m<=6:=by
 obtain⟨h0,h1⟩:=p8 y 8 (by decide)
 generalize y%8=i at h0 h1;have hi:i=0\/i=1\/i=2\/i=3\/i=4\/i=5\/i=6\/i=7:=by lia
 rcases hi with rfl|rfl|rfl|rfl|rfl|rfl|rfl|rfl
 ·exact⟨2,ao (j:=0) rfl,by decide,by decide⟩
 ·exact⟨3,ao (j:=1) rfl,by decide,by decide⟩
 ·exact⟨3,ao (j:=2) rfl,by decide,by decide⟩
 ·exact⟨4,ao (j:=3) rfl,by decide,by decide⟩
 ·exact⟨4,ao (j:=4) rfl,by decide,by decide⟩
 ·exact⟨5,ao (j:=5) rfl,by decide,by decide⟩
 ·exact⟨5,ao (j:=6) rfl,by decide,by decide⟩
 ·exact⟨6,ao (j:=7) rfl,by decide,by decide⟩
def O6{p x y:Int}(hp:2<=p)(h0:0<=x)(h1:x<p)(h2:0<=y)(h3:y<p-1):x≠(x+1+y)%p:=by
 by_cases h:x+1+y<p
 ·rw[Int.emod_eq_of_lt (by lia) h];lia
 ·rw[<-Int.sub_emod_right,Int.emod_eq_of_lt (by lia) (by lia)];lia
def Se{k n:Nat}(h:k<n):seqIndex? (k:Int) n=some k:=by
 have h1 : ¬((k:Int)<0):=by lia
 unfold seqIndex?;simp[h1,h]
def MU:Sp:=λvs H Q _=>∃(c:Int) (p:Nat),vs=[.int c,.int (p:Int)]/\2<=p/\p<=10/\∀t b H',au H H'->iX (p:Int) t->H' b=some (.tup (lT t))->Q (.ref b) H'
def MV(K:bE):Sp:=λvs H Q _=>∃(b:Addr) (ns:List Int) (k:Nat),vs=[.ref b,.int (k:Int)]/\aO K H b (ns.map V.int)/\ns.length<=63/\∀(n:Nat) (ds:List Dd) c L xs H',2<=n->n<=6->au H H'->H' c=some (.tup [.int (n:Int),.ref L])->H' L=some (.lst xs)->Paired (MT H') xs ds->Rn n (0,[]) ds->ds.length<=63->Q (.ref c) H'
def VQ(C:Addr):Sp:=λvs H Q _=>∃(p d q c:Addr) (n:Nat) (s:Nat×cF) (hs:List (Nat×cF)) (ds:List l6) (e:Dd),vs=[.ref p,.ref c]/\k9 C H p d q n (s::hs) ds/\H c=some (.tup (WW e))/\VN n s e/\n<=6/\ds.length<=900/\∀H' e',Kept H H' p d q->k9 C H' p d q n (stp s e::s::hs) (e'::ds)->Q .eF H'
def qN:Ok T T.qH 1 (O4 K):=by
 refine T.qH.ok Dl λ_ A _ s H vs Q E hr h=>?_
 ·obtain⟨b,ns,k,rfl,O,q⟩:=h;refine⟨_,(ai (bC (aL zf (pv 1) (cz K T.dR (aa (pv 0) af)) (aM _)) (av (aC (aK (nA K) (pv 0) (pv 1)))) aU)
   (av (aC ak))),?_⟩
  refine dB ?_;intro U Y;refine(aq rfl (aq rfl ⟨b,_,rfl,.inl O,_,_,rfl,rfl,aq rfl (qV (λI=>?_) (λ_=>q 0))⟩))
  have I:=kK I;rw[aaa]at I;exact(aq rfl (aq rfl ⟨b,_,_,_,rfl,rfl,O,ao (j:=k) (NY (by lia)),q _⟩))
def gJ:Ok T T.kE 1 O5:=by
 refine T.kE.ok uL λ_ A _ s H vs Q E hr h=>?_
 ·obtain⟨c,rfl,k⟩:=h;refine⟨_,(ai (aN (i:=1) uL.nd rfl (Or.inl rfl) (aQ fP (aQ El (aQ iz (aQ fP (pv 0) (aQ Kc ak ak)) ak) ak) ak))
   (av (aC (aQ mL (aQ fP (aQ El (pv 1) (pv 1)) ak) ak)))),?_⟩
  refine iY ?_;intro I;refine(aq rfl (c6 ⟨⟨by decide,by decide,by decide⟩,c6 ⟨(vV rfl),c6 (c6 ⟨.inr ⟨by decide,by decide⟩,c6 ⟨(vV rfl),?_⟩⟩)⟩⟩))
  have h0:=p8 ((c%10^(60:Int).toNat+1)*69621) 2147483647 (by decide)
  refine(aq rfl (aq rfl (c6 ⟨.inl ⟨by have:=h0.1;lia,by have:=h0.2;lia⟩,c6 ⟨(vV rfl),c6 ⟨⟨by decide,by decide⟩,?_⟩⟩⟩)))
  have h1:=p8 ((c%10^(60:Int).toNat+1)*69621%2147483647*((c%10^(60:Int).toNat+1)*69621%2147483647)) 1000000007 (by decide)
  exact k _ (Int.ediv_nonneg h1.1 (by decide)) (Int.lt_of_le_of_lt (Int.ediv_le_self _ h1.1) h1.2)
def qO:Ok T T.qI 2 MU:=by
 have gJ:=gJ T;refine T.qI.ok gP λ_ A _ s H vs Q E hr h=>?_
 ·obtain⟨c,p,rfl,CV,JP,k⟩:=h;refine⟨_,(ai (aN (i:=2) gP.nd rfl (Or.inl rfl) (aQ mL (pv 0) ak))
   (ai (bC (aL i8 (aQ fP (pv 0) ak) ak (aM _)) (av (aN (i:=2) gP.nd rfl (Or.inl rfl) (aQ iz (aQ El (aE gJ hr T.kE.c aI (aa (pv 0) af)) ak) (aE gJ hr T.kE.c aI (aa (aQ iz (pv 0) ak) af))))) aU)
   (ai (aN (i:=3) gP.nd rfl (Or.inl rfl) (aQ fP (pv 2) (pv 1)))
   (ai (aN (i:=4) gP.nd rfl (Or.inl rfl) (aQ fP (aQ iz (aQ iz (pv 3) ak) (aQ fP (aQ mL (pv 2) (pv 1)) (bQ (oY rfl) (by rfl) T.G6 acp (aa ak (aa (aQ qm (pv 1) ak) af))))) (pv 1)))
   (ai (aN (i:=2) gP.nd rfl (Or.inl rfl) (aQ mL (aQ mL (pv 2) (pv 1)) (bQ (oY rfl) (by rfl) T.G6 acp (aa ak (aa (aQ qm (pv 1) ak) af)))))
   (av (aC (cE (aa (pv 3) (aa (pv 4) (aa (aQ iz ak (aQ fP (pv 2) (aK (nA K) (dX (aa ak (aa ak (aa (aQ Kc ak ak) af)))) (aQ fP (aQ mL (pv 2) ak) ak)))) af))))))))))),?_⟩
  refine Dm ?_;intro cy cK dW eY gb kJ;have p0:(0:Int)<(p:Int):=by lia
  have mx:=Sd CV;have U:0<JU p:=by lia
  have hd:∀i,Qx i (p:Int):=λi=>⟨by lia,by lia⟩
  have I:∀i,Qx i (JU p):=λi=>⟨by lia,by lia⟩
  have Sf:∀n m:Int,1<=m->m<=1000000000000000000000000000000->iX (p:Int) (n%p,(n%p+1+n/p%JU p)%p,1+n/p/JU p%m):=λn m m0 Y=>by
   obtain⟨h1,h2⟩:=p8 (n/p/JU p) m (by lia)
   obtain⟨h3,h4⟩:=p8 (n/p) (JU p) U;obtain⟨h5,h6⟩:=p8 n p p0;exact⟨h5,h6,(p8 _ _ p0).1,(p8 _ _ p0).2,O6 (by lia) h5 h6 h3 (by lia),by show 1<=1+n/p/JU p%m;lia,by show 1+n/p/JU p%m<=_;lia⟩
  refine(aq rfl (c6 ⟨⟨by decide,by decide⟩,aq rfl (c6 ⟨(vV rfl),rfl,aq rfl (qV (λ_=>?_) (λ_=>?_))⟩)⟩))
  case' refine_1=>refine(aq rfl ⟨c,rfl,λn1 _ _=>(c6 ⟨.inr ⟨by decide,by decide⟩,aq rfl (c6 (aq rfl (λn2 _ _=>(c6 (?_)))))⟩)⟩);have Z:=Qe ((n1*1000003+n2)/p/JU p)
  case' refine_2=>have Z:=Qe (c/4/p/JU p)
  all_goals
   refine(aq rfl (aq rfl (c6 ⟨p0,?_⟩)));refine(aq rfl (c6 (aq rfl (aq rfl (c6 ⟨hd _,_,rfl,c6 ⟨_,_,rfl,_,_,rfl,rfl,U,_,_,rfl,rfl,aq rfl (c6 ⟨p0,?_⟩)⟩⟩)))));refine(aq rfl (aq rfl (c6 ⟨hd _,_,rfl,c6 ⟨_,_,rfl,_,_,rfl,rfl,I _,?_⟩⟩)));obtain⟨m,O,m0,Y⟩:=Z;refine(aq rfl (aq rfl (aq rfl (c6 ⟨⟨by decide,by decide,by decide⟩,(dl rfl),λl hl=>(aq rfl (c6 ⟨⟨by decide,by decide⟩,c6 ⟨(vV rfl),nC (aO.of ae) (O) (c6 ⟨(by show 0<m;lia),c6 ⟨(dl rfl),λb hb=>?_⟩⟩)⟩⟩))⟩))))
   exact k _ b _ ((au.new hl).trans (au.new hb)) (Sf _ m m0 Y) ae
def r9:Ok T T.rY 4 (VQ a.az):=by
 have jB:=jB T;have dS:=dS T;refine T.rY.ok IS λ_ A _ s H vs Q E hr h=>?_
 ·obtain⟨p,d,q,c,n,⟨f,m⟩,hs,ds,e,rfl,S,hc,VO,Z,O,k⟩:=h;refine⟨_,(av (bC (aL i8 (aK (c5 K) (pv 1) ak) mJ (aM _)) (av (bF (Am (pv 0) T.aH T.nv dS (hr.mono (by decide)) T.oJ .nil aI (aa (aK (c5 K) (pv 1) ak) (aa (aK (c5 K) (pv 1) ak) (aa (aK (c5 K) (pv 1) ak) af)))))) (av (bF (Am (pv 0) T.aH T.ud jB (hr.mono (by decide)) T.vg .nil aI (aa (aK (c5 K) (pv 1) ak) af)))))),?_⟩
  refine IT ?_;intro cy cK;obtain⟨dx,_,_,_,Y,U,hd⟩:=S.ob;cases Y;cases e with
  | put t =>
    obtain⟨gt,few⟩:=VO;have few:m.length<n+3:=few;refine(aq rfl (cV (aV.of hc) (ao (j:=0) rfl) ⟨rfl,aq rfl (?_)⟩));rw[eG rfl];refine fb (aq rfl ⟨p,dx,_,rfl,U,kR (by decide +kernel) (by decide +kernel) (by decide +kernel) (by decide +kernel),aq rfl (cV (aV.of hc) (ao (j:=1) rfl) (aq rfl (cV (aV.of hc) (ao (j:=2) rfl) (aq rfl (cV (aV.of hc) (ao (j:=3) rfl) ⟨p,d,q,n,f,m,hs,ds,t,rfl,S,gt,(by lia),O,λH' kp I=>k H' _ kp I⟩)))))⟩)
  | drop x =>
    obtain⟨t,hx⟩:=VO;refine(aq rfl (cV (aV.of hc) (ao (j:=0) rfl) ⟨rfl,aq rfl (?_)⟩));rw[gz (by decide +kernel)]
    refine cO (aq rfl ⟨p,dx,_,rfl,U,kR (by decide +kernel) (by decide +kernel) (by decide +kernel) (by decide +kernel),aq rfl (cV (aV.of hc) (ao (j:=1) rfl) ⟨p,d,q,n,f,m,hs,ds,x,t,rfl,S,hx,O,λH' kp I=>k H' _ kp I⟩)⟩)
def oW:Ok T T.oH 3 (MV K):=by
 have qN:=qN T;have gJ:=gJ T;have qO:=qO T;refine T.oH.ok dw λ_ A _ s H vs Q E hr h=>?_
 ·obtain⟨b,ns,k,rfl,hS,hn,q⟩:=h;refine⟨_,(ai (aN (i:=2) dw.nd rfl (Or.inl rfl) (aK (nA K) (dX (aa ak (aa ak (aa ak (aa ak (aa ak (aa ak (aa ak (aa ak af))))))))) (aQ fP (aE qN hr T.qH.c aI (aa (pv 0) (aa ak af))) ak)))
   (ai (aN (i:=3) dw.nd rfl (Or.inl rfl) (dX af))
   (ai (aN (i:=4) dw.nd rfl (Or.inl rfl) (dX af))
   (ai (aN (i:=5) dw.nd rfl (Or.inl rfl) ak)
   (ai (g7 PassesOwn.never rfl (vt K (B4 (Zr K) (pv 0) (An ak) (An (aQ iz ak (pv 1))))) (bq 6 dw.nd)
   (ai (aN (i:=7) dw.nd rfl (Or.inl rfl) (aE gJ hr T.kE.c aI (aa (pv 6) af)))
   (av (bC (PW.pt (Ed (aL i8 (aQ fP (pv 7) ak) ak (aM _)) (Aj (aL pZ (cz K T.dR (aa (pv 4) af)) ak (aM _))))) (av (bF (G0 K (kM aaL aaT aaU cB (pv 3) (aa (cE (aa mJ (aa (G0 K (kM aaL PySem.F.slot_list_pop PySem.F.type_list_pop KA (pv 4) (aa (aQ fP (aQ mL (pv 7) ak) (cz K T.dR (aa (pv 4) af))) af))) af))) af))))) (av (bC (aL zf (cz K T.dR (aa (pv 4) af)) (aQ iz (pv 2) ak) (aM _)) (ai (bF (G0 K (kM aaL aaT aaU cB (pv 3) (aa (aQ UL (cE (aa mJ af)) (aE qO hr T.qI.c aI (aa (pv 6) (aa (pv 2) af)))) af))))
   (ai (bF (G0 K (kM aaL aaT aaU cB (pv 4) (aa (pv 5) af))))
   (av (aN (i:=5) dw.nd rfl (Or.inl rfl) (aQ iz (pv 5) ak))))) aU))))))
   (av (aC (cE (aa (pv 2) (aa (pv 3) af)))))))))),?_⟩
  refine Bf ?_;intro cy cK dW eY gb kJ uK C9 De G4 Dg Dh;refine⟨dl rfl,λl1 a3=>?_⟩
  have s1:au H (upd H l1 (.lst [.int 2,.int 3,.int 3,.int 4,.int 4,.int 5,.int 5,.int 6])):=au.new a3;refine(aq rfl ⟨b,ns,0,rfl,s1.seq hS,λz=>?_⟩)
  obtain⟨n,a4,n1,n2⟩:=VP z;refine(c6 ⟨(vV rfl),nC (aO.of ae) (a4) (?_)⟩);generalize upd H l1 (.lst [.int 2,.int 3,.int 3,.int 4,.int 4,.int 5,.int 5,.int 6])=H1 at s1;refine⟨dl rfl,λL hL=>⟨dl rfl,λD hD=>?_⟩⟩
  have WX:L≠D:=aR ae hD;have s3:au H1 (upd (upd H1 L (.lst [])) D (.lst [])):=(au.new hL).trans (au.new hD);have Y6:upd (upd H1 L (.lst [])) D (.lst []) L=some (.lst []):=au.new hD _ _ ae;have zu:upd (upd H1 L (.lst [])) D (.lst []) D=some (.lst []):=ae;have PU:H L=none:=s1.free hL;have S4:H D=none:=s1.free ((au.new hL).free hD);have S0:=s1.trans s3;generalize upd (upd H1 L (.lst [])) D (.lst [])=H3 at S0 Y6 zu;refine(aq rfl (aq rfl (aq rfl (c6 (aq rfl ⟨b,_,rfl,S0.seq hS,λU ab=>?_⟩)))))
  obtain⟨ms,Sa,a7⟩:∃l' : List Int,yp (ns.map V.int) (some 1) (some (1+(k:Int)))=l'.map V.int/\l'.length<=ns.length:=by
   refine⟨_,KI ns _ _,?_⟩;rw[aa3,acS]
   lia
  rw[Sa];have ar:U≠L:=aaE (aR Y6 ab);have aw:U≠D:=aaE (aR zu ab);have s4:au H3 (upd H3 U (.lst (ms.map V.int))):=au.new ab;have ag:upd H3 U (.lst (ms.map V.int)) U=some (.lst (ms.map V.int)):=ae;generalize upd H3 U (.lst (ms.map V.int))=H4 at s4 ag;refine⟨U,rfl,⟨_,aO.of ag⟩,iH (K:=K) (a:=U) (xs:=ms.map V.int) (λi σ I=>∃(ds:List Dd) (xs:List V) (v6 v7:Option V),σ=[some (.ref b),some (.int (k:Int)),some (.int (n:Int)),some (.ref L),some (.ref D),some (.int (((oU (0,[]) ds).1:Nat):Int)),v6,v7]/\au H I/\I L=some (.lst xs)/\Paired (MT I) xs ds/\Rn n (0,[]) ds/\ds.length<=i/\I D=some (.lst (aB ((oU (0,[]) ds).2.map (·.1))))/\I U=some (.lst (ms.map V.int))) ⟨[],[],none,none,rfl,S0.trans s4,s4 _ _ Y6,.nil,trivial,aaf _,s4 _ _ zu,ag⟩ (λi σ I _ ⟨_,_,_,_,_,_,_,_,_,_,_,z⟩=>aO.of z) ?_ ?_⟩
  ·rintro i x D' σ I hi ⟨ds,xs,v6,v7,rfl,s5,Sg,OQ,Tc,Qf,Y,Z⟩;rw[aak]at hi;have Rl:i<ms.length:=by
    rcases uQ.mp hi with⟨_,z,_⟩
    exact(kL.mp z).1
   obtain⟨y,_,rfl⟩:=uQ.mp hi;refine(aq rfl ⟨y,rfl,λz z0 z1=>?_⟩)
   have ok:=BJ n2 cT.nil Tc;generalize O:oU (0,[]) ds=st at Y ok;have few:=ok.few;have cont:kJ D' [some (.ref b),some (.int (k:Int)),some (.int (n:Int)),some (.ref L),some (.ref D),some (.int ((st.1:Nat):Int)),some (.int y),some (.int z)] I:=by
    refine(aq rfl (uI rfl (.inl (aO.of Y)) (aq rfl (c6 (c6 (aq rfl (qV (λh=>?_) (λh=>?_))))))))
    ·have h:=kK h;rw[aG,aaa]at h;refine(aq rfl ⟨.inl ⟨rfl,_,aO.of Sg⟩,dl rfl,λc1 a5=>?_⟩)
     refine(aq rfl (aq rfl ⟨y,n,rfl,n1,(by lia),λt bt H6 s6 gt Y5=>?_⟩))
     refine⟨c1,bt,_,_,rfl,rfl,s6 _ _ ae,Y5,dl rfl,λc2 H7 s7 a6=>?_⟩
     have VS:=((au.new a5).trans s6).trans s7;have Y7:=VS _ _ Sg;have WY:=OQ.length;refine⟨L,xs,_,rfl,rfl,Y7,bS (by lia),?_⟩
     have JO:upd H7 L (.lst (xs++[.ref c2])) D=some (.lst (aB (st.2.map (·.1)))):=by rw[ah (aaE WX)];exact VS _ _ Y
     refine(aq rfl ⟨.inl ⟨rfl,_,aO.of JO⟩,aq rfl ⟨D,_,_,rfl,rfl,JO,bS (by rw[aG,aaa];lia),?_⟩⟩)
     have t9:=(VS.tups.trans (bH.put Y7)).trans (bH.put (o:=.lst (aB (st.2.map (·.1))++[.int ((st.1:Nat):Int)])) JO);have VT:oU (0,[]) (ds++[.put t])=(st.1+1,st.2++[(st.1,t)]):=by rw[ur,O];rfl
     refine(aq rfl (c6 ⟨ds++[.put t],xs++[.ref c2],some (.int y),some (.int z),?_,((s5.trans VS).put PU).put S4,?_,Paired.snoc (Paired.imp' (λ_ _ z=>z.tups t9) OQ) ⟨c2,rfl,?_⟩,Tc.snoc ?_,?_,?_,?_⟩))
     ·rw[VT];rfl
     ·rw[ah WX];exact ae
     ·exact((bH.put Y7).trans (bH.put JO)) _ _ a6
     ·rw[O];exact⟨gt,by lia⟩
     ·rw[aaj];show _+1<=_
      lia
     ·rw[ae,VT,aar,<-gB];rfl
     ·rw[ah aw,ah ar];exact VS _ _ Z
    ·exact⟨ds,xs,_,_,by rw[O],s5,Sg,OQ,Tc,by lia,by rw[O];exact Y,Z⟩
   refine(aq rfl (c6 ⟨(vV rfl),rfl,aq rfl (qV (λ_=>?_) (λ_=>cO cont))⟩))
   refine(aq rfl (uI rfl (.inl (aO.of Y)) (c6 (aq rfl (qV (λh=>?_) (λ_=>cont))))))
   have h:=kK h;rw[aG,aaa]at h;have lp:(0:Int)<(((aB (st.2.map (·.1))).length:Nat):Int):=by rw[aG,aaa];lia
   obtain⟨j,ej⟩:=ab8 (Int.emod_nonneg (z/4) (Int.ne_of_gt lp));have jl:=Int.emod_lt_of_pos (z/4) lp;rw[ej]at jl;have Y8:j<(aB (st.2.map (·.1))).length:=by lia
   have ax:j<(st.2.map (·.1)).length:=by rw[aG]at Y8;exact Y8
   generalize hx:(st.2.map (·.1))[j]=x at *;have Y9:(st.2.map (·.1))[j]?=some x:=by rw[aam ax,hx]
   refine(aq rfl ⟨.inl ⟨rfl,_,aO.of Sg⟩,aq rfl ⟨.inl ⟨rfl,_,aO.of Y⟩,aq rfl (c6 ⟨⟨by decide,by decide⟩,aq rfl (uI rfl (.inl (aO.of Y)) (c6 ⟨lp,D,_,_,j,.int (x:Int),rfl,rfl,Y,?_,?_,?_,?_,dl rfl,λc hc=>?_⟩))⟩)⟩⟩)
   ·rw[ej];lia
   ·rw[ej];rw[aaa]at ax;lia
   ·rw[ej];exact Se Y8
   ·unfold aB;rw[aak,Y9];rfl
   have Pu:∃t,(x,t)∈st.2:=by
    obtain⟨e,he,e2⟩:=aas.mp (jY Y9);exact⟨e.2,by rw[<-e2];exact he⟩
   have er:(aB (st.2.map (·.1))).eraseIdx j=aB ((Ring.without x st.2).map (·.1)):=by rw[<-qi ok.nodup Y9];exact yi _ j
   rw[er]at hc ⊢;have WZ:upd I D (.lst (aB ((Ring.without x st.2).map (·.1)))) L=some (.lst xs):=by rw[ah WX];exact Sg
   have s6:au H (upd I D (.lst (aB ((Ring.without x st.2).map (·.1))))):=s5.put S4;have t6:bH I (upd I D (.lst (aB ((Ring.without x st.2).map (·.1))))):=bH.put Y;have OP:upd I D (.lst (aB ((Ring.without x st.2).map (·.1)))) D=some (.lst (aB ((Ring.without x st.2).map (·.1)))):=ae;have aT:upd I D (.lst (aB ((Ring.without x st.2).map (·.1)))) U=some (.lst (ms.map V.int)):=by rw[ah aw];exact Z
   generalize upd I D (.lst (aB ((Ring.without x st.2).map (·.1))))=H6 at hc WZ s6 t6 OP aT;have s7:au H6 (upd H6 c (.tup (WW (.drop x)))):=au.new hc;have WY:=OQ.length;refine⟨L,xs,_,rfl,rfl,s7 _ _ WZ,bS (by lia),?_⟩
   have VT:oU (0,[]) (ds++[.drop x])=(st.1,Ring.without x st.2):=by rw[ur,O];rfl
   have t8:=(t6.trans s7.tups).trans (bH.put (o:=.lst (xs++[.ref c])) (s7 _ _ WZ));refine⟨ds++[.drop x],xs++[.ref c],some (.int y),some (.int z),?_,(s6.trans s7).put PU,ae,Paired.snoc (Paired.imp' (λ_ _ z=>z.tups t8) OQ) ⟨c,rfl,bH.put (s7 _ _ WZ) _ _ ae⟩,Tc.snoc ?_,?_,?_,?_⟩
   ·rw[VT];rfl
   ·rw[O];exact Pu
   ·rw[aaj];show _+1<=_
    lia
   ·rw[ah (aaE WX),VT];exact s7 _ _ OP
   ·rw[ah ar];exact s7 _ _ aT
  ·rintro σ I ⟨ds,xs,v6,v7,rfl,s5,Sg,OQ,Tc,Qf,Y,Z⟩;rw[aaa]at Qf;refine(aq rfl (aq rfl ⟨dl rfl,λc hc=>?_⟩))
   have s6:au I (upd I c (.tup [.int (n:Int),.ref L])):=au.new hc;exact q n ds c L xs _ n1 n2 (s5.trans s6) ae (s6 _ _ Sg) (Paired.imp' (λ_ _ z=>z.tups s6.tups) OQ) Tc (by lia)
def MW:Sp:=λvs H Q _=>∃c,vs=[.int c]/\Q (.bl true) H
def oX:Ok T T.oG 1 MW:=by
 refine T.oG.ok Be λ_ A _ s H vs Q E hr h=>?_
 ·obtain⟨c,rfl,k⟩:=h;refine⟨_,(av (aC (qk (bQ (NS K) (by rfl) T.jO abR (aa (pv 0) (aa (Gz (by rfl) T.Vd PyProof.Rows.boot_int) af))) (nH (Qq (bQ (NS K) (by rfl) T.jO abR (aa (pv 0) (aa (Gz (by rfl) T.RW PyProof.Rows.boot_bool) af)))))))),?_⟩
  exact(aq rfl ⟨_,_,_,_,_,rfl,rfl,.int c,QU K,_,rfl,fb (aq rfl ⟨_,_,_,_,_,rfl,rfl,.int c,QV K,_,rfl,k⟩)⟩)
def fM{K:bE}{H:Hp}:∀l:List Int,DatVs K H (l.map V.int) (l.map PyData.int)
 | []=>.nil
 | x::r=>.cons (.int x) (fM r)
def lay_ints:∀l:List Int,PyData.canLayAll0 (l.map PyData.int)=true
 | []=>rfl
 | x::r=>by
   have I:=lay_ints r;have e:(PyData.int x).canLay0=true:=by simp[PyData.canLay0]
   simp only[aay,PyData.canLayAll0,I,acP,e]
def Af:∀l:List Int,PyData.depthAll (l.map PyData.int)=0
 | []=>rfl
 | x::r=>by
   show max (PyData.depth (PyData.int x)) (PyData.depthAll (r.map PyData.int))=0;rw[Af r];rfl
def shaped_ints(l:List Int):SeqAt.shaped (.list (l.map PyData.int))=true:=by
 unfold SeqAt.shaped;have e:(PyData.list (l.map PyData.int)).canLay0=PyData.canLayAll0 (l.map PyData.int):=by simp[PyData.canLay0]
 rw[e,lay_ints,abo];refine eG ?_;have I:PyData.depth (PyData.list (l.map PyData.int))=PyData.depthAll (l.map PyData.int)+1:=by simp[PyData.depth]
 rw[I,Af]
 lia
def MX(l:List Int):(PyData.list (l.map PyData.int)).canLay0=true:=by
 have e:(PyData.list (l.map PyData.int)).canLay0=PyData.canLayAll0 (l.map PyData.int):=by simp[PyData.canLay0]
 rw[e,lay_ints]
def uv{p:Nat}{ts:List cP}{g:aD p ts}{rs rs' : List Nat}(lb:RM.LB g.N (bg ts) rs)(lb' : RM.LB g.N (bg ts) rs')(pw:rs.Pairwise (jE ts))(WT:rs'.Pairwise (jE ts))
 (lr:∃bs,RM.Ff g.N (bg ts) (g.N.aZ.map λc=>2^c) bs []/\rs.Perm bs) (lr' : ∃bs,RM.Ff g.N (bg ts) (g.N.aZ.map λc=>2^c) bs []/\rs'.Perm bs):rs=rs':=by
 have I:∀k,k<g.N.n->0<bg ts k:=λk hk=>by
  have:=(g.wg _ (fB hk)).l0;unfold bg
  lia
 obtain⟨bs,l1,p1⟩:=lr;obtain⟨bs',l2,p2⟩:=lr';have O:bs.length=bs'.length:=by rw[<-p1.length_eq,<-p2.length_eq,lb.1.len,lb'.1.len]
 obtain⟨rfl,_⟩:=l1.uniq I l2 O;exact(p1.trans p2.symm).eq_of_pairwise (λx y _ _ h1 h2=>Ae h1 h2) pw WT
def Za(t:Qa):VG:=((t.1:Int),(t.2.1:Int),t.2.2)
def MY{p:Nat}{H:Hp}:∀{ys:List V} {I:List Qa},Paired (y9 H) ys I->(∀t∈I,JQ p t.2.2)->Paired (VH p H) ys (I.map Za)
 | _,_,.nil,_=>.nil
 | _,_,.cons ⟨c,b,e,h1,h2⟩ r,al=>.cons ⟨c,b,e,h1,h2,al _ aaq⟩ (MY r λt ht=>al t (pP _ ht))
def Gf{p:Nat}{ts:List cP}{g:aD p ts}{I:List Qa}(lb:RM.LB g.N (bg ts) (I.map (·.1)))(pw:(I.map (·.1)).Pairwise (jE ts))(mo:MarksOf g.N (I.map (·.1)) (I.map (·.2.1)))(al:∀t∈I,JQ p t.2.2/\rJ p ts g t.2.1 t.2.2):MO p ts g (I.map Za):=by
 refine⟨I.map (·.1),by rw[aa7,aa7];rfl,lb.1,pw,⟨I.map (·.2.1),by rw[aa7,aa7];rfl,mo⟩,λz hz=>?_⟩
 obtain⟨t,ht,rfl⟩:=aas.mp hz;obtain⟨i,hi⟩:=aaN ht;have O:(I.map (·.1))[i]?=some t.1:=by rw[aak,hi];rfl
 have U:(I.map (·.2.1))[i]?=some t.2.1:=by rw[aak,hi];rfl
 obtain⟨Y,Z⟩:=mo.2 i t.2.1 U;obtain⟨rg,rl⟩:=lb.1.ring t.1 (jY O);have own:=Z i t.1 O;rw[eG rfl]at own;refine⟨t.1,rfl,rl,rg,(AX Y).mpr own,(al t ht).2.stands,?_⟩;refine Ir (al t ht).2 λr2 h2 h3 h4=>?_
 obtain⟨b2,By,Wm,W0⟩:=lb.2 r2 t.2.1 h3 h2 h4;obtain⟨j,hj⟩:=aaN By;rw[Z j b2 hj]at Wm;have ej:i=j:=kK Wm;subst ej;rw[O]at hj;rw[E4 rl,Option.some.inj hj];exact W0
def Sb{p:Nat}{ts:List cP}{g:aD p ts}{rs:List Nat}(lb:RM.LB g.N (bg ts) rs):rs.length<=24:=by
 have h1:g.N.aZ.length<=(List.range g.N.n).length:=aaI ..;rw[aaA,<-lb.1.len]at h1;exact aaB h1 g.len
def O7{ts:List cP}{rs:List Nat}(pw:rs.Pairwise (jE ts)):(rs.map (lenOf ts)).Pairwise (·<=·):=by
 rw[abP];refine pw.imp λ{x y} h=>?_
 unfold jE at h
 lia
def Sh(C t1 t2:Addr)(MK JE:Pos):Sp:=λvs H Q _=>∃(p d q:Addr) (n:Nat) (s:Nat×cF) (hs:List (Nat×cF)) (ds:List l6),vs=[.ref p]/\k9 C H p d q n (s::hs) ds/\H t1=some (.jj (dG (kI "least_ways") MK))/\H t2=some (.jj (dG (kI "by_length") JE))/\∀H',au H H'->Q (.bl true) H'
def cX:Ok T T.cW 13 (Sh a.az a.bN a.cN bA cu):=by
 have oX:=oX T;have b8:=b8 T;have iS:=iS T;have lJ:=lJ T;have bj:=bj T;have fY:=fY T;have cM:=cM T;refine T.cW.ok gr λ_ A _ s H vs Q E hr h=>?_
 ·obtain⟨p,d,q,n,⟨f,m⟩,hs,ds,rfl,S,uN,Z,k⟩:=h;refine⟨_,(ai (aN (i:=1) gr.nd rfl (Or.inr rfl) (fc (pv 0) T.aH T.fX bj (hr.mono (by decide)) T.gH .nil aI))
   (ai (aN (i:=2) gr.nd rfl (Or.inl rfl) (fc (pv 0) T.aH T.oM fY (hr.mono (by decide)) T.pY .nil aI))
   (ai (bC (PW.pt (lN (eW (cg (bQ (NS K) (by rfl) T.jO abR (aa (pv 2) (aa (Gz (by rfl) T.pO abA) af))))) (jk (aL Q5 (aE lJ hr T.lE.c aI (aa (pv 1) (aa (pv 2) af))) gf (aM _))))) (av (aC gf)) aU)
   (ai (aN (i:=3) gr.nd rfl (Or.inl rfl) (fc (pv 0) T.aH T.gV cM (hr.mono (by decide)) T.iq .nil aI))
   (ai (bC (PW.pt (lN (eW (cg (bQ (NS K) (by rfl) T.jO abR (aa (pv 3) (aa (Gz (by rfl) T.FY acN) af))))) (jk (aL (vW K hr.units) (pv 3) (bW (own:=["ring","marks","worths"]) (fq:=["web"]) (js:=[1]) (aF (aj fj) ["standing","web","base","found"]) rfl (Us K (pv 2)) (λ_ _ _ _=>(BO K (n:=3) rfl (aJ (bq 0 (jV ["ring","marks","worths","web"])) (aJ (bq 1 (jV ["ring","marks","worths","web"])) (aJ (bq 2 (jV ["ring","marks","worths","web"])) cJ))))) (λ_ _ _ _=>bV) (λ_ _ _ _=>(aE b8 hr T.gU.c qZ (aa (pv 3) (aa (pv 0) af))))) (aM _))))) (av (aC gf)) aU)
   (ai (bC (PW.pt (lN (aL (vW K hr.units) (pv 3) (aE iS hr T.mz.c aI (aa (pv 1) af)) (aM _)) (lN (aL (vW K hr.units) (pv 3) (bQ (sortedK K) (by rfl) T.xZ PyProof.Rows.boot_sorted (aa (pv 3) af)) (aM _)) (jk (aL pZ (cz K T.dR (aa (bW (own:=["part"]) (fq:=[]) (js:=[]) (aF (aj fj) ["standing","web","base","found"]) rfl (vt K (pv 3)) (λ_ _ _ _=>(bq 0 (jV ["part"]))) (λ_ _ _ _=>(iU (eW (cg (aE oX hr T.oG.c aI (aa (pv 0) af)))))) (λ_ _ _ _=>(pv 0))) af)) ak (aM _)))))) (av (aC gf)) aU)
   (ai (bF (G0 K (kM aaL aaT aaU cB (pv 3) (aa ak af))))
   (av (aC (dH (EB K hr.units) (fc (pv 0) T.aH T.gV cM (hr.mono (by decide)) T.iq .nil aI) (aE iS hr T.mz.c aI (aa (pv 1) af)) (aM _))))))))))),?_⟩
  refine uW ?_;intro cy cK dW eY gb kJ uK C9 De G4;obtain⟨dx,_,_,_,e0,hp,hd⟩:=S.ob;cases e0;have g:=S.ch.ok.zz S.p1 S.p2;refine(aq rfl ⟨p,dx,_,rfl,hp,kR (by decide +kernel) (by decide +kernel) (by decide +kernel) (by decide +kernel),p,d,q,n,f,m,hs,ds,rfl,S,λwb H1 s1 hw=>?_⟩)
  refine(aq rfl ⟨p,dx,_,rfl,s1 _ _ hp,kR (by decide +kernel) (by decide +kernel) (by decide +kernel) (by decide +kernel),p,d,q,n,f,m,hs,ds,g,rfl,S.same s1,s1 _ _ uN,s1 _ _ Z,λb ys O H2 s2 hb pr lb pw mo al lr=>?_⟩)
  have ab:=s1.trans s2;generalize aw:m.map (·.2)=ts at g hw lb pw mo al lr;have Zb:O.length<=24:=by have:=Sb lb;rw[aaa]at this;exact this
  refine(aq rfl ⟨_,_,_,_,_,rfl,rfl,.tup hb,QW K,_,rfl,cO (aq rfl (aq rfl ⟨wb,n,ts,g,b,ys,O.map Za,rfl,hw.same s2,ab _ _ Z,hb,MY pr λt ht=>(al t ht).1,(by rw[aaa];lia),λH3 dd s3 Ww=>?_⟩))⟩)
  rw[Ww.mpr (Gf lb pw mo al)];refine⟨true,true,rfl,rfl,aq rfl (cO ?_)⟩;have oN:=ab.trans s3;subst aw;refine(aq rfl ⟨p,dx,_,rfl,oN _ _ hp,kR (by decide +kernel) (by decide +kernel) (by decide +kernel) (by decide +kernel),p,d,q,n,f,m,hs,ds,g,rfl,S.same oN,oN _ _ uN,oN _ _ Z,λD rs H4 hD s4 DL ax aT a3=>?_⟩)
  obtain rfl:rs=O.map (·.1):=uv ax lb aT pw a3 lr;have JF:=oN.trans s4;have VV:=s3.trans s4;have S4:H D=none:=oN.free hD;have W0:=VV _ _ hb;have W:=g.zz;have VI:=pr.length;refine(aq rfl ⟨_,_,_,_,_,rfl,rfl,.lst DL,QX K,_,rfl,cO ?_⟩);refine(aq rfl (aq rfl ⟨b,rfl,⟨_,aV.of W0⟩,λX hX=>nL (K:=K) (a:=b) (xs:=ys) (λi acc H6=>au H4 H6/\H6 X=some (.lst acc)/\acc=((O.take i).map λt=>lenOf (m.map (·.2)) t.1).map V.int) ⟨au.new hX,ae,rfl⟩ (λi acc H6 _ z=>⟨aV.of (z.1 _ _ W0),z.2.1,by rw[z.2.2,aaa,aaa,aa3];lia⟩) (cZ (by lia)) ?_ ?_⟩))
  ·rintro i x acc H6 hx ⟨U,ML,rfl⟩;obtain⟨t,ag,c,b',rfl,hc,_⟩:=Paired.lQ pr hx;have rl:t.1<2^(m.map (·.2)).length:=(lb.1.ring t.1 (aas.mpr ⟨t,jY ag,rfl⟩)).2;refine⟨c,_,rfl,aV.of (U _ _ (VV _ _ hc)),rfl,_,_,rfl,_,_,rfl,_,_,rfl,rfl,rfl,aq rfl (aq rfl ⟨wb,n,_,_,rfl,hw.same ((s2.trans VV).trans U),W,.inl ⟨t.1,rfl,rl,λH7 s7=>⟨s7 _ _ ML,(U.trans s7).put hX,ae,?_⟩⟩⟩)⟩
   rw[aaM,ag];show _=List.map V.int (List.map _ (List.take i O++[t]));rw[aar,aar];rfl
  rintro acc H6 ⟨U,ML,rfl⟩;rw[VI,aaR,show(O.map λt=>lenOf (m.map (·.2)) t.1)=(O.map (·.1)).map (lenOf (m.map (·.2))) by rw[aa7];rfl]at ML
  have O1:=JF.trans U;have OP:=U _ _ DL;have W2:∀{z:List Int},PyData.eqv (.list (z.map PyData.int)) (.list (z.map PyData.int))=true:=SeqAt.eqv_refl _ (MX _);refine⟨_,_,.lst (aO.of OP) (fM _),.lst (aO.of ML) (fM _),shaped_ints _,shaped_ints _,_,rfl,?_⟩;rw[W2];refine cO (aq rfl (aq rfl ⟨wb,n,_,g,rfl,hw.same (((s2.trans VV).trans U)),O1 _ _ uN,O1 _ _ Z,λE1 rs H7 hE s7 a4 a5 a6 a7=>?_⟩))
  obtain rfl:rs=O.map (·.1):=uv a5 lb a6 pw a7 lr;have W3:=s7 _ _ OP;have O2:=O1.trans s7;have up:=O7 pw;have fz:((O.map (·.1)).map (lenOf (m.map (·.2)))).length<=24:=by rw[aaa,aaa];exact Zb
  refine⟨_,_,.lst (aO.of W3) (fM _),.lst (aO.of a4) (fM _),shaped_ints _,shaped_ints _,_,rfl,?_⟩;rw[W2];generalize (O.map (·.1)).map (lenOf (m.map (·.2)))=zs at W3 up fz;refine cO (aq rfl (aq rfl ⟨D,zs,rfl,aO.of W3,by lia,λF I hF pm so=>?_⟩))
  obtain rfl:I = zs:=pm.eq_of_pairwise (λx y _ _ h1 h2=>Int.le_antisymm h1 h2) so up
  have s8:au H7 (upd H7 F (.lst (I.map V.int))):=au.new hF;have JO:=s8 _ _ W3;refine⟨_,_,.lst (aO.of JO) (fM _),.lst (aO.of ae) (fM _),shaped_ints _,shaped_ints _,_,rfl,?_⟩;rw[W2];generalize upd H7 F (.lst (I.map V.int))=H8 at s8 JO;have a8:=O2.trans s8;refine cO (aq rfl ⟨D,rfl,⟨_,aO.of JO⟩,λD2 lK=>bX (K:=K) (a:=D) (xs:=I.map V.int) (λi acc Y=>au H8 Y/\Y D2=some (.lst acc)/\acc=[]) ⟨au.new lK,ae,rfl⟩ (λi acc Y _ z=>⟨aO.of (z.1 _ _ JO),z.2.1,by rw[z.2.2];exact aaF _⟩) (cZ (by rw[aaa];exact fz)) ?_ ?_⟩)
  ·rintro n y acc Y hy ⟨s9,Zc,rfl⟩;obtain⟨x,_,rfl⟩:=aas.mp (jY hy);exact⟨rfl,aq rfl (aq rfl (aq rfl ⟨s9,Zc,rfl⟩))⟩
  rintro acc Y ⟨s9,Zc,rfl⟩;refine(uI rfl (.inl (aO.of Zc)) (c6 (aq rfl (qV (λz=>absurd (kK z) (by decide)) (λ_=>?_)))))
  have Si:=s9 _ _ JO;refine(aq rfl ⟨(.inl ⟨rfl,_,aO.of Si⟩),D,_,_,rfl,rfl,Si,bS (by rw[aaa];lia),?_⟩)
  have Td:au H (upd Y D (.lst (I.map V.int++[.int 0]))):=(a8.trans s9).put S4;have a9:=bH.put (o:=.lst (I.map V.int++[.int 0])) Si;have ar:=(hw.same (((((s2.trans VV).trans U).trans s7).trans s8).trans s9)).tups a9;generalize upd Y D (.lst (I.map V.int++[.int 0]))=HA at Td ar;refine(aq rfl ⟨p,dx,_,rfl,Td _ _ hp,kR (by decide +kernel) (by decide +kernel) (by decide +kernel) (by decide +kernel),p,d,q,n,f,m,hs,ds,g,rfl,S.same Td,Td _ _ uN,Td _ _ Z,λD3 ba HB zu sB Zd bb bc bo=>?_⟩)
  have Sj:=Td.trans sB;refine(aq rfl ⟨wb,n,_,g,rfl,ar.same sB,Sj _ _ uN,Sj _ _ Z,λD5 bp HC x6 sC Ze bt bw bD=>?_⟩)
  obtain rfl:bp=ba:=uv bt bb bw bc bD bo;refine⟨_,_,.lst (aO.of (sC _ _ Zd)) (fM _),.lst (aO.of Ze) (fM _),shaped_ints _,shaped_ints _,?_⟩;rw[W2];exact k HC (Sj.trans sC)
def Rn.front{n:Nat}{d:Dd}:∀{ds:List Dd} {s:Nat×cF},Rn n s (ds++[d])->Rn n s ds
 | [],_,_=>trivial
 | _::_,_,⟨h1,h2⟩=>⟨h1,Rn.front h2⟩
def Rn.last{n:Nat}{d:Dd}:∀{ds:List Dd} {s:Nat×cF},Rn n s (ds++[d])->VN n (oU s ds) d
 | [],_,h=>h.1
 | x::r,s,⟨_,h2⟩=>Rn.last (ds:=r) (s:=stp s x) h2
def se{n:Nat}:∀{ds:List Dd} {s:Nat×cF},s.2.length<=n+3->Rn n s ds->(oU s ds).2.length<=n+3
 | [],_,h,_=>h
 | .put t::r,s,_,⟨⟨_,hl⟩,h2⟩=>se (ds:=r) (by show(s.2++[(s.1,t)]).length<=_;rw[aaj];show s.2.length+1<=_;lia) h2
 | .drop x::r,s,h,⟨_,h2⟩=>se (ds:=r) (aaB (aaI _ _) h) h2
def Sk(C:Addr)(H0 H:Hp)(p d q:Addr)(n:Nat)(ds:List Dd)(k:Nat):Prop:=au H0 H/\∃hs I,k9 C H p d q n (oU (0,[]) (ds.take k)::hs) I/\I.length=k/\(0<k->∃hs' e O,hs=oU (0,[]) (ds.take (k-1))::hs'/\I=e::O)
def Ag{H0 H H' : Hp}{p d q:Addr}(s:au H0 H)(k:Kept H H' p d q)(hp:H0 p=none)(hd:H0 d=none)(hq:H0 q=none):au H0 H' :=
 λb o e=>k.rest b o (s b o e) (aR e hp) (aR e hd) (aR e hq)
def BK(K:bE)(tb:uU):Sp:=λvs H Q _=>∃(a:Addr) (ns:List Int),vs=[.ref a]/\aO K H a (ns.map V.int)/\ns.length<=63/\TabsAt tb H/\∀H',Q (.bl true) H'
def VW:Ok T T.P1 14 (BK K [(a.cN,kI "by_length",cu),(a.bN,kI "least_ways",bA)]):=by
 have oW:=oW T;have r9:=r9 T;have cX:=cX T;have jA:=jA T;have dS:=dS T;have gy:=gy T;refine T.P1.ok xN λ_ A _ s H vs Q E hr h=>?_
 ·obtain⟨b,ns,rfl,hS,hn,hT,fin⟩:=h;have uO:=hT _ aaq;have uN:=hT _ (pP _ aaq);refine⟨_,(ai (JZ (aE oW hr T.oH.c aI (aa (pv 0) (aa ak af))) (BO K (n:=2) rfl (aJ (bq 1 xN.nd) (aJ (bq 2 xN.nd) cJ))))
   (ai (aN (i:=3) xN.nd rfl (Or.inl rfl) (NB T.mk_Standing jA (hr.mono (by decide)) (by rfl) T.FZ T.ve .nil aI (aa (pv 1) af)))
   (ai (g7 PassesOwn.never rfl (cA (by rfl) T.dJ (aa (cz K T.dR (aa (pv 2) af)) af)) (bq 4 xN.nd)
   (ai (bC (PW.pt (Ed (aL i8 (aQ fP (pv 4) ak) ak (aM _)) (Aj (eW (cg (aE cX hr T.cW.c aI (aa (pv 3) af))))))) (av (aC gf)) aU)
   (av (bF (aE r9 hr T.rY.c aI (aa (pv 3) (aa (aK (nA K) (pv 2) (pv 4)) af)))))))
   (ai (bC (aL pZ (cz K T.dR (aa (pv 2) af)) ak (aM _)) (ai (bF (fc (pv 3) T.aH T.mC gy (hr.mono (by decide)) T.ny .nil aI))
   (ai (bC (eW (cg (aE cX hr T.cW.c aI (aa (pv 3) af)))) (av (aC gf)) aU)
   (ai (bF (Am (pv 3) T.aH T.nv dS (hr.mono (by decide)) T.oJ .nil aI (aa ak (aa ak (aa (aQ iz ak (aQ fP (aK (c5 K) (aK (nA K) (pv 2) (Gj Al ak)) (Gj Al ak)) ak)) af)))))
   (ai (bC (eW (cg (aE cX hr T.cW.c aI (aa (pv 3) af)))) (av (aC gf)) aU)
   (ai (bF (fc (pv 3) T.aH T.mC gy (hr.mono (by decide)) T.ny .nil aI))
   (ai (bC (eW (cg (aE cX hr T.cW.c aI (aa (pv 3) af)))) (av (aC gf)) aU)
   (av (bF (aE r9 hr T.rY.c aI (aa (pv 3) (aa (aK (nA K) (pv 2) (Gj Al ak)) af))))))))))) aU)
   (av (aC (aE cX hr T.cW.c aI (aa (pv 3) af)))))))),?_⟩
  refine RS ?_;intro cy cK dW eY gb kJ uK C9 De G4 Dg Dh RT U6 U7 U8 U9;refine(aq rfl ⟨b,ns,14,rfl,hS,hn,λn ds c L xs H1 n1 n2 s1 hc hL pr rn Zf=>?_⟩)
  refine⟨c,_,rfl,aV.of hc,rfl,_,_,rfl,_,_,rfl,rfl,?_⟩;refine(aq rfl (λp dx hp ag ne=>⟨p,dx,n,rfl,ae,by lia,by lia,λd q H2 Y wI S2 kp=>⟨rfl,?_⟩⟩))
  have s2:au H1 H2:=λb o e=>kp b o (by rw[ah (aR e hp),ah (aR e ag)];exact e) (aR e hp)
  have fresh:∀e,upd (upd H1 dx (.own p)) p (.ins a.az dx []) e=none->H1 e=none:=λe he=>by
   by_cases e1:e=p
   ·rw[e1];exact hp
   ·rw[ah e1]at he
    by_cases e2:e=dx
    ·rw[e2];exact ag
    ·rwa [ah e2]at he
  have Y:=fresh d Y;have wI:=fresh q wI;have WY:=pr.length;have bc:=se (s:=(0,[])) (aaF _) rn;have L0:Sk a.az H1 H2 p d q n ds 0:=⟨s2,[],[],S2,rfl,λh=>by lia⟩
  refine(aq rfl (uI rfl (.inl (aO.of (s2 _ _ hL))) (aq rfl ⟨(by lia),(by lia),?_⟩)))
  refine mT (lo:=0) (n:=(xs.length:Int).toNat) (λi σ H5=>∃v4,σ=[some (.ref b),some (.int (n:Int)),some (.ref L),some (.ref p),v4]/\Sk a.az H1 H5 p d q n ds i) ⟨none,rfl,L0⟩ ?_ ?_
  ·rintro i D' σ H5 hi ⟨v4,rfl,ls⟩;rw[aap]at hi;rw[abp];have cont:∀I,Sk a.az H1 I p d q n ds i->RT D' [some (.ref b),some (.int (n:Int)),some (.ref L),some (.ref p),some (.int (i:Int))] I:=λI ⟨O,hs,U,S6,aw,_⟩=>by
    obtain⟨x,hx⟩:∃x,xs[i]?=some x:=⟨_,aam hi⟩;obtain⟨e,he,c',rfl,Z⟩:=Paired.lQ pr hx;refine(aq rfl (aq rfl (aq rfl (nC (aO.of (O _ _ hL)) (ao (j:=i) hx) ⟨p,d,q,c',n,_,hs,U,e,rfl,S6,O _ _ Z,rn.VO he,n2,by lia,λH7 e' ax S7=>?_⟩))))
    refine(aq rfl ⟨Ag O ax hp Y wI,_::hs,e'::U,?_,aaO (· + 1) aw,λ_=>⟨hs,e',U,rfl,rfl⟩⟩)
    rw[aaM,he];show k9 _ _ _ _ _ _ (oU _ (ds.take i++[e])::_) _;rw[ur];exact S7
   obtain⟨s5,hs,U,S5,Qf,W4⟩:=id ls;refine(aq rfl (c6 ⟨(vV rfl),rfl,aq rfl (qV (λ_=>?_) (λ_=>cO (cont H5 ls)))⟩))
   refine(aq rfl ⟨p,d,q,n,_,hs,U,rfl,S5,(s1.trans s5) _ _ uN,(s1.trans s5) _ _ uO,λI O=>(aq rfl (cO (cont I ⟨s5.trans O,hs,U,S5.same O,Qf,W4⟩)))⟩)
  ·rintro σ H5 ⟨v4,rfl,s5,hs,U,S5,Qf,W4⟩;rw[aap,WY]at S5 Qf W4;have VX:∀I s hs U,au H1 I->k9 a.az I p d q n (s::hs) U->cy { nx:=λ_ H'=>Q V.eF H',rt:=Q} [some (.ref b),some (.int (n:Int)),some (.ref L),some (.ref p),v4] I:=λI s hs U O S6 =>
    (aq rfl ⟨p,d,q,n,s,hs,U,rfl,S6,(s1.trans O) _ _ uN,(s1.trans O) _ _ uO,λH7 s7=>fin H7⟩)
   refine(aq rfl (uI rfl (.inl (aO.of (s5 _ _ hL))) (c6 (aq rfl (qV (λh=>?_) (λ_=>VX H5 _ hs U s5 S5))))))
   have h:=kK h;rcases List.eq_nil_or_concat ds with rfl|⟨ab,e,ar⟩
   ·rw[WY]at h;exact absurd h (by decide)
   rw[List.concat_eq_append]at ar;subst ar;obtain⟨bo,x,rfl,bp,c',rfl,Z⟩:=EY pr;have lc:(ab++[e]).length=ab.length+1:=by rw[aaj];rfl
   obtain⟨hs',e0,Cu,rfl,rfl⟩:=W4 (by rw[lc];lia)
   rw[lc,Nat.add_sub_cancel,List.take_left'  rfl]at S5;have ok:∀{I H7:Hp},au H1 I->Kept I H7 p d q->au H1 H7:=λs kp=>Ag s kp hp Y wI
   have aT : Rn n (0,[]) ab:=rn.front;have few:=se (s:=(0,[])) (aaF _) aT;obtain⟨a3,_,_,_,_,Qd,_⟩:=S5.ob;refine(aq rfl ⟨p,a3,_,rfl,Qd,kR (by decide +kernel) (by decide +kernel) (by decide +kernel) (by decide +kernel),p,d,q,n,_,_,hs',e0,Cu,rfl,S5,λI a4 S6=>?_⟩)
   have O:=ok s5 a4;have Qf:Cu.length+1=ab.length+1:=by rw[<-lc];exact Qf
   rw[lc]at Zf;refine(aq rfl ⟨p,d,q,n,_,_,_,rfl,S6,(s1.trans O) _ _ uN,(s1.trans O) _ _ uO,λH7 s7=>(aq rfl (cO ?_))⟩)
   have O2:=O.trans s7;have S7:=S6.same s7;obtain⟨z,hz⟩:∃z,Aq (WW e) (-1)=some (.int z):=by
    cases e with
    | put t=>exact⟨_,qR [_,_,_] _⟩
    | drop x=>exact⟨_,qR [_] _⟩
   have zm:=p8 z 7 (by decide)
   have gt:iX (n:Int) (1,0,1+z%7):=⟨by show(0:Int)<=1;decide,by show(1:Int)<_;lia,by show(0:Int)<=0;decide,by show(0:Int)<_;lia,by show(1:Int)≠0;decide,by show 1<=1+z%7;lia,by show 1+z%7<=_;lia⟩
   obtain⟨a5,_,_,_,_,VL,_⟩:=S7.ob;refine(aq rfl ⟨p,a5,_,rfl,VL,kR (by decide +kernel) (by decide +kernel) (by decide +kernel) (by decide +kernel),aq rfl (aq rfl (nC (aO.of (O2 _ _ hL)) (qR _ _) (aq rfl (cV (aV.of (O2 _ _ Z)) (hz) (c6 ⟨(vV rfl),c6 ⟨p,d,q,n,_,_,hs',Cu,(1,0,1+z%7),rfl,S7,gt,(abL few (by lia)),(by lia),λH8 a6 S8=>?_⟩⟩)))))⟩)
   have s8:=ok O2 a6;refine(aq rfl ⟨p,d,q,n,_,_,_,rfl,S8,(s1.trans s8) _ _ uN,(s1.trans s8) _ _ uO,λH9 s9=>(aq rfl (cO ?_))⟩)
   have a7:=s8.trans s9;have S9:=S8.same s9;obtain⟨a8,_,_,_,_,a9,_⟩:=S9.ob;refine(aq rfl ⟨p,a8,_,rfl,a9,kR (by decide +kernel) (by decide +kernel) (by decide +kernel) (by decide +kernel),p,d,q,n,_,_,hs',_,Cu,rfl,S9,λHA ba SA=>?_⟩)
   have sA:=ok a7 ba;refine(aq rfl ⟨p,d,q,n,_,_,_,rfl,SA,(s1.trans sA) _ _ uN,(s1.trans sA) _ _ uO,λHB sB=>(aq rfl (cO ?_))⟩)
   have Sj:=sA.trans sB;refine(aq rfl (aq rfl (aq rfl (nC (aO.of (Sj _ _ hL)) (qR _ _) ⟨p,d,q,c',n,_,hs',Cu,e,rfl,SA.same sB,Sj _ _ Z,?_,n2,by lia,λHC e' bb SC=>VX HC _ _ _ (ok Sj bb) SC⟩))))
   exact rn.last
end
section
variable {l:PySem.W.OpenLaw}{w:World}{K:bE}{h:Heap}{mg:nE}{fa f0 f1 f2 f3 f4 f5 f6 f7 f8 f9 f10 f11 f12 f13 f14 f15 f16 f17 f18 f19 f20 f21 f22 f23 f24 f25 f26 f27 f28 f29 f30 f31 f32 f33 f34 f35 f36 f37 f38 f39 f40 f41 f42 f43 f44 f45 f46 f47 f48 f49 f50 f51 f52 f53 f54 f55 f56 f57 f58 W5 W6 W9 Xa Xb f64 Xc Xd Xe DY yj yk uw yl DZ bf sj fN qj eV:Addr}{d0 d1 d2 d3 d4 d5 d6 d7 d8 d9 d10 d11 d12 d13 d14 d15 d16 d17 d18 d19 d20 d21 d22 d23 d24 d25 d26 d27 d28 d29 d30 d31 d32 d33 d34 d35 d36 d37 d38 d39 d40 d41 d42 d43 d44 d45 d46 d47 d48 d49 d50 d51 d52 d53 d54 d55 d56 d57 d58 d59 d60 d61 d62 d63 d64 d65 d66 d67:FuncData}{ts:List Addr}{zb D0 JJ:Tok}
open PySem.W
def all_mk(X:K.In h)(G:h.Ns mainGlobals mg)(hfa:mg "law"=some (.ref fa))(te:ts=[fN,eV])
 (d_BadWeb:nsIn K mainGlobals "BadWeb"=some (some (.ref DY)))
 (d_BadSet:nsIn K mainGlobals "BadSet"=some (some (.ref yj)))
 (d_BadPoint:nsIn K mainGlobals "BadPoint"=some (some (.ref yk)))
 (d_NoChord:nsIn K mainGlobals "NoChord"=some (some (.ref uw)))
 (d_NoBase:nsIn K mainGlobals "NoBase"=some (some (.ref yl)))
 (d_NoDeed:nsIn K mainGlobals "NoDeed"=some (some (.ref DZ)))
 (d_Standing:nsIn K mainGlobals "Standing"=some (some (.ref bf)))
 (pg_Standing:plainGet K bf Str.empty=true) (hd_Standing:hasDictIn K bf=true) (po_Standing:plainOver K bf=true) (sa_Standing:findIn K (.ref bf) "__setattr__"=some (some (.builtin "object.__setattr__"))) (mk_Standing:makesIn K bf=true) (kc_Standing:keepIn K (.ref bf)=true)
 (na_points:findIn K (.ref bf) "points"=some none)
 (na_standing_ties:findIn K (.ref bf) "standing_ties"=some none)
 (na_next_name:findIn K (.ref bf) "next_name"=some none)
 (na_done:findIn K (.ref bf) "done"=some none)
 (xc_BadSet:excIn K yj [.type "ValueError",.type "Exception",.type "BaseException",.type "object"] "ValueError.__new__"=true)
 (xc_NoChord:excIn K uw [.type "ValueError",.type "Exception",.type "BaseException",.type "object"] "ValueError.__new__"=true)
 (xc_NoBase:excIn K yl [.type "ValueError",.type "Exception",.type "BaseException",.type "object"] "ValueError.__new__"=true)
 (ma59:findIn K (.ref bf) "__init__"=some (some (.ref W5))) (mj59:isFn K (.ref W5)=true) (a59:sF K "__init__" "Standing.__init__" jo W5 d59)
 (ma60:findIn K (.ref bf) "put"=some (some (.ref W6))) (mj60:isFn K (.ref W6)=true) (a60:sF K "put" "Standing.put" kq W6 d60)
 (ma61:findIn K (.ref bf) "drop"=some (some (.ref W9))) (mj61:isFn K (.ref W9)=true) (a61:sF K "drop" "Standing.drop" jr W9 d61)
 (ma62:findIn K (.ref bf) "back"=some (some (.ref Xa))) (mj62:isFn K (.ref Xa)=true) (a62:sF K "back" "Standing.back" jt Xa d62)
 (ma63:findIn K (.ref bf) "names"=some (some (.ref Xb))) (mj63:isFn K (.ref Xb)=true) (a63:sF K "names" "Standing.names" iK Xb d63)
 (ma64:findIn K (.ref bf) "ties_now"=some (some (.ref f64))) (mj64:isFn K (.ref f64)=true) (a64:sF K "ties_now" "Standing.ties_now" dI f64 d64)
 (ma65:findIn K (.ref bf) "web_now"=some (some (.ref Xc))) (mj65:isFn K (.ref Xc)=true) (a65:sF K "web_now" "Standing.web_now" gE Xc d65)
 (ma66:findIn K (.ref bf) "base_now"=some (some (.ref Xd))) (mj66:isFn K (.ref Xd)=true) (a66:sF K "base_now" "Standing.base_now" fR Xd d66)
 (ma67:findIn K (.ref bf) "lengths_now"=some (some (.ref Xe))) (mj67:isFn K (.ref Xe)=true) (a67:sF K "lengths_now" "Standing.lengths_now" eg Xe d67)
 (nt:noTabs K=true) (pn:([fN,eV]:List Addr).Nodup) (pi:∀p∈([fN,eV]:List Addr),p∈ts)
 (a0:Dk K "made_web" mU f0 d0)
 (a1:Dk K "made_tie" qy f1 d1)
 (a2:Dk K "has_tie" sY f2 d2)
 (a3:Dk K "ties_in" pC f3 d3)
 (a4:Dk K "set_of" xy f4 d4)
 (a5:Dk K "all_ties" qz f5 d5)
 (a6:Dk K "is_set" xA f6 d6)
 (a7:Dk K "check_set" nZ f7 d7)
 (a8:Dk K "triples_in" jJ f8 d8)
 (a9:Dk K "length_of" kU f9 d9)
 (Yy:Dk K "odd_points" jK f10 d10)
 (Yz:Dk K "drawn_together" fE f11 d11)
 (YA:Dk K "pieces" rN f12 d12)
 (a13:Dk K "rank" Fo f13 d13)
 (a14:Dk K "is_even" sZ f14 d14)
 (a15:Dk K "forest_trails" gn f15 d15)
 (a16:Dk K "forest" xB f16 d16)
 (a17:Dk K "chords" xC f17 d17)
 (a18:Dk K "ring_closed" lg f18 d18)
 (a19:Dk K "chord_ring" mV f19 d19)
 (a20:Dk K "is_ring" pG f20 d20)
 (a21:Dk K "is_ring_number" iI f21 d21)
 (O:RP K "by_length" kW f22 d22 sj fN)
 (a23:Dk K "common" xE f23 d23)
 (a24:Dk K "bears_oddly" lq f24 d24)
 (a25:Dk K "is_side" tw f25 d25)
 (a26:Dk K "cut_of" rP f26 d26)
 (a27:Dk K "side_of" pH f27 d27)
 (a28:Dk K "steps_by_point" fF f28 d28)
 (U:RP K "least_ways" ig f29 d29 qj eV)
 (a30:Dk K "length_of_way" jn f30 d30)
 (a31:Dk K "worths_of_ways" fG f31 d31)
 (a32:Dk K "all_least_ways" fH f32 d32)
 (a33:Dk K "worths_of_all" gp f33 d33)
 (a34:Dk K "worths_for" mY f34 d34)
 (a35:Dk K "least_odd" kX f35 d35)
 (a36:Dk K "near_enough" ly f36 d36)
 (a37:Dk K "tie_stands" m3 f37 d37)
 (a38:Dk K "worths_stand" ko f38 d38)
 (a39:Dk K "none_shorter" fg f39 d39)
 (a40:Dk K "ring_stands" lA f40 d40)
 (a41:Dk K "reduced" tF f41 d41)
 (a42:Dk K "with_row" qA f42 d42)
 (a43:Dk K "rows_of" tG f43 d43)
 (a44:Dk K "is_base" pJ f44 d44)
 (a45:Dk K "marks_for" kY f45 d45)
 (a46:Dk K "least_rings" gj f46 d46)
 (a47:Dk K "least_base" jM f47 d47)
 (a48:Dk K "lengths" pL f48 d48)
 (a49:Dk K "marks_fit" jg f49 d49)
 (a50:Dk K "base_judged" eR f50 d50)
 (a51:Dk K "_law_cell" qB f51 d51)
 (a52:Dk K "_law_turn" qC f52 d52)
 (a53:Dk K "_law_whole" om f53 d53)
 (a54:Dk K "_law_near" qD f54 d54)
 (a55:Dk K "_law_deeds" oq f55 d55)
 (a56:Dk K "_law_do" xM f56 d56)
 (a57:Dk K "_law_now_good" fj f57 d57)
 (Zg:Dk K "law" Mc f58 d58)
 (BL:Ng K "ValueError")
 (VY:Ng K "abs")
 (VZ:Ng K "all")
 (Sl:Ng K "bool")
 (D6:Ng K "enumerate")
 (V0:Ng K "int")
 (BN:Ng K "isinstance")
 (V1:Ng K "len")
 (Sm:Ng K "list")
 (V2:Ng K "max")
 (V3:Ng K "min")
 (O8:Ng K "range")
 (MZ:Ng K "sorted")
 (V4:Ng K "sum")
 (O9:Ng K "tuple")
 (V5:Ng K "zip")
 (zc:nsIn K mainGlobals "MOST_POINTS"=some (some (.int 10 zb)))
 (D7:nsIn K mainGlobals "MOST_TIES"=some (some (.int 24 D0)))
 (JK:nsIn K mainGlobals "LONGEST"=some (some (.int 1000000000000000000000000000000 JJ)))
 : ∃(fd:FuncData) (tb:uU),((tb.map (·.1)).Nodup/\noTabs K=true/\∀p∈tb,p.1∈ts/\∃c,codeHdIn K c p.1=true)/\(∀(s:Shared) (v:Value),BindsTo s fd ⟨[v],[]⟩ [("script",v)])/\∀base:Heap,K.In base->base.Ns mainGlobals mg->gY l.prog w K mg base vQ 14 fa fd ["script"] (BK K tb):=by
 have e:=hfa.symm.trans (mg_of X G Zg.n);cases e;have T:∀base,Txt l.prog w base K mg ⟨f0,_,f1,_,f2,_,f3,_,f4,_,f5,_,f6,_,f7,_,f8,_,f9,_,f10,_,f11,_,f12,_,f13,_,f14,_,f15,_,f16,_,f17,_,f18,_,f19,_,f20,_,f21,_,f22,_,f23,_,f24,_,f25,_,f26,_,f27,_,f28,_,f29,_,f30,_,f31,_,f32,_,f33,_,f34,_,f35,_,f36,_,f37,_,f38,_,f39,_,f40,_,f41,_,f42,_,f43,_,f44,_,f45,_,f46,_,f47,_,f48,_,f49,_,f50,_,f51,_,f52,_,f53,_,f54,_,f55,_,f56,_,f57,_,fa,_,W5,_,W6,_,W9,_,Xa,_,Xb,_,f64,_,Xc,_,Xd,_,Xe,_,DY,yj,yk,uw,yl,DZ,bf,sj,fN,qj,eV⟩:=λ_=>⟨pU X G a0,pU X G a1,pU X G a2,C5 X G a3,pU X G a4,C5 X G a5,pU X G a6,pU X G a7,pU X G a8,pU X G a9,pU X G Yy,SN X G Yz,pU X G YA,C5 X G a13,pU X G a14,C5 X G a15,C5 X G a16,C5 X G a17,SN X G a18,pU X G a19,pU X G a20,pU X G a21,dl2 X G O,pU X G a23,pU X G a24,pU X G a25,pU X G a26,pU X G a27,pU X G a28,dl3 X G U,C5 X G a30,C5 X G a31,pU X G a32,C5 X G a33,pU X G a34,pU X G a35,SN X G a36,SN X G a37,SN X G a38,pU X G a39,dn4 X G a40,pU X G a41,pU X G a42,C5 X G a43,pU X G a44,pU X G a45,C5 X G a46,C5 X G a47,C5 X G a48,SN X G a49,pU X G a50,pU X G a51,C5 X G a52,C5 X G a53,pU X G a54,pU X G a55,pU X G a56,C5 X G a57,C5 X G Zg,a59,⟨mk_Standing,ma59,mj59,kc_Standing⟩,a59.binds (λ_ _ _ _ _ _ us I=>by obtain⟨_,_,rfl⟩:=Q6 us I;rfl),a60,⟨ma60,mj60,a60.kp⟩,a60.binds (λ_ _ _ _ _ _ us I=>by obtain⟨_,_,_,_,rfl⟩:=UA us I;rfl),a61,⟨ma61,mj61,a61.kp⟩,a61.binds (λ_ _ _ _ _ _ us I=>by obtain⟨_,_,rfl⟩:=Q6 us I;rfl),a62,⟨ma62,mj62,a62.kp⟩,a62.binds (λ_ _ _ _ _ _ us I=>by obtain⟨_,rfl⟩:=ED us I;rfl),a63,⟨ma63,mj63,a63.kp⟩,a63.binds (λ_ _ _ _ _ _ us I=>by obtain⟨_,rfl⟩:=ED us I;rfl),a64,⟨ma64,mj64,a64.kp⟩,a64.binds (λ_ _ _ _ _ _ us I=>by obtain⟨_,rfl⟩:=ED us I;rfl),a65,⟨ma65,mj65,a65.kp⟩,a65.binds (λ_ _ _ _ _ _ us I=>by obtain⟨_,rfl⟩:=ED us I;rfl),a66,⟨ma66,mj66,a66.kp⟩,a66.binds (λ_ _ _ _ _ _ us I=>by obtain⟨_,rfl⟩:=ED us I;rfl),a67,⟨ma67,mj67,a67.kp⟩,a67.binds (λ_ _ _ _ _ _ us I=>by obtain⟨_,rfl⟩:=ED us I;rfl),abn X G BL.n,abn X G VY.n,abn X G VZ.n,abn X G Sl.n,abn X G D6.n,abn X G V0.n,abn X G BN.n,abn X G V1.n,abn X G Sm.n,abn X G V2.n,abn X G V3.n,abn X G O8.n,abn X G MZ.n,abn X G V4.n,abn X G O9.n,abn X G V5.n,⟨_,mg_of X G zc⟩,⟨_,mg_of X G D7⟩,⟨_,mg_of X G JK⟩,mg_of X G d_BadWeb,mg_of X G d_BadSet,mg_of X G d_BadPoint,mg_of X G d_NoChord,mg_of X G d_NoBase,mg_of X G d_NoDeed,mg_of X G d_Standing,⟨pg_Standing,hd_Standing,po_Standing,sa_Standing⟩,na_points,na_standing_ties,na_next_name,na_done,λh1 Y Z=>EC Y Z d_BadSet xc_BadSet,λh1 Y Z=>EC Y Z d_NoChord xc_NoChord,λh1 Y Z=>EC Y Z d_NoBase xc_NoBase⟩
 exact⟨_,[(fN,kI "by_length",cu),(eV,kI "least_ways",bA)],⟨pn,nt,λp hp=>⟨pi _ (abr (f:=(·.1)) hp),by simp only[aao,ab3,or_false]at hp;rcases hp with rfl | rfl;all_goals first | exact⟨_,O.F.hd⟩ | exact⟨_,U.F.hd⟩⟩⟩,RQ Zg,λbase _ _=>VW (T base)⟩
end
def walk{l:PySem.W.OpenLaw}{q:Program}{loose:List Str}{XP:(Str->Option Value)->Heap->Prop}{YP:World->Heap->Prop}{d:DefRec}{K:Params->bE}{ts:List Addr}(hn:l.most=some 63)(Ub:d.params.defaults=[])
 (hY:∀(w:World) (h:Heap),YP w h->(K w.params).In h/\∀P∈ts,h.get? P=some (PySem.W.tabObj #[]))
 (F:∀(w:World) (mg:nE) (fa:Addr) (h:Heap),(K w.params).In h->h.Ns mainGlobals mg->mg d.name=some (.ref fa)->
  ∃(fd:FuncData) (tb:uU),((tb.map (·.1)).Nodup/\PySem.W.noTabs (K w.params)=true/\∀p∈tb,p.1∈ts/\∃c,PySem.W.codeHdIn (K w.params) c p.1=true)/\(∀(s:Shared) (u:Value),BindsTo s fd ⟨[u],[]⟩ [("script",u)])/\∀base:Heap,(K w.params).In base->base.Ns mainGlobals mg->gY l.prog w (K w.params) mg base vQ 14 fa fd ["script"] (BK (K w.params) tb)) :
 PySem.W.WalkO q loose XP YP l.row.toRowW d [] (λf vs=>PySem.call f vs) :=
 L2.LZ (n:=63) (k:=14) (x:="script") (CX:=λ_=>vQ) (sp:=λw=>BK (K w.params)) hn (by decide) Ub ⟨rfl,by decide,by decide⟩ hY F (λ_ _ a ns tb I O U=>⟨a,ns,rfl,U,I,O,λ_=>rfl⟩) λ_ _ _ _ _ z=>z
end K55
namespace PySem.W.Fast
def tw12392348208622274911:=()
def tw11580264527723858729:=()
def tw1093505676334269205:=()
def tw11100195978290029356:=()
def tw15245232051783492740:=()
def tw12642502056559415331:=()
def tw7571537343820914613:=()
def tw5587183316909893202:=()
def tw4100808012432766821:=()
def tw1880803596313148674:=()
def tw10921028414033634928:=()
def tw12874240999048926816:=()
def tw6394062096416961856:=()
def tw5917117726266418308:=()
def tw5489014076481356068:=()
def tw12184162963289901550:=()
def tw15067656187229500189:=()
def tw18434423858024058650:=()
def tw691649295815028873:=()
def tw17405426367422788502:=()
def tw8290128398271545826:=()
def tw4612674004813483111:=()
def tw4670725579636210714:=()
def tw16205775938513974703:=()
def tw748847048834897005:=()
def tw4828335211126440361:=()
def tw9787728978282761069:=()
def tw10870887111501339373:=()
def tw4801679730696193250:=()
def tw6758182811430745538:=()
def tw12154853479769570285:=()
def tw7087001541847777155:=()
def tw5256073486385476655:=()
def tw1581614086831473057:=()
def tw7219592943582907031:=()
def tw9049357059213664996:=()
def tw2672908746519692374:=()
def tw16461754866963311525:=()
def tw9789101480062901096:=()
def tw1882494796722260377:=()
def tw1079270088515545897:=()
def tw100809832717344000:=()
def tw2974065246537702747:=()
def tw5954751466776110641:=()
def tw12197152470736797167:=()
def tw6709228891513437490:=()
def tw5770231216486593911:=()
def tw12775206120609380443:=()
def tw4192426394156977157:=()
def tw5492952095131242390:=()
def tw15389581502805283932:=()
def tw10980441469651738479:=()
def tw12508859087752927046:=()
def tw9614391360368946083:=()
def tw1259877167843481744:=()
def tw10515818358470517759:=()
def tw7172460249127361256:=()
def tw15798349551883143386:=()
def tw981625674579833923:=()
def tw12715175870374921935:=()
def tw11582166722414359084:=()
def tw12114256085856876943:=()
def tw16599785639892292291:=()
def tw9035251345424806172:=()
def tw2462910715802686258:=()
def tw11746561669275986565:=()
def tw18437298152093346406:=()
def tw18065419180647706667:=()
def tw7887794689675930715:=()
def tw16392241060405556854:=()
def tw1926214118332681640:=()
def tw7599695139839715386:=()
def tw17123476235919521467:=()
def tw12918414007186563414:=()
def tw16281356300332212709:=()
def tw799284403543410254:=()
def tw8744794859313277731:=()
def tw6420596436514652523:=()
def tw6955523499587377578:=()
def tw16153662277613708180:=()
def tw14264154364135366283:=()
def tw4190269931335868275:=()
def tw13097480227589046881:=()
def tw11947419981933238921:=()
def tw4504787772778684492:=()
def tw7507121498559719052:=()
def tw13528971980784613878:=()
def tw9277754897568277463:=()
def tw17164261255337723148:=()
def tw15835158916190802358:=()
def tw12044781240327813953:=()
def tw715364480022786573:=()
def tw15542323762385937344:=()
def tw14742907588958117888:=()
def tw1417885634538212388:=()
def tw12120267033417241020:=()
def tw4745075803465349881:=()
def tw17635636661120293924:=()
def tw8951431072320939250:=()
def tw12784839114237250498:=()
def tw15856116479136021375:=()
def tw5826235927118553355:=()
def tw195321549162642236:=()
def tw13315823152311169146:=()
def tw1606606589893838117:=()
def tw7286262207069827000:=()
def tw16624063112509118738:=()
def tw8749356105296760729:=()
def tw17804436552605739514:=()
def tw6508196186387686426:=()
def tw2393462819726477188:=()
end PySem.W.Fast
open PySem PySem.W PyProof.Rows
set_option maxRecDepth 100000 in
set_option maxHeartbeats 0 in
theorem PySem.Challenge.cw_ringbase_k55_bases_of_now_holds : PySem.Challenge.rw_ringbase_k55_bases_of_now.Holds := by
 w_on;o_law;k_head;(case hw=>w_witness2)
 k_fill
 refine K55.walk (l:=PySem.Challenge.rw_ringbase_k55_bases_of_now) rfl rfl (fun w h Y=>⟨PySem.W.km_in_of Y,PySem.W.km_tabs_of Y⟩) ?F
 case F =>
  intro w mg fa h KX G hmg;refine' K55.all_mk KX G hmg ?te ?d_BadWeb ?d_BadSet ?d_BadPoint ?d_NoChord ?d_NoBase ?d_NoDeed ?d_Standing ?pg_Standing ?hd_Standing ?po_Standing ?sa_Standing ?mk_Standing ?kc_Standing ?na_points ?na_standing_ties ?na_next_name ?na_done ?xc_BadSet ?xc_NoChord ?xc_NoBase ?ma59 ?mj59 ?a59 ?ma60 ?mj60 ?a60 ?ma61 ?mj61 ?a61 ?ma62 ?mj62 ?a62 ?ma63 ?mj63 ?a63 ?ma64 ?mj64 ?a64 ?ma65 ?mj65 ?a65 ?ma66 ?mj66 ?a66 ?ma67 ?mj67 ?a67 ?nt ?pn ?pi ..
  (case te=>exact rfl)
  (case d_BadWeb=>k_is)
  (case d_BadSet=>k_is)
  (case d_BadPoint=>k_is)
  (case d_NoChord=>k_is)
  (case d_NoBase=>k_is)
  (case d_NoDeed=>k_is)
  (case d_Standing=>k_is)
  (case ma59=>k_is)
  (case mj59=>k_is)
  (case ma60=>k_is)
  (case mj60=>k_is)
  (case ma61=>k_is)
  (case mj61=>k_is)
  (case ma62=>k_is)
  (case mj62=>k_is)
  (case ma63=>k_is)
  (case mj63=>k_is)
  (case ma64=>k_is)
  (case mj64=>k_is)
  (case ma65=>k_is)
  (case mj65=>k_is)
  (case ma66=>k_is)
  (case mj66=>k_is)
  (case ma67=>k_is)
  (case mj67=>k_is)
  (case a59=>refine' L2.k6 ?gl ?gc ?gk;(case gl=>k_is);(case gc=>k_is);(case gk=>k_is))
  (case a60=>refine' L2.k6 ?gl ?gc ?gk;(case gl=>k_is);(case gc=>k_is);(case gk=>k_is))
  (case a61=>refine' L2.k6 ?gl ?gc ?gk;(case gl=>k_is);(case gc=>k_is);(case gk=>k_is))
  (case a62=>refine' L2.k6 ?gl ?gc ?gk;(case gl=>k_is);(case gc=>k_is);(case gk=>k_is))
  (case a63=>refine' L2.k6 ?gl ?gc ?gk;(case gl=>k_is);(case gc=>k_is);(case gk=>k_is))
  (case a64=>refine' L2.k6 ?gl ?gc ?gk;(case gl=>k_is);(case gc=>k_is);(case gk=>k_is))
  (case a65=>refine' L2.k6 ?gl ?gc ?gk;(case gl=>k_is);(case gc=>k_is);(case gk=>k_is))
  (case a66=>refine' L2.k6 ?gl ?gc ?gk;(case gl=>k_is);(case gc=>k_is);(case gk=>k_is))
  (case a67=>refine' L2.k6 ?gl ?gc ?gk;(case gl=>k_is);(case gc=>k_is);(case gk=>k_is))
  any_goals (refine' L2.dk ?ga ?gl ?gc ?gk;(case ga=>k_is);(case gl=>k_is);(case gc=>k_is);(case gk=>k_is))
  any_goals (refine' L2.dkL ?ga ?gl ?gc ?gk ?gd;(case ga=>k_is);(case gl=>k_is);(case gd=>kernel_rfl);(case gc=>k_is);(case gk=>k_is))
  any_goals (refine' L2.Ng.mk ?ga;(case ga=>k_is))
  (case pg_Standing=>k_is)
  (case hd_Standing=>k_is)
  (case po_Standing=>k_is)
  (case sa_Standing=>k_is)
  (case mk_Standing=>k_is)
  (case kc_Standing=>k_is)
  (case na_points=>k_is)
  (case na_standing_ties=>k_is)
  (case na_next_name=>k_is)
  (case na_done=>k_is)
  (case xc_BadSet=>k_exc)
  (case xc_NoChord=>k_exc)
  (case xc_NoBase=>k_exc)
  (case nt=>kernel_rfl)
  (case pn=>decide)
  (case pi=>decide)
  any_goals k_is
