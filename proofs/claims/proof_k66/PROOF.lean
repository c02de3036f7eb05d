import PyProof.Rows.All
import Wide.All
import OpenK.AllK
import Wide.FinOn
import Lean
import PyProof.EqAt
import PyProof.EqKinds
import PyProof.TupleCall
import PySem.Challenge.RW_ringbase_k66_whole_webs_put_together
set_option Elab.async false
set_option linter.all false
set_option maxRecDepth 100000
abbrev cF:=@decide_eq_true
abbrev eI:=@decide_eq_false
abbrev jB:=@of_decide_eq_true
abbrev iB:=@List.mem_append_right
abbrev nR:=@List.mem_cons_of_mem
abbrev iq:=@List.mem_of_getElem?
abbrev jf:=@List.getElem?_eq_some_iff
abbrev wM:=@Option.map_eq_some_iff
abbrev aV:=List (PySem.Addr×PySem.Obj)
abbrev di:=PySem.Value->PySem.Shared->Prop
abbrev oE:=PySem.Str->Option PySem.Value
abbrev bM:=PySem.W.Frag
abbrev aaa:=@List.getD_eq_getElem?_getD
abbrev aab:=@if_neg
abbrev aac:=@List.length_map
abbrev aad:=@if_pos
abbrev aae:=@Nat.le_refl
abbrev aaf:=@List.getElem?_eq_getElem
abbrev aag:=@PySem.wpAny_pure
abbrev aah:=@List.length_append
abbrev aai:=@PySem.Heap.get?_push_of_some
abbrev aaj:=@Nat.lt_of_lt_of_le
abbrev aal:=@Bool.false_ne_true
abbrev aam:=@Nat.testBit_xor
abbrev aan:=@List.getElem?_map
abbrev aap:=@Classical.byContradiction
abbrev aaq:=@PySem.Heap.lt_size
abbrev aar:=@List.mem_cons_self
abbrev aas:=@List.mem_cons
abbrev aat:=@List.map_append
abbrev aau:=@Int.toNat_natCast
abbrev aav:=@List.size_toArray
abbrev aaw:=@Nat.testBit_two_pow
abbrev aax:=@List.mem_range
abbrev aay:=@List.length_range
abbrev aaA:=@List.mem_singleton
abbrev aaB:=@PySem.Heap.get?_push_size
abbrev aaC:=@List.mem_filter
abbrev aaD:=@Nat.le_trans
abbrev aaE:=@List.getElem?_append_left
abbrev aaG:=@List.length_filter_le
abbrev aaH:=@List.mem_map
abbrev aaI:=@Bool.and_eq_true
abbrev aaJ:=@List.filter_cons
abbrev aaK:=@Nat.ne_of_lt
abbrev aaL:=@List.mem_append
abbrev aaM:=@Nat.pow_le_pow_right
abbrev aaN:=@Nat.zero_le
abbrev aaO:=@List.getElem?_append_right
abbrev aaP:=@PySem.wpAny_mono
abbrev aaR:=@Nat.testBit_lt_two_pow
abbrev aaS:=@Nat.eq_of_testBit_eq
abbrev aaT:=@List.map_cons
abbrev aaU:=@List.length_singleton
abbrev aaW:=@Nat.le_of_lt
abbrev aaX:=@PySem.wpAny_holding
abbrev aaY:=@PySem.F.plain_min_loop
abbrev aaZ:=@List.take_add_one
abbrev aa0:=@Nat.two_pow_pos
abbrev aa1:=@PySem.Heap.SameBut.update
abbrev aa2:=@Ne.symm
abbrev aa3:=@List.getElem?_of_mem
abbrev aa5:=@List.take_length
abbrev aa6:=@List.nodup_cons
abbrev aa7:=@Bool.true_and
abbrev aa8:=@List.length_take
abbrev aa9:=@decide_eq_decide
abbrev aba:=@PySem.F.plainAttrs_list
abbrev abb:=@Nat.xor_lt_two_pow
abbrev abc:=@List.length_cons
abbrev abd:=@PySem.F.slot_list_append
abbrev abe:=@PySem.F.type_list_append
abbrev abf:=@congrArg
abbrev abg:=@Nat.zero_testBit
abbrev abh:=@Nat.xor_assoc
abbrev abi:=@Nat.ble_eq
abbrev abj:=@Nat.zero_xor
abbrev abk:=@PySem.mem_of_lookup
abbrev abl:=@Int.zero_add
abbrev abm:=@Nat.lt_of_le_of_lt
abbrev abn:=@Nat.not_lt_zero
abbrev abo:=@List.lookup_cons
abbrev abp:=@PyProof.Rows.callWith_type1
abbrev abq:=@Nat.add_sub_cancel_left
abbrev abr:=@Nat.lt_irrefl
abbrev abt:=@Bool.eq_iff_iff
abbrev abu:=@List.filter_append
abbrev abv:=@Bool.false_eq_true
abbrev abw:=@Nat.shiftRight_eq_div_pow
abbrev abx:=@Nat.exists_testBit_of_ne_zero
abbrev aby:=@Bool.xor_false
abbrev abz:=@Int.zero_mul
abbrev abA:=@Nat.le_succ
abbrev abB:=@List.range_succ
abbrev abC:=@List.getElem_mem
abbrev abD:=@Nat.xor_self
abbrev abE:=@Nat.xor_zero
abbrev abF:=@Int.mul_zero
abbrev abG:=@PyProof.Rows.slot_tuple_getitem
abbrev abH:=@PySem.Heap.get?_update_other
abbrev abI:=@Nat.lt_succ_of_lt
abbrev abJ:=@List.length_replicate
abbrev abK:=@List.getElem_inj
abbrev abL:=@Int.le_refl
abbrev abM:=@List.Pairwise.filter
abbrev abN:=@PySem.wpAny_tryCatch
abbrev abO:=@PySem.W.mg_none_of
abbrev abP:=@List.append_nil
abbrev abQ:=@List.replicate_succ
abbrev abR:=@List.map_congr_left
abbrev abS:=@Nat.ne_of_gt
abbrev abT:=@Nat.pow_succ
abbrev abU:=@Int.one_mul
abbrev abV:=@PySem.F.entry_min_loop
abbrev abW:=@Array.getElem?_eq_some_iff
abbrev abX:=@PySem.Heap.get?_update_self
abbrev abY:=@Nat.testBit_shiftLeft
abbrev abZ:=@List.Pairwise.imp_of_mem
abbrev ab0:=@Nat.pow_lt_pow_right
abbrev ab1:=@List.sum_cons
abbrev ab2:=@Int.eq_ofNat_of_zero_le
abbrev ab3:=@PyProof.Rows.boot_tuple
abbrev ab4:=@Array.length_toList
abbrev ab5:=@Nat.le_add_right
abbrev ab6:=@List.nodup_range
abbrev ab7:=@List.not_mem_nil
abbrev ab8:=@Nat.testBit_shiftRight
abbrev ab9:=@Option.map_some
abbrev acd:=@Nat.min_eq_left
abbrev ace:=@Int.mul_ne_zero
abbrev acf:=@Nat.mod_two_eq_zero_or_one
abbrev acg:=@PySem.F.slot_dict_keyiterator_next
abbrev ach:=@Bool.false_and
abbrev aci:=@Bool.and_false
abbrev acj:=@Nat.lt_succ_self
abbrev ack:=@Nat.zero_add
abbrev acm:=@Nat.testBit_succ
abbrev acn:=@List.getElem_map
abbrev aco:=@Nat.shiftLeft_shiftRight
abbrev acp:=@Nat.shiftLeft_eq
abbrev acq:=@List.mem_map_of_mem
abbrev acr:=@Int.toNat_of_nonneg
abbrev acs:=@List.getElem?_replicate
abbrev acu:=@List.mem_filterMap
abbrev acv:=@List.length_nil
abbrev acw:=@List.length_set
abbrev acy:=@List.foldl_cons
abbrev acz:=@PySem.Obj.data_mapFields
abbrev acA:=@List.find?_cons
abbrev acB:=@Nat.zero_shiftLeft
abbrev acC:=@List.getElem?_set_self
abbrev acD:=@Nat.le_mul_of_pos_left
abbrev acE:=@PyProof.Rows.boot_list
abbrev acF:=@List.flatten_cons
abbrev acG:=@List.foldl_append
abbrev acH:=@List.filter_congr
abbrev acI:=@List.nodup_append
abbrev acJ:=@List.pairwise_map
abbrev acK:=@PySem.Obj.isFreed_of_fields
abbrev acL:=@List.map_map
abbrev acM:=@Int.le_of_lt
abbrev acN:=@Bool.false_xor
abbrev acO:=@List.mem_append_left
abbrev acP:=@List.getElem?_set_ne
abbrev acQ:=@List.length_drop
abbrev acR:=@Nat.max_eq_right
abbrev acS:=@Nat.min_eq_right
abbrev acT:=@Bool.and_true
abbrev acU:=@List.perm_ext_iff_of_nodup
abbrev acV:=@PySem.F.excBase_ValueError
abbrev acW:=@List.getElem?_range
abbrev acX:=@Nat.max_eq_left
abbrev acY:=@Nat.le_total
abbrev acZ:=@Nat.lt_trans
abbrev ac0:=@Int.mul_ediv_cancel_left
abbrev ac1:=@Nat.testBit_two_pow_self
abbrev ac2:=@List.map_singleton
abbrev ac3:=@PyProof.Rows.boot_sorted
abbrev ac4:=@List.nodup_nil
abbrev ac5:=@Nat.exists_eq_add_of_le
abbrev ac6:=@List.eraseIdx_cons_succ
abbrev ac7:=@Classical.axiomOfChoice
abbrev ac8:=@List.take_of_length_le
abbrev ac9:=@PyProof.Rows.bitAnd_pp
abbrev ada:=@List.filter_eq_nil_iff
abbrev adb:=@Nat.pow_add
abbrev ade:=@List.any_cons
abbrev adf:=@Nat.le_of_not_lt
abbrev adg:=@Nat.succ_ne_self
abbrev adh:=@List.ext_getElem
abbrev adi:=@List.lookup_cons_self
abbrev adj:=@PySem.F.slot_dict_get
abbrev adk:=@Classical.choose_spec
abbrev adl:=@PyProof.Rows.boot_max
abbrev adm:=@PyProof.Rows.boot_int
abbrev adn:=@Array.getElem?_setIfInBounds_ne
abbrev ado:=@List.sum_append
abbrev adp:=@List.mem_of_mem_drop
abbrev adq:=@Nat.sub_self
abbrev ads:=@Bool.and_eq_true_iff
abbrev adt:=@Nat.div_lt_of_lt_mul
abbrev adu:=@List.take_append_of_le_length
abbrev adv:=@List.eq_nil_of_length_eq_zero
abbrev adw:=@List.filterMap_cons
abbrev adx:=@PySem.Heap.size_push
abbrev ady:=@List.drop_zero
abbrev adz:=@Int.mul_one
abbrev adA:=@Nat.and_lt_two_pow
abbrev adB:=@List.getElem?_take
abbrev adC:=@List.Pairwise.map
abbrev adD:=@Nat.add_comm
abbrev adE:=@Nat.mul_comm
abbrev adF:=@List.all_eq_true
abbrev adG:=@List.any_eq_true
abbrev adH:=@Nat.lt_or_ge
abbrev adI:=@Nat.xor_comm
abbrev adJ:=@Nat.testBit_zero
abbrev adK:=@Int.mul_comm
abbrev adL:=@Nat.div_eq_of_lt
abbrev adM:=@Int.add_zero
namespace L2
open PySem PySem.Spec PyProof.Rows
abbrev aS:=@wpAny_bind
abbrev Key:=Sum Int Str
def wN:Key->Value->Bool
 | .inl k,v=>Value.isInt k v
 | .inr x,v=>Value.isStrOf x v
def Uy(w:World):Key->Int
 | .inl k=>hashInt k
 | .inr x=>hashStr w x
def cI:∀{k:Key} {v:Value},wN k v=true->(∃i t,k=Sum.inl i/\v=Value.int i t)\/(∃x t,k=Sum.inr x/\v=Value.str x t)
 | .inl i,v,h=>by
   obtain⟨t,e⟩:=Value.isInt_shape (k:=i) (v:=v) h;exact .inl ⟨i,t,rfl,e⟩
 | .inr x,v,h=>by
   obtain⟨t,e⟩:=Value.isStrOf_shape (x:=x) (v:=v) h;exact .inr ⟨x,t,rfl,e⟩
def Fb(i:Int)(t:Tok):wN (.inl i) (.int i t)=true:=by simp[wN,Value.isInt]
def Fc(x:Str)(t:Tok):wN (.inr x) (.str x t)=true:=by simp[wN,Value.isStrOf]
def N2(a b:Int):decide ((Sum.inl a:Key)=Sum.inl b)=(a==b):=by
 by_cases e:a=b
 ·subst e;simp
 ·have h : ¬(Sum.inl a:Key)=Sum.inl b:=λq=>e (Sum.inl.inj q)
  rw[eI h];exact(beq_eq_false_iff_ne.mpr e).symm
def N3(a b:Str):decide ((Sum.inr a:Key)=Sum.inr b)=decide (a=b):=by
 by_cases e:a=b
 ·subst e;simp
 ·have h : ¬(Sum.inr a:Key)=Sum.inr b:=λq=>e (Sum.inr.inj q)
  rw[eI h,eI e]
def N4(a:Int)(b:Str):decide ((Sum.inl a:Key)=Sum.inr b)=false:=eI (λq=>nomatch q)
def N5(a:Str)(b:Int):decide ((Sum.inr a:Key)=Sum.inl b)=false:=eI (λq=>nomatch q)
def cX(prog:Program)(w:World):PySem.KeyKind prog w Key where
 is:=wN
 hash:=Uy w
 inj:=λv a b ha hb=>by
  rcases cI ha with⟨i,t,rfl,rfl⟩|⟨x,t,rfl,rfl⟩
  ·rcases cI hb with⟨j,u,rfl,e⟩|⟨y,u,rfl,e⟩
   ·injection e with e1 _;rw[e1]
   ·exact nomatch e
  ·rcases cI hb with⟨j,u,rfl,e⟩|⟨y,u,rfl,e⟩
   ·exact nomatch e
   ·injection e with e1 _;rw[e1]
 byValue:=λk v h=>by
  rcases cI h with⟨i,t,rfl,rfl⟩|⟨x,t,rfl,rfl⟩<;>rfl
 pyHash:=λhv h=>by
  rcases cI hv with⟨i,t,rfl,rfl⟩|⟨x,t,rfl,rfl⟩
  ·exact wpAny_pyHash_int h
  ·exact wpAny_pyHash_str h
 eqBool:=λhu hv h=>by
  rcases cI hu with⟨i,t,rfl,rfl⟩|⟨x,t,rfl,rfl⟩
  ·rcases cI hv with⟨j,u,rfl,rfl⟩|⟨y,u,rfl,rfl⟩
   ·rw[N2]at h;exact wpAny_eqBool_int h
   ·rw[N4]at h;exact SeqAt.EqAt.int_str i t y u _ _ _ _ h
  ·rcases cI hv with⟨j,u,rfl,rfl⟩|⟨y,u,rfl,rfl⟩
   ·rw[N5]at h;exact SeqAt.EqAt.str_int x t j u _ _ _ _ h
   ·rw[N3]at h;exact wpAny_eqBool_str h
 «strs»:=λk x t v h=>by
  rcases cI h with⟨i,u,rfl,e⟩|⟨y,u,rfl,e⟩
  ·exact nomatch e
  ·injection e with e1 _
   subst e1;cases v<;>rfl
def zR(prog:Program)(w:World)(i:Int)(t:Tok):(cX prog w).is (.inl i) (.int i t)=true:=Fb i t
def zS(prog:Program)(w:World)(x:Str)(t:Tok):(cX prog w).is (.inr x) (.str x t)=true:=Fc x t
inductive V where
 | dS | bl (b:Bool) | int (i:Int) | str (x:Str) | Hv (b:Array UInt8) | Uz (b:UInt64) | ref (a:Addr) | ty (n:String)
 deriving DecidableEq
def RelV:V->Value->Prop
 | .dS,u=>u=Value.none
 | .bl b,u=>u=Value.bool b
 | .int i,u=>∃t,u=Value.int i t
 | .str x,u=>∃t,u=Value.str x t
 | .Hv b,u=>∃t,u=Value.bytes b t
 | .Uz b,u=>∃t,u=Value.float b t
 | .ref a,u=>u=Value.ref a
 | .ty n,u=>u=Value.type n
abbrev Vals:List V->List Value->Prop:=Paired RelV
def Vals.length{xs:List V}{us:List Value}(r:Vals xs us):xs.length=us.length:=Paired.length r
def Vals.get:∀{xs:List V} {us:List Value} {i:Nat} {x:V},Vals xs us->xs[i]?=some x->∃u,us[i]?=some u/\RelV x u
 | _,_,_,_,.nil,e=>by simp at e
 | _,_,0,_,.cons r _,e=>by simp at e;subst e;exact⟨_,rfl,r⟩
 | _,_,i+1,x,.cons _ t,e=>by
   obtain⟨u,h1,h2⟩:=Vals.get (i:=i) (x:=x) t (by simpa using e)
   exact⟨u,by simpa using h1,h2⟩
def Vals.set{x:V}{u:Value}(r:RelV x u):∀{xs:List V} {us:List Value} (i:Nat),Vals xs us->Vals (xs.set i x) (us.set i u)
 | _,_,_,.nil=>.nil
 | _,_,0,.cons _ t=>.cons r t
 | _,_,i+1,.cons q t=>.cons q (Vals.set r i t)
def Vals.append:∀{xs ys:List V} {us ws:List Value},Vals xs us->Vals ys ws->Vals (xs++ys) (us++ws)
 | _,_,_,_,.nil,s=>s
 | _,_,_,_,.cons r t,s=>.cons r (Vals.append t s)
def Vals.take:∀{xs:List V} {us:List Value} (n:Nat),Vals xs us->Vals (xs.take n) (us.take n)
 | _,_,0,_=>.nil
 | _,_,_+1,.nil=>.nil
 | _,_,n+1,.cons r t=>.cons r (Vals.take n t)
def Vals.drop:∀{xs:List V} {us:List Value} (n:Nat),Vals xs us->Vals (xs.drop n) (us.drop n)
 | _,_,0,r=>r
 | _,_,_+1,.nil=>.nil
 | _,_,n+1,.cons _ t=>Vals.drop n t
def pW:Option V->Option Value->Prop
 | some v,some u=>RelV v u
 | none,none=>True
 | _,_=>False
def KV{κ:Type}:List (κ×V)->List (κ×Value)->Prop:=Paired λ(p:κ×V) (q:κ×Value)=>p.1=q.1/\RelV p.2 q.2
def kV:Key->V
 | .inl i=>.int i
 | .inr x=>.str x
inductive HO where
 | lst (xs:List V)
 | tup (xs:List V)
 | dK (kvs:List (Key×V)) | dT (kvs:List (List Key×V))
 | set (S:Int->Bool) (n:Nat)
 | ins (C dx:Addr) (fs:List (Str×V))
 | own (x:Addr)
 | xd (fs:List (Str×V))
 | met (f x:Addr)
 | Fd (lo hi:Int)
 | lQ (o:Obj) (u:HO)
 | jC (ps:Array Value)
 | ext (φ:Heap->Prop)
abbrev Hp:=Addr->Option HO
def upd(H:Hp)(a:Addr)(o:HO):Hp:=λb=>if b=a then some o else H b
def ae{H:Hp}{a:Addr}{o:HO}:upd H a o a=some o:=by unfold upd;rw[aad rfl]
def ak{H:Hp}{a b:Addr}{o:HO}(h:b≠a):upd H a o b=H b:=by unfold upd;rw[aab h]
def aU{H:Hp}{a b:Addr}{o u:HO}(h:H a=some o)(h' : H b=some u)(d:o≠u):a≠b:=by
 intro e;subst e;rw[h]at h';exact d (Option.some.inj h')
def bj{H:Hp}{a b:Addr}{o:HO}(h:H a=some o)(h' : H b=none):a≠b:=by
 intro e;subst e;rw[h]at h';cases h'
def La(qs:Array Value):Str:=match (qs[0]?:Option Value) with | some (Value.str q _)=>q | _=>""
section
variable (P:Program)(w:World)
def bI(H:Hp)(h:Heap)(a:Addr):HO->Prop
 | .lst xs=>xs.length<=sizeLine/\∃(its:List Value) (n:Nat),Vals xs its/\h.get? a=some { cls:=.type "list",data:=.seq its.toArray n}
 | .tup xs=>xs.length<=sizeLine/\∃its:List Value,Vals xs its/\IsTup h a its.toArray
 | .dK kvs=>kvs.length<=sizeLine/\(a==sysModules)=false/\∃vs,KV kvs vs/\h.DictOf (cX P w) a vs
 | .dT kvs=>kvs.length<=sizeLine/\(a==sysModules)=false/\∃xs:List (List Key×Addr×Value),
  Paired (λ(p:List Key×V) (q:List Key×Addr×Value)=>p.1=q.1/\H q.2.1=some (.tup (p.1.map kV))/\RelV p.2 q.2.2) kvs xs/\
  ∃o es ep,h.get? a=some o/\o.ExactDict/\o.data = .dict es ep/\es.toList=xs.map (entryOfKey (tupleKind (cX P w)))/\(xs.map (·.1)).Nodup
 | .set S n=>h.SetOf (intKind P w) a S n
 | .ins C dx fs=>H dx=some (.own a)/\fs.length<=1000/\dx≠a/\h.get? a=some (PySem.W.instObj C dx)/\
  ∃mA,h.Ns1 dx mA/\(∀f,pW (fs.lookup f) (mA f))/\PySem.Within mA (fs.map (·.1))
 | .own _=>∃o,h.get? a=some o
 | .xd fs=>∃mA,h.Ns1 a mA/\∀f,pW (fs.lookup f) (mA f)
 | .Fd lo hi=>∃t u v,h.get? a=some { cls:=.type "range",data:=.fields #[.int lo t,.int hi u,.int 1 v]}
 | .lQ o u=>h.get? a=some o/\bI H h a u
 | .jC qs=>∃ps:Array Value,h.get? a=some { cls:=.none,data:=.fields ps}/\((qs.size=3/\(ps = #[]\/∃c,ps = #[qs.getD 1 .none,qs.getD 2 .none,.ref c]/\H c=some (.own a)/\h.CodeRec (.ref c) (La qs)))\/∃q l k,qs = #[q,l,k]++ps/\ps.size=3)
 | .met f x=>h.get? a=some (PySem.W.methodObj (.ref f) (.ref x))
 | .ext φ=>φ h/\(∃o,h.get? a=some o)/\∀h1 h2:Heap,φ h1->(∀o,h1.get? a=some o->h2.get? a=some o)->φ h2
def mQ(H:Hp)(h:Heap):Prop:=∀a o,H a=some o->bI P w H h a o
end
section
variable {P:Program}{w:World}{H H' : Hp}{h h' : Heap}{a:Addr}{o:HO}
def bI.lt(x:bI P w H h a o):a<h.objs.size:=by
 cases o with
 | lst xs=>obtain⟨_,_,_,_,e⟩:=x;exact aaq e
 | tup xs=>obtain⟨_,_,_,p⟩:=x;exact p.lt
 | dK kvs=>obtain⟨_,_,_,_,o,_,_,e,_⟩:=x;exact aaq e
 | dT kvs=>obtain⟨_,_,_,_,o,_,_,e,_⟩:=x;exact aaq e
 | set S n=>obtain⟨o,_,_,_,e,_⟩:=x;exact aaq e
 | ins C dx fs=>obtain⟨_,_,_,e,_⟩:=x;exact aaq e
 | own y=>obtain⟨_,e⟩:=x;exact aaq e
 | xd fs=>obtain⟨_,⟨_,_,_,e,_⟩,_⟩:=x;exact aaq e
 | Fd lo hi=>obtain⟨_,_,_,e⟩:=x;exact aaq e
 | lQ ob u=>obtain⟨e,_⟩:=x;exact aaq e
 | jC ps=>obtain⟨_,e,_⟩:=x;exact aaq e
 | met f y=>exact aaq (show h.get? a=some _ from x)
 | ext φ=>obtain⟨_,⟨_,e⟩,_⟩:=x;exact aaq e
def Paired.yd{α β:Type}{F G:α->β->Prop}:∀{l₁:List α} {l₂:List β},Paired F l₁ l₂->(∀a b,F a b->G a b)->Paired G l₁ l₂
 | _,_,.nil,_=>.nil
 | _,_,.cons r t,f=>.cons (f _ _ r) (Paired.yd t f)
def Paired.imp'{α β:Type}{F G:α->β->Prop}(f:∀a b,F a b->G a b){l₁:List α}{l₂:List β}(r:Paired F l₁ l₂):Paired G l₁ l₂:=Paired.yd r f
def bI.stay(x:bI P w H h a o)(k:∀b u,(b=a\/H b=some (.own a))->h.get? b=some u->h'.get? b=some u)
 (ho:∀b,H b=some (.own a)->H' b=some (.own a)) (ht:∀b xs,H b=some (.tup xs)->H' b=some (.tup xs)):bI P w H' h' a o:=by
 induction o with
 | lst xs=>obtain⟨z,its,n,r,e⟩:=x;exact⟨z,its,n,r,k _ _ (.inl rfl) e⟩
 | tup xs=>obtain⟨z,its,r,ob,e,c⟩:=x;exact⟨z,its,r,ob,k _ _ (.inl rfl) e,c⟩
 | dK kvs=>obtain⟨z,y,vs,r,ob,es,ep,e,c⟩:=x;exact⟨z,y,vs,r,ob,es,ep,k _ _ (.inl rfl) e,c⟩
 | dT kvs =>
   obtain⟨z,y,xs,r,ob,es,ep,e,c⟩:=x;exact⟨z,y,xs,Paired.yd r λp q z=>⟨z.1,ht _ _ z.2.1,z.2.2⟩,ob,es,ep,k _ _ (.inl rfl) e,c⟩
 | set S n=>obtain⟨ob,es,ep,t,e,c⟩:=x;exact⟨ob,es,ep,t,k _ _ (.inl rfl) e,c⟩
 | ins C dx fs =>
   obtain⟨d,z,ne,e,mA,⟨od,es,ep,e2,c⟩,r⟩:=x;exact⟨ho _ d,z,ne,k _ _ (.inl rfl) e,mA,⟨od,es,ep,k _ _ (.inr d) e2,c⟩,r⟩
 | own y=>obtain⟨ob,e⟩:=x;exact⟨ob,k _ _ (.inl rfl) e⟩
 | xd fs=>obtain⟨mA,⟨od,es,ep,e,c⟩,r⟩:=x;exact⟨mA,⟨od,es,ep,k _ _ (.inl rfl) e,c⟩,r⟩
 | Fd lo hi=>obtain⟨t,u,v,e⟩:=x;exact⟨t,u,v,k _ _ (.inl rfl) e⟩
 | lQ ob u ih=>obtain⟨e,q⟩:=x;exact⟨k _ _ (.inl rfl) e,ih q⟩
 | jC qs =>
   obtain⟨ps,e,f⟩:=x;refine⟨ps,k _ _ (.inl rfl) e,?_⟩;rcases f with⟨hz,f|⟨c,e1,e2,c',oc,vs,tq,hc,ho',hd,hv⟩⟩|f
   ·exact .inl ⟨hz,.inl f⟩
   ·cases hc;exact .inl ⟨hz,.inr ⟨c,e1,ho _ e2,c,oc,vs,tq,rfl,k _ _ (.inr e2) ho',hd,hv⟩⟩
   ·exact .inr f
 | met f y =>
   have e:h.get? a=some (PySem.W.methodObj (.ref f) (.ref y)):=x;show h'.get? a=some (PySem.W.methodObj (.ref f) (.ref y));exact k a _ (.inl rfl) e
 | ext φ=>obtain⟨p,⟨o,e⟩,st⟩:=x;exact⟨st _ _ p λo q=>k _ _ (.inl rfl) q,⟨o,k _ _ (.inl rfl) e⟩,st⟩
def mQ.lt(x:mQ P w H h)(e:H a=some o):a<h.objs.size:=(x a o e).lt
def mQ.fresh(x:mQ P w H h)(e:h.objs.size<=a):H a=none:=by
 cases q:H a with
 | none=>rfl
 | some u=>exact absurd (aaj (x.lt q) e) (abr _)
def mQ.kept(x:mQ P w H h)(k:∀b u,h.get? b=some u->h'.get? b=some u):mQ P w H h':=λa o e =>
 (x a o e).stay (λb u _ q=>k b u q) (λ_ q=>q) λ_ _ q=>q
def mQ.laid(x:mQ P w H h)(k:∀b u,h.get? b=some u->h'.get? b=some u)(hp:h.objs.size<=a)(new:bI P w (upd H a o) h' a o):mQ P w (upd H a o) h':=λb u e=>by
 have hn:=x.fresh hp
 by_cases hb:b=a
 ·subst hb;rw[ae]at e;cases e;exact new
 ·rw[ak hb]at e;exact(x b u e).stay (λc v _ q=>k c v q) (λc q=>by rw[ak (bj q hn)];exact q) λc xs q=>by rw[ak (bj q hn)];exact q
end
def Rd(H:Hp)(a:Addr)(u:HO):Prop:=H a=some u\/∃o,H a=some (.lQ o u)
def Rd.ok{P:Program}{w:World}{H:Hp}{h:Heap}{a:Addr}{u:HO}(r:Rd H a u)(x:mQ P w H h):bI P w H h a u:=by
 rcases r with r|⟨o,r⟩
 ·exact x a u r
 ·obtain⟨_,q⟩:=x a _ r;exact q
def Q0:Option HO->Prop
 | some (.lst _)=>True
 | some (.dK _)=>True
 | some (.dT _)=>True
 | some (.set _ _)=>True
 | some (.ins _ _ _)=>True
 | some (.ext _)=>True
 | _=>False
section
variable {P:Program}{w:World}{H:Hp}{h h' : Heap}{x e:Addr}{o' : HO}
def mQ.write(ok:mQ P w H h)(mu:Q0 (H x))(he:e=x\/H e=some (.own x))(k:∀b u,b≠e->h.get? b=some u->h'.get? b=some u)(Qm:∃u,h'.get? e=some u)
 (new:bI P w (upd H x o') h' x o'):mQ P w (upd H x o') h':=λb u q=>by
 have Q2:∀c y,H c=some (.own y)->c≠x:=λc y r z=>by subst z;rw[r]at mu;exact mu
 have UA:∀c xs,H c=some (.tup xs)->c≠x:=λc xs r z=>by subst z;rw[r]at mu;exact mu
 by_cases hb:b=x
 ·subst hb;rw[ae]at q;cases q;exact new
 ·rw[ak hb]at q
  by_cases N6:b=e
  ·have q' : H b=some (.own x):=by
    rcases he with z|z
    ·exact absurd (N6.trans z) hb
    ·rw[N6];exact z
   rw[q]at q';cases q';obtain⟨v,hv⟩:=Qm;exact⟨v,by rw[N6];exact hv⟩
  ·refine(ok b u q).stay (λc v hc r=>k c v ?_ r) (λc r=>by rw[ak (Q2 c b r)];exact r) λc xs r=>by rw[ak (UA c xs r)];exact r
   rcases hc with rfl|hc
   ·exact N6
   ·rintro rfl;rcases he with z|z
    ·exact Q2 c b hc z
    ·rw[hc]at z;cases z;exact hb rfl
end
structure Un(fs ex:List Addr)(H H' : Hp)(h h' : Heap):Prop where
 keep:∀b o,h.get? b=some o->H b=none->b∉fs->b∉ex->h'.get? b=some o
 slot:∀b o,h.get? b=some o->H b=none->b∈fs->b∉ex->∃sl,h'.get? b=some { o with slots:=sl}
 free:∀b o,h.get? b=some o->H b=none->b∉ex->H' b=none
 there:∀b o,h.get? b=some o->b∉ex->∃o',h'.get? b=some o'
 tups:∀b xs,H b=some (.tup xs)->H' b=some (.tup xs)
 kJ:∀b o u,H b=some (.lQ o u)->H' b=some (.lQ o u)
 lR:∀b ps,H b=some (.jC ps)->∃more,H' b=some (.jC (ps++more))
section
variable {fs fs' ex ex' : List Addr}{H H1 H2:Hp}{h h1 h2 h' : Heap}{a x e:Addr}{o:HO}
def Un.any(u:Un fs ex H H1 h h1){b:Addr}{ob:Obj}(q:h.get? b=some ob)(n:H b=none)(hx:b∉ex):∃sl,h1.get? b=some { ob with slots:=sl}:=by
 by_cases hb:b∈fs
 ·exact u.slot b ob q n hb hx
 ·exact⟨ob.slots,u.keep b ob q n hb hx⟩
def Un.kept(k:∀b u,h.get? b=some u->h'.get? b=some u):Un fs ex H H h h' :=
 ⟨λb ob q _ _ _=>k b ob q,λb ob q _ _ _=>⟨ob.slots,k b ob q⟩,λ_ _ _ n _=>n,λb ob q _=>⟨ob,k b ob q⟩,λ_ _ q=>q,λ_ _ _ q=>q,λ_ ps q=>⟨#[],by rw[q];simp⟩⟩
def Un.refl:Un fs ex H H h h:=Un.kept λ_ _ q=>q
def Un.laid(k:∀b u,h.get? b=some u->h'.get? b=some u)(hp:h.objs.size<=a)(hn:H a=none):Un fs ex H (upd H a o) h h' where
 keep:=λb u q _ _ _=>k b u q
 slot:=λb u q _ _ _=>⟨u.slots,k b u q⟩
 free:=λb u q n _=>by rw[ak (aaK (aaj (aaq q) hp))];exact n
 there:=λb u q _=>⟨u,k b u q⟩
 tups:=λb xs q=>by rw[ak (bj q hn)];exact q
 kJ:=λb u xs q=>by rw[ak (bj q hn)];exact q
 lR:=λb ps q=>⟨#[],by rw[ak (bj q hn),q];simp⟩
def Un.write(mu:Q0 (H x))(he:e=x\/H e=some (.own x))(k:∀b u,b≠e->h.get? b=some u->h'.get? b=some u)(Qm:∃u,h'.get? e=some u):Un fs ex H (upd H x o) h h':=by
 have hx:∀b,H b=none->b≠x:=λb n z=>by subst z;rw[n]at mu;exact mu
 have hb:∀b,H b=none->b≠e:=λb n z=>by
  subst z;rcases he with r|r
  ·exact hx b n r
  ·rw[n]at r;cases r
 have hm:∀b u,H b=some u->¬ Q0 (some u)->b≠x:=λb u q nm z=>by subst z;rw[q]at mu;exact nm mu
 refine⟨λb u q n _ _=>k b u (hb b n) q,λb u q n _ _=>⟨u.slots,k b u (hb b n) q⟩,λb u q n _=>by rw[ak (hx b n)];exact n,λb u q _=>?_,
  λb xs q=>by rw[ak (hm b _ q λz=>z)];exact q,λb u xs q=>by rw[ak (hm b _ q λz=>z)];exact q,λb ps q=>⟨#[],by rw[ak (hm b _ q λz=>z),q];simp⟩⟩
 by_cases N6:b=e
 ·subst N6;exact Qm
 ·exact⟨u,k b u N6 q⟩
end
def Qn(h:Heap)(H:Hp):List Addr:=(List.range h.objs.size).filter λa=>(H a).isSome
def zT(h:Heap)(H:Hp):Heap:=PySem.W.hideAll h (Qn h H)
def Fe(h:Heap)(H:Hp):(zT h H).objs.size=h.objs.size:=PySem.W.hideAll_size _ _
def tE{h:Heap}{H:Hp}{b:Addr}{o:Obj}(e:h.get? b=some o)(n:H b=none):(zT h H).get? b=some o :=
 PySem.W.hideAll_get _ e λhm=>by
  have q:(H b).isSome=true:=(aaC.mp hm).2;rw[n]at q;simp at q
def Lb{h:Heap}{H:Hp}{b:Addr}{o:Obj}(e:(zT h H).get? b=some o):h.get? b=some o/\H b=none:=by
 have e' : h.get? b=some o:=PySem.W.of_hideAll (Qn h H) e;refine⟨e',?_⟩;cases q:H b with
 | none=>rfl
 | some x =>
   have hm:b∈Qn h H:=aaC.mpr ⟨aax.mpr (aaq e'),by simp[q]⟩
   have z:(zT h H).get? b=none:=PySem.W.hideAll_none (Qn h H) hm;rw[z]at e;cases e
structure Mod(K:bM)(mg:oE)(base:Heap):Prop where
 Tz:K.In base
 glob:base.Ns mainGlobals mg
 blt:∃mb,base.Ns builtinsNs mb/\∀x:Str,x≠"__name__"->mb x=bootBuiltins x
 nolimit:base.NoLimit
 bmain:∃bm ob,mg "__builtins__"=some (.ref bm)/\bm≠builtinsNs/\base.get? bm=some ob/\ob.cls = .type "module"/\ob.dict=some builtinsNs/\ob.data = .plain
structure Cx where
 prog:Program
 w:World
 K:bM
 mg:Str->Option Value
 base:Heap
 A:Around
 N:List Str
 s₀:Shared
 H₀:Hp
 env:Env
 outer:List Env
 stack:List Env
 ex:List Addr
 fn:Str->Bool
 calm:Bool
 pn:aV
 xe:Value->Shared->Prop
def frs(l:List Env):List Addr:=l.filterMap (·.frame)
abbrev Cx.fs(X:Cx):List Addr:=frs X.outer
def TF(sc:Scope)(x:Str):Prop:=sc.names.lookup x=some .local\/sc.names.lookup x=some .cell\/sc.names.lookup x=some .free
def Loc(sc:Scope)(x:Str):Prop:=sc.names.lookup x=some .local\/sc.names.lookup x=some .cell
def Look(env:Env)(h:Heap)(m:oE)(x:Str)(u:Value):Prop :=
 (env.kindOf x=some .local/\m x=some u)\/((env.kindOf x=some .cell\/env.kindOf x=some .free)/\∃c,env.cells.lookup x=some c/\h.IsCell c (some u))
structure Cx.Ok(X:Cx):Prop where
 mod:Mod X.K X.mg X.base
 kind:X.env.scope.kind = .function
 glob:X.env.globals=mainGlobals
 blt:X.env.builtins=builtinsNs
 above:X.s₀.heap.objs.size<=X.env.locals
 inj:∀x y c,X.env.cells.lookup x=some c->X.env.cells.lookup y=some c->x=y
 has:∀x,(X.env.kindOf x=some .cell\/X.env.kindOf x=some .free)->∃c,X.env.cells.lookup x=some c
 Q3:∀x c,X.fn x=true->X.env.cells.lookup x=some c->X.s₀.heap.objs.size<=c
 hd:X.calm=true->X.A.handled=none
 frames:X.A.frames=some X.stack
 Lc:X.stack=X.outer\/(X.stack=X.env::X.outer/\X.env.frame=some X.env.locals)
 W2:∀b∈X.ex,b≠X.env.locals/\∀x c,X.env.cells.lookup x=some c->c≠b
 bs:∀b o,X.base.get? b=some o->X.s₀.heap.get? b=some o/\X.H₀ b=none
 Nh:X.base.objs.size<=X.s₀.heap.objs.size
 Hw:∀b o,X.base.get? b=some o->b∉X.ex
 Ld:∀b∈X.ex,b∉X.fs
 funs:X.s₀.heap.FunFrames X.base X.outer
 N7:∀b∈X.fs,X.H₀ b=none
structure Inv(X:Cx)(pq:aV)(σ:List (Option V))(H:Hp)(s:Shared):Prop where
 ok:X.Ok
 os:s.os=X.s₀.os
 bare:AllBare s.gens
 base:Un X.fs X.ex X.H₀ H X.s₀.heap s.heap
 loc:∃m,s.heap.Ns X.env.locals m/\∀(i:Nat) (x:Str) (v:V),X.N[i]?=some x->σ[i]?=some (some v)->TF X.env.scope x->∃u,RelV v u/\Look X.env s.heap m x u
 cell:∀x c,X.env.cells.lookup x=some c->∃v,s.heap.IsCell c v
 free:H X.env.locals=none
 eU:∀x c,X.env.cells.lookup x=some c->H c=none
 pin:∀p∈X.pn++pq,s.heap.get? p.1=some p.2/\H p.1=none/\p.1≠X.env.locals/\p.1∉X.fs/\∀v,p.2.data≠.cell v
 hok:mQ X.prog X.w H s.heap
 len:σ.length=X.N.length
section
variable {X:Cx}{pq:aV}{σ:List (Option V)}{H H' : Hp}{s:Shared}{h' : Heap}
def Cx.Ok.UB(ok:X.Ok){b:Addr}{o:Obj}(e:X.base.get? b=some o):b∉X.fs:=λhb=>by
 have:=(ok.funs.mem hb).1;rw[e]at this;cases this
def Inv.bs(I:Inv X pq σ H s):∀b o,X.base.get? b=some o->s.heap.get? b=some o/\H b=none:=λb o e =>
 ⟨I.base.keep b o (I.ok.bs b o e).1 (I.ok.bs b o e).2 (I.ok.UB e) (I.ok.Hw b o e),I.base.free b o (I.ok.bs b o e).1 (I.ok.bs b o e).2 (I.ok.Hw b o e)⟩
def Inv.bk(I:Inv X pq σ H s):∀b o,X.base.get? b=some o->s.heap.get? b=some o:=λb o e=>(I.bs b o e).1
def Inv.mod(I:Inv X pq σ H s):Mod X.K X.mg X.base:=I.ok.mod
def Inv.N8(I:Inv X pq σ H s):X.K.In s.heap:=I.ok.mod.Tz.keeps I.bk
def Inv.nolimit(I:Inv X pq σ H s):s.heap.NoLimit:=I.ok.mod.nolimit.keeps I.bk
def Inv.lt(I:Inv X pq σ H s):X.env.locals<s.heap.objs.size:=let⟨_,hn,_⟩:=I.loc;hn.lt
def Inv.sz(I:Inv X pq σ H s):X.s₀.heap.objs.size<=s.heap.objs.size:=aaD I.ok.above (aaW I.lt)
def Inv.Q4(I:Inv X pq σ H s){a:Addr}(h:s.heap.objs.size<=a):a∉X.fs:=λhb=>by
 obtain⟨_,o,ho,_⟩:=I.ok.funs.mem hb;exact absurd (aaj (aaq ho) (aaD I.sz h)) (abr _)
def Inv.N9(I:Inv X pq σ H s):∀x c,X.env.cells.lookup x=some c->c≠X.env.locals:=λx c e z=>by
 obtain⟨v,o,ho,hd⟩:=I.cell x c e;obtain⟨m,⟨o',es,ep,ho',hd',_⟩,_⟩:=I.loc;rw[z,ho']at ho;cases ho;rw[hd']at hd;cases hd
def Inv.funs(I:Inv X pq σ H s):s.heap.FunFrames X.base X.outer:=by
 have all:∀(l:List Env),(∀b∈frs l,b∈X.fs)->X.s₀.heap.FunFrames X.base l->s.heap.FunFrames X.base l:=by
  intro l
  induction l with
  | nil=>intro _ _;trivial
  | cons env r ih =>
    intro hs hl;obtain⟨hk,⟨L,o,hf,hn,ho,hd⟩,hr⟩:=hl;have hL:L∈X.fs:=hs L (by unfold frs;rw[adw,hf];exact aar)
    obtain⟨sl,e⟩:=I.base.slot L o ho (I.ok.N7 L hL) hL λz=>I.ok.Ld L z hL
    exact⟨hk,⟨L,_,hf,hn,e,hd⟩,ih (λb hb=>hs b (by unfold frs;rw[adw,hf];exact nR _ hb)) hr⟩
 exact all X.outer (λ_ hb=>hb) I.ok.funs
def Inv.stack(I:Inv X pq σ H s):s.heap.FunFrames X.base X.stack:=by
 rcases I.ok.Lc with e|⟨e,hf⟩
 ·rw[e];exact I.funs
 ·rw[e];obtain⟨m,hn,_⟩:=I.loc;refine .cons (by rw[I.ok.kind];decide) hf hn ?_ I.funs
  exact Heap.get?_none_of_le (aaD I.ok.Nh I.ok.above)
def Inv.tF(I:Inv X pq σ H s):∀b∈frs X.stack,b∈X.env.locals::X.fs:=λb hb=>by
 rcases I.ok.Lc with e|⟨e,hf⟩
 ·rw[e]at hb;exact nR _ hb
 ·rw[e]at hb;unfold frs at hb;rw[adw,hf]at hb;exact hb
def Inv.ye(I:Inv X pq σ H s):∀b∈frs X.stack,H b=none:=λb hb=>by
 rcases aas.mp (I.tF b hb) with e|hb
 ·rw[e];exact I.free
 ·obtain⟨_,o,ho,_⟩:=I.ok.funs.mem hb;exact I.base.free b o ho (I.ok.N7 b hb) λz=>I.ok.Ld b z hb
def Inv.step{g' : Array GenState}{t' : Nat}{d' : Drawn}{ch:List Addr}(I:Inv X pq σ H s)
 (hch:∀b∈ch,(b∈X.ex\/X.s₀.heap.objs.size<=b)/\b≠X.env.locals/\(∀x c,X.env.cells.lookup x=some c->c≠b)/\∀p∈X.pn++pq,p.1≠b)
 (keep:∀b o,b≠X.env.locals->b∉X.fs->b∉ch->s.heap.get? b=some o->H b=none->h'.get? b=some o)
 (slot:∀b o,b≠X.env.locals->b∈X.fs->b∉ch->s.heap.get? b=some o->H b=none->∃sl,h'.get? b=some { o with slots:=sl}) (free:∀b o,b∉ch->s.heap.get? b=some o->H b=none->H' b=none)
 (there:∀b o,b∉ch->s.heap.get? b=some o->∃o',h'.get? b=some o')
 (tups:∀b xs,H b=some (.tup xs)->H' b=some (.tup xs)) (kJ:∀b o u,H b=some (.lQ o u)->H' b=some (.lQ o u)) (lR:∀b ps,H b=some (.jC ps)->∃more,H' b=some (.jC (ps++more)))
 (ns:∀m,s.heap.Ns X.env.locals m->h'.Ns X.env.locals m) (hok:mQ X.prog X.w H' h') (hg:AllBare g') :
 Inv X pq σ H' { s with heap:=h',gens:=g',drawn:=d',toks:=t'}:=by
 have W3:∀b o,X.s₀.heap.get? b=some o->b≠X.env.locals:=λb o e=>aaK (aaj (aaq e) I.ok.above)
 have TH:∀b o,X.s₀.heap.get? b=some o->b∉X.ex->b∉ch:=λb o e hx hb=>by
  rcases(hch b hb).1 with z|z
  ·exact hx z
  ·exact absurd (aaj (aaq e) z) (abr _)
 have cellK:∀x c,X.env.cells.lookup x=some c->∀v,s.heap.IsCell c v->h'.IsCell c v:=λx c e v ⟨o,ho,hd⟩=>by
  have Q5:c∉ch:=λz=>(hch c z).2.2.1 x c e rfl
  by_cases hc:c∈X.fs
  ·obtain⟨sl,q⟩:=slot c o (I.N9 x c e) hc Q5 ho (I.eU x c e);exact⟨_,q,hd⟩
  ·exact⟨o,keep c o (I.N9 x c e) hc Q5 ho (I.eU x c e),hd⟩
 refine⟨I.ok,I.os,hg,⟨λb o e n hb hx=>?_,λb o e n hb hx=>?_,λb o e n hx=>?_,λb o e hx=>?_,λb xs e=>tups b xs (I.base.tups b xs e),λb o xs e=>kJ b o xs (I.base.kJ b o xs e),λb ps e=>?_⟩,?_,λx c e=>?_,?_,λx c e=>?_,λp hp=>?_,hok,I.len⟩
 ·exact keep b o (W3 b o e) hb (TH b o e hx) (I.base.keep b o e n hb hx) (I.base.free b o e n hx)
 ·obtain⟨sl,e1⟩:=I.base.slot b o e n hb hx;obtain⟨TJ,e2⟩:=slot b _ (W3 b o e) hb (TH b o e hx) e1 (I.base.free b o e n hx);exact⟨TJ,e2⟩
 ·obtain⟨o',e1⟩:=I.base.there b o e hx;exact free b o' (TH b o e hx) e1 (I.base.free b o e n hx)
 ·obtain⟨o',e1⟩:=I.base.there b o e hx;exact there b o' (TH b o e hx) e1
 ·obtain⟨m1,e1⟩:=I.base.lR b ps e;obtain⟨m2,e2⟩:=lR b _ e1;exact⟨m1++m2,by rw[e2,Array.append_assoc]⟩
 ·obtain⟨m,hn,hl⟩:=I.loc;refine⟨m,ns m hn,λi x v e1 e2 e3=>?_⟩
  obtain⟨u,r,l⟩:=hl i x v e1 e2 e3;refine⟨u,r,?_⟩;rcases l with l|⟨k,c,e,z⟩
  ·exact .inl l
  ·exact .inr ⟨k,c,e,cellK x c e _ z⟩
 ·obtain⟨v,z⟩:=I.cell x c e;exact⟨v,cellK x c e v z⟩
 ·obtain⟨m,⟨o,_,_,ho,_⟩,_⟩:=I.loc;exact free _ o (λz=>(hch _ z).2.1 rfl) ho I.free
 ·obtain⟨v,o,ho,hd⟩:=I.cell x c e;exact free c o (λz=>(hch c z).2.2.1 x c e rfl) ho (I.eU x c e)
 ·obtain⟨e,n,ne,nf,d⟩:=I.pin p hp;have Q5:p.1∉ch:=λz=>(hch p.1 z).2.2.2 p hp rfl
  exact⟨keep p.1 p.2 ne nf Q5 e n,free p.1 p.2 Q5 e n,ne,nf,d⟩
def Inv.un{t' : Nat}(I:Inv X pq σ H s)(u:Un X.fs [] H H' s.heap h')(hok:mQ X.prog X.w H' h'):Inv X pq σ H' { s with heap:=h',toks:=t'}:=by
 obtain⟨m,⟨o,es,ep,ho,r⟩,_⟩:=id I.loc;obtain⟨sl,hL⟩:=u.any ho I.free (by simp)
 exact I.step (g':=s.gens) (d':=s.drawn) (ch:=[]) (λ_ z=>nomatch z) (λb o _ hb _ e n=>u.keep b o e n hb (by simp)) (λb o _ hb _ e n=>u.slot b o e n hb (by simp)) (λb o _ e n=>u.free b o e n (by simp)) (λb o _ e=>u.there b o e (by simp)) u.tups u.kJ u.lR (λm' hm=>by
  obtain⟨o',es',Ff,ho',r'⟩:=hm;rw[ho]at ho';cases ho';exact⟨_,es',Ff,hL,r'⟩) hok I.bare
def Inv.call{g' : Array GenState}{t' : Nat}{d' : Drawn}{ch:List Addr}(I:Inv X pq σ H s)(u:Un (frs X.stack) ch H H' s.heap h')(hok:mQ X.prog X.w H' h')(hg:AllBare g')
 (hch:∀b∈ch,(b∈X.ex\/X.s₀.heap.objs.size<=b)/\b≠X.env.locals/\(∀x c,X.env.cells.lookup x=some c->c≠b)/\∀p∈X.pn++pq,p.1≠b) :
 Inv X pq σ H' { s with heap:=h',gens:=g',drawn:=d',toks:=t'}:=by
 obtain⟨m,⟨o,es,ep,ho,r⟩,_⟩:=id I.loc;obtain⟨sl,hL⟩:=u.any ho I.free λz=>(hch _ z).2.1 rfl
 exact I.step (ch:=ch) hch (λb o hL hb hc e n=>u.keep b o e n (λz=>(aas.mp (I.tF b z)).elim hL hb) hc) (λb o _ _ hc e n=>u.any e n hc) (λb o hc e n=>u.free b o e n hc) (λb o hc e=>u.there b o e hc) u.tups u.kJ u.lR (λm' hm=>by
  obtain⟨o',es',Ff,ho',r'⟩:=hm;rw[ho]at ho';cases ho';exact⟨_,es',Ff,hL,r'⟩) hok hg
def Inv.turned{t' : Nat}{it:Addr}(I:Inv X pq σ H s)(k:∀b o,b≠it->s.heap.get? b=some o->h'.get? b=some o)(hn:H it=none)(hL:it≠X.env.locals)
 (h1:it∈X.ex\/X.s₀.heap.objs.size<=it) (h2:∀x c,X.env.cells.lookup x=some c->c≠it) (h3:∀p∈X.pn++pq,p.1≠it):Inv X pq σ H { s with heap:=h',toks:=t'}:=by
 have W4:∀b u,H b=some u->b≠it:=λb u e z=>by rw[z,hn]at e;cases e
 refine I.step (g':=s.gens) (d':=s.drawn) (ch:=[it]) (λb hb=>?_) (λb o _ _ hc e _=>k b o (λz=>hc (by simp[z])) e) (λb o _ _ hc e _=>⟨o.slots,k b o (λz=>hc (by simp[z])) e⟩) (λ_ _ _ _ n=>n)
  (λb o hc e=>⟨o,k b o (λz=>hc (by simp[z])) e⟩) (λ_ _ e=>e) (λ_ _ _ e=>e) (λb ps e=>⟨#[],by rw[e];simp⟩) (λm hm=>?_) (λb u e=>?_) I.bare
 ·have e:b=it:=by simpa using hb
  subst e;exact⟨h1,hL,h2,h3⟩
 ·obtain⟨o,es,ep,ho,r⟩:=hm;exact⟨o,es,ep,k _ o (aa2 hL) ho,r⟩
 ·refine(I.hok b u e).stay (λc v hc q=>k c v ?_ q) (λ_ q=>q) λ_ _ q=>q
  rcases hc with z|z
  ·rw[z];exact W4 b u e
  ·exact W4 c _ z
def Inv.tok(I:Inv X pq σ H s)(t:Nat):Inv X pq σ H { s with toks:=t}:=I.un (h':=s.heap) (t':=t) Un.refl I.hok
def Inv.kept{t' : Nat}(I:Inv X pq σ H s)(k:∀b u,s.heap.get? b=some u->h'.get? b=some u):Inv X pq σ H { s with heap:=h',toks:=t'}:=I.un (Un.kept k) (I.hok.kept k)
def Inv.laid{a:Addr}{o:HO}{t' : Nat}(I:Inv X pq σ H s)(k:∀b u,s.heap.get? b=some u->h'.get? b=some u)(hp:s.heap.objs.size<=a)(new:bI X.prog X.w (upd H a o) h' a o):
 Inv X pq σ (upd H a o) { s with heap:=h',toks:=t'}:=I.un (Un.laid k hp (I.hok.fresh hp)) (I.hok.laid k hp new)
def Inv.write{x e:Addr}{o:HO}{t' : Nat}(I:Inv X pq σ H s)(mu:Q0 (H x))(he:e=x\/H e=some (.own x))(k:∀b u,b≠e->s.heap.get? b=some u->h'.get? b=some u)(Qm:∃u,h'.get? e=some u)
 (new:bI X.prog X.w (upd H x o) h' x o):Inv X pq σ (upd H x o) { s with heap:=h',toks:=t'}:=I.un (Un.write mu he k Qm) (I.hok.write mu he k Qm new)
def Inv.weak{σ' : List (Option V)}(I:Inv X pq σ H s)(hl:σ'.length=σ.length)(w:∀(i:Nat) v,σ'[i]?=some (some v)->σ[i]?=some (some v)):Inv X pq σ' H s :=
 ⟨I.ok,I.os,I.bare,I.base,let⟨m,hn,hl'⟩:=I.loc;⟨m,hn,λi x v e1 e2 e3=>hl' i x v e1 (w i v e2) e3⟩,I.cell,I.free,I.eU,I.pin,I.hok,hl.trans I.len⟩
def Inv.fM{TL:aV}(I:Inv X pq σ H s)(h:∀p∈TL,s.heap.get? p.1=some p.2/\H p.1=none/\p.1≠X.env.locals/\p.1∉X.fs/\∀v,p.2.data≠.cell v):Inv X TL σ H s :=
 ⟨I.ok,I.os,I.bare,I.base,I.loc,I.cell,I.free,I.eU,λp hp=>(aaL.mp hp).elim (λz=>I.pin p (acO _ z)) (h p),I.hok,I.len⟩
def zU{N:List Str}(hN:N.Nodup){i j:Nat}{x:Str}(a:N[i]?=some x)(b:N[j]?=some x):i=j:=by
 obtain⟨h1,e1⟩:=jf.mp a;obtain⟨h2,e2⟩:=jf.mp b;exact(abK hN).mp (e1.trans e2.symm)
def Fg{M:Model}{A:Around}{E:di}{i:Nat}{x:Str}{v:V}{u:Value}{Q:Unit->Shared->Prop}(I:Inv X pq σ H s)(hN:X.N.Nodup)(hi:X.N[i]?=some x)(hx:Loc X.env.scope x)(r:RelV v u)
 (h:∀s',Inv X pq (σ.set i (some v)) H s'->(∃a,Heap.SameBut a s.heap s'.heap/\(a=X.env.locals\/X.env.cells.lookup x=some a))->Q () s') (hf:X.fn x=true\/X.env.scope.names.lookup x=some .local:=by first | exact .inl rfl | exact .inr rfl | assumption):wpAny M A (storeName X.env x u) Q E s:=by
 obtain⟨m,hn,hl⟩:=id I.loc;have hcls:(X.env.scope.kind == .class || (X.env.scope.kind == .module&&X.env.locals != X.env.globals))=false:=by rw[I.ok.kind];rfl
 have W5:i<σ.length:=by rw[I.len];exact(jf.mp hi).1
 have N9:=I.N9;have tracked:∀{a:Addr} {h' : Heap},(∃o,s.heap.get? a=some o/\H a=none)->Heap.SameBut a s.heap h'->mQ X.prog X.w H h':=λ{a h'} ha hs b ob e=>by
  obtain⟨_,_,hfree⟩:=ha;refine(I.hok b ob e).stay (λc w' hc q=>(hs.2 c ?_).trans q) (λ_ q=>q) λ_ _ q=>q
  rintro rfl;rcases hc with rfl|hc
  ·rw[hfree]at e;cases e
  ·rw[hfree]at hc;cases hc
 rcases hx with hk|hk
 ·refine wpAny_storeName_local hk hn (λh' hn' hs=>?_) hcls
  obtain⟨oL,_,_,Le,_⟩:=id hn;refine h _ ⟨I.ok,I.os,I.bare,⟨λb o e n hb hx=>?_,λb o e n hb hx=>?_,I.base.free,λb o e hx=>?_,I.base.tups,I.base.kJ,I.base.lR⟩,⟨_,hn',λj y v' e1 e2 e3=>?_⟩,λy c e=>?_,I.free,I.eU,λp hp=>?_,tracked ⟨oL,Le,I.free⟩ hs,by simpa using I.len⟩ ⟨_,hs,.inl rfl⟩
  ·exact(hs.2 b (aaK (aaj (aaq e) I.ok.above))).trans (I.base.keep b o e n hb hx)
  ·obtain⟨sl,e1⟩:=I.base.slot b o e n hb hx;exact⟨sl,(hs.2 b (aaK (aaj (aaq e) I.ok.above))).trans e1⟩
  ·obtain⟨o',e1⟩:=I.base.there b o e hx;exact⟨o',(hs.2 b (aaK (aaj (aaq e) I.ok.above))).trans e1⟩
  ·by_cases hj:j=i
   ·subst hj;rw[hi]at e1;cases e1;rw[acC W5]at e2;cases e2;exact⟨u,r,.inl ⟨hk,by simp⟩⟩
   ·rw[acP (aa2 hj)]at e2;obtain⟨u',r',q⟩:=hl j y v' e1 e2 e3;refine⟨u',r',?_⟩;rcases q with⟨k,e⟩|⟨k,c,e,z⟩
    ·refine .inl ⟨k,?_⟩;have:y≠x:=λe=>hj (zU hN e1 (e▸hi))
     simp[this,e]
    ·exact .inr ⟨k,c,e,z.sameBut hs (N9 y c e)⟩
  ·obtain⟨w',z⟩:=I.cell y c e;exact⟨w',z.sameBut hs (N9 y c e)⟩
  ·obtain⟨e,n,ne,nf,d⟩:=I.pin p hp;exact⟨(hs.2 p.1 ne).trans e,n,ne,nf,d⟩
 ·have hfn:X.fn x=true:=by
   rcases hf with z|z
   ·exact z
   ·rw[z]at hk;cases hk
  obtain⟨c,hc⟩:=I.ok.has x (.inl hk);obtain⟨w',z⟩:=I.cell x c hc;refine wpAny_storeName_cell I.ok.kind hk hc z (λh' hc' hs=>?_)
  obtain⟨oc,hoc,UC⟩:=id z;refine h { s with heap:=h'} ⟨I.ok,I.os,I.bare,⟨λb o e n hb hx=>?_,λb o e n hb hx=>?_,I.base.free,λb o e hx=>?_,I.base.tups,I.base.kJ,I.base.lR⟩,⟨m,hn.sameBut hs (aa2 (N9 x c hc)),λj y v' e1 e2 e3=>?_⟩,λy c' e=>?_,I.free,I.eU,λp hp=>?_,tracked ⟨oc,hoc,I.eU x c hc⟩ hs,by simpa using I.len⟩ ⟨c,hs,.inr hc⟩
  ·exact(hs.2 b (aaK (aaj (aaq e) (I.ok.Q3 x c hfn hc)))).trans (I.base.keep b o e n hb hx)
  ·obtain⟨sl,e1⟩:=I.base.slot b o e n hb hx;exact⟨sl,(hs.2 b (aaK (aaj (aaq e) (I.ok.Q3 x c hfn hc)))).trans e1⟩
  ·obtain⟨o',e1⟩:=I.base.there b o e hx;exact⟨o',(hs.2 b (aaK (aaj (aaq e) (I.ok.Q3 x c hfn hc)))).trans e1⟩
  ·by_cases hj:j=i
   ·subst hj;rw[hi]at e1;cases e1;rw[acC W5]at e2;cases e2;exact⟨u,r,.inr ⟨.inl hk,c,hc,hc'⟩⟩
   ·rw[acP (aa2 hj)]at e2;obtain⟨u',r',q⟩:=hl j y v' e1 e2 e3;refine⟨u',r',?_⟩;rcases q with q|⟨k,c',e,z'⟩
    ·exact .inl q
    ·refine .inr ⟨k,c',e,z'.sameBut hs ?_⟩;rintro rfl;exact hj (zU hN e1 (I.ok.inj _ _ _ e hc▸hi))
  ·by_cases hcc:c' = c
   ·subst hcc;exact⟨_,hc'⟩
   ·obtain⟨w2,z2⟩:=I.cell y c' e;exact⟨w2,z2.sameBut hs hcc⟩
  ·obtain⟨e,n,ne,nf,d⟩:=I.pin p hp;refine⟨(hs.2 p.1 ?_).trans e,n,ne,nf,d⟩;intro q;rw[q,hoc]at e;have q' : oc=p.2:=Option.some.inj e;exact d w' (by rw[<-q'];exact UC)
def oG{M:Model}{A:Around}{E:di}{i:Nat}{x:Str}{v:V}{u:Value}{Q:Unit->Shared->Prop}(I:Inv X pq σ H s)(hN:X.N.Nodup)(hi:X.N[i]?=some x)(hx:Loc X.env.scope x)(r:RelV v u)
 (h:∀s',Inv X pq (σ.set i (some v)) H s'->Q () s') (hf:X.fn x=true\/X.env.scope.names.lookup x=some .local:=by first | exact .inl rfl | exact .inr rfl | assumption):wpAny M A (storeName X.env x u) Q E s :=
 Fg I hN hi hx r (λs' I' _=>h s' I') hf
def Inv.Hx{s' : Shared}{ch:List Addr}(I:Inv X pq σ H s)(ho:s'.os=s.os)(u:Un (frs X.stack) ch H H' s.heap s'.heap)(hok:mQ X.prog X.w H' s'.heap)(hg:AllBare s'.gens)
 (hch:∀b∈ch,(b∈X.ex\/X.s₀.heap.objs.size<=b)/\b≠X.env.locals/\(∀x c,X.env.cells.lookup x=some c->c≠b)/\∀p∈X.pn++pq,p.1≠b):Inv X pq σ H' s':=by
 obtain⟨h',g',d',t',o'⟩:=s';have e:o' = s.os:=ho;subst e;exact I.call (g':=g') (t':=t') (d':=d') u hok hg hch
end
abbrev XK:=Value->Option Addr->Hp->Prop
abbrev St:=List (Option V)
abbrev VK:=V->Hp->Prop
abbrev TE:=St->Hp->VK->Prop
abbrev TT:=St->Hp->(Bool->Hp->Prop)->Prop
abbrev TA:=St->Hp->(List V->Hp->Prop)->Prop
structure Ends where
 nx:St->Hp->Prop
 rt:VK
 bk:St->Hp->Prop:=λ_ _=>False
 ct:St->Hp->Prop:=λ_ _=>False
abbrev TS:=Ends->St->Hp->Prop
def EP(X:Cx)(pq:aV)(σ:St)(Q:VK)(u:Value)(s' : Shared):Prop:=∃v H',Inv X pq σ H' s'/\RelV v u/\Q v H'
def TP(X:Cx)(pq:aV)(σ:St)(Q:Bool->Hp->Prop)(b:Bool)(s' : Shared):Prop:=∃H',Inv X pq σ H' s'/\Q b H'
def AP(X:Cx)(pq:aV)(σ:St)(Q:List V->Hp->Prop)(us:List Value)(s' : Shared):Prop:=∃vs H',Inv X pq σ H' s'/\Vals vs us/\Q vs H'
def SP(X:Cx)(pq:aV)(D:Ends)(f:Flow)(s' : Shared):Prop :=
 match f with
 | .next=>∃σ' H',Inv X pq σ' H' s'/\D.nx σ' H'
 | .brk=>∃σ' H',Inv X pq σ' H' s'/\D.bk σ' H'
 | .cont=>∃σ' H',Inv X pq σ' H' s'/\D.ct σ' H'
 | .ret u=>∃v σ' H',Inv X pq σ' H' s'/\RelV v u/\D.rt v H'
def PE(X:Cx)(e:Expr)(t:TE):Prop :=
 ∀(pq:aV) (s:Shared) (σ:St) (H:Hp) (Q:VK),Inv X pq σ H s->t σ H Q->wpAny (model X.prog X.w) X.A (eval e X.env) (EP X pq σ Q) X.xe s
def PT(X:Cx)(e:Expr)(t:TT):Prop :=
 ∀(pq:aV) (s:Shared) (σ:St) (H:Hp) (Q:Bool->Hp->Prop),Inv X pq σ H s->t σ H Q->wpAny (model X.prog X.w) X.A (isTrue e X.env (eval e X.env)) (TP X pq σ Q) X.xe s
def PW(X:Cx)(e:Expr)(t:TT):Prop :=
 ∀(whole:Sem Value) (pq:aV) (s:Shared) (σ:St) (H:Hp) (Q:Bool->Hp->Prop),Inv X pq σ H s->t σ H Q->wpAny (model X.prog X.w) X.A (isTrue e X.env whole) (TP X pq σ Q) X.xe s
def PW.pt{X:Cx}{e:Expr}{t:TT}(h:PW X e t):PT X e t:=h _
def PA(X:Cx)(es:List Expr)(t:TA):Prop :=
 ∀(pos:Pos) (pq:aV) (s:Shared) (σ:St) (H:Hp) (Q:List V->Hp->Prop),Inv X pq σ H s->t σ H Q->wpAny (model X.prog X.w) X.A (spliced (backTo pos (starEach es X.env))) (AP X pq σ Q) X.xe s
def PS(X:Cx)(st:Stmt)(t:TS):Prop :=
 ∀(pq:aV) (s:Shared) (σ:St) (H:Hp) (D:Ends),Inv X pq σ H s->t D σ H->wpAny (model X.prog X.w) X.A (exec st X.env) (SP X pq D) X.xe s
def wO(X:Cx)(st:List Stmt)(t:TS):Prop :=
 ∀(pq:aV) (s:Shared) (σ:St) (H:Hp) (D:Ends),Inv X pq σ H s->t D σ H->wpAny (model X.prog X.w) X.A (execs st X.env) (SP X pq D) X.xe s
def cW{α:Type}{t:Sem α}{Q Q' : α->Shared->Prop}{M:Model}{A:Around}{E:di}{s:Shared}(h:wpAny M A t Q E s)(hQ:∀a s,Q a s->Q' a s):wpAny M A t Q' E s:=aaP h hQ λ_ _ x=>x
section
variable {X:Cx}
def Lf(i:Nat):TE:=λσ H Q=>∃v,σ[i]?=some (some v)/\Q v H
def tC(v:V):TE:=λ_ H Q=>Q v H
def Oa{i:Nat}{x:Str}{pos:Pos}(hN:X.N[i]?=some x)(hv:TF X.env.scope x)(hd:(x==("__debug__":Str))=false:=by decide)(hcd:(x==("__classdict__":Str))=false:=by decide):PE X (.Name x pos) (Lf i):=by
 intro pq s σ H Q I h;obtain⟨v,e,h⟩:=h;obtain⟨m,hn,hl⟩:=I.loc;obtain⟨u,r,l⟩:=hl i x v hN e hv;have fin:EP X pq σ Q u s:=⟨v,H,I,r,h⟩;rcases l with⟨hk,hm⟩|⟨hk,c,hc,hcell⟩
 ·exact wpAny_Name (wpAny_loadName_local I.ok.kind hk hn hm fin) hd
 ·rcases hk with hk|hk
  ·exact wpAny_Name (wpAny_loadName_cell I.ok.kind hk hc hcell fin) hd
  ·exact wpAny_Name (wpAny_loadName_free I.ok.kind hk hc hcell fin hcd) hd
def ao{i j pos}:PE X (.Constant (.int i) j pos) (tC (.int i)):=λ_ _ _ H _ I h=>wpAny_Constant_int ⟨.int i,H,I.tok _,⟨_,rfl⟩,h⟩
def wQ{b j pos}:PE X (.Constant (.bool b) j pos) (tC (.bl b)):=λ_ _ _ H _ I h=>Constant_bool ⟨.bl b,H,I,rfl,h⟩
def iQ{j pos}:PE X (.Constant .none j pos) (tC .dS):=λ_ _ _ H _ I h=>Constant_none ⟨.dS,H,I,rfl,h⟩
def pX{x j pos}:PE X (.Constant (.str x) j pos) (tC (.str x)):=λ_ _ _ H _ I h=>Calls.Constant_str ⟨.str x,H,I.tok _,⟨_,rfl⟩,h⟩
def Gl(X:Cx)(x:Str):Prop:=X.env.kindOf x=some .globalImplicit
def yf{E:di}{pq:aV}{s:Shared}{σ:St}{H:Hp}{x:Str}{u:Value}{pos:Pos}{Q:di}(I:Inv X pq σ H s)(hg:Gl X x)(hm:X.mg x=some u)(h:Q u s)
 (hd:(x==("__debug__":Str))=false:=by decide):wpAny (model X.prog X.w) X.A (eval (.Name x pos) X.env) Q E s :=
 Calls.Name_function_global I.ok.kind hg (Calls.loadGlobal_global (by rw[I.ok.glob];exact I.mod.glob.keeps I.bk) hm h) hd
def jD{E:di}{pq:aV}{s:Shared}{σ:St}{H:Hp}{x:Str}{u:Value}{pos:Pos}{Q:di}(I:Inv X pq σ H s)(hg:Gl X x)(hm:X.mg x=none)(hv:bootBuiltins x=some u)(h:Q u s)
 (hn:x≠"__name__":=by decide) (hd:(x==("__debug__":Str))=false:=by decide):wpAny (model X.prog X.w) X.A (eval (.Name x pos) X.env) Q E s:=by
 obtain⟨mb,h1,h2⟩:=I.mod.blt;exact Calls.Name_function_global I.ok.kind hg (Calls.loadGlobal_builtin (by rw[I.ok.glob];exact I.mod.glob.keeps I.bk) hm (by rw[I.ok.blt];exact h1.keeps I.bk) ((h2 x hn).trans hv) h) hd
def Lg{x:Str}{v:V}{u:Value}{pos:Pos}(hg:Gl X x)(hm:X.mg x=some u)(r:RelV v u)(hd:(x==("__debug__":Str))=false:=by decide):PE X (.Name x pos) (tC v) :=
 λ_ _ _ H _ I h=>yf I hg hm ⟨v,H,I,r,h⟩ hd
variable {a b:Expr}{ta tb:TE}{pos:Pos}
def tB(t:TE):TT:=λσ H Q=>t σ H λx H1=>∃c,x = .bl c/\Q c H1
def kK{e:Expr}{t:TE}(h:PE X e t)(he:∀whole,isTrue e X.env whole=(do let v←whole;standAt e.pos;holding [v] (truthy v)):=by intro _;rfl):PT X e (tB t):=by
 intro pq s σ H Q I hw;refine isTrue_plain (cW (h pq s σ H _ I hw) λv s1 ⟨x,H1,I1,r1,q1⟩=>?_) (he _)
 obtain⟨d,rfl,q⟩:=q1;cases r1;exact wpAny_truthy_bool ⟨H1,I1,q⟩
variable {tA TM:TT}{rest:List Expr}
def UD(t u:TT):TT:=λσ H Q=>t σ H λc H1=>if c=true then u σ H1 Q else Q false H1
def Zj(t u:TT):TT:=λσ H Q=>t σ H λc H1=>if c=true then Q true H1 else u σ H1 Q
def UE(t:TT):TT:=λσ H Q=>t σ H λc H1=>Q (!c) H1
def yg(ha:PT X a tA):PW X (.BoolOp .And [a] pos) tA:=by
 intro wh pq s σ H Q I h;refine isTrue_and (cW (ha pq s σ H Q I h) λc s1 e=>?_)
 cases c with
 | true=>exact isTrue_and_nil e
 | false=>exact e
def yh(ha:PT X a tA):PW X (.BoolOp .Or [a] pos) tA:=by
 intro wh pq s σ H Q I h;refine isTrue_or (cW (ha pq s σ H Q I h) λc s1 e=>?_)
 cases c with
 | false=>exact isTrue_or_nil e
 | true=>exact e
def Cr(ha:PT X a tA)(hb:PW X (.BoolOp .And (b::rest) pos) TM):PW X (.BoolOp .And (a::b::rest) pos) (UD tA TM):=by
 intro wh pq s σ H Q I h;refine isTrue_and (cW (ha pq s σ H _ I h) λc s1 ⟨H1,I1,q1⟩=>?_)
 cases c with
 | true=>exact hb wh pq s1 σ H1 Q I1 q1
 | false=>exact⟨H1,I1,q1⟩
def D0(ha:PT X a tA)(hb:PW X (.BoolOp .Or (b::rest) pos) TM):PW X (.BoolOp .Or (a::b::rest) pos) (Zj tA TM):=by
 intro wh pq s σ H Q I h;refine isTrue_or (cW (ha pq s σ H _ I h) λc s1 ⟨H1,I1,q1⟩=>?_)
 cases c with
 | true=>exact⟨H1,I1,q1⟩
 | false=>exact hb wh pq s1 σ H1 Q I1 q1
def Cs(ha:PT X a tA):PT X (.UnaryOp .Not a pos) (UE tA):=by
 intro pq s σ H Q I h;exact isTrue_not (ha pq s σ H (λc H1=>Q (!c) H1) I h)
def Q6(ta tb:TE):TE:=λσ H Q=>ta σ H λx H1=>∃c,x = .bl c/\if c=true then tb σ H1 Q else Q (.bl false) H1
def Q7(ta:TE):TE:=λσ H Q=>ta σ H λx H1=>∃c,x = .bl c/\Q (.bl (!c)) H1
def Hy{op}{t:TE}(h:PE X a t):PE X (.BoolOp op [a] pos) t:=λpq s σ H Q I hw=>BoolOp_one (h pq s σ H Q I hw)
def Hz(ha:PE X a ta)(hb:PE X (.BoolOp .And (b::rest) pos) tb):PE X (.BoolOp .And (a::b::rest) pos) (Q6 ta tb):=by
 intro pq s σ H Q I h;refine BoolOp_and (cW (ha pq s σ H _ I h) λv s1 ⟨x,H1,I1,r1,q1⟩=>?_)
 obtain⟨c,rfl,q1⟩:=q1;cases r1;refine wpAny_truthy_bool ?_;cases c with
 | true=>exact hb pq s1 σ H1 Q I1 q1
 | false=>exact⟨.bl false,H1,I1,rfl,q1⟩
def Ob(ha:PE X a ta):PE X (.UnaryOp .Not a pos) (Q7 ta):=by
 intro pq s σ H Q I h;refine UnaryOp_ (cW (ha pq s σ H _ I h) λv s1 ⟨x,H1,I1,r1,q1⟩=>?_)
 obtain⟨c,rfl,q1⟩:=q1;cases r1;exact not_of (wpAny_truthy_bool ⟨.bl (!c),H1,I1,rfl,q1⟩)
def Zk(t:TT)(ta tb:TE):TE:=λσ H Q=>t σ H λc H1=>if c=true then ta σ H1 Q else tb σ H1 Q
def jZ{c:Expr}(hc:PT X c tA)(ha:PE X a ta)(hb:PE X b tb):PE X (.IfExp c a b pos) (Zk tA ta tb):=by
 intro pq s σ H Q I h;refine wpAny_IfExp (cW (hc pq s σ H _ I h) λd s1 ⟨H1,I1,q1⟩=>?_)
 cases d with
 | true=>exact ha pq s1 σ H1 Q I1 q1
 | false=>exact hb pq s1 σ H1 Q I1 q1
end
def aL(K:bM)(H:Hp)(a:Addr)(xs:List V):Prop :=
 Rd H a (.lst xs)\/
  ∃(o:Obj) (its:Array Value) (n:Nat),K.lookup a=some o/\o.cls = .type "list"/\o.dict=none/\o.data = .seq its n/\its.size<=sizeLine/\Vals xs its.toList
def bg(K:bM)(H:Hp)(a:Addr)(xs:List V):Prop :=
 Rd H a (.tup xs)\/
  ∃(o:Obj) (its:Array Value) (n:Nat),K.lookup a=some o/\o.cls = .type "tuple"/\o.data = .seq its n/\its.size<=sizeLine/\Vals xs its.toList
def UG:Value->Option V
 | .none=>some .dS
 | .bool b=>some (.bl b)
 | .int i _=>some (.int i)
 | .str x _=>some (.str x)
 | .bytes b _=>some (.Hv b)
 | .float b _=>some (.Uz b)
 | .ref a=>some (.ref a)
 | .type n=>some (.ty n)
 | _=>none
def RelV.abs{x:V}{u:Value}(r:RelV x u):UG u=some x:=by
 cases x with
 | dS=>cases r;rfl
 | bl _=>cases r;rfl
 | int _=>obtain⟨t,rfl⟩:=r;rfl
 | str _=>obtain⟨t,rfl⟩:=r;rfl
 | Hv _=>obtain⟨t,rfl⟩:=r;rfl
 | Uz _=>obtain⟨t,rfl⟩:=r;rfl
 | ref _=>cases r;rfl
 | ty _=>cases r;rfl
def RelV.inj{x y:V}{u:Value}(r:RelV x u)(q:RelV y u):x=y:=Option.some.inj (r.abs.symm.trans q.abs)
def Vals.inj:∀{xs ys:List V} {us:List Value},Vals xs us->Vals ys us->xs=ys
 | _,_,_,.nil,.nil=>rfl
 | _,_,_,.cons r t,.cons r' t'=>by rw[r.inj r',Vals.inj t t']
section
variable {X:Cx}{pq:aV}{σ:St}{H:Hp}{s:Shared}{a:Addr}{xs ys:List V}
def aL.of{K:bM}(h:H a=some (.lst xs)):aL K H a xs:=.inl (.inl h)
def bg.of{K:bM}(h:H a=some (.tup xs)):bg K H a xs:=.inl (.inl h)
def Inv.list(I:Inv X pq σ H s)(h:aL X.K H a xs):∃its:List Value,Vals xs its/\PlainL s.heap a its.toArray/\xs.length<=sizeLine:=by
 rcases h with h|⟨o,its,n,hk,hc,hd,hs,hz,r⟩
 ·obtain⟨z,its,n,r,e⟩:=h.ok I.hok;exact⟨its,r,⟨_,n,e,rfl,rfl,rfl⟩,z⟩
 ·refine⟨its.toList,r,⟨o,n,I.N8 a o hk,hc,hd,by simpa using hs⟩,?_⟩
  have e:=r.length;simp only[ab4]at e
  lia
def Inv.tuple(I:Inv X pq σ H s)(h:bg X.K H a xs):∃its:List Value,Vals xs its/\IsTup s.heap a its.toArray/\xs.length<=sizeLine:=by
 rcases h with h|⟨o,its,n,hk,hc,hs,hz,r⟩
 ·obtain⟨z,its,r,p⟩:=h.ok I.hok;exact⟨its,r,p,z⟩
 ·refine⟨its.toList,r,⟨o,I.N8 a o hk,hc,n,by simpa using hs⟩,?_⟩
  have e:=r.length;simp only[ab4]at e
  lia
def Inv.oH(I:Inv X pq σ H s)(h:aL X.K H a xs)(h' : aL X.K H a ys):xs=ys:=by
 obtain⟨its,r,⟨o,n,e,_,_,d⟩,_⟩:=I.list h;obtain⟨its',r',⟨o',n',e',_,_,d'⟩,_⟩:=I.list h';rw[e]at e';cases e';rw[d]at d';injection d' with d1 _
 have:its=its':=by simpa using abf Array.toList d1
 subst this;exact r.inj r'
def Inv.wR(I:Inv X pq σ H s)(h:bg X.K H a xs)(h' : bg X.K H a ys):xs=ys:=by
 obtain⟨its,r,⟨o,e,_,n,d⟩,_⟩:=I.tuple h;obtain⟨its',r',⟨o',e',_,n',d'⟩,_⟩:=I.tuple h';rw[e]at e';cases e';rw[d]at d';injection d' with d1 _
 have:its=its':=by simpa using abf Array.toList d1
 subst this;exact r.inj r'
end
abbrev Cx.tG(X:Cx)(E:di):Cx:={ X with xe:=E}
abbrev Cx.Cm(X:Cx):Cx:=X.tG λ_ _=>False
def Cx.Ok.tG{X:Cx}(ok:X.Ok)(E:di):(X.tG E).Ok :=
 ⟨ok.mod,ok.kind,ok.glob,ok.blt,ok.above,ok.inj,ok.has,ok.Q3,ok.hd,ok.frames,ok.Lc,ok.W2,ok.bs,ok.Nh,ok.Hw,ok.Ld,ok.funs,ok.N7⟩
def Cx.Ok.iR{X:Cx}{E:di}(ok:(X.tG E).Ok):X.Ok :=
 ⟨ok.mod,ok.kind,ok.glob,ok.blt,ok.above,ok.inj,ok.has,ok.Q3,ok.hd,ok.frames,ok.Lc,ok.W2,ok.bs,ok.Nh,ok.Hw,ok.Ld,ok.funs,ok.N7⟩
section
variable {X:Cx}{pq:aV}{σ:St}{H:Hp}{s:Shared}{E:di}
def Inv.tG(I:Inv X pq σ H s)(E:di):Inv (X.tG E) pq σ H s:=⟨I.ok.tG E,I.os,I.bare,I.base,I.loc,I.cell,I.free,I.eU,I.pin,I.hok,I.len⟩
def Inv.iR(I:Inv (X.tG E) pq σ H s):Inv X pq σ H s:=⟨I.ok.iR,I.os,I.bare,I.base,I.loc,I.cell,I.free,I.eU,I.pin,I.hok,I.len⟩
def SP.iR{D:Ends}{f:Flow}{s' : Shared}(h:SP (X.tG E) pq D f s'):SP X pq D f s':=by
 cases f with
 | next=>obtain⟨σ',H',I,q⟩:=h;exact⟨σ',H',I.iR,q⟩
 | brk=>obtain⟨σ',H',I,q⟩:=h;exact⟨σ',H',I.iR,q⟩
 | cont=>obtain⟨σ',H',I,q⟩:=h;exact⟨σ',H',I.iR,q⟩
 | ret u=>obtain⟨v,σ',H',I,r,q⟩:=h;exact⟨v,σ',H',I.iR,r,q⟩
def wO.Cm{st:List Stmt}{t:TS}(h:wO X.Cm st t):wO X st t:=λpq s σ H D I hw =>
 aaP (h pq s σ H D (I.tG _) hw) (λ_ _ q=>q.iR) λ_ _ z=>False.elim z
end
section
variable {X:Cx}{st:Stmt}{rest:List Stmt}{t u:TS}{e:Expr}{te:TE}{pos:Pos}
def bz:TS:=λD σ H=>D.nx σ H
def Ends.on(D:Ends)(u:TS):Ends:={ D with nx:=u D}
def az(t u:TS):TS:=λD σ H=>t (D.on u) σ H
def bF:wO X [] bz:=λ_ _ σ H _ I h=>wpAny_execs_nil ⟨σ,H,I,h⟩
def aj(h1:PS X st t)(h2:wO X rest u):wO X (st::rest) (az t u):=by
 intro pq s σ H D I h;refine wpAny_execs_cons (cW (h1 pq s σ H { D with nx:=u D} I h) λf s1 q=>?_)
 cases f with
 | next =>
   obtain⟨σ',H',I',q⟩:=q;exact h2 pq s1 σ' H' D I' q
 | ret v=>exact q
 | brk=>exact q
 | cont=>exact q
def ay(h1:PS X st t):wO X [st] t:=by
 intro pq s σ H D I h;refine wpAny_execs_cons (cW (h1 pq s σ H D I h) λf s1 q=>?_)
 cases f with
 | next=>exact wpAny_execs_nil q
 | ret v=>exact q
 | brk=>exact q
 | cont=>exact q
def Inv.quiet{pq:aV}{σ:St}{H:Hp}{s:Shared}(I:Inv X pq σ H s):interactive X.env=false:=by simp[interactive,I.ok.kind]
def Q8(te:TE):TS:=λD σ H=>te σ H λ_ H1=>D.nx σ H1
def cY(he:PE X e te)(hs:swapsWith e none pos.line X.env=pure false:=by rfl):PS X (.Expr e pos) (Q8 te):=by
 intro pq s σ H D I h;exact wpAny_Expr_any (cW (he pq s σ H _ I h) λv s1 ⟨x,H1,I1,r1,q1⟩=>⟨σ,H1,I1,q1⟩) I.quiet hs
def UH(te:TE):TS:=λD σ H=>te σ H D.rt
def aJ(he:PE X e te):PS X (.Return (some e) pos) (UH te):=by
 intro pq s σ H D I h;exact wpAny_Return_some (cW (he pq s σ H _ I h) λv s1 ⟨x,H1,I1,r1,q1⟩=>⟨x,σ,H1,I1,r1,q1⟩)
def cy(c:TT)(t u:TS):TS:=λD σ H=>c σ H λb H1=>if b=true then t D σ H1 else u D σ H1
def cN{c:Expr}{a b:List Stmt}{tc:TT}(hc:PT X c tc)(ha:wO X a t)(hb:wO X b u):PS X (.If c a b pos) (cy tc t u):=by
 intro pq s σ H D I h;refine wpAny_If (cW (hc pq s σ H _ I h) λd s1 ⟨H1,I1,q1⟩=>?_)
 cases d with
 | true=>exact ha pq s1 σ H1 D I1 q1
 | false=>exact hb pq s1 σ H1 D I1 q1
def Oc:TS:=λ_ _ _=>False
def wU{sts:List Stmt}:wO X sts Oc:=λ_ _ _ _ _ _ h=>h.elim
end
abbrev TG:=V->St->Hp->(St->Hp->Prop)->Prop
abbrev KY:=List V->St->Hp->(St->Hp->Prop)->Prop
def PG(X:Cx)(target:Expr)(t:TG):Prop :=
 ∀(pq:aV) (s:Shared) (σ:St) (H:Hp) (v:V) (u:Value) (Q:St->Hp->Prop),Inv X pq σ H s->RelV v u->t v σ H Q->
  wpAny (model X.prog X.w) X.A (assign target X.env u) (λ_ s'=>∃σ' H',Inv X pq σ' H' s'/\Q σ' H') X.xe s
def Qo(X:Cx)(ts:List Expr)(t:KY):Prop :=
 ∀(pq:aV) (s:Shared) (σ:St) (H:Hp) (vs:List V) (us:List Value) (Q:St->Hp->Prop),Inv X pq σ H s->Vals vs us->t vs σ H Q->
  wpAny (model X.prog X.w) X.A (assignInOrder ((assignEach ts X.env).map (·.2)) us) (λ_ s'=>∃σ' H',Inv X pq σ' H' s'/\Q σ' H') X.xe s
abbrev HA:=V->V->V->Hp->(Hp->Prop)->Prop
def Od(X:Cx)(t:HA):Prop :=
 ∀(pq:aV) (s:Shared) (σ:St) (H:Hp) (o i v:V) (ov iv u:Value) (Q:Hp->Prop),Inv X pq σ H s->RelV o ov->RelV i iv->RelV v u->t o i v H Q->
  wpAny (model X.prog X.w) X.A (setItem ov iv u) (λ_ s'=>∃H',Inv X pq σ H' s'/\Q H') X.xe s
abbrev Q9:=V->V->Hp->VK->Prop
def W6(X:Cx)(op:Operator)(t:Q9):Prop :=
 ∀(pq:aV) (s:Shared) (σ:St) (H:Hp) (x y:V) (v u:Value) (Q:VK),Inv X pq σ H s->RelV x v->RelV y u->t x y H Q->
  wpAny (model X.prog X.w) X.A (inplaceOp op v u) (EP X pq σ Q) X.xe s
section
variable {X:Cx}{pos:Pos}
def D6(i:Nat):TG:=λv σ H Q=>Q (σ.set i (some v)) H
def yi{i:Nat}{x:Str}(hN:X.N.Nodup)(hi:X.N[i]?=some x)(hx:Loc X.env.scope x)(hf:X.fn x=true\/X.env.scope.names.lookup x=some .local:=by first | exact .inl rfl | exact .inr rfl | assumption):PG X (.Name x pos) (D6 i):=by
 intro pq s σ H v u Q I r h;exact wpAny_assign_Name (oG I hN hi hx r (λs' I'=>⟨_,H,I',h⟩) hf)
def UI:KY:=λvs σ H Q=>vs=[]/\Q σ H
def Ra(t:TG)(u:KY):KY:=λvs σ H Q=>∃v r,vs=v::r/\t v σ H λσ' H'=>u r σ' H' Q
def fN:Qo X [] UI:=by
 intro pq s σ H vs us Q I r h;obtain⟨e,h⟩:=h;subst e;cases r;exact assignInOrder_nil ⟨σ,H,I,h⟩
def aW{e:Expr}{es:List Expr}{t:TG}{u:KY}(h1:PG X e t)(h2:Qo X es u)
 (hs:(assignEach (e::es) X.env).map (·.2)=assign e X.env::(assignEach es X.env).map (·.2):=by rfl):Qo X (e::es) (Ra t u):=by
 intro pq s σ H vs us Q I r h;obtain⟨v,vr,e1,h⟩:=h;subst e1;cases r with
 | cons r rr =>
   rw[hs];refine assignInOrder_cons (cW (h1 pq s σ H _ _ _ I r h) λ_ s1 ⟨σ1,H1,I1,q1⟩=>?_)
   exact h2 pq s1 σ1 H1 _ _ Q I1 rr q1
def Rb(K:bM)(n:Nat)(t:KY):TG:=λv σ H Q=>∃a xs,v = .ref a/\bg K H a xs/\xs.length=n/\t xs σ H Q
def Oe{es:List Expr}{k:Nat}{t:KY}{n:Nat}(hc:X.calm=true)(h:Qo X es t)
 (hn:(assignEach es X.env).length=n:=by rfl) (hst:(assignEach es X.env).findIdx? (·.1)=none:=by rfl):PG X (.Tuple es k pos) (Rb X.K n t):=by
 intro pq s σ H v u Q I r hw;obtain⟨a,xs,e1,hq,hl,hw⟩:=hw;subst e1;cases r;obtain⟨its,rv,ht,hz⟩:=I.tuple hq;refine assign_Tuple_tuple (I.ok.hd hc) ht (by simp[hn,<-hl,rv.length]) hst λh' hx=>?_
 have I1:Inv X pq σ H { s with heap:=h'}:=I.kept (t':=s.toks) λb o e=>hx b o (aaK (aaq e)) e
 exact h pq _ σ H xs _ Q I1 (by simpa using rv) hw
def UJ(to ti:TE)(t:HA):TG:=λv σ H Q=>to σ H λo H1=>ti σ H1 λi H2=>t o i v H2 λH3=>Q σ H3
def yj{o i:Expr}{to ti:TE}{t:HA}(ho:PE X o to)(hi:PE X i ti)(hs:Od X t)
 (ha:∀v,assign (.Subscript o i pos) X.env v=(do
  let ov←holding [v] (eval o X.env)
  let iv←holding [v,ov] (eval i X.env)
  standAt pos
  holding [v,ov,iv] (setItem ov iv v)
  release [v,ov,iv] []):=by intro _;rfl):PG X (.Subscript o i pos) (UJ to ti t):=by
 intro pq s σ H v u Q I r h;rw[ha];refine aS (aaX (cW (ho pq s σ H _ I h) λov s1 ⟨x,H1,I1,r1,q1⟩=>?_))
 refine aS (aaX (cW (hi pq s1 σ H1 _ I1 q1) λiv s2 ⟨y,H2,I2,r2,q2⟩=>?_))
 refine aS (wpAny_standAt (aS (aaX (cW (hs pq s2 σ H2 x y v ov iv u _ I2 r1 r2 r q2) λ_ s3 ⟨H3,I3,q3⟩=>?_))))
 exact wpAny_release ⟨σ,H3,I3,q3⟩
def Rc(te:TE)(g:TG):TS:=λD σ H=>te σ H λx H1=>g x σ H1 D.nx
def yk{tg e:Expr}{te:TE}{g:TG}(he:PE X e te)(hg:PG X tg g)(hs:swapsWithSole [tg] e pos.line X.env=pure false:=by rfl)(hw:swappedStores [tg] e X.env=pure none:=by rfl)
 (h1:(assignEach [tg] X.env).map (·.2)=[assign tg X.env]:=by rfl):PS X (.Assign [tg] e pos) (Rc te g):=by
 intro pq s σ H D I h;refine wpAny_Assign_stores (cW (he pq s σ H _ I h) λv s1 ⟨x,H1,I1,r1,q1⟩=>?_) hs hw
 rw[h1];exact cW (hg pq s1 σ H1 x v _ I1 r1 q1) λ_ s2 q=>q
def aG{i:Nat}{x:Str}{e:Expr}{te:TE}{pos' : Pos}(hN:X.N.Nodup)(hi:X.N[i]?=some x)(hx:Loc X.env.scope x)(he:PE X e te)(hs:swapsWith e (some (.Name x pos')) pos.line X.env=pure false:=by rfl)(hf:X.fn x=true\/X.env.scope.names.lookup x=some .local:=by first | exact .inl rfl | exact .inr rfl | assumption):
 PS X (.Assign [.Name x pos'] e pos) (Rc te (D6 i)):=by
 intro pq s σ H D I h;refine wpAny_Assign_Name (cW (he pq s σ H _ I h) λv s1 ⟨y,H1,I1,r1,q1⟩=>?_) hs
 exact oG I1 hN hi hx r1 (λs2 I2=>⟨_,H1,I2,q1⟩) hf
def UK(i:Nat)(te:TE)(ti:Q9):TS:=λD σ H=>∃x,σ[i]?=some (some x)/\te σ H λy H1=>ti x y H1 λz H2=>D.nx (σ.set i (some z)) H2
def HB{i:Nat}{x:Str}{e:Expr}{te:TE}{op:Operator}{ti:Q9}{pos' : Pos}(hN:X.N.Nodup)(hi:X.N[i]?=some x)(hx:Loc X.env.scope x)(he:PE X e te)(ho:W6 X op ti)(hf:X.fn x=true\/X.env.scope.names.lookup x=some .local:=by first | exact .inl rfl | exact .inr rfl | assumption):
 PS X (.AugAssign (.Name x pos') op e pos) (UK i te ti):=by
 intro pq s σ H D I h;obtain⟨v,e1,h⟩:=h;obtain⟨m,hn,hl⟩:=I.loc;have Zl:TF X.env.scope x:=by rcases hx with k | k;exact .inl k;exact .inr (.inl k)
 obtain⟨u,r,l⟩:=hl i x v hi e1 Zl;refine wpAny_AugAssign_Name ?_;have go:wpAny (model X.prog X.w) X.A (eval e X.env) (λw s₂=>wpAny (model X.prog X.w) X.A (inplaceOp op u w) (λr s₃=>wpAny (model X.prog X.w) X.A (storeName X.env x r) (λ_=>SP X pq D .next) X.xe s₃) X.xe s₂) X.xe s:=by
  refine cW (he pq s σ H _ I h) λw s1 ⟨y,H1,I1,r1,q1⟩=>?_
  refine cW (ho pq s1 σ H1 v y u w _ I1 r r1 q1) λz s2 ⟨zv,H2,I2,r2,q2⟩=>?_
  exact oG I2 hN hi hx r2 (λs3 I3=>⟨_,H2,I3,q2⟩) hf
 rcases l with⟨hk,hm⟩|⟨hk,c,hc,hcell⟩
 ·exact wpAny_loadName_local I.ok.kind hk hn hm go
 ·rcases hk with hk|hk
  ·exact wpAny_loadName_cell I.ok.kind hk hc hcell go
  ·rcases hx with k|k
   ·have:X.env.scope.names.lookup x=some .free:=hk;rw[k]at this;cases this
   ·have:X.env.scope.names.lookup x=some .free:=hk;rw[k]at this;cases this
def Rf(to ti te:TE)(Lh:V->V->Hp->VK->Prop)(TN:Q9)(Li:HA):TS:=λD σ H=>to σ H λo H1=>ti σ H1 λi H2=>Lh o i H2 λx H3=>te σ H3 λy H4=>TN x y H4 λz H5=>Li o i z H5 λH6=>D.nx σ H6
def Rg(X:Cx)(t:V->V->Hp->VK->Prop):Prop :=
 ∀(pq:aV) (s:Shared) (σ:St) (H:Hp) (o i:V) (ov iv:Value) (Q:VK),Inv X pq σ H s->RelV o ov->RelV i iv->t o i H Q->
  wpAny (model X.prog X.w) X.A (getItem ov iv) (EP X pq σ Q) X.xe s
def D7{o i e:Expr}{to ti te:TE}{Lh:V->V->Hp->VK->Prop}{TN:Q9}{Li:HA}{op:Operator}{tpos:Pos}(ho:PE X o to)(hi:PE X i ti)(hg:Rg X Lh)(he:PE X e te)(hp:W6 X op TN)(hs:Od X Li)
 (ha:∀ov iv new,augStore i ov iv new=(do holding [new,ov,iv] (setItem ov iv new);release [new,ov,iv] [];pure .next):=by intros;rfl):PS X (.AugAssign (.Subscript o i tpos) op e pos) (Rf to ti te Lh TN Li):=by
 intro pq s σ H D I h;refine wpAny_AugAssign_SubscriptAny (cW (ho pq s σ H _ I h) λov s1 ⟨x1,H1,I1,r1,q1⟩=>?_) ha
 refine cW (hi pq s1 σ H1 _ I1 q1) λiv s2 ⟨x2,H2,I2,r2,q2⟩=>?_
 refine cW (hg pq s2 σ H2 x1 x2 ov iv _ I2 r1 r2 q2) λold s3 ⟨x3,H3,I3,r3,q3⟩=>?_
 refine cW (he pq s3 σ H3 _ I3 q3) λv s4 ⟨x4,H4,I4,r4,q4⟩=>?_
 refine cW (hp pq s4 σ H4 x3 x4 old v _ I4 r3 r4 q4) λnew s5 ⟨x5,H5,I5,r5,q5⟩=>?_
 exact cW (hs pq s5 σ H5 x1 x2 x5 ov iv new _ I5 r1 r2 r5 q5) λ_ s6 ⟨H6,I6,q6⟩=>⟨σ,H6,I6,q6⟩
def tH(c:TT)(tb:TS):TS:=λD σ H=>∃W:Nat->St->Hp->Prop,(∃m,W m σ H)/\∀m σ H,W m σ H->
 c σ H λb H1=>if b=true then ∃N:St->Hp->Prop,(∀σ' H',N σ' H'->∃m',m'<m/\W m' σ' H')/\tb { D with nx:=N,ct:=N,bk:=D.nx} σ H1 else D.nx σ H1
def zV{c:Expr}{body:List Stmt}{tc:TT}{tb:TS}(hp:PassesOwn (model X.prog X.w) X.A X.env X.xe)(hc:PT X c tc)(hb:wO X body tb):PS X (.While c body [] pos) (tH tc tb):=by
 intro pq s σ H D I h;obtain⟨W,⟨m0,w0⟩,turn⟩:=h;refine wpAny_While (codeAny_whileLoop (λn s'=>∃σ' H',Inv X pq σ' H' s'/\W n σ' H') ?_ m0 ⟨σ,H,I,w0⟩)
 rintro n s1 ⟨σ1,H1,I1,w1⟩;refine wpAny_passesOwn hp (cW (hc pq s1 σ1 H1 _ I1 (turn n σ1 H1 w1)) λb s2 ⟨H2,I2,q2⟩=>?_)
 cases b with
 | true =>
   obtain⟨N,hN,q2⟩:=q2;rw[aad rfl];refine wpAny_passesOwn hp (cW (hb pq s2 σ1 H2 _ I2 q2) λf s3 q3=>?_)
   cases f with
   | next =>
     obtain⟨σ3,H3,I3,n3⟩:=q3;obtain⟨m',hm,w3⟩:=hN σ3 H3 n3;exact⟨m',hm,σ3,H3,I3,w3⟩
   | cont =>
     obtain⟨σ3,H3,I3,n3⟩:=q3;obtain⟨m',hm,w3⟩:=hN σ3 H3 n3;exact⟨m',hm,σ3,H3,I3,w3⟩
   | brk=>exact q3
   | ret v=>exact q3
 | false =>
   rw[aab aal];exact wpAny_execs_nil ⟨σ1,H2,I2,q2⟩
end
structure It where
 go:Nat->Hp->Prop
 KZ:Nat->Hp->V->Hp->Prop
 stop:Nat->Hp->Prop
def nS(X:Cx)(pq:aV)(H:Hp)(b:Addr):Prop :=
 H b=none/\b≠X.env.locals/\b∉X.fs/\(b∈X.ex\/X.s₀.heap.objs.size<=b)/\(∀x c,X.env.cells.lookup x=some c->c≠b)/\∀p∈X.pn++pq,p.1≠b
def Inv.zW{X:Cx}{pq:aV}{σ:St}{H H' : Hp}{s:Shared}{b:Addr}(I:Inv X pq σ H s)(hb:s.heap.objs.size<=b)(hn:H' b=none):nS X pq H' b:=by
 refine⟨hn,abS (aaj I.lt hb),I.Q4 hb,.inr (aaD I.sz hb),λx c e z=>?_,λp hp z=>?_⟩
 ·obtain⟨v,q⟩:=I.cell x c e;exact absurd (aaj q.lt (by rw[z];exact hb)) (abr _)
 ·exact absurd (aaj (aaq (I.pin p hp).1) (by rw[z];exact hb)) (abr _)
structure Turn(P:Program)(w:World)(K:bM)(tg:Expr)(J:It)(fp:List Addr)(it:Addr)(tn:Nat->Heap->Prop):Prop where
 mem:it∈fp
 obj:∀i h,tn i h->∀b∈fp,∃o,h.get? b=some o/\∀v,o.data≠.cell v
 keep:∀i h h',tn i h->(∀b∈fp,∀o,h.get? b=some o->h'.get? b=some o)->tn i h'
 item:∀(X:Cx),X.prog=P->X.w=w->X.K=K->X.calm=true->∀(i:Nat) (pq:aV) (s:Shared) (σ:St) (H:Hp) (E:di),Inv X pq σ H s->(∀b∈fp,nS X pq H b)->tn i s.heap->J.go i H->
  wpAny (model P w) X.A (pyNext (.ref it)) (λr s1=>∃u,r=some u/\
   wpAny (model P w) X.A (letOwnedTupleGo tg (.ref it) u) (λ_ s2=>∃x H',Inv X pq σ H' s2/\RelV x u/\J.KZ i H x H'/\tn (i+1) s2.heap/\∀b∈fp,H' b=none) E s1) E s
 done:∀(X:Cx),X.prog=P->X.w=w->X.K=K->X.calm=true->∀(i:Nat) (pq:aV) (s:Shared) (σ:St) (H:Hp) (E:di),Inv X pq σ H s->(∀b∈fp,nS X pq H b)->tn i s.heap->J.stop i H->
  wpAny (model P w) X.A (pyNext (.ref it)) (λr s1=>r=none/\Inv X pq σ H s1) E s
 self:∀(A:Around) (i:Nat) (s:Shared) (Q:di) (E:di),tn i s.heap->Q (.ref it) s->wpAny (model P w) A (pyIter (.ref it)) Q E s
abbrev TI:=St->Hp->(It->Hp->Prop)->Prop
def UL(X:Cx)(pq:aV)(σ:St)(tg:Expr)(R:It->Hp->Prop)(itv:Value)(s2:Shared):Prop :=
 ∃(it:Addr) (fp:List Addr) (tn:Nat->Heap->Prop) (J:It) (H' : Hp),itv = .ref it/\Inv X pq σ H' s2/\Turn X.prog X.w X.K tg J fp it tn/\tn 0 s2.heap/\(∀b∈fp,nS X pq H' b)/\R J H'
def PI(X:Cx)(tg iter:Expr)(wi:TI):Prop :=
 ∀(pq:aV) (s:Shared) (σ:St) (H:Hp) (R:It->Hp->Prop),Inv X pq σ H s->wi σ H R->
  wpAny (model X.prog X.w) X.A (eval iter X.env) (λv s1=>wpAny (model X.prog X.w) X.A (pyIter v) (UL X pq σ tg R) X.xe s1) X.xe s
def D8{M:Model}{A:Around}{E:di}{s:Shared}{tg:Expr}{it:Addr}{u:Value}{o:Obj}{n:String}{vs:Array Value}{Q:Unit->Shared->Prop}(ho:s.heap.get? it=some o)(hc:o.cls = .type n)(hd:o.data = .fields vs)
 (hn:["enumerate","zip","dict_itemiterator","dict_reverseitemiterator","odict_iterator","itertools.zip_longest","itertools.pairwise"].contains n=false) (hQ:Q () s):wpAny M A (letOwnedTupleGo tg (.ref it) u) Q E s:=by
 unfold letOwnedTupleGo;cases tg<;>first
  | exact aag hQ
  | (cases u<;>first
   | exact aag hQ
   | (refine aS (wpAny_load ho ?_)
      rw[hc,hd];show wpAny M A (if(["enumerate","zip","dict_itemiterator","dict_reverseitemiterator","odict_iterator","itertools.zip_longest","itertools.pairwise"].contains n&&vs[0]? == some (rawInt _))=true then _ else _) Q E s
      rw[aab (by intro h;rw[hn,ach]at h;cases h)]
      exact aag hQ))
def Lj(K:bM)(a:Addr):It :=
 ⟨λi H=>∃xs x,aL K H a xs/\xs[i]?=some x,λi H x H'=>H' = H/\∀xs,aL K H a xs->xs[i]?=some x,λi H=>∃xs,aL K H a xs/\xs.length<=i⟩
def Qp(K:bM)(a:Addr):It :=
 ⟨λi H=>∃xs x,bg K H a xs/\xs[i]?=some x,λi H x H'=>H' = H/\∀xs,bg K H a xs->xs[i]?=some x,λi H=>∃xs,bg K H a xs/\xs.length<=i⟩
def HC(lo:Int)(n:Nat):It:=⟨λi _=>i<n,λi H x H'=>H' = H/\x = .int (lo+i),λi _=>n<=i⟩
def Fi{P:Program}{w:World}{K:bM}{tg:Expr}(a it:Addr):Turn P w K tg (Lj K a) [it] it (λi h=>h.IsListIter it a i) where
 mem:=by simp
 obj:=λi h st b hb=>by
  have e:b=it:=by simpa using hb
  subst e;obtain⟨o,e,c,d⟩:=st;exact⟨o,e,λv z=>by rw[d]at z;cases z⟩
 keep:=λi h h' st k=>st.at λo e=>k it (by simp) o e
 item:=by
  intro X hP hw hK hc i pq s σ H E I hf st hg;subst hP hw hK;obtain⟨xs,x,hq,hx⟩:=hg;obtain⟨its,rv,p,hz⟩:=I.list hq;obtain⟨u,hu,ru⟩:=rv.get hx;obtain⟨f0,f1,f2,f3,f4,f5⟩:=hf it (by simp)
  refine wpAny_pyNext_list_item st p.isList (x:=u) (by simpa using hu) λh' st' sb=>?_
  have I1:Inv X pq σ H { s with heap:=h'}:=I.turned (t':=s.toks) (λb o hb e=>(sb.2 b hb).trans e) f0 f1 f3 f4 f5
  obtain⟨o,e,c,d⟩:=id st';exact⟨u,rfl,D8 (s:={ s with heap:=h'}) e c d (by decide) ⟨x,H,I1,ru,⟨rfl,λys hy=>by rw[I.oH hy hq];exact hx⟩,st',λb hb=>(hf b hb).1⟩⟩
 done:=by
  intro X hP hw hK hc i pq s σ H E I hf st hg;subst hP hw hK;obtain⟨xs,hq,hx⟩:=hg;obtain⟨its,rv,p,hz⟩:=I.list hq;obtain⟨f0,f1,f2,f3,f4,f5⟩:=hf it (by simp)
  have hl:=rv.length;exact wpAny_pyNext_list_end (I.ok.hd hc) st p.isList (by simp;lia) λh' eb=>⟨rfl,I.turned (t':=s.toks) (λb o hb e=>eb b o hb e) f0 f1 f3 f4 f5⟩
 self:=λ_ _ _ _ _ st h=>wpAny_pyIter_listiter st h
def Ct{P:Program}{w:World}{K:bM}{tg:Expr}(a it:Addr):Turn P w K tg (Qp K a) [it] it (λi h=>h.IsTupleIter it a i) where
 mem:=by simp
 obj:=λi h st b hb=>by
  have e:b=it:=by simpa using hb
  subst e;obtain⟨o,e,c,d⟩:=st;exact⟨o,e,λv z=>by rw[d]at z;cases z⟩
 keep:=λi h h' st k=>st.at λo e=>k it (by simp) o e
 item:=by
  intro X hP hw hK hc i pq s σ H E I hf st hg;subst hP hw hK;obtain⟨xs,x,hq,hx⟩:=hg;obtain⟨its,rv,p,hz⟩:=I.tuple hq;obtain⟨u,hu,ru⟩:=rv.get hx;obtain⟨f0,f1,f2,f3,f4,f5⟩:=hf it (by simp)
  refine wpAny_pyNext_tuple_item st (show s.heap.IsTuple a its.toArray from p) (x:=u) (by simpa using hu) λh' st' sb=>?_
  have I1:Inv X pq σ H { s with heap:=h'}:=I.turned (t':=s.toks) (λb o hb e=>(sb.2 b hb).trans e) f0 f1 f3 f4 f5
  obtain⟨o,e,c,d⟩:=id st';exact⟨u,rfl,D8 (s:={ s with heap:=h'}) e c d (by decide) ⟨x,H,I1,ru,⟨rfl,λys hy=>by rw[I.wR hy hq];exact hx⟩,st',λb hb=>(hf b hb).1⟩⟩
 done:=by
  intro X hP hw hK hc i pq s σ H E I hf st hg;subst hP hw hK;obtain⟨xs,hq,hx⟩:=hg;obtain⟨its,rv,p,hz⟩:=I.tuple hq;obtain⟨f0,f1,f2,f3,f4,f5⟩:=hf it (by simp)
  have hl:=rv.length;exact wpAny_pyNext_tuple_end (I.ok.hd hc) st (show s.heap.IsTuple a its.toArray from p) (by simp;lia) λh' eb=>⟨rfl,I.turned (t':=s.toks) (λb o hb e=>eb b o hb e) f0 f1 f3 f4 f5⟩
 self:=λ_ _ _ _ _ st h=>wpAny_pyIter_tupleiter st h
def Cu{P:Program}{w:World}{K:bM}{tg:Expr}(it:Addr)(lo:Int)(n:Nat):Turn P w K tg (HC lo n) [it] it (λi h=>IsRangeIter h it (lo+(i:Nat)*1) ((n:Int)-(i:Nat)) 1) where
 mem:=by simp
 obj:=λi h st b hb=>by
  have e:b=it:=by simpa using hb
  subst e;exact⟨_,st,λv z=>by
   have z' : Data.fields _=Data.cell v:=z;cases z'⟩
 keep:=λi h h' st k=>k it (by simp) _ st
 item:=by
  intro X hP hw hK hc i pq s σ H E I hf st hg;subst hP hw hK;obtain⟨f0,f1,f2,f3,f4,f5⟩:=hf it (by simp)
  have W:=Walks.range (prog:=X.prog) (w:=X.w) (I.ok.hd hc) it lo 1 n;refine W.item i s _ _ hg st λv h' tk hv st' kk=>?_
  obtain⟨t,rfl⟩:=hv;have I1:Inv X pq σ H { s with heap:=h',toks:=tk}:=I.turned (λb o hb e=>kk b o (by simpa using hb) e) f0 f1 f3 f4 f5
  refine⟨_,rfl,D8 (s:={ s with heap:=h',toks:=tk}) (n:="range_iterator") st' rfl rfl (by decide) ⟨.int (lo+i),H,I1,⟨t,?_⟩,⟨rfl,rfl⟩,st',λb hb=>(hf b hb).1⟩⟩
  rw[adz]
 done:=by
  intro X hP hw hK hc i pq s σ H E I hf st hg;subst hP hw hK;obtain⟨f0,f1,f2,f3,f4,f5⟩:=hf it (by simp)
  exact wpAny_pyNext_range_end (I.ok.hd hc) st (by have:n<=i:=hg;lia) λh' eb=>⟨rfl,I.turned (t':=s.toks) (λb o hb e=>eb b o hb e) f0 f1 f3 f4 f5⟩
 self:=λ_ _ _ _ _ st h=>wpAny_pyIter_rangeiter st h
section
variable {X:Cx}{tg:Expr}
def Ni(K:bM)(tl:TE):TI:=λσ H R=>tl σ H λx H1=>∃a,x = .ref a/\(∃xs,aL K H1 a xs)/\R (Lj K a) H1
def Rh(K:bM)(tl:TE):TI:=λσ H R=>tl σ H λx H1=>∃a,x = .ref a/\(∃xs,bg K H1 a xs)/\R (Qp K a) H1
def Ll{l:Expr}{tl:TE}(hl:PE X l tl):PI X tg l (Ni X.K tl):=by
 intro pq s σ H R I h;refine cW (hl pq s σ H _ I h) λv s1 ⟨x,H1,I1,r1,q1⟩=>?_
 obtain⟨a,e,⟨xs,hq⟩,q⟩:=q1;subst e;cases r1;obtain⟨its,rv,p,hz⟩:=I1.list hq;refine wpAny_pyIter_list p.isList ?_;refine⟨s1.heap.objs.size,[s1.heap.objs.size],_,_,H1,rfl,I1.kept (t':=s1.toks) λb o e=>aai _ e,Fi a _,⟨_,aaB _ rfl,rfl,rfl⟩,λb hb=>?_,q⟩
 have e:b=s1.heap.objs.size:=by simpa using hb
 subst e;exact I1.zW (aae _) (I1.hok.fresh (aae _))
def Of{l:Expr}{tl:TE}(hl:PE X l tl):PI X tg l (Rh X.K tl):=by
 intro pq s σ H R I h;refine cW (hl pq s σ H _ I h) λv s1 ⟨x,H1,I1,r1,q1⟩=>?_
 obtain⟨a,e,⟨xs,hq⟩,q⟩:=q1;subst e;cases r1;obtain⟨its,rv,p,hz⟩:=I1.tuple hq;refine wpAny_pyIter_tuple (show s1.heap.IsTuple a its.toArray from p) ?_
 refine⟨s1.heap.objs.size,[s1.heap.objs.size],_,_,H1,rfl,I1.kept (t':=s1.toks) λb o e=>aai _ e,Ct a _,⟨_,aaB _ rfl,rfl,rfl⟩,λb hb=>?_,q⟩
 have e:b=s1.heap.objs.size:=by simpa using hb
 subst e;exact I1.zW (aae _) (I1.hok.fresh (aae _))
def zX{pq:aV}{σ:St}{H:Hp}{s:Shared}{R:It->Hp->Prop}{E:di}{lo hi:Int}{t u v:Tok}{tk:Nat}(I:Inv X pq σ H s)(h1 : -(2^62)<=lo)(h2:lo<2^62)(h3 : -(2^62)<=hi)(h4:hi<2^62)
 (q:R (HC lo (hi-lo).toNat) H):wpAny (model X.prog X.w) X.A (pyIter (.ref s.heap.objs.size)) (UL X pq σ tg R) E { s with heap:=s.heap.push { cls:=.type "range",data:=.fields #[.int lo t,.int hi u,.int 1 v]},toks:=tk}:=by
 refine wpAny_pyIter_range (IsRange.new ..) (small_one h1 h2 h3 h4) ?_;have I1:Inv X pq σ H { s with heap:=s.heap.push { cls:=.type "range",data:=.fields #[.int lo t,.int hi u,.int 1 v]},toks:=tk}:=I.kept λb o e=>aai _ e
 refine⟨(s.heap.push { cls:=.type "range",data:=.fields #[.int lo t,.int hi u,.int 1 v]}).objs.size,[(s.heap.push { cls:=.type "range",data:=.fields #[.int lo t,.int hi u,.int 1 v]}).objs.size],_,_,H,rfl,
  I1.kept (t':=tk) λb o e=>aai _ e,Cu _ lo (hi-lo).toNat,?_,λb hb=>?_,q⟩
 ·have e1:lo+((0:Nat):Int)*1=lo:=by simp
  have e2:(((hi-lo).toNat:Nat):Int)-((0:Nat):Int)=Builtin.Range.rangeSize lo hi 1:=by rw[rangeSize_one];split<;>lia
  show IsRangeIter _ _ (lo+((0:Nat):Int)*1) ((((hi-lo).toNat:Nat):Int)-((0:Nat):Int)) 1;rw[e1,e2];exact aaB _ rfl
 ·have e:b=(s.heap.push { cls:=.type "range",data:=.fields #[.int lo t,.int hi u,.int 1 v]}).objs.size:=by simpa using hb
  subst e;exact I1.zW (aae _) (I1.hok.fresh (aae _))
def Ri(ta:TA):TI:=λσ H R=>ta σ H λvs H1=>∃j:Int,vs=[.int j]/\-(2^62)<=j/\j<2^62/\R (HC 0 j.toNat) H1
def Rj(ta:TA):TI:=λσ H R=>ta σ H λvs H1=>∃i j:Int,vs=[.int i,.int j]/\(-(2^62)<=i/\i<2^62/\-(2^62)<=j/\j<2^62)/\R (HC i (j-i).toNat) H1
def bU{a:Expr}{ta:TA}{p pos:Pos}(hg:Gl X "range")(hm:X.mg "range"=none)(ha:PA X [a] ta)(hs:starEach [a] X.env=[(false,eval a X.env)]:=by rfl):PI X tg (.Call (.Name "range" p) [a] [] pos) (Ri ta):=by
 intro pq s σ H R I h;refine Call_ (jD I hg hm boot_range (abp (cW (ha pos pq s σ H _ I h) λus s1 ⟨vs,H1,I1,r1,q1⟩=>?_) hs rfl))
 obtain⟨j,e,q1,q2,q⟩:=q1;subst e;cases r1 with
 | cons r rr =>
   cases rr;obtain⟨t,rfl⟩:=r;exact call_range_1 (zX I1 (by lia) (by lia) q1 q2 (by simpa using q))
def wW{a b:Expr}{ta:TA}{p pos:Pos}(hg:Gl X "range")(hm:X.mg "range"=none)(ha:PA X [a,b] ta)(hs:starEach [a,b] X.env=[(false,eval a X.env),(false,eval b X.env)]:=by rfl)(hs2:starEach [b] X.env=[(false,eval b X.env)]:=by rfl):
 PI X tg (.Call (.Name "range" p) [a,b] [] pos) (Rj ta):=by
 intro pq s σ H R I h;refine Call_ (jD I hg hm boot_range (abp (cW (ha pos pq s σ H _ I h) λus s1 ⟨vs,H1,I1,r1,q1⟩=>?_) (by rw[hs,hs2]) (by rw[hs2];rfl)))
 obtain⟨i,j,e,⟨q1,q2,q3,q4⟩,q⟩:=q1;subst e;cases r1 with
 | cons r rr =>
   cases rr with
   | cons r' rr =>
     cases rr;obtain⟨t,rfl⟩:=r;obtain⟨t',rfl⟩:=r';exact call_range_2 (zX I1 q1 q2 q3 q4 q)
def eV(wi:TI)(g:TG)(tb:TS):TS:=λD σ H=>wi σ H λJ H1=>∃W:Nat->Nat->St->Hp->Prop,(∃m,W 0 m σ H1)/\∀i m σ H,W i m σ H->
 (J.stop i H/\D.nx σ H)\/(J.go i H/\∃N:St->Hp->Prop,(∀σ' H',N σ' H'->∃m',m'<m/\W (i+1) m' σ' H')/\∀x H',J.KZ i H x H'->g x σ H' λσ2 H2=>tb { D with nx:=N,ct:=N,bk:=D.nx} σ2 H2)
def pY(fp:List Addr)(h:Heap):aV:=fp.filterMap λb=>(h.get? b).map λo=>(b,o)
def gx{fp:List Addr}{h:Heap}{b:Addr}{o:Obj}(hb:b∈fp)(e:h.get? b=some o):(b,o)∈pY fp h:=acu.mpr ⟨b,hb,by rw[e];rfl⟩
def Fj{fp:List Addr}{h:Heap}{p:Addr×Obj}(hp:p∈pY fp h):p.1∈fp/\h.get? p.1=some p.2:=by
 obtain⟨b,hb,e⟩:=acu.mp hp;cases q:h.get? b with
 | none=>rw[q]at e;cases e
 | some o =>
   rw[q]at e;have e' : (b,o)=p:=Option.some.inj e;subst e';exact⟨hb,q⟩
def Inv.pinned{pq:aV}{σ:St}{H:Hp}{s:Shared}{fp:List Addr}(I:Inv X pq σ H s)(hf:∀b∈fp,nS X pq H b)(ho:∀b∈fp,∃o,s.heap.get? b=some o/\∀v,o.data≠.cell v):Inv X (pq++pY fp s.heap) σ H s :=
 I.fM λp hp=>(aaL.mp hp).elim (λz=>I.pin p (iB _ z)) λz=>by
  obtain⟨hb,e⟩:=Fj z;obtain⟨f0,f1,f2,_⟩:=hf p.1 hb;obtain⟨o,e',d⟩:=ho p.1 hb;rw[e]at e';cases e';exact⟨e,f0,f1,f2,d⟩
def Inv.iS{pq pl:aV}{σ:St}{H:Hp}{s:Shared}(I:Inv X (pq++pl) σ H s):Inv X pq σ H s:=I.fM λp hp=>I.pin p (iB _ (acO _ hp))
def fO{iter:Expr}{body:List Stmt}{wi:TI}{g:TG}{tb:TS}{pos:Pos}(hp:PassesOwn (model X.prog X.w) X.A X.env X.xe)(hc:X.calm=true)(hi:PI X tg iter wi)(hg:PG X tg g)(hb:wO X body tb)
 (hs:∀x,foldedSetIterable iter X.env x=pure x:=by intro _;rfl):PS X (.For tg iter body [] pos) (eV wi g tb):=by
 intro pq s σ H D I h;refine wpAny_For (cW (hi pq s σ H _ I h) λv s1 h1=>cW h1 λitv s2 h2=>?_) hs
 obtain⟨it,fp,tn,J,H2,e,I2,T,st2,f2,W,⟨m0,w0⟩,turn⟩:=h2;subst e;have Cv:∀{H' : Hp},(∀b∈fp,H' b=none)->∀b∈fp,nS X pq H' b:=λhn b hb=>⟨hn b hb,(f2 b hb).2⟩
 refine codeAny_forLoop_any (λn s'=>∃i σ' H',Inv X pq σ' H' s'/\tn i s'.heap/\(∀b∈fp,H' b=none)/\W i n σ' H') ?_ m0 ⟨0,σ,H2,I2,st2,λb hb=>(f2 b hb).1,w0⟩
 rintro n s3 ⟨i,σ3,H3,I3,st3,Nj,w3⟩;rcases turn i n σ3 H3 w3 with⟨stop,qn⟩|⟨go,N,hN,step⟩
 ·refine wpAny_passesOwn hp (cW (T.done X rfl rfl rfl hc i pq s3 σ3 H3 X.xe I3 (Cv Nj) st3 stop) λr s4 ⟨hr,I4⟩=>?_)
  subst hr;exact wpAny_execs_nil ⟨σ3,H3,I4,qn⟩
 ·refine wpAny_passesOwn hp (cW (T.item X rfl rfl rfl hc i pq s3 σ3 H3 X.xe I3 (Cv Nj) st3 go) λr s4 ⟨u,hr,h4⟩=>?_)
  subst hr;refine wpAny_passesOwn hp (cW h4 λ_ s5 ⟨x,H5,I5,r5,y5,HD,Rk⟩=>?_)
  have Rl:=I5.pinned (Cv Rk) (T.obj _ _ HD);refine wpAny_passesOwn hp (cW (hg _ s5 σ3 H5 x u _ Rl r5 (step x H5 y5)) λ_ s6 ⟨σ6,H6,I6,q6⟩=>?_)
  refine wpAny_passesOwn hp (cW (hb _ s6 σ6 H6 _ I6 q6) λf s7 q7=>?_)
  have again:∀{σ7:St} {H7:Hp},Inv X (pq++pY fp s5.heap) σ7 H7 s7->N σ7 H7->∃m,m<n/\∃i σ' H',Inv X pq σ' H' s7/\tn i s7.heap/\(∀b∈fp,H' b=none)/\W i m σ' H':=λ{σ7 H7} I7 n7=>by
   obtain⟨m',hm,w7⟩:=hN σ7 H7 n7;refine⟨m',hm,i+1,σ7,H7,I7.iS,T.keep _ _ _ HD λb hb o e=>(I7.pin (b,o) (iB _ (iB _ (gx hb e)))).1,λb hb=>?_,w7⟩
   obtain⟨o,e,d⟩:=T.obj _ _ HD b hb;exact(I7.pin (b,o) (iB _ (iB _ (gx hb e)))).2.1
  cases f with
  | next=>obtain⟨σ7,H7,I7,n7⟩:=q7;exact again I7 n7
  | cont=>obtain⟨σ7,H7,I7,n7⟩:=q7;exact again I7 n7
  | brk=>obtain⟨σ7,H7,I7,q7⟩:=q7;exact⟨σ7,H7,I7.iS,q7⟩
  | ret v=>obtain⟨x7,σ7,H7,I7,r7,q7⟩:=q7;exact⟨x7,σ7,H7,I7.iS,r7,q7⟩
end
def lS{K:bM}{a:Addr}{xs:List V}{g:TG}{tb:TS}{D:Ends}{σ:St}{H:Hp}(Pv:Nat->St->Hp->Prop)(h0:Pv 0 σ H)(hl:∀i σ H,i<=xs.length->Pv i σ H->aL K H a xs)
 (hs:∀i x σ H,xs[i]?=some x->Pv i σ H->g x σ H λσ2 H2=>tb { D with nx:=Pv (i+1),ct:=Pv (i+1),bk:=D.nx} σ2 H2) (hd:∀σ H,Pv xs.length σ H->D.nx σ H) :
 ∃W:Nat->Nat->St->Hp->Prop,(∃m,W 0 m σ H)/\∀i m σ H,W i m σ H->
   ((Lj K a).stop i H/\D.nx σ H)\/((Lj K a).go i H/\∃N:St->Hp->Prop,(∀σ' H',N σ' H'->∃m',m'<m/\W (i+1) m' σ' H')/\∀x H',(Lj K a).KZ i H x H'->g x σ H' λσ2 H2=>tb { D with nx:=N,ct:=N,bk:=D.nx} σ2 H2):=by
 refine⟨λi m σ H=>m=xs.length-i/\i<=xs.length/\Pv i σ H,⟨xs.length,by simp,aaN _,h0⟩,?_⟩
 rintro i m σ H ⟨rfl,hi,p⟩;have q:=hl i σ H hi p
 by_cases hlt:i<xs.length
 ·refine .inr ⟨⟨xs,xs[i],q,by simp[hlt]⟩,Pv (i+1),λσ' H' p'=>⟨xs.length-(i+1),by lia,rfl,hlt,p'⟩,λx H' y=>?_⟩
  obtain⟨e,y⟩:=y;subst e;exact hs i x σ _ (y xs q) p
 ·have e:i=xs.length:=by lia
  subst e;exact .inl ⟨⟨xs,q,aae _⟩,hd σ H p⟩
def Lm{K:bM}{a:Addr}{xs:List V}{g:TG}{tb:TS}{D:Ends}{σ:St}{H:Hp}(Pv:Nat->St->Hp->Prop)(h0:Pv 0 σ H)(hl:∀i σ H,i<=xs.length->Pv i σ H->bg K H a xs)
 (hs:∀i x σ H,xs[i]?=some x->Pv i σ H->g x σ H λσ2 H2=>tb { D with nx:=Pv (i+1),ct:=Pv (i+1),bk:=D.nx} σ2 H2) (hd:∀σ H,Pv xs.length σ H->D.nx σ H) :
 ∃W:Nat->Nat->St->Hp->Prop,(∃m,W 0 m σ H)/\∀i m σ H,W i m σ H->
   ((Qp K a).stop i H/\D.nx σ H)\/((Qp K a).go i H/\∃N:St->Hp->Prop,(∀σ' H',N σ' H'->∃m',m'<m/\W (i+1) m' σ' H')/\∀x H',(Qp K a).KZ i H x H'->g x σ H' λσ2 H2=>tb { D with nx:=N,ct:=N,bk:=D.nx} σ2 H2):=by
 refine⟨λi m σ H=>m=xs.length-i/\i<=xs.length/\Pv i σ H,⟨xs.length,by simp,aaN _,h0⟩,?_⟩
 rintro i m σ H ⟨rfl,hi,p⟩;have q:=hl i σ H hi p
 by_cases hlt:i<xs.length
 ·refine .inr ⟨⟨xs,xs[i],q,by simp[hlt]⟩,Pv (i+1),λσ' H' p'=>⟨xs.length-(i+1),by lia,rfl,hlt,p'⟩,λx H' y=>?_⟩
  obtain⟨e,y⟩:=y;subst e;exact hs i x σ _ (y xs q) p
 ·have e:i=xs.length:=by lia
  subst e;exact .inl ⟨⟨xs,q,aae _⟩,hd σ H p⟩
def mR{lo:Int}{n:Nat}{g:TG}{tb:TS}{D:Ends}{σ:St}{H:Hp}(Pv:Nat->St->Hp->Prop)(h0:Pv 0 σ H)
 (hs:∀i σ H,i<n->Pv i σ H->g (.int (lo+i)) σ H λσ2 H2=>tb { D with nx:=Pv (i+1),ct:=Pv (i+1),bk:=D.nx} σ2 H2) (hd:∀σ H,Pv n σ H->D.nx σ H) :
 ∃W:Nat->Nat->St->Hp->Prop,(∃m,W 0 m σ H)/\∀i m σ H,W i m σ H->
   ((HC lo n).stop i H/\D.nx σ H)\/((HC lo n).go i H/\∃N:St->Hp->Prop,(∀σ' H',N σ' H'->∃m',m'<m/\W (i+1) m' σ' H')/\∀x H',(HC lo n).KZ i H x H'->g x σ H' λσ2 H2=>tb { D with nx:=N,ct:=N,bk:=D.nx} σ2 H2):=by
 refine⟨λi m σ H=>m=n-i/\i<=n/\Pv i σ H,⟨n,by simp,aaN _,h0⟩,?_⟩
 rintro i m σ H ⟨rfl,hi,p⟩
 by_cases hlt:i<n
 ·refine .inr ⟨hlt,Pv (i+1),λσ' H' p'=>⟨n-(i+1),by lia,rfl,hlt,p'⟩,λx H' y=>?_⟩
  obtain⟨e,y⟩:=y;subst e y;exact hs i σ _ hlt p
 ·have e:i=n:=by lia
  subst e;exact .inl ⟨aae _,hd σ H p⟩
abbrev R2:=V->V->Hp->VK->Prop
def kG(X:Cx)(f:Value->Value->Sem Value)(r:R2):Prop :=
 ∀(pq:aV) (s:Shared) (σ:St) (H:Hp) (x y:V) (v u:Value) (Q:VK),Inv X pq σ H s->RelV x v->RelV y u->r x y H Q->
  wpAny (model X.prog X.w) X.A (f v u) (EP X pq σ Q) X.xe s
def UM(X:Cx)(f:Value->Sem Value)(r:V->Hp->VK->Prop):Prop :=
 ∀(pq:aV) (s:Shared) (σ:St) (H:Hp) (x:V) (v:Value) (Q:VK),Inv X pq σ H s->RelV x v->r x H Q->
  wpAny (model X.prog X.w) X.A (f v) (EP X pq σ Q) X.xe s
def gw(X:Cx)(f:Value)(r:List V->Hp->VK->Prop):Prop :=
 ∀(pq:aV) (s:Shared) (σ:St) (H:Hp) (xs:List V) (us:List Value) (Q:VK),Inv X pq σ H s->Vals xs us->r xs H Q->
  wpAny (model X.prog X.w) X.A (call f us) (EP X pq σ Q) X.xe s
def Qq(r:R2)(ta tb:TE):TE:=λσ H Q=>ta σ H λx H1=>tb σ H1 λy H2=>r x y H2 Q
def Zm(r:V->Hp->VK->Prop)(ta:TE):TE:=λσ H Q=>ta σ H λx H1=>r x H1 Q
def rI(C:Int->Int->Prop)(g:Int->Int->V):R2:=λx y H Q=>∃i j,x = .int i/\y = .int j/\C i j/\Q (g i j) H
def Hi(g:Int->Int->V):R2:=λx y H Q=>∃i j,x = .int i/\y = .int j/\Q (g i j) H
def rU(g:Int->V):V->Hp->VK->Prop:=λx H Q=>∃i,x = .int i/\Q (g i) H
section
variable {X:Cx}{a b c:Expr}{ta tb tc:TE}{pos:Pos}
def Og(ha:PE X a ta)(hb:PE X b tb){pq:aV}{s:Shared}{σ:St}{H:Hp}{R:V->V->Hp->Prop}(I:Inv X pq σ H s)
 (h:ta σ H λx H1=>tb σ H1 λy H2=>R x y H2) {Q:di} {f:Value->Value->Sem Value}
 (hf:∀v u s2 x y H2,Inv X pq σ H2 s2->RelV x v->RelV y u->R x y H2->wpAny (model X.prog X.w) X.A (f v u) Q X.xe s2) :
 wpAny (model X.prog X.w) X.A (eval a X.env) (λv s₁=>wpAny (model X.prog X.w) X.A (eval b X.env) (λu s₂=>wpAny (model X.prog X.w) X.A (f v u) Q X.xe s₂) X.xe s₁) X.xe s:=by
 refine cW (ha pq s σ H _ I h) λv s1 ⟨x,H1,I1,r1,q1⟩=>?_
 refine cW (hb pq s1 σ H1 _ I1 q1) λu s2 ⟨y,H2,I2,r2,q2⟩=>?_
 exact hf v u s2 x y H2 I2 r1 r2 q2
def aI{op:Operator}{r:R2}(ho:kG X (binaryOp op) r)(ha:PE X a ta)(hb:PE X b tb):PE X (.BinOp a op b pos) (Qq r ta tb):=by
 intro pq s σ H Q I h;exact wpAny_BinOp (Og ha hb I h λv u s2 x y H2 I2 rx ry q=>ho pq s2 σ H2 x y v u Q I2 rx ry q)
def HE{op:UnaryOp}{r:V->Hp->VK->Prop}(ho:UM X (unaryOp op) r)(ha:PE X a ta):PE X (.UnaryOp op a pos) (Zm r ta):=by
 intro pq s σ H Q I h;exact UnaryOp_ (cW (ha pq s σ H _ I h) λv s1 ⟨x,H1,I1,r1,q1⟩=>ho pq s1 σ H1 x v Q I1 r1 q1)
def Ln{f:Value->Value->Sem Value}{C:Int->Int->Prop}{g:Int->Int->Int}
 (rule:∀(i j:Int) (t u:Tok) (s:Shared) (Q:di) (E:di),C i j->Q (.int (g i j) s.toks) { s with toks:=s.toks+1}->wpAny (model X.prog X.w) X.A (f (.int i t) (.int j u)) Q E s) :
 kG X f (rI C λi j=>.int (g i j)):=by
 intro pq s σ H x y v u Q I rx ry h;obtain⟨i,j,rfl,rfl,hc,q⟩:=h;obtain⟨t,rfl⟩:=rx;obtain⟨t',rfl⟩:=ry;exact rule i j t t' s _ _ hc ⟨.int (g i j),H,I.tok _,⟨_,rfl⟩,q⟩
def Fl{f:Value->Value->Sem Value}{g:Int->Int->Int}
 (rule:∀(i j:Int) (t u:Tok) (s:Shared) (Q:di) (E:di),Q (.int (g i j) s.toks) { s with toks:=s.toks+1}->wpAny (model X.prog X.w) X.A (f (.int i t) (.int j u)) Q E s) :
 kG X f (Hi λi j=>.int (g i j)):=by
 intro pq s σ H x y v u Q I rx ry h;obtain⟨i,j,rfl,rfl,q⟩:=h;obtain⟨t,rfl⟩:=rx;obtain⟨t',rfl⟩:=ry;exact rule i j t t' s _ _ ⟨.int (g i j),H,I.tok _,⟨_,rfl⟩,q⟩
def Lp{f:Value->Value->Sem Value}{g:Int->Int->Bool}
 (rule:∀(i j:Int) (t u:Tok) (s:Shared) (Q:di) (E:di),Q (.bool (g i j)) s->wpAny (model X.prog X.w) X.A (f (.int i t) (.int j u)) Q E s) :
 kG X f (Hi λi j=>.bl (g i j)):=by
 intro pq s σ H x y v u Q I rx ry h;obtain⟨i,j,rfl,rfl,q⟩:=h;obtain⟨t,rfl⟩:=rx;obtain⟨t',rfl⟩:=ry;exact rule i j t t' s _ _ ⟨.bl (g i j),H,I,rfl,q⟩
def UN(i j:Int):Prop:=0<j/\j<1073741824
def Rm(i j:Int):Prop:=0<=j/\j<=1000000/\i.natAbs<2^64
def Oh(i j:Int):Prop:=(-(2^64)<i/\i<2^64)\/(-(2^64)<j/\j<2^64)
def Oh.ok{i j:Int}(h:Oh i j):IntMulOk i j:=by
 rcases h with⟨h1,h2⟩|⟨h1,h2⟩
 ·exact .of_left (intBits_le_64 h1 h2)
 ·exact .of_right (intBits_le_64 h1 h2)
def Cw(k:Nat):(0:Int)<=2^k:=by
 rw[two_pow_cast];exact Int.natCast_nonneg _
def dD:kG X (binaryOp .Add) (Hi λi j=>.int (i+j)):=Fl λ_ _ _ _ _ _ _ q=>add_int q
def nU:kG X (binaryOp .Sub) (Hi λi j=>.int (i-j)):=Fl λ_ _ _ _ _ _ _ q=>sub_int q
def yl:kG X (binaryOp .Mult) (rI Oh λi j=>.int (i*j)):=Ln λ_ _ _ _ _ _ _ hc q=>mul_int q hc.ok
def kL:kG X (binaryOp .FloorDiv) (rI UN λi j=>.int (i/j)):=Ln λi j _ _ _ _ _ hc q=>by
 have h1:(0:Int)<j:=hc.1;have h2:j<1073741824:=hc.2;exact floordiv_int (by lia) (by rw[Int.fdiv_eq_ediv_of_nonneg i (by lia)];exact q) (.inl (PyProof.noPylong_small (by lia)))
def eJ:kG X (binaryOp .Mod) (rI (λ_ j=>0<j) λi j=>.int (i%j)):=Ln λi j _ _ _ _ _ hc q=>by
 have h1:(0:Int)<j:=hc;exact mod_int' (by lia) (by rw[Int.fmod_eq_emod_of_nonneg i (by lia)];exact q)
def Oi:kG X (binaryOp .Pow) (rI Rm λi j=>.int (i^j.toNat)):=Ln λ_ _ _ _ _ _ _ hc q=>pow_int_small hc.1 hc.2.1 hc.2.2 q
def pZ:kG X (binaryOp .LShift) (rI Rm λi j=>.int (i*2^j.toNat)):=Ln λ_ _ _ _ _ _ _ hc q=>lshift_int_small hc.1 hc.2.1 hc.2.2 q
def Oj:kG X (binaryOp .RShift) (rI (λ_ j=>0<=j) λi j=>.int (i/2^j.toNat)):=Ln λi j _ _ _ _ _ hc q =>
 rshift_int hc (by rw[Int.fdiv_eq_ediv_of_nonneg i (Cw _)];exact q)
def HF:kG X (binaryOp .BitAnd) (Hi λi j=>.int (Builtin.bitAnd i j)):=Fl λ_ _ _ _ _ _ _ q=>and_int q
def iT:kG X (binaryOp .BitXor) (Hi λi j=>.int (Builtin.bitXor i j)):=Fl λ_ _ _ _ _ _ _ q=>xor_int q
def D9:kG X (inplaceOp .Add) (Hi λi j=>.int (i+j)):=Fl λ_ _ _ _ _ _ _ q=>iadd_int q
def HG:kG X (inplaceOp .BitOr) (Hi λi j=>.int (Builtin.bitOr i j)):=Fl λ_ _ _ _ _ _ _ q=>ior_int q
def Zn{f:Value->Sem Value}{g:Int->Int}
 (rule:∀(i:Int) (t:Tok) (s:Shared) (Q:di) (E:di),Q (.int (g i) s.toks) { s with toks:=s.toks+1}->wpAny (model X.prog X.w) X.A (f (.int i t)) Q E s) :
 UM X f (rU λi=>.int (g i)):=by
 intro pq s σ H x v Q I rx h;obtain⟨i,rfl,q⟩:=h;obtain⟨t,rfl⟩:=rx;exact rule i t s _ _ ⟨.int (g i),H,I.tok _,⟨_,rfl⟩,q⟩
def Cy:UM X (unaryOp .USub) (rU λi=>.int (-i)):=Zn λ_ _ _ _ _ q=>neg_int q
end
def Rn:V->V->Bool
 | .dS,.dS=>true | .dS,.int _=>true | .int _,.dS=>true | .dS,.bl _=>true | .bl _,.dS=>true | .dS,.str _=>true | .str _,.dS=>true
 | .int _,.int _=>true | .bl _,.bl _=>true | .str _,.str _=>true | .Hv _,.Hv _=>true
 | .int _,.str _=>true | .str _,.int _=>true | .bl _,.str _=>true | .str _,.bl _=>true
 | _,_=>false
def Zo:R2:=λx y H Q=>Rn x y=true/\Q (.bl (decide (x=y))) H
def Zp:R2:=λx y H Q=>Rn x y=true/\Q (.bl (!decide (x=y))) H
def Ea{i j:Int}:decide (V.int i=V.int j)=(i==j):=by
 rw[abt];simp
def HH{i j:Bool}:decide (V.bl i=V.bl j)=(i==j):=by
 rw[abt];simp
def Eb{i j:Str}:decide (V.str i=V.str j)=(i==j):=by
 rw[abt];simp
def Ec{i j:Array UInt8}:decide (V.Hv i=V.Hv j)=(i.toList==j.toList):=by
 rw[abt];cases i;cases j;simp
section
variable {X:Cx}{a b c:Expr}{ta tb tc:TE}{pos:Pos}
def bA{pq:aV}{σ:St}{H:Hp}{s:Shared}{Q:VK}{k k' : Bool}(I:Inv X pq σ H s)(q:Q (.bl k) H)(e:k=k'):EP X pq σ Q (.bool k') s:=by
 subst e;exact⟨.bl k,H,I,rfl,q⟩
def gX:kG X (compareOp .Eq) Zo:=by
 intro pq s σ H x y v u Q I rx ry h;obtain⟨hs,q⟩:=h;cases x with
 | dS =>
   cases rx;cases y with
   | dS=>cases ry;exact PySem.EqNone.eq_none_none (bA I q (by simp))
   | bl j=>cases ry;exact PySem.EqNone.eq_none_bool (bA I q (by simp))
   | int j=>obtain⟨t',rfl⟩:=ry;exact PySem.EqNone.eq_none_int (bA I q (by simp))
   | str j=>obtain⟨t',rfl⟩:=ry;exact PySem.EqNone.eq_none_str (bA I q (by simp))
   | _=>exact absurd (show false=true from hs) aal
 | bl i =>
   cases rx;cases y with
   | dS=>cases ry;exact PySem.EqNone.eq_bool_none (bA I q (by simp))
   | bl j=>cases ry;exact eq_bool (bA I q HH)
   | str j=>obtain⟨t',rfl⟩:=ry;exact PySem.EqMixed.eq_bool_str (bA I q (by simp))
   | _=>exact absurd (show false=true from hs) aal
 | int i =>
   obtain⟨t,rfl⟩:=rx;cases y with
   | dS=>cases ry;exact PySem.EqNone.eq_int_none (bA I q (by simp))
   | int j=>obtain⟨t',rfl⟩:=ry;exact eq_int (bA I q Ea)
   | str j=>obtain⟨t',rfl⟩:=ry;exact PySem.EqMixed.eq_int_str (bA I q (by simp))
   | _=>exact absurd (show false=true from hs) aal
 | str i =>
   obtain⟨t,rfl⟩:=rx;cases y with
   | dS=>cases ry;exact PySem.EqNone.eq_str_none (bA I q (by simp))
   | bl j=>cases ry;exact PySem.EqMixed.eq_str_bool (bA I q (by simp))
   | int j=>obtain⟨t',rfl⟩:=ry;exact PySem.EqMixed.eq_str_int (bA I q (by simp))
   | str j=>obtain⟨t',rfl⟩:=ry;exact eq_str (bA I q Eb)
   | _=>exact absurd (show false=true from hs) aal
 | Hv i =>
   obtain⟨t,rfl⟩:=rx;cases y with
   | Hv j=>obtain⟨t',rfl⟩:=ry;exact PySem.W.eq_bytes (bA I q Ec)
   | _=>exact absurd (show false=true from hs) aal
 | _=>cases y<;>exact absurd (show false=true from hs) aal
def tI:kG X (compareOp .NotEq) Zp:=by
 intro pq s σ H x y v u Q I rx ry h;obtain⟨hs,q⟩:=h;cases x with
 | dS =>
   cases rx;cases y with
   | dS=>cases ry;exact PySem.EqNone.ne_none_none (bA I q (by simp))
   | bl j=>cases ry;exact PySem.EqNone.ne_none_bool (bA I q (by simp))
   | int j=>obtain⟨t',rfl⟩:=ry;exact PySem.EqNone.ne_none_int (bA I q (by simp))
   | str j=>obtain⟨t',rfl⟩:=ry;exact PySem.EqNone.ne_none_str (bA I q (by simp))
   | _=>exact absurd (show false=true from hs) aal
 | bl i =>
   cases rx;cases y with
   | dS=>cases ry;exact PySem.EqNone.ne_bool_none (bA I q (by simp))
   | bl j=>cases ry;exact ne_bool (bA I q (abf not HH))
   | str j=>obtain⟨t',rfl⟩:=ry;exact PySem.EqMixed.ne_bool_str (bA I q (by simp))
   | _=>exact absurd (show false=true from hs) aal
 | int i =>
   obtain⟨t,rfl⟩:=rx;cases y with
   | dS=>cases ry;exact PySem.EqNone.ne_int_none (bA I q (by simp))
   | int j=>obtain⟨t',rfl⟩:=ry;exact ne_int (bA I q (abf not Ea))
   | str j=>obtain⟨t',rfl⟩:=ry;exact PySem.EqMixed.ne_int_str (bA I q (by simp))
   | _=>exact absurd (show false=true from hs) aal
 | str i =>
   obtain⟨t,rfl⟩:=rx;cases y with
   | dS=>cases ry;exact PySem.EqNone.ne_str_none (bA I q (by simp))
   | bl j=>cases ry;exact PySem.EqMixed.ne_str_bool (bA I q (by simp))
   | int j=>obtain⟨t',rfl⟩:=ry;exact PySem.EqMixed.ne_str_int (bA I q (by simp))
   | str j=>obtain⟨t',rfl⟩:=ry;exact ne_str (bA I q (abf not Eb))
   | _=>exact absurd (show false=true from hs) aal
 | Hv i =>
   obtain⟨t,rfl⟩:=rx;cases y with
   | Hv j=>obtain⟨t',rfl⟩:=ry;exact PySem.W.ne_bytes (bA I q (abf not Ec))
   | _=>exact absurd (show false=true from hs) aal
 | _=>cases y<;>exact absurd (show false=true from hs) aal
def wX:kG X (compareOp .Lt) (Hi λi j=>.bl (decide (i<j))):=Lp λ_ _ _ _ _ _ _ q=>lt_int q
def Nk:kG X (compareOp .LtE) (Hi λi j=>.bl (decide (i<=j))):=Lp λ_ _ _ _ _ _ _ q=>le_int q
def zY:kG X (compareOp .Gt) (Hi λi j=>.bl (decide (j<i))):=Lp λ_ _ _ _ _ _ _ q=>gt_int q
def HJ:kG X (compareOp .GtE) (Hi λi j=>.bl (decide (j<=i))):=Lp λ_ _ _ _ _ _ _ q=>ge_int q
def ym:kG X (compareOp .Is) (λx y H Q=>y = .dS/\Q (.bl (decide (x = .dS))) H):=by
 intro pq s σ H x y v u Q I rx ry h;obtain⟨rfl,q⟩:=h;cases ry;refine is_none_gen (bA I q ?_);cases x<;>first
  | (cases rx;rfl)
  | (obtain⟨t,rfl⟩:=rx;rfl)
def Ed:kG X (compareOp .IsNot) (λx y H Q=>y = .dS/\Q (.bl (!decide (x = .dS))) H):=by
 intro pq s σ H x y v u Q I rx ry h;obtain⟨rfl,q⟩:=h;cases ry;refine isnot_none_gen (bA I q ?_);cases x<;>first
  | (cases rx;rfl)
  | (obtain⟨t,rfl⟩:=rx;rfl)
def aO(b:Expr){op:CmpOp}(h:op≠.In:=by decide)(h2:op≠.NotIn:=by decide):behindInMarks op b=false:=by
 have e1:(op==CmpOp.In)=false:=by cases op<;>first | rfl | exact absurd rfl h
 have e2:(op==CmpOp.NotIn)=false:=by cases op<;>first | rfl | exact absurd rfl h2
 cases b<;>simp[behindInMarks,e1,e2]
def dW{op:CmpOp}{r:R2}(ho:kG X (compareOp op) r)(ha:PE X a ta)(hb:PE X b tb)(hm:behindInMarks op b=false):PE X (.Compare a [op] [b] pos) (Qq r ta tb):=by
 intro pq s σ H Q I h;exact wpAny_Compare1 (Og ha hb I h λv u s2 x y H2 I2 rx ry q=>ho pq s2 σ H2 x y v u Q I2 rx ry q) hm
def Ro(t:TE):TT:=λσ H Q=>t σ H λx H'=>∃k,x = .bl k/\Q k H'
def aN{op:CmpOp}{r:R2}(ho:kG X (compareOp op) r)(ha:PE X a ta)(hb:PE X b tb)(hm:behindInMarks op b=false):PT X (.Compare a [op] [b] pos) (Ro (Qq r ta tb)):=by
 intro pq s σ H Q I h;refine wpAny_isTrue_Compare1 (cW (ha pq s σ H _ I h) λv s1 ⟨x,H1,I1,r1,q1⟩=>cW (hb pq s1 σ H1 _ I1 q1) λu s2 ⟨y,H2,I2,r2,q2⟩ =>
  cW (ho pq s2 σ H2 x y v u _ I2 r1 r2 q2) λc s3 ⟨z,H3,I3,r3,k,e,q3⟩=>?_) hm
 subst e;cases r3;exact wpAny_truthy_bool ⟨H3,I3,q3⟩
def tJ:(sizeLine:Nat)<2^63:=by rw[sizeLine_eq];decide
def vals1{x:V}{us:List Value}(r:Vals [x] us):∃u,us=[u]/\RelV x u:=by
 cases r with
 | cons r1 r2=>cases r2;exact⟨_,rfl,r1⟩
def vals2{x y:V}{us:List Value}(r:Vals [x,y] us):∃u w',us=[u,w']/\RelV x u/\RelV y w':=by
 cases r with
 | cons r1 r2 =>
   cases r2 with
   | cons r3 r4=>cases r4;exact⟨_,_,rfl,r1,r3⟩
def wY(hc:X.calm=true):gw X (.builtin "max") (λxs H Q=>∃i j,xs=[.int i,.int j]/\Q (.int (if j > i then j else i)) H):=by
 intro pq s σ H xs us Q I r h;obtain⟨i,j,rfl,q⟩:=h;obtain⟨u,w',rfl,⟨t,rfl⟩,⟨t',rfl⟩⟩:=vals2 r;refine max_two_ints (I.ok.hd hc) λh' tk k=>⟨_,H,I.kept k,?_,q⟩
 by_cases hj:j > i
 ·rw[aad hj,aad hj];exact⟨_,rfl⟩
 ·rw[aab hj,aab hj];exact⟨_,rfl⟩
def Fo(hc:X.calm=true):gw X (.builtin "min") (λxs H Q=>∃i j,xs=[.int i,.int j]/\Q (.int (if j<i then j else i)) H):=by
 intro pq s σ H xs us Q I r h;obtain⟨i,j,rfl,q⟩:=h;obtain⟨u,w',rfl,⟨t,rfl⟩,⟨t',rfl⟩⟩:=vals2 r;refine min_two_ints (I.ok.hd hc) λh' tk k=>⟨_,H,I.kept k,?_,q⟩
 by_cases hj:j<i
 ·rw[aad hj,aad hj];exact⟨_,rfl⟩
 ·rw[aab hj,aab hj];exact⟨_,rfl⟩
def p7:gw X (.type "int") (λxs H Q=>(∃i,xs=[.int i]/\Q (.int i) H)\/∃k,xs=[.bl k]/\Q (.int (if k then 1 else 0)) H):=by
 intro pq s σ H xs us Q I r h;rcases h with⟨i,rfl,q⟩|⟨k,rfl,q⟩
 ·obtain⟨u,rfl,t,rfl⟩:=vals1 r;exact call_int_int ⟨.int i,H,I,⟨_,rfl⟩,q⟩
 ·obtain⟨u,rfl,r1⟩:=vals1 r;cases r1;exact call_int_bool ⟨.int (if k then 1 else 0),H,I.tok _,⟨_,rfl⟩,q⟩
end
def pW.some_of{v:V}{o:Option Value}(r:pW (some v) o):∃u,o=some u/\RelV v u:=by
 cases o with
 | none=>exact(show False from r).elim
 | some u=>exact⟨u,rfl,r⟩
structure eK(k:Nat)(A:Around):Prop where
 hd:A.handled=none
 dp:A.depth+3*k+5<recursionLimit
 un:A.units+16*k+200<cLine
def eK.mono{j k:Nat}{A:Around}(r:eK k A)(h:j<=k):eK j A:=⟨r.hd,by have:=r.dp;lia,by have:=r.un;lia⟩
def eK.deeper{k:Nat}{A:Around}(r:eK (k+1) A)(env:Env):eK k (A.deeper env) :=
 ⟨r.hd,by have:=r.dp;show A.depth+1+3*k+5<_;lia,by have:=r.un;show A.units+3+16*k+200<_;lia⟩
def eK.in1{k:Nat}{A:Around}(r:eK (k+1) A):eK k A.in1 :=
 ⟨r.hd,by have:=r.dp;show A.depth+3*k+5<_;lia,by have:=r.un;show A.units+1+16*k+200<_;lia⟩
def eK.depth{k:Nat}{A:Around}(r:eK k A):A.depth<recursionLimit:=by have:=r.dp;lia
def eK.units{k:Nat}{A:Around}(r:eK k A):A.units+64<cLine:=by have:=r.un;lia
def eK.Cz{k:Nat}{A:Around}(r:eK k A):A.units<cLine:=by have:=r.un;lia
def UO:TA:=λ_ H Q=>Q [] H
def Rp(ta:TE)(tr:TA):TA:=λσ H Q=>ta σ H λx H1=>tr σ H1 λxs H2=>Q (x::xs) H2
section
variable {X:Cx}{e:Expr}{es:List Expr}{te:TE}{t:TA}{pos:Pos}
def af:PA X [] UO:=λ_ _ _ _ H Q I h=>Calls.spliced_nil ⟨[],H,I,.nil,h⟩
def aa(ha:PE X e te)(hr:PA X es t)(hs:starEach (e::es) X.env=(false,eval e X.env)::starEach es X.env:=by rfl):PA X (e::es) (Rp te t):=by
 intro pos pq s σ H Q I h;rw[hs];show wpAny _ _ (spliced ((false,eval e X.env)::backTo pos (starEach es X.env))) _ _ s;refine Calls.spliced_cons (cW (ha pq s σ H _ I h) λu s1 ⟨x,H1,I1,r1,q1⟩=>?_)
 exact cW (hr pos pq s1 σ H1 _ I1 q1) λus s2 ⟨xs,H2,I2,r2,q2⟩=>⟨x::xs,H2,I2,.cons r1 r2,q2⟩
def UP(t:TA):TE:=λσ H Q=>t σ H λxs H1=>xs.length<=sizeLine/\∀p,H1 p=none->Q (.ref p) (upd H1 p (.tup xs))
def UQ(t:TA):TE:=λσ H Q=>t σ H λxs H1=>xs.length<=sizeLine/\∀p,H1 p=none->Q (.ref p) (upd H1 p (.lst xs))
def dH{x1}(h:PA X es t):PE X (.Tuple es x1 pos) (UP t):=by
 intro pq s σ H Q I hq;refine wpAny_Tuple_spliced (cW (h pos pq s σ H _ I hq) λus s1 ⟨xs,H1,I1,r,z,q⟩=>⟨by rw[<-r.length];exact z,?_⟩)
 have hf:H1 s1.heap.objs.size=none:=I1.hok.fresh (aae _);refine⟨.ref s1.heap.objs.size,upd H1 s1.heap.objs.size (.tup xs),I1.laid (t':=s1.toks) (λb u e=>aai _ e) (aae _) ?_,rfl,q _ hf⟩
 exact⟨z,us,r,⟨_,aaB _ rfl,rfl,_,rfl⟩⟩
def eM(h:PA X es t):PE X (.List es pos) (UQ t):=by
 intro pq s σ H Q I hq;refine wpAny_List_spliced (cW (h pos pq s σ H _ I hq) λus s1 ⟨xs,H1,I1,r,z,q⟩=>⟨by rw[<-r.length];exact z,?_⟩)
 have hf:H1 s1.heap.objs.size=none:=I1.hok.fresh (aae _);refine⟨.ref s1.heap.objs.size,upd H1 s1.heap.objs.size (.lst xs),I1.laid (t':=s1.toks) (λb u e=>aai _ e) (aae _) ?_,rfl,q _ hf⟩
 exact⟨z,us,0,r,aaB _ rfl⟩
end
abbrev Sp:=List V->Hp->VK->XK->Prop
abbrev Hj:=List Env->Hp->Shared->XK->Value->Shared->Prop
structure Lq(P:Program)(w:World)(K:bM)(mg:oE)(base:Heap)(A:Around)(outer:List Env)(s:Shared)(H:Hp):Prop where
 frames:A.frames=some outer
 mod:Mod K mg base
 bs:∀b o,base.get? b=some o->s.heap.get? b=some o/\H b=none
 Nh:base.objs.size<=s.heap.objs.size
 funs:s.heap.FunFrames base outer
 N7:∀b∈frs outer,H b=none
 hok:mQ P w H s.heap
 bare:AllBare s.gens
def CE(outer:List Env)(P:Program)(w:World)(H:Hp)(s:Shared)(Q:VK)(u:Value)(s' : Shared):Prop :=
 ∃v H',s'.os=s.os/\AllBare s'.gens/\Un (frs outer) [] H H' s.heap s'.heap/\mQ P w H' s'.heap/\RelV v u/\Q v H'
def CR(CX:Hj)(outer:List Env)(P:Program)(w:World)(H:Hp)(s:Shared)(Q:VK)(E:XK)(r:Result)(s' : Shared):Prop :=
 match r with
 | .ok (.ret u)=>CE outer P w H s Q u s'
 | .ok _=>False
 | .error e=>CX outer H s E e s'
structure lT(P:Program)(w:World)(K:bM)(mg:oE)(base:Heap)(CX:Hj)(k:Nat)(f:Addr)(fd:FuncData)(ps:List Str)(sp:Sp):Prop where
 len:∀vs H Q E,sp vs H Q E->vs.length=ps.length
 run:∀(A:Around) (outer:List Env) (s:Shared) (H:Hp) (args:Args) (us:List Value) (vs:List V) (Q:VK) (E:XK),eK k A->Lq P w K mg base A outer s H->BindsTo s fd args (ps.zip us)->Vals vs us->sp vs H Q E->
  codeAny (model P w) A (.call (.ref f) args) (CR CX outer P w H s Q E) s
section
variable {X:Cx}{pq:aV}{σ:St}{H:Hp}{s s' : Shared}
def Inv.UR(I:Inv X pq σ H s):Lq X.prog X.w X.K X.mg X.base X.A X.stack s H :=
 ⟨I.ok.frames,I.ok.mod,I.bs,aaD I.ok.Nh I.sz,I.stack,I.ye,I.hok,I.bare⟩
def Inv.after{Q:VK}{u:Value}(I:Inv X pq σ H s)(h:CE X.stack X.prog X.w H s Q u s'):EP X pq σ Q u s':=by
 obtain⟨v,H',os,bare,un,hok,r,q⟩:=h;obtain⟨hh,g,d,t,os'⟩:=s';obtain rfl:os' = s.os:=os;exact⟨v,H',I.call (h':=hh) (g':=g) (d':=d) (t':=t) (ch:=[]) un hok bare (λb z=>absurd z (by simp)),r,q⟩
end
def Nl(sp:Sp)(Nm:List V)(E:XK)(t:TA):TE:=λσ H Q=>t σ H λvs H1=>sp (vs++Nm) H1 Q E
def Binds(K:bM)(fd:FuncData)(ps:List Str)(ds:List Value):Prop :=
 ∀(s:Shared) (us:List Value),K.In s.heap->(us++ds).length=ps.length->BindsTo s fd ⟨us,[]⟩ (ps.zip (us++ds))
def Binds.all{K:bM}{fd:FuncData}{ps:List Str}(h:∀us:List Value,us.length=ps.length->bindArgs fd ⟨us,[]⟩=pure (ps.zip us)):Binds K fd ps []:=λs us _ hl=>by
 rw[abP]at hl ⊢;exact .of_eq (h us hl)
def Passes(CX:Hj)(X:Cx)(E:XK):Prop:=∀(pq:aV) (σ:St) (H:Hp) (s:Shared) (e:Value) (s' : Shared),Inv X pq σ H s->CX X.stack H s E e s'->X.xe e s'
section
variable {X:Cx}{CX:Hj}{k:Nat}{f C:Addr}{fd:FuncData}{ps:List Str}{sp:Sp}{Nm:List V}{ds:List Value}{E:XK}{x m:Str}{p pos apos:Pos}{e o:Expr}{es:List Expr}{ta:TE}{t:TA}
def Ol{pq:aV}{σ:St}{H:Hp}{s:Shared}{Q:VK}{us:List Value}{vs:List V}(F:lT X.prog X.w X.K X.mg X.base CX k f fd ps sp)(hr:eK k X.A)(hb:Binds X.K fd ps ds)(hd:Vals Nm ds)(hx:Passes CX X E)
 (I:Inv X pq σ H s) (r:Vals vs us) (h:sp (vs++Nm) H Q E):wpAny (model X.prog X.w) X.A (call (.ref f) us) (EP X pq σ Q) X.xe s:=by
 have r2:Vals (vs++Nm) (us++ds):=r.append hd;have hl:(us++ds).length=ps.length:=by rw[<-r2.length];exact F.len _ _ _ _ h
 refine wpAny_call (codeAny_mono (F.run X.A X.stack s H ⟨us,[]⟩ (us++ds) (vs++Nm) Q E hr I.UR (hb s us I.N8 hl) r2 h) λr s' hq=>?_)
 cases r with
 | error e=>exact hx pq σ H s e s' I hq
 | ok fl =>
   cases fl with
   | ret u=>exact I.after hq
   | next=>exact False.elim hq
   | brk=>exact False.elim hq
   | cont=>exact False.elim hq
def Lr(F:lT X.prog X.w X.K X.mg X.base CX k f fd ps sp)(hr:eK k X.A)(hg:Gl X x)(hm:X.mg x=some (.ref f))(hk:PySem.W.keepIn X.K (.ref f)=true)(hb:Binds X.K fd ps ds)(hd:Vals Nm ds)(hx:Passes CX X E)
 (ha:PA X (e::es) t) (hdb:(x==("__debug__":Str))=false:=by decide) (he:starEach (e::es) X.env=(false,eval e X.env)::starEach es X.env:=by rfl) (hpl:(backTo pos (starEach es X.env)).any (·.1)=false:=by rfl) :
 PE X (.Call (.Name x p) (e::es) [] pos) (Nl sp Nm E t):=by
 intro pq s σ H Q I h;refine wpAny_Call_Name_kw (yf I hg hm ?_ hdb);refine PySem.W.callWith_K (h₀:=X.base) I.ok.mod.Tz hk (cW (ha pos pq s σ H _ I h) λus s1 ⟨vs,H1,I1,r,q⟩=>⟨I1.N8,?_⟩) he hpl
 exact Ol F hr hb hd hx I1 r q
end
structure aE(N P:List Str)(sc:Scope):Prop where
 kind:sc.kind = .function
 co:sc.isCoroutine=false
 gen:sc.isGenerator=false
 nd:N.Nodup
 pre:N.take P.length=P
 par:∀x∈P,sc.names.lookup x=some .local\/sc.names.lookup x=some .cell
 Om:∀y∈sc.names,y.2≠.free
def wZ{kindOf:Str->Option NameKind}{x:Str}:∀{binds:List (Str×Value)} {m:oE},(∀v,(x,v)∉binds)->bindL kindOf binds m x=m x
 | [],_,_=>rfl
 | (n,v)::r,m,h=>by
   unfold bindL;rw[wZ λw hw=>h w (nR _ hw)]
   split
   ·have:x≠n:=by rintro rfl;exact h v aar
    simp[this]
   ·rfl
def w4{kindOf:Str->Option NameKind}{x:Str}:∀{binds:List (Str×Value)} {m:oE},(∀v,(x,v)∉binds)->bindC kindOf binds m x=m x
 | [],_,_=>rfl
 | (n,v)::r,m,h=>by
   unfold bindC;rw[w4 λw hw=>h w (nR _ hw)]
   split
   ·rfl
   ·have:x≠n:=by rintro rfl;exact h v aar
    simp[this]
def w5{kindOf:Str->Option NameKind}{x:Str}{v:Value}:∀{P:List Str} {vs:List Value} {i:Nat} {m:oE},P.Nodup->P[i]?=some x->vs[i]?=some v->kindOf x=some .local->
 bindL kindOf (P.zip vs) m x=some v
 | [],_,_,_,_,h,_,_=>by simp at h
 | _::_,[],_,_,_,_,h,_=>by simp at h
 | p::P,w::vs,0,m,nd,h1,h2,hk=>by
   simp at h1 h2;subst h1;subst h2;show bindL kindOf ((p,w)::P.zip vs) m p=_;unfold bindL;rw[wZ λv hv=>(aa6.mp nd).1 (List.of_mem_zip hv).1,aad hk]
   simp
 | p::P,w::vs,i+1,m,nd,h1,h2,hk=>by
   show bindL kindOf ((p,w)::P.zip vs) m x=_;unfold bindL;exact w5 (i:=i) (aa6.mp nd).2 (by simpa using h1) (by simpa using h2) hk
def w6{kindOf:Str->Option NameKind}{x:Str}{v:Value}:∀{P:List Str} {vs:List Value} {i:Nat} {m:oE},P.Nodup->P[i]?=some x->vs[i]?=some v->kindOf x≠some .local->
 bindC kindOf (P.zip vs) m x=some v
 | [],_,_,_,_,h,_,_=>by simp at h
 | _::_,[],_,_,_,_,h,_=>by simp at h
 | p::P,w::vs,0,m,nd,h1,h2,hk=>by
   simp at h1 h2;subst h1;subst h2;show bindC kindOf ((p,w)::P.zip vs) m p=_;unfold bindC;rw[w4 λv hv=>(aa6.mp nd).1 (List.of_mem_zip hv).1,aab hk]
   simp
 | p::P,w::vs,i+1,m,nd,h1,h2,hk=>by
   show bindC kindOf ((p,w)::P.zip vs) m x=_;unfold bindC;exact w6 (i:=i) (aa6.mp nd).2 (by simpa using h1) (by simpa using h2) hk
def start(N:List Str)(vs:List V):St:=vs.map some++List.replicate (N.length-vs.length) none
def rQ(CX:Hj)(P:Program)(w:World)(K:bM)(mg:oE)(base:Heap)(N:List Str)(qual:Str)(scope:Scope)(f:Addr)(cd:Value)(A:Around)(outer:List Env)(s:Shared)(H:Hp)(E:XK):Cx where
 prog:=P
 w:=w
 K:=K
 mg:=mg
 base:=base
 A:=A.deeper (envOfC qual scope s.heap.objs.size f cd)
 N:=N
 s₀:=s
 H₀:=H
 env:=envOfC qual scope s.heap.objs.size f cd
 outer:=outer
 stack:=envOfC qual scope s.heap.objs.size f cd::outer
 ex:=[]
 calm:=true
 fn:=λ_=>true
 pn:=[]
 xe:=λe s'=>wpAny (model P w) (A.deeper (envOfC qual scope s.heap.objs.size f cd)) (leaving (envOfC qual scope s.heap.objs.size f cd) e) (λ_ s''=>CX outer H s E e s'') (λe' s''=>CX outer H s E e' s'') s'
def zZ{sc:Scope}{n:Nat}{x:Str}(h:sc.names.lookup x=some .cell):∃c,(cellsFrom n sc.names []).lookup x=some c:=by
 have q:=PySem.W.cellsFrom_some sc.names n [] (.inl h);exact Option.isSome_iff_exists.mp q
def Fp{CX:Hj}{P:Program}{w:World}{K:bM}{mg:oE}{base:Heap}{N ps:List Str}{qual:Str}{scope:Scope}{f:Addr}{cd:Value}{A:Around}{outer:List Env}{s s1:Shared}{H:Hp}{E:XK}{us:List Value}{vs:List V}
 (S:aE N ps scope) (hd:A.handled=none) (e0:Lq P w K mg base A outer s H) (hl:vs.length=ps.length) (r:Vals vs us)
 (x:InCallC s s.heap.objs.size (bindL (envOfC qual scope s.heap.objs.size f cd).kindOf (ps.zip us) λ_=>none) (cellsFrom (s.heap.objs.size+1) scope.names []) (bindC (envOfC qual scope s.heap.objs.size f cd).kindOf (ps.zip us) λ_=>none) s1) :
 Inv (rQ CX P w K mg base N qual scope f cd A outer s H E) [] (start N vs) H s1:=by
 have hpl:ps.length<=N.length:=by have:=abf List.length S.pre;rw[aa8]at this;lia
 obtain⟨h1,tk,rfl,hk⟩:=x.done;have US:∀b:Addr,b∉(rQ CX P w K mg base N qual scope f cd A outer s H E).ex:=λb z=>absurd (show b∈([]:List Addr) from z) (by simp)
 refine⟨⟨e0.mod,S.kind,rfl,rfl,aae _,λy z c h1 h2=>?_,λy hy=>?_,λy c _ h=>?_,λ_=>hd,Around.frames_deeper e0.frames,.inr ⟨rfl,rfl⟩,λb z=>absurd z (US b),e0.bs,e0.Nh,λb _ _=>US b,λb z=>absurd z (US b),e0.funs,e0.N7⟩,
  rfl,e0.bare,Un.kept hk,⟨_,x.toInCall.ns,λi y v h1 h2 h3=>?_⟩,λy c h=>⟨_,x.cell y c h⟩,e0.hok.fresh (aae _),λy c h=>?_,λp hp=>absurd (show p∈([]:aV) from hp) (by simp),e0.hok.kept hk,?_⟩
 ·exact name_of_addr x.apart (abk h1) (abk h2)
 ·have hy:scope.names.lookup y=some .cell\/scope.names.lookup y=some .free:=hy;rcases hy with hy|hy
  ·exact zZ hy
  ·exact absurd rfl (S.Om _ (abk hy))
 ·exact aaW (x.above y c (abk h))
 ·have hi:i<vs.length:=by
   unfold start at h2
   by_cases hi:i<vs.length
   ·exact hi
   ·rw[aaO (by simpa using hi)]at h2
    rw[acs]at h2
    split at h2<;>cases h2
  have ha:vs[i]?=some v:=by
   unfold start at h2;rw[aaE (by simpa using hi),aan]at h2
   cases e:vs[i]? with
   | none=>rw[e]at h2;cases h2
   | some a=>rw[e]at h2;cases h2;rfl
  obtain⟨u,hu,rv⟩:=r.get ha;have hp:ps[i]?=some y:=by
   rw[<-S.pre,List.getElem?_take_of_lt (by lia)];exact h1
  have W9:ps.Nodup:=by rw[<-S.pre];exact S.nd.sublist (List.take_sublist _ _)
  refine⟨u,rv,?_⟩;rcases S.par y (iq hp) with k|k
  ·exact .inl ⟨k,w5 W9 hp hu k⟩
  ·obtain⟨c,e⟩:=zZ (n:=s.heap.objs.size+1) k;refine .inr ⟨.inl k,c,e,?_⟩;have q:=x.cell y c e;rw[w6 W9 hp hu (by show scope.names.lookup y≠_;rw[k];decide)]at q
   exact q
 ·exact e0.hok.fresh (aaW (x.above y c (abk h)))
 ·unfold start;show _=N.length;rw[aah,aac,abJ]
  lia
def HK{CX:Hj}{P:Program}{w:World}{K:bM}{mg:oE}{base:Heap}{k:Nat}{f:Addr}{name qual:Str}{params:Arguments}{body:List Stmt}{scope:Scope}{dV kV doc pm cdv ct oc:Value}{an od:Option Addr}
 {osl:Array (Option Value)} {N ps:List Str} {sp:Sp} (lk:K.lookup f=some ⟨oc,od,.func (PySem.W.fnOf name qual params body scope dV kV doc pm an cdv ct),osl⟩) (hcd:PySem.W.codeIn K cdv qual=true) (S:aE N ps scope)
 (len:∀vs H Q E,sp vs H Q E->vs.length=ps.length)
 (hbody:∀(A:Around) (outer:List Env) (s:Shared) (H:Hp) (vs:List V) (Q:VK) (E:XK),eK k (A.deeper (envOfC qual scope s.heap.objs.size f cdv))->sp vs H Q E->
  ∃t,wO (rQ CX P w K mg base N qual scope f cdv A outer s H E) body t/\t { nx:=λ_ H'=>Q .dS H',rt:=Q} (start N vs) H) :
 lT P w K mg base CX (k+1) f (PySem.W.fnOf name qual params body scope dV kV doc pm an cdv ct) ps sp:=by
 refine⟨len,λA outer s H args us vs Q E hr e0 hb r Cn=>?_⟩
 have hl:=len _ _ _ _ Cn;have KX:K.In s.heap:=e0.mod.Tz.keeps λb o e=>(e0.bs b o e).1
 have lim:s.heap.NoLimit:=e0.mod.nolimit.keeps λb o e=>(e0.bs b o e).1
 have hkind:∀y∈ps.zip us,scope.names.lookup y.1=some .local\/(scope.names.lookup y.1=some .cell/\((cellsFrom (s.heap.objs.size+1) scope.names []).lookup y.1).isSome=true):=λ⟨n,v⟩ hy=>by
  rcases S.par n (List.of_mem_zip hy).1 with q|q
  ·exact .inl q
  ·exact .inr ⟨q,PySem.W.cellsFrom_some _ _ _ (.inl q)⟩
 refine codeAny_call_function hr.depth (KX _ _ lk) rfl S.co S.gen rfl (PySem.W.codeRec_of KX hcd) (hb _ _ _ _ ?_);refine wpAny_newFunctionEnv_cells S.kind hkind λenv he s1 x=>?_
 subst he;refine⟨lim.keeps x.toInCall.keep,codeAny_func ?_⟩;obtain⟨t,ht,hq⟩:=hbody A outer s H vs Q E (hr.deeper _) Cn;have I:Inv (rQ CX P w K mg base N qual scope f cdv A outer s H E) [] (start N vs) H s1:=Fp S hr.hd e0 hl r x;refine aaP (ht [] s1 (start N vs) H _ I hq) (λfl s' hs=>?_) λe s' hs=>hs
 have fin:∀{σ' : St} {H' : Hp} {v:V} {u:Value},Inv (rQ CX P w K mg base N qual scope f cdv A outer s H E) [] σ' H' s'->RelV v u->Q v H'->CE outer P w H s Q u s' :=
  λ{σ' H' v u} J rv q=>⟨v,H',J.os,J.bare,J.base,J.hok,rv,q⟩
 cases fl with
 | ret u =>
   obtain⟨v,σ',H',J,rv,q⟩:=hs;exact fin J rv q
 | next =>
   obtain⟨σ',H',J,q⟩:=hs;exact fin (v:=V.dS) (u:=Value.none) J rfl q
 | brk =>
   obtain⟨_,_,_,q⟩:=hs;exact False.elim q
 | cont =>
   obtain⟨_,_,_,q⟩:=hs;exact False.elim q
section
variable {X:Cx}{x:Str}{p pos:Pos}{e:Expr}{es:List Expr}{t:TA}{id T:String}{r:List V->Hp->VK->Prop}
def UT(r:List V->Hp->VK->Prop)(t:TA):TE:=λσ H Q=>t σ H λvs H1=>r vs H1 Q
def dI(hc:gw X (.builtin id) r)(hg:Gl X x)(hm:X.mg x=none)(hv:bootBuiltins x=some (.builtin id))(ha:PA X (e::es) t)(hn:x≠"__name__":=by decide)(hdb:(x==("__debug__":Str))=false:=by decide)
 (he:starEach (e::es) X.env=(false,eval e X.env)::starEach es X.env:=by rfl) (hpl:(backTo pos (starEach es X.env)).any (·.1)=false:=by rfl):PE X (.Call (.Name x p) (e::es) [] pos) (UT r t):=by
 intro pq s σ H Q I h;refine wpAny_Call_Name_kw (jD I hg hm hv ?_ hn hdb);exact PyProof.Rows.callWith_builtin1 (cW (ha pos pq s σ H _ I h) λus s1 ⟨vs,H1,I1,r1,q1⟩=>hc pq s1 σ H1 vs us Q I1 r1 q1) he hpl
def bV(hc:gw X (.type T) r)(hg:Gl X x)(hm:X.mg x=none)(hv:bootBuiltins x=some (.type T))(ha:PA X (e::es) t)(hn:x≠"__name__":=by decide)(hdb:(x==("__debug__":Str))=false:=by decide)
 (he:starEach (e::es) X.env=(false,eval e X.env)::starEach es X.env:=by rfl) (hpl:(backTo pos (starEach es X.env)).any (·.1)=false:=by rfl):PE X (.Call (.Name x p) (e::es) [] pos) (UT r t):=by
 intro pq s σ H Q I h;refine wpAny_Call_Name_kw (jD I hg hm hv ?_ hn hdb);exact abp (cW (ha pos pq s σ H _ I h) λus s1 ⟨vs,H1,I1,r1,q1⟩=>hc pq s1 σ H1 vs us Q I1 r1 q1) he hpl
end
end L2
namespace HT
open PySem PyProof.Rows
def lexLt:List Int->List Int->Bool
 | [],[]=>false
 | [],_::_=>true
 | _::_,[]=>false
 | x::xs,y::ys=>if x=y then lexLt xs ys else decide (x<y)
def gy(x y:Int)(xs ys:List Int):lexLt (x::xs) (y::ys)=if x=y then lexLt xs ys else decide (x<y):=rfl
def nH:lexLt [] []=false:=rfl
def tK(y:Int)(ys:List Int):lexLt [] (y::ys)=true:=rfl
def fP(x:Int)(xs:List Int):lexLt (x::xs) []=false:=rfl
def z5(A:Around)(s:Shared)(a:Int)(t:Tok)(c:Int)(u:Tok):∃e,SeqAt.EqAt A s (.int a t) (.int c u) e/\(e=true↔a=c) :=
 ⟨(a==c),SeqAt.EqAt.int_int a t c u,by simp⟩
def HM(A:Around)(s:Shared)(a:Int)(t:Tok)(c:Int)(u:Tok)(prog:Program)(w:World)(E:di)(Q:di)(h:Q (.bool (decide (a<c))) s):
 wpAny (model prog w) A (richCompare .Lt (.int a t) (.int c u)) Q E s :=
 (PyProof.Rows.lt_int h:wpAny (model prog w) A (compareOp .Lt (.int a t) (.int c u)) Q E s)
section
open PySem.SeqAt
open PySem.AutoSeq1 (wpAny_loadPart')
open PySem.MeetsSeq PySem.MeetsSeq2 PySem.MeetsSeq3
def vH(l b:Addr)(items items2:Array Value)(n n2:Nat)(dd dd2:Option Addr)(sl sl2:Array (Option Value))(ns ms:List Int)(hi:IntsAre items.toList ns)(hj:IntsAre items2.toList ms):
 Meets (Builtin.«tuple.__lt__» ⟨[.ref l,.ref b],[]⟩)
  (λ_ R s=>s.heap.get? l=some { cls:=.type "tuple",dict:=dd,data:=.seq items n,slots:=sl}/\s.heap.get? b=some { cls:=.type "tuple",dict:=dd2,data:=.seq items2 n2,slots:=sl2}/\
   R (.ok (.ret (.bool (lexLt ns ms)))) s) :=
 .of_wp λprog w A R s h=>by
  obtain⟨hp,g,d,tk,os⟩:=s;obtain⟨hl,hb,h⟩:=h;have f2:=AutoSeq1.sub_tuple_tuple;have z1:items.size=ns.length:=by rw[<-hi.length];simp
  have z2:items2.size=ms.length:=by rw[<-hj.length];simp
  wp_walk using wpAny_loadPart' hl,wpAny_loadPart' hb,wpAny_forIn_list _ (λrest b s'=>b.1=none/\s' = ⟨hp,g,d,tk,os⟩/\∃(vs ws:List Value) (ns' ms' : List Int),rest=vs.zip ws/\
   IntsAre vs ns'/\IntsAre ws ms'/\ns'.length+items2.size=ms'.length+items.size/\R (.ok (.ret (.bool (lexLt ns' ms')))) ⟨hp,g,d,tk,os⟩) _
  case turn =>
   rintro⟨y,x⟩ rest b s' ⟨hb',rfl,vs,ws,ns',ms',hz,Nn,hwi,hlen,hR⟩;cases Nn with
   | nil=>rw[List.zip_nil_left]at hz;cases hz
   | cons a t hvi' =>
     cases hwi with
     | nil=>rw[List.zip_nil_right]at hz;cases hz
     | cons c u hwi' =>
       rw[List.zip_cons_cons]at hz;injection hz with hyx hrest
       injection hyx with hy hx
       subst hy hx;rw[gy]at hR;simp only[abc]at hlen;obtain⟨e,he,HN⟩:=z5 A.in1 ⟨hp,g,d,tk,os⟩ a t c u;refine wpAny_bind (he prog w _ _ ?_);cases e with
       | true =>
         rw[aad (HN.mp rfl)]at hR
         wp_walk
         exact⟨rfl,rfl,_,_,_,_,hrest,hvi',hwi',by lia,hR⟩
       | false =>
         rw[aab (λq=>absurd (HN.mpr q) aal)]at hR
         have Ls:=HM A.in1 ⟨hp,g,d,tk,os⟩ a t c u prog w
         wp_walk using Ls
         exact⟨_,rfl,by simpa using hR⟩
  case fin =>
   rintro⟨b1,b2⟩ s' ⟨hb',rfl,vs,ws,ns',ms',hz,Nn,hwi,hlen,hR⟩;simp only at hb';subst hb';have hv:lexLt ns' ms' = decide (items.size<items2.size):=by
    cases Nn with
    | nil =>
      cases hwi with
      | nil =>
        simp only[acv]at hlen;rw[nH];exact(eI (by lia)).symm
      | cons c u hw =>
        simp only[acv,abc]at hlen;rw[tK];exact(cF (by lia)).symm
    | cons a t hv =>
      cases hwi with
      | nil =>
        simp only[acv,abc]at hlen;rw[fP];exact(eI (by lia)).symm
      | cons c u hw =>
        rw[List.zip_cons_cons]at hz;cases hz
   rw[hv]at hR
   wp_walk
   exact⟨_,rfl,by simpa[Builtin.Tuple.tupleCompareSizes]using hR⟩
  case h =>
   exact⟨rfl,rfl,items.toList,items2.toList,ns,ms,rfl,hi,hj,by lia,h⟩
end
section
variable {prog:Program}{w:World}{A:Around}{E:di}{s:Shared}
def CA{l b:Addr}{items items2:Array Value}{ns ms:List Int}{Q:di}(hl:IsTup s.heap l items)(hb:IsTup s.heap b items2)(hi:IntsAre items.toList ns)(hj:IntsAre items2.toList ms)
 (hu:A.units<cLine) (h:Q (.bool (lexLt ns ms)) s):wpAny (model prog w) A (compareOp .Lt (.ref l) (.ref b)) Q E s:=by
 obtain⟨⟨cls,dd,data,sl⟩,ho,hc,n,hd⟩:=id hl;obtain⟨⟨Rq,dd2,data2,sl2⟩,ho2,hc2,n2,hd2⟩:=id hb;simp only at hc hd hc2 hd2;subst hc hd hc2 hd2;exact richCompare_meets_room (op:=.Lt) ⟨_,ho,rfl⟩ ⟨_,ho2,rfl⟩ PySem.F.slot_tuple_lt PySem.F.entry_tuple_lt (PySem.F.args_tuple_lt_2 _ _) (vH l b items items2 n n2 dd dd2 sl sl2 ns ms hi hj)
  ⟨ho,ho2,show Value.bool (lexLt ns ms)≠Value.notImplemented/\Q (.bool (lexLt ns ms)) s from⟨(λx=>nomatch x),h⟩⟩ hu
def dU(n d:Nat):Option Int->Nat
 | none=>d
 | some v=>if v<0 then(v+(n:Int)).toNat else min v.toNat n
def HP(n d:Nat):dU n d none=d:=rfl
def Lu(n d k:Nat):dU n d (some (k:Int))=min k n:=by
 show(if(k:Int)<0 then((k:Int)+(n:Int)).toNat else min (k:Int).toNat n)=min k n
 rw[aab (by lia),aau]
def Oo(n d:Nat)(hd:d<=n)(o:Option Int):dU n d o<=n:=by
 cases o with
 | none=>exact hd
 | some v =>
   show(if v<0 then(v+(n:Int)).toNat else min v.toNat n)<=n
   by_cases hv:v<0
   ·rw[aad hv];lia
   ·rw[aab hv];exact Nat.min_le_right _ _
def Ef(v:Int)(n d:Nat):(if v<0 then max (v+(n:Int)) 0 else min v (n:Int))=((dU n d (some v):Nat):Int):=by
 show(if v<0 then max (v+(n:Int)) 0 else min v (n:Int))=(((if v<0 then(v+(n:Int)).toNat else min v.toNat n):Nat):Int)
 by_cases hv:v<0
 ·simp only[aad hv];lia
 ·simp only[aab hv];lia
def CB(lo hi:Option Int)(n:Nat):Builtin.Slice.sliceAdjust lo hi 1 (n:Int)=(((dU n 0 lo:Nat):Int),((dU n n hi:Nat):Int)):=by
 have h1 : ¬((1:Int)<0):=by lia
 unfold Builtin.Slice.sliceAdjust;simp only[h1,if_false];refine Prod.ext ?_ ?_
 ·cases lo with
  | none=>rfl
  | some v=>exact Ef v n 0
 ·cases hi with
  | none=>rfl
  | some v=>exact Ef v n n
def CC(i j:Nat):Builtin.Slice.slicePlaces (i:Int) (j:Int) 1=j-i:=by
 unfold Builtin.Slice.slicePlaces;have h1:(1:Int) > 0:=by lia
 simp only[h1,if_true,Int.ediv_one]
 split<;>lia
def tM{v:Value}{o:Option Int}{Q:Option Int->Shared->Prop}(p:IsPart v o)(h:Q o s):wpAny (model prog w) A (Builtin.Slice.slicePartIndex v) Q E s:=by
 cases p with
 | none=>exact slicePart_none h
 | int i t=>exact slicePart_int h
def j6{sl:Addr}{vl vu:Value}{lo hi:Option Int}{n:Nat}{Q:Int×Int×Nat->Shared->Prop}(hs:s.heap.IsSliceOf sl vl vu .none)(pl:IsPart vl lo)(pu:IsPart vu hi)
 (h:Q (((dU n 0 lo:Nat):Int),1,dU n n hi-dU n 0 lo) s):wpAny (model prog w) A (Builtin.Slice.sliceApplied (.ref sl) (pure (n:Int))) Q E s:=by
 obtain⟨os,hos,hcs,hds⟩:=id hs;unfold Builtin.Slice.sliceApplied Builtin.Slice.sliceFields;refine wpAny_bind (wpAny_bind (wpAny_field hos hds (x:=vl) rfl (wpAny_bind (wpAny_field hos hds (x:=vu) rfl (wpAny_bind (wpAny_field hos hds (x:=.none) rfl (aag ?_)))))));refine wpAny_bind (slicePart_none ?_);show wpAny _ _ (if((1:Int)==0)=true then _ else _) _ _ s
 rw[aab (by decide)]
 refine wpAny_bind (tM pl (wpAny_bind (tM pu (wpAny_bind (aag ?_)))));show wpAny _ _ (match Builtin.Slice.sliceAdjust lo hi 1 (n:Int) with | (lo,hi)=>pure (lo,(1:Int),Builtin.Slice.slicePlaces lo hi 1)) _ _ s
 rw[CB lo hi n];show wpAny _ _ (pure (((dU n 0 lo:Nat):Int),(1:Int),Builtin.Slice.slicePlaces ((dU n 0 lo:Nat):Int) ((dU n n hi:Nat):Int) 1)) _ _ s;rw[CC];exact aag h
def HQ(xs:Array Value)(i k:Nat):((List.range k).filterMap λ(m:Nat)=>xs[((i:Int)+(m:Int)*1).toNat]?).toArray=((xs.toList.drop i).take k).toArray:=by
 have e:(λ(m:Nat)=>xs[((i:Int)+(m:Int)*1).toNat]?)=λm=>xs[i+m]?:=by
  funext m
  have:((i:Int)+(m:Int)*1).toNat=i+m:=by lia
  rw[this]
 rw[e];have:=pick_run xs i k;rw[List.filterMap_map]at this;have e2:((λx=>xs[x]?)∘λx=>i+x)=λm=>xs[i+m]?:=rfl
 rw[e2]at this;rw[this]
def oJ{t sl:Addr}{items:Array Value}{vl vu:Value}{lo hi:Option Int}{Q:di}(ht:IsTup s.heap t items)(hs:s.heap.IsSliceOf sl vl vu .none)(pl:IsPart vl lo)(pu:IsPart vu hi)
 (hw : ¬(dU items.size 0 lo=0/\dU items.size items.size hi=items.size))
 (h:Q (.ref s.heap.objs.size) { s with heap:=s.heap.push { cls:=.type "tuple",data:=.seq ((items.toList.drop (dU items.size 0 lo)).take (dU items.size items.size hi-dU items.size 0 lo)).toArray}})
 (hsz:items.size<=sizeLine):wpAny (model prog w) A (getItem (.ref t) (.ref sl)) Q E s:=by
 have Eg:sizeOk (.seq ((items.toList.drop (dU items.size 0 lo)).take (dU items.size items.size hi-dU items.size 0 lo)).toArray):=by
  show((items.toList.drop (dU items.size 0 lo)).take (dU items.size items.size hi-dU items.size 0 lo)).toArray.size<=sizeLine;rw[aav,aa8,acQ,ab4]
  lia
 have hj:dU items.size items.size hi<=items.size:=Oo _ _ (aae _) hi;obtain⟨os,hos,hcs,hds⟩:=id hs;have UU:s.TypeIs (.ref sl) "slice":=⟨os,hos,hcs⟩;unfold getItem
 try with_reducible refine aaX ?_
 first | refine wpAny_bind (aag ?_) | skip
 refine wpAny_bind (wpAny_sequenceKey ht.typeIs (by decide) ?_)
 refine wpAny_bind (wpAny_callSpecial?_slot (name:=Str.ofString "__getitem__") ht.typeIs abG
  (wpAny_call_entry abG ht.typeIs entry_tuple_getitem ?_ (args_tuple_getitem _ _)))
 show wpAny _ _ (Builtin.Tuple.tupleItemsOf (.ref t) >>= _) _ _ s;refine wpAny_bind (tupleItemsOf_ ht ?_);refine wpAny_bind (wpAny_typeOf UU ?_);rw[aad (by decide)]
 refine wpAny_bind (j6 hs pl pu ?_);have hno : ¬((((dU items.size 0 lo:Nat):Int)==0&&(1:Int)==1&&(dU items.size items.size hi-dU items.size 0 lo)==items.size)=true):=by
  intro q;rw[aaI,aaI]at q;have q1:((dU items.size 0 lo:Nat):Int)=0:=eq_of_beq q.1.1;have q2:dU items.size items.size hi-dU items.size 0 lo=items.size:=eq_of_beq q.2;exact hw ⟨by lia,by lia⟩
 show wpAny _ _ (if(((dU items.size 0 lo:Nat):Int)==0&&(1:Int)==1&&(dU items.size items.size hi-dU items.size 0 lo)==items.size)=true then _ else _) _ _ s
 rw[aab hno,HQ]
 first
  | exact wpAny_bind (m:=Builtin.Tuple.tupleExact _) (wpAny_newObj_type (aag ⟨_,rfl,aag h⟩) Eg)
  | exact wpAny_bind (m:=Builtin.Tuple.tupleExact _) (wpAny_newObj_type (wpAny_bind (aag (aag ⟨_,rfl,aag h⟩))) Eg)
  | exact wpAny_bind (wpAny_bind (m:=Builtin.Tuple.tupleExact _) (wpAny_newObj_type (aag (aag ⟨_,rfl,aag h⟩)) Eg))
  | exact wpAny_bind (wpAny_bind (m:=Builtin.Tuple.tupleExact _) (wpAny_newObj_type (aag ⟨_,rfl,aag h⟩) Eg))
end
end HT
namespace L2
open PySem PySem.Spec PyProof.Rows
abbrev TO:=St->Hp->(Option Int->Hp->Prop)->Prop
def PO(X:Cx)(e:Option Expr)(t:TO):Prop :=
 ∀(pq:aV) (s:Shared) (σ:St) (H:Hp) (Q:Option Int->Hp->Prop),Inv X pq σ H s->t σ H Q->
  wpAny (model X.prog X.w) X.A (evalPart e X.env) (λu s'=>∃o H',Inv X pq σ H' s'/\IsPart u o/\Q o H') X.xe s
def Lv:TO:=λ_ H Q=>Q none H
def Rr(t:TE):TO:=λσ H Q=>t σ H λx H1=>∃i,x = .int i/\Q (some i) H1
def intsAre_of{ns:List Int}:∀{us:List Value},Vals (ns.map V.int) us->IntsAre us ns:=by
 induction ns with
 | nil=>intro us r;rw[List.map_nil]at r;cases r;exact .nil
 | cons n ns ih =>
   intro us r;rw[aaT]at r;cases r with
   | cons r1 r2 =>
     obtain⟨t,e⟩:=r1;subst e;exact .cons n t (ih r2)
section
variable {X:Cx}{e:Expr}{te:TE}{lo hi:Option Expr}{tl th:TO}{pos p2:Pos}
def mS:PO X none Lv:=by
 intro pq s σ H Q I h;rw[evalPart_none];exact aag ⟨none,H,I,.none,h⟩
def mT(h:PE X e te):PO X (some e) (Rr te):=by
 intro pq s σ H Q I hw;rw[evalPart_some];refine cW (h pq s σ H _ I hw) λu s1 ⟨x,H1,I1,r1,q1⟩=>?_
 obtain⟨i,rfl,q⟩:=q1;obtain⟨t,rfl⟩:=r1;exact⟨some i,H1,I1,.int i t,q⟩
def TQ(X:Cx)(r:V->Option Int->Option Int->Hp->VK->Prop):Prop :=
 ∀(pq:aV) (s:Shared) (σ:St) (H:Hp) (x:V) (v vl vu:Value) (lo hi:Option Int) (sl:Addr) (Q:VK),Inv X pq σ H s->RelV x v->s.heap.IsSliceOf sl vl vu .none->IsPart vl lo->IsPart vu hi->r x lo hi H Q->
  ∃T id,typeLookup (.type T) "__getitem__"=pure (some (.builtin id))/\s.TypeIs v T/\wpAny (model X.prog X.w) X.A (getItem v (.ref sl)) (EP X pq σ Q) X.xe s
def Zq(r:V->Option Int->Option Int->Hp->VK->Prop)(te:TE)(tl th:TO):TE:=λσ H Q=>te σ H λx H1=>tl σ H1 λl H2=>th σ H2 λu H3=>r x l u H3 Q
def j7{r:V->Option Int->Option Int->Hp->VK->Prop}(hr:TQ X r)(he:PE X e te)(hl:PO X lo tl)(hu:PO X hi th):PE X (.Subscript e (.Slice lo hi none p2) pos) (Zq r te tl th):=by
 intro pq s σ H Q I h;refine Subscript_ (cW (he pq s σ H _ I h) λv s1 ⟨x,H1,I1,r1,q1⟩=>?_)
 refine wpAny_Slice (cW (hl pq s1 σ H1 _ I1 q1) λvl s2 ⟨l,H2,I2,pl,q2⟩=>cW (hu pq s2 σ H2 _ I2 q2) λvu s3 ⟨u,H3,I3,pu,q3⟩=>?_)
 rw[evalPart_none];refine aag ?_;have I4:Inv X pq σ H3 { s3 with heap:=s3.heap.push { cls:=.type "slice",data:=.fields #[vl,vu,.none]}}:=I3.kept (t':=s3.toks) λb ob q=>aai _ q
 obtain⟨T,id,hT,ht,hg⟩:=hr pq { s3 with heap:=s3.heap.push { cls:=.type "slice",data:=.fields #[vl,vu,.none]}} σ H3 x v vl vu l u s3.heap.objs.size Q I4 r1 (Heap.IsSliceOf.new ..) pl pu q3
 show wpAny (model X.prog X.w) X.A (subscriptTail e (.Slice lo hi none p2) v (.ref s3.heap.objs.size)) (EP X pq σ Q) X.xe { s3 with heap:=s3.heap.push { cls:=.type "slice",data:=.fields #[vl,vu,.none]}}
 exact tail_any (ops:=[.ref s3.heap.objs.size,v]) ht hT hg (by with_unfolding_all rfl)
def rR(xs:List V)(lo hi:Option Int):List V:=(xs.drop (HT.dU xs.length 0 lo)).take (HT.dU xs.length xs.length hi-HT.dU xs.length 0 lo)
def rC(xs:List V)(lo hi:Option Int):(rR xs lo hi).length<=xs.length:=by
 unfold rR;rw[aa8,acQ]
 lia
end
def Lw(n:Nat)(i:Int):Option Nat:=if 0<=i then(if i<n then some i.toNat else none) else if -(n:Int)<=i then some (i+n).toNat else none
def Hl{α:Type}(xs:List α)(i:Int):Option α:=(Lw xs.length i).bind λj=>xs[j]?
def Eh{n:Nat}{i:Int}{j:Nat}(h:Lw n i=some j):seqIndex? i n=some j/\j<n/\-(n:Int)<=i/\i<n:=by
 unfold Lw at h
 by_cases h0:0<=i
 ·rw[aad h0]at h
  by_cases h1:i<n
  ·rw[aad h1]at h;have e:i.toNat=j:=Option.some.inj h;exact⟨by rw[seqIndex_of h0 h1,e],by lia,by lia,h1⟩
  ·rw[aab h1]at h;cases h
 ·rw[aab h0]at h
  by_cases h1 : -(n:Int)<=i
  ·rw[aad h1]at h;have e:(i+n).toNat=j:=Option.some.inj h;exact⟨by rw[seqIndex_neg (by lia) h1,e],by lia,h1,by lia⟩
  ·rw[aab h1]at h;cases h
def Ei{α:Type}{xs:List α}{i:Int}{v:α}(h:Hl xs i=some v):∃j,seqIndex? i xs.length=some j/\xs[j]?=some v/\j<xs.length/\-(xs.length:Int)<=i/\i<xs.length:=by
 unfold Hl at h;cases e:Lw xs.length i with
 | none=>rw[e]at h;cases h
 | some j =>
   rw[e]at h;obtain⟨h1,h2,h3,h4⟩:=Eh e;exact⟨j,h1,h,h2,h3,h4⟩
def au{α:Type}{xs:List α}{j:Nat}{v:α}(h:xs[j]?=some v):Hl xs (j:Int)=some v:=by
 have hj:j<xs.length:=(jf.mp h).1;have e:Lw xs.length (j:Int)=some j:=by
  unfold Lw;rw[aad (by lia),aad (by lia)];simp
 unfold Hl;rw[e];exact h
def Ej(b:Expr):Prop:=∀o i,subscripted b false o i=operate [o,i] (getItem o i)
def Qs(X:Cx)(r:R2):Prop :=
 ∀(value slice:Expr) (pq:aV) (s:Shared) (σ:St) (H:Hp) (x y:V) (v u:Value) (Q:VK),Inv X pq σ H s->RelV x v->RelV y u->r x y H Q->
  subscripted slice false v u=operate [v,u] (getItem v u)->wpAny (model X.prog X.w) X.A (subscriptTail value slice v u) (EP X pq σ Q) X.xe s
def UW(X:Cx)(id:String)(r:V->List V->Hp->VK->Prop):Prop :=
 ∀(pq:aV) (s:Shared) (σ:St) (H:Hp) (x:V) (xs:List V) (v:Value) (us:List Value) (Q:VK),Inv X pq σ H s->RelV x v->Vals xs us->r x xs H Q->
  wpAny (model X.prog X.w) X.A (call (.builtin id) (v::us)) (EP X pq σ Q) X.xe s
section
variable {X:Cx}{a b:Expr}{ta tb:TE}{pos:Pos}
def Rt{r:R2}(hr:Qs X r)(ha:PE X a ta)(hb:PE X b tb)(hs:Ej b):PE X (.Subscript a b pos) (Qq r ta tb):=by
 intro pq s σ H Q I h;exact Subscript_ (Og ha hb I h λv u s2 x y H2 I2 rx ry q=>hr a b pq s2 σ H2 x y v u Q I2 rx ry q (hs _ _))
def Oq(K:bM):R2:=λx y H Q=>∃p xs i v,x = .ref p/\y = .int i/\aL K H p xs/\Hl xs i=some v/\Q v H
def Ru(K:bM):R2:=λx y H Q=>∃p xs i v,x = .ref p/\y = .int i/\bg K H p xs/\Hl xs i=some v/\Q v H
def Lx:Qs X (Oq X.K):=by
 intro value slice pq s σ H x y v u Q I rx ry h hs;obtain⟨p,xs,i,z,rfl,rfl,hq,he,q⟩:=h;cases rx;obtain⟨t,rfl⟩:=ry;obtain⟨its,r,pl,hz⟩:=I.list hq;obtain⟨j,h1,h2,h3,h4,h5⟩:=Ei he;obtain⟨w,ew,rw'⟩:=r.get h2;have hl:=r.length;have hn:=tJ;have fin:EP X pq σ Q w s:=⟨z,H,I,rw',q⟩
 by_cases h0:0<=i
 ·have hj:i.toNat=j:=by
   rw[seqIndex_of h0 h5]at h1;exact Option.some.inj h1
  exact item_listR pl.isList h0 (by lia) (by rw[hj];simpa using ew) fin hs
 ·have hj:(i+(its.toArray.size:Int)).toNat=j:=by
   rw[seqIndex_neg (by lia) h4]at h1
   rw[aav,<-hl];exact Option.some.inj h1
  exact subscriptTail_builtinR (x:=w) pl.isList.typeIs slot_list_getitem.lookup
   (wpAny_getItem_list_neg (Q:=λr s'=>r=w/\EP X pq σ Q r s') pl.isList (by lia) (by rw[aav]<;>lia) (by lia) (by rw[hj];simpa using ew) ⟨rfl,fin⟩) hs
def Ot:Qs X (Ru X.K):=by
 intro value slice pq s σ H x y v u Q I rx ry h hs;obtain⟨p,xs,i,z,rfl,rfl,hq,he,q⟩:=h;cases rx;obtain⟨t,rfl⟩:=ry;obtain⟨its,r,pl,hz⟩:=I.tuple hq;obtain⟨j,h1,h2,h3,h4,h5⟩:=Ei he;obtain⟨w,ew,rw'⟩:=r.get h2;have hl:=r.length;have hn:=tJ;have fin:EP X pq σ Q w s:=⟨z,H,I,rw',q⟩;exact subscriptTail_builtinR (x:=w) pl.typeIs slot_tuple_getitem.lookup
  (getItem_tuple (j:=j) (Q:=λr s'=>r=w/\EP X pq σ Q r s') pl (by lia) (by lia) (by rw[aav,<-hl];exact h1) (by simpa using ew) ⟨rfl,fin⟩) hs
def CD(its:List Value)(n j:Nat)(u:Value):Obj.mapSeq (·.setIfInBounds j u) { cls:=.type "list",data:=.seq its.toArray n}={ cls:=.type "list",data:=.seq (its.set j u).toArray n}:=by
 simp[Obj.mapSeq]
def Inv.lst{pq:aV}{σ:St}{H:Hp}{s:Shared}{p:Addr}{xs:List V}(I:Inv X pq σ H s)(h:H p=some (.lst xs)):
 ∃(its:List Value) (n:Nat),Vals xs its/\s.heap.get? p=some { cls:=.type "list",data:=.seq its.toArray n}/\xs.length<=sizeLine:=by
 obtain⟨z,its,n,r,e⟩:=I.hok p _ h;exact⟨its,n,r,e,z⟩
def Inv.Ou{pq:aV}{σ:St}{H:Hp}{s:Shared}{p:Addr}{xs ys:List V}{its its' : List Value}{n n' : Nat}{f:Obj->Obj}(I:Inv X pq σ H s)(h:H p=some (.lst xs))
 (ho:s.heap.get? p=some { cls:=.type "list",data:=.seq its.toArray n}) (hf:f { cls:=.type "list",data:=.seq its.toArray n}={ cls:=.type "list",data:=.seq its'.toArray n'}) (r:Vals ys its') (hz:ys.length<=sizeLine) (t:Nat) :
 Inv X pq σ (upd H p (.lst ys)) { s with heap:=s.heap.update p f,toks:=t}:=by
 have e:(s.heap.update p f).get? p=some { cls:=.type "list",data:=.seq its'.toArray n'}:=by
  rw[abX f ho (by rw[hf]<;>rfl),hf]
 refine I.write (x:=p) (e:=p) (by rw[h];trivial) (.inl rfl) (λb u hb q=>(abH _ _ (aa2 hb)).trans q) ⟨_,e⟩ ?_
 exact⟨hz,its',n',r,e⟩
def Rv:V->V->V->Hp->(Hp->Prop)->Prop:=λo i v H Q=>∃p xs k j,o = .ref p/\i = .int k/\H p=some (.lst xs)/\Lw xs.length k=some j/\Q (upd H p (.lst (xs.set j v)))
def set_list:Od X Rv:=by
 intro pq s σ H o i v ov iv u Q I ro ri rv h;obtain⟨p,xs,k,j,rfl,rfl,hp,hj,q⟩:=h;cases ro;obtain⟨t,rfl⟩:=ri;obtain⟨its,n,r,ho,hz⟩:=I.lst hp;obtain⟨h1,h2,h3,h4⟩:=Eh hj;have hl:=r.length;have hn:=tJ;have I' : Inv X pq σ (upd H p (.lst (xs.set j v))) { s with heap:=s.heap.update p (Obj.mapSeq (·.setIfInBounds j u))} :=
  I.Ou hp ho (CD its n j u) (r.set rv j) (by rw[acw];exact hz) s.toks
 by_cases h0:0<=k
 ·have hk:k.toNat=j:=by
   rw[seqIndex_of h0 h4]at h1;exact Option.some.inj h1
  exact PySem.W.ki_setAt ho h0 (by lia) (by rw[aav,<-hl];exact h4) (by rw[hk];exact⟨_,I',q⟩)
 ·have hk:(k+(its.toArray.size:Int)).toNat=j:=by
   rw[seqIndex_neg (by lia) h3]at h1
   rw[aav,<-hl];exact Option.some.inj h1
  exact PySem.W.ki_setBack ho (by lia) (by rw[aav,<-hl];exact h3) (by lia) (by rw[hk];exact⟨_,I',q⟩)
def yn(lo hi:Option Int)(n:Nat):(sliceBounds lo hi none n).1=((HT.dU n 0 lo:Nat):Int)/\(sliceBounds lo hi none n).2.1=((HT.dU n n hi:Nat):Int)/\(sliceBounds lo hi none n).2.2=1:=by
 refine⟨?_,?_,rfl⟩
 ·cases lo with
  | none=>simp[sliceBounds,HT.dU]
  | some i =>
    simp only[sliceBounds,HT.dU,Option.getD_none,show(1:Int) > 0 by decide,if_true]
    by_cases h:i<0
    ·simp only[h,if_true]<;>lia
    ·simp only[h,if_false]<;>lia
 ·cases hi with
  | none=>simp[sliceBounds,HT.dU]
  | some i =>
    simp only[sliceBounds,HT.dU,Option.getD_none,show(1:Int) > 0 by decide,if_true]
    by_cases h:i<0
    ·simp only[h,if_true]<;>lia
    ·simp only[h,if_false]<;>lia
def vI(its:List Value)(lo hi:Option Int):slicePick its.toArray lo hi none=((its.drop (HT.dU its.length 0 lo)).take (HT.dU its.length its.length hi-HT.dU its.length 0 lo)).toArray:=by
 obtain⟨h1,h2,h3⟩:=yn lo hi its.toArray.size;unfold slicePick;rw[h1,h2,h3];simp only[sliceRange_one,pick_run,aav]<;>rfl
def Rw(K:bM):V->Option Int->Option Int->Hp->VK->Prop:=λx lo hi H Q=>∃a xs,x = .ref a/\aL K H a xs/\∀p,H p=none->Q (.ref p) (upd H p (.lst (rR xs lo hi)))
def Ly:TQ X (Rw X.K):=by
 intro pq s σ H x v vl vu lo hi sl Q I rx hs pl pu h;obtain⟨a,xs,rfl,hx,q⟩:=h;cases rx;obtain⟨its,r,ht,hz⟩:=I.list hx;have hlen:=r.length;refine⟨"list",_,slot_list_getitem.lookup,ht.isList.typeIs,?_⟩;refine wpAny_getItem_list_slice ht.isList hs pl pu .none (by simp) ?_ (by rw[aav]<;>lia)
 rw[vI,<-hlen];refine⟨.ref s.heap.objs.size,_,I.laid (t':=s.toks) (o:=.lst (rR xs lo hi)) (λb ob q=>aai _ q) (aae _) ?_,rfl,q _ (I.hok.fresh (aae _))⟩
 exact⟨aaD (rC xs lo hi) hz,_,0,(r.drop (HT.dU xs.length 0 lo)).take (HT.dU xs.length xs.length hi-HT.dU xs.length 0 lo),aaB _ rfl⟩
def oM:V->Bool
 | .dS=>true
 | .bl _=>true
 | .int _=>true
 | .str _=>true
 | _=>false
def Lz:V->V->Bool
 | .dS,.dS=>true
 | .bl a,.bl b=>a==b
 | .bl a,.int b=>(if a then 1 else 0)==b
 | .int a,.bl b=>a==(if b then 1 else 0)
 | .int a,.int b=>a==b
 | .str a,.str b=>a==b
 | _,_=>false
def Ov{A:Around}{s:Shared}{y x:V}{u v:Value}(ry:RelV y u)(rx:RelV x v)(fy:oM y=true)(fx:oM x=true):SeqAt.EqAt A s u v (Lz y x):=by
 cases y with
 | dS =>
   cases ry;cases x with
   | dS=>cases rx;exact SeqAt.EqAt.same _
   | bl b=>cases rx;exact SeqAt.EqAt.none_bool b
   | int b=>obtain⟨t,rfl⟩:=rx;exact SeqAt.EqAt.none_int b t
   | str b=>obtain⟨t,rfl⟩:=rx;exact SeqAt.EqAt.none_str b t
   | _=>exact absurd (show false=true from fx) aal
 | bl a =>
   cases ry;cases x with
   | dS=>cases rx;exact SeqAt.EqAt.bool_none a
   | bl b=>cases rx;exact SeqAt.EqAt.bool_bool a b
   | int b=>obtain⟨t,rfl⟩:=rx;exact SeqAt.EqAt.bool_int a b t
   | str b=>obtain⟨t,rfl⟩:=rx;exact SeqAt.EqAt.bool_str a b t
   | _=>exact absurd (show false=true from fx) aal
 | int a =>
   obtain⟨t',rfl⟩:=ry;cases x with
   | dS=>cases rx;exact SeqAt.EqAt.int_none a t'
   | bl b=>cases rx;exact SeqAt.EqAt.int_bool a t' b
   | int b=>obtain⟨t,rfl⟩:=rx;exact SeqAt.EqAt.int_int a t' b t
   | str b=>obtain⟨t,rfl⟩:=rx;exact SeqAt.EqAt.int_str a t' b t
   | _=>exact absurd (show false=true from fx) aal
 | str a =>
   obtain⟨t',rfl⟩:=ry;cases x with
   | dS=>cases rx;exact SeqAt.EqAt.str_none a t'
   | bl b=>cases rx;exact SeqAt.EqAt.str_bool a t' b
   | int b=>obtain⟨t,rfl⟩:=rx;exact SeqAt.EqAt.str_int a t' b t
   | str b=>obtain⟨t,rfl⟩:=rx;exact SeqAt.EqAt.str_str a t' b t
   | _=>exact absurd (show false=true from fx) aal
 | _=>exact absurd (show false=true from fy) aal
def CF(x:V)(u:Value):Bool:=match u with
 | .none=>Lz .dS x
 | .bool b=>Lz (.bl b) x
 | .int i _=>Lz (.int i) x
 | .str z _=>Lz (.str z) x
 | _=>false
def HR{x y:V}{u:Value}(r:RelV y u)(f:oM y=true):CF x u=Lz y x:=by
 cases y with
 | dS=>cases r;rfl
 | bl b=>cases r;rfl
 | int i=>obtain⟨t,rfl⟩:=r;rfl
 | str z=>obtain⟨t,rfl⟩:=r;rfl
 | _=>exact absurd (show false=true from f) aal
def oN{x:V}:∀{xs:List V} {us:List Value},Vals xs us->xs.all oM=true->us.any (CF x)=xs.any λy=>Lz y x
 | _,_,.nil,_=>rfl
 | y::xs,u::us,.cons r t,f=>by
   rw[List.all_cons,aaI]at f;rw[ade,ade,HR r f.1,oN t f.2]
def lU{A:Around}{s:Shared}{x:V}{v:Value}(rx:RelV x v)(fx:oM x=true):∀{xs:List V} {us:List Value},Vals xs us->xs.all oM=true->∀u∈us,SeqAt.EqAt A s u v (CF x u)
 | _,_,.nil,_=>λu hu=>by cases hu
 | y::xs,u::us,.cons r t,f=>λu' hu=>by
   rw[List.all_cons,aaI]at f;rcases aas.mp hu with rfl|hu
   ·rw[HR r f.1];exact Ov r rx f.1 fx
   ·exact lU rx fx t f.2 u' hu
def LA(x:V)(xs:List V):Bool:=xs.any λy=>Lz y x
def TR(K:bM)(neg:Bool):R2:=λx y H Q=>∃p xs,y = .ref p/\(aL K H p xs\/bg K H p xs)/\oM x=true/\xs.all oM=true/\Q (.bl (if neg then !LA x xs else LA x xs)) H
def Fq:kG X (compareOp .In) (TR X.K false):=by
 intro pq s σ H x y v u Q I rx ry h;obtain⟨p,xs,rfl,hq,fx,fs,q⟩:=h;cases ry;rcases hq with hq|hq
 ·obtain⟨its,r,pl,hz⟩:=I.list hq;refine SeqAt.in_listAt (CF x) pl.isList (λw hw=>lU rx fx r fs w (by simpa using hw)) ⟨.bl _,H,I,rfl,?_⟩
  rw[show its.toArray.any (CF x)=its.any (CF x) by simp,oN r fs]
  exact q
 ·obtain⟨its,r,pl,hz⟩:=I.tuple hq;refine SeqAt.in_tupleAt (CF x) pl (λw hw=>lU rx fx r fs w (by simpa using hw)) ⟨.bl _,H,I,rfl,?_⟩
  rw[show its.toArray.any (CF x)=its.any (CF x) by simp,oN r fs]
  exact q
def yo:kG X (compareOp .NotIn) (TR X.K true):=by
 intro pq s σ H x y v u Q I rx ry h;obtain⟨p,xs,rfl,hq,fx,fs,q⟩:=h;cases ry;rcases hq with hq|hq
 ·obtain⟨its,r,pl,hz⟩:=I.list hq;refine SeqAt.notIn_listAt (CF x) pl.isList (λw hw=>lU rx fx r fs w (by simpa using hw)) ⟨.bl _,H,I,rfl,?_⟩
  rw[show its.toArray.any (CF x)=its.any (CF x) by simp,oN r fs]
  exact q
 ·obtain⟨its,r,pl,hz⟩:=I.tuple hq;refine SeqAt.notIn_tupleAt (CF x) pl (λw hw=>lU rx fx r fs w (by simpa using hw)) ⟨.bl _,H,I,rfl,?_⟩
  rw[show its.toArray.any (CF x)=its.any (CF x) by simp,oN r fs]
  exact q
def yp:gw X (.builtin "len") (λxs H Q=>∃p ys,xs=[.ref p]/\(aL X.K H p ys\/bg X.K H p ys)/\Q (.int ys.length) H):=by
 intro pq s σ H xs us Q I r h;obtain⟨p,ys,rfl,hq,q⟩:=h;obtain⟨u,rfl,rx⟩:=vals1 r;cases rx;have hn:=tJ;rcases hq with hq|hq
 ·obtain⟨its,r',pl,hz⟩:=I.list hq;have hlen:=r'.length;exact Calls.call_len_list pl.isList (by simp only[aav]<;>lia) ⟨.int ys.length,H,I.tok _,⟨s.toks+1,by rw[aav,hlen]⟩,q⟩
 ·obtain⟨its,r',pl,hz⟩:=I.tuple hq;have hlen:=r'.length;exact len_tuple pl (by simp only[aav]<;>lia) ⟨.int ys.length,H,I.tok _,⟨s.toks+1,by rw[aav,hlen]⟩,q⟩
def yq:gw X (.type "list") (λxs H Q=>∃p ys,xs=[.ref p]/\(aL X.K H p ys\/bg X.K H p ys)/\∀l,H l=none->Q (.ref l) (upd H l (.lst ys))):=by
 intro pq s σ H xs us Q I r h;obtain⟨p,ys,rfl,hq,q⟩:=h;obtain⟨u,rfl,rx⟩:=vals1 r;cases rx;have fin:∀(its:List Value),Vals ys its->ys.length<=sizeLine->∀(h' : Heap) (c' : Nat),(∀b o',s.heap.get? b=some o'->h'.get? b=some o')->
  h'.get? s.heap.objs.size=some { cls:=.type "list",dict:=none,data:=.seq its.toArray c',slots:=#[]}->EP X pq σ Q (.ref s.heap.objs.size) { s with heap:=h'}:=λits r' hz h' c' kp e =>
  ⟨.ref s.heap.objs.size,_,I.laid (t':=s.toks) kp (aae _) (show bI X.prog X.w _ h' _ (.lst ys) from⟨hz,its,c',r',e⟩),rfl,q _ (I.hok.fresh (aae _))⟩
 rcases hq with hq|hq
 ·obtain⟨its,r',pl,hz⟩:=I.list hq;have hlen:=r'.length;obtain⟨o,ho,hc,n,hd⟩:=pl.isList;exact call_list_seq p (.inl rfl) ho hc hd (λh' c' kp e=>fin its r' hz h' c' kp e) (by simp only[aav]<;>lia)
 ·obtain⟨its,r',pl,hz⟩:=I.tuple hq;have hlen:=r'.length;obtain⟨o,ho,hc,n,hd⟩:=pl;exact call_list_seq p (.inr rfl) ho hc hd (λh' c' kp e=>fin its r' hz h' c' kp e) (by simp only[aav]<;>lia)
def vJ:gw X (.type "tuple") (λxs H Q=>∃p ys,xs=[.ref p]/\((aL X.K H p ys/\∀l,H l=none->Q (.ref l) (upd H l (.tup ys)))\/(bg X.K H p ys/\Q (.ref p) H))):=by
 intro pq s σ H xs us Q I r h;obtain⟨p,ys,rfl,h⟩:=h;obtain⟨u,rfl,rx⟩:=vals1 r;cases rx;rcases h with⟨hq,q⟩|⟨hq,q⟩
 ·obtain⟨its,r',pl,hz⟩:=I.list hq;have hlen:=r'.length;refine call_tuple_list pl.isList (λh' kp=>?_) (by simp only[aav]<;>lia)
  have I1:Inv X pq σ H { s with heap:=h'}:=I.kept (t':=s.toks) kp
  have I2:Inv X pq σ (upd H h'.objs.size (.tup ys)) { s with heap:=h'.push { cls:=.type "tuple",data:=.seq its.toArray}} :=
   I1.laid (t':=s.toks) (λb o e=>aai _ e) (aae _) (show bI X.prog X.w _ _ _ (.tup ys) from⟨hz,its,r',IsTup.new _ _⟩)
  exact⟨.ref h'.objs.size,_,I2,rfl,q _ (I1.hok.fresh (aae _))⟩
 ·obtain⟨its,r',pl,hz⟩:=I.tuple hq;exact call_tuple_same pl ⟨.ref p,H,I,rfl,q⟩
def UX(K:bM)(T:String)(x:V)(H:Hp):Prop:=match x with
 | .str _=>T="str"
 | .int _=>T="int"
 | .ref p=>(T="list"/\∃xs,aL K H p xs)\/(T="tuple"/\∃o,K.lookup p=some o/\o.cls = .type "tuple"/\o.dict=none)\/
  (T="dict"/\((∃kvs,H p=some (.dK kvs))\/∃kvs,H p=some (.dT kvs)))\/(T="set"/\∃S n,H p=some (.set S n))
 | _=>False
def HS{pq:aV}{σ:St}{H:Hp}{s:Shared}{T:String}{x:V}{v:Value}(I:Inv X pq σ H s)(r:RelV x v)(ty:UX X.K T x H):
 s.TypeIs v T/\∀a,v = .ref a->∃ob,s.heap.get? a=some ob/\ob.dict=none:=by
 cases x with
 | str z =>
   obtain⟨t,rfl⟩:=r;cases(show T="str" from ty)
   exact⟨typeIs_str s z t,λ_ e=>nomatch e⟩
 | int i =>
   obtain⟨t,rfl⟩:=r;cases(show T="int" from ty)
   exact⟨typeIs_int s i t,λ_ e=>nomatch e⟩
 | ref p =>
   cases r;rcases ty with⟨rfl,xs,hq⟩|⟨rfl,o,hk,hc,hd⟩|⟨rfl,hk⟩|⟨rfl,S,n,hk⟩
   ·obtain⟨its,_,pl,_⟩:=I.list hq;refine⟨pl.isList.typeIs,λa e=>?_⟩
    cases e;obtain⟨o,n,e,c,hd,_⟩:=pl;exact⟨o,e,hd⟩
   ·refine⟨⟨o,I.N8 p o hk,hc⟩,λa e=>?_⟩
    cases e;exact⟨o,I.N8 _ o hk,hd⟩
   ·have z:∃o,s.heap.get? p=some o/\o.ExactDict:=by
     rcases hk with⟨kvs,hk⟩|⟨kvs,hk⟩
     ·obtain⟨_,_,_,_,o,_,_,e,ex,_⟩:=I.hok p _ hk;exact⟨o,e,ex⟩
     ·obtain⟨_,_,_,_,o,_,_,e,ex,_⟩:=I.hok p _ hk;exact⟨o,e,ex⟩
    obtain⟨o,e,ex⟩:=z;refine⟨⟨o,e,ex.1⟩,λa e2=>?_⟩
    cases e2;exact⟨o,e,ex.2.1⟩
   ·obtain⟨o,_,_,_,e,ex,_⟩:=I.hok p _ hk;refine⟨⟨o,e,ex.1⟩,λa e2=>?_⟩
    cases e2;exact⟨o,e,ex.2.1⟩
 | _=>exact False.elim ty
def UY(K:bM)(T:String)(r:V->List V->Hp->VK->Prop)(to:TE):TE:=λσ H Q=>to σ H λx H1=>UX K T x H1/\r x [] H1 Q
def UZ(K:bM)(T:String)(r:V->List V->Hp->VK->Prop)(to:TE)(t:TA):TE:=λσ H Q=>to σ H λx H1=>UX K T x H1/\t σ H1 λxs H2=>r x xs H2 Q
variable {o e:Expr}{es:List Expr}{to:TE}{t:TA}{name:Str}{apos cpos:Pos}{T id:String}{r:V->List V->Hp->VK->Prop}
def Ow(pa:PlainAttrs T)(slot:Slot T name id)(hty:typeOf (.builtin id)=pure (.type "method_descriptor"))(hm:UW X id r)(ho:PE X o to)
 (hbase:attributeBase o name X.env (eval o X.env)=eval o X.env:=by rfl) (hline:(apos.endLine==cpos.line)=true:=by rfl):PE X (.Call (.Attribute o name apos) [] [] cpos) (UY X.K T r to):=by
 intro pq s σ H Q I h;refine wpAny_Call_method0_late hbase hline (cW (ho pq s σ H _ I h) λv s1 ⟨x,H1,I1,r1,ty,q1⟩=>?_)
 obtain⟨h1,h2⟩:=HS I1 r1 ty;exact⟨T,id,pa,slot,hty,h1,h2,Calls.callWith_builtin rfl (PySem.evalArgs_none (hm pq s1 σ H1 x [] v [] Q I1 r1 .nil q1))⟩
def lV(pa:PlainAttrs T)(slot:Slot T name id)(hty:typeOf (.builtin id)=pure (.type "method_descriptor"))(hm:UW X id r)(ho:PE X o to)(ha:PA X (e::es) t)
 (hbase:attributeBase o name X.env (eval o X.env)=eval o X.env:=by rfl)
 (hfew:((backTo cpos (starEach (e::es) X.env)).all (λx=>!x.1)&&(backToKw cpos (keywordEach [] X.env)).all (λx=>x.1.isSome)
  && decide ((e::es).length+([]:List Keyword).length+(if([]:List Keyword).isEmpty then 0 else 1)<30))=true:=by rfl)
 (hline:(apos.endLine==cpos.line)=true:=by rfl) (hs:starEach (e::es) X.env=(false,eval e X.env)::starEach es X.env:=by rfl) (hplain:(backTo cpos (starEach es X.env)).any (·.1)=false:=by rfl) :
 PE X (.Call (.Attribute o name apos) (e::es) [] cpos) (UZ X.K T r to t):=by
 intro pq s σ H Q I h;refine wpAny_Call_method_late hbase hfew hline rfl (cW (ho pq s σ H _ I h) λv s1 ⟨x,H1,I1,r1,ty,q1⟩=>?_)
 obtain⟨h1,h2⟩:=HS I1 r1 ty;refine⟨T,id,pa,slot,hty,h1,h2,?_⟩;have hA:=ha cpos pq s1 σ H1 _ I1 q1;rw[hs]at hA ⊢;refine Calls.callWith_builtin (by show(false || (backTo cpos (starEach es X.env)).any (·.1))=false;rw[hplain]<;>rfl) (Calls.evalArgs_plain ?_)
 exact cW hA λus s2 ⟨vs,H2,I2,r2,q2⟩=>hm pq s2 σ H2 x vs v us Q I2 r1 r2 q2
end
def Xa(X:Cx)(id:String)(r:V->List V->Hp->VK->Prop):Prop :=
 ∀(pq:aV) (s:Shared) (σ:St) (H:Hp) (x:V) (xs:List V) (v:Value) (us:List Value) (Q:VK),Inv X pq σ H s->RelV x v->Vals xs us->r x xs H Q->
  wpAny (model X.prog X.w) X.A (call (.builtin id) (v::us)) (EP X pq σ Q) X.xe s
def Vals.one:∀{x:V} {us:List Value},Vals [x] us->∃u,us=[u]/\RelV x u
 | _,_,.cons r .nil=>⟨_,rfl,r⟩
def Vals.rep{xs:List V}{us:List Value}(h:Vals xs us):∀k:Nat,Vals (List.replicate k xs).flatten (List.replicate k us).flatten
 | 0=>.nil
 | k+1=>by
   rw[abQ,abQ,acF,acF];exact Vals.append h (Vals.rep h k)
def foldl_rep(its:List Value):∀(k:Nat) (acc:List Value),
 List.foldl (λx1 x2=>x1++x2) acc.toArray (List.replicate k its.toArray)=(acc++(List.replicate k its).flatten).toArray
 | 0,acc=>by simp
 | k+1,acc=>by
   have e:acc.toArray++its.toArray=(acc++its).toArray:=by simp
   have e2:(acc++its)++(List.replicate k its).flatten=acc++(List.replicate (k+1) its).flatten:=by
    rw[abQ,acF,List.append_assoc]
   rw[<-e2,<-foldl_rep its k (acc++its),<-e,abQ,acy]
section
variable {X:Cx}{pq:aV}{σ:St}{H:Hp}{s:Shared}{l b:Addr}{xs ys zs:List V}
def Inv.Rx{its its' : List Value}{n:Nat}{f:Array Value->Array Value}{t' : Nat}(I:Inv X pq σ H s)(hH:H l=some (.lst xs))
 (e:s.heap.get? l=some { cls:=.type "list",data:=.seq its.toArray n}) (hf:f its.toArray=its'.toArray) (hv:Vals ys its') (hz:ys.length<=sizeLine) :
 Inv X pq σ (upd H l (.lst ys)) { s with heap:=s.heap.update l (Obj.mapSeq f),toks:=t'}:=by
 have q:=PySem.IsL.update e f;rw[hf]at q;refine I.write (x:=l) (e:=l) (by rw[hH];exact trivial) (.inl rfl) (λb' u hb hu=>(abH s.heap (Obj.mapSeq f) (aa2 hb)).trans hu) ⟨_,q⟩ ?_
 exact⟨hz,its',_,hv,q⟩
def Inv.Ry{its:List Value}{t' : Nat}(I:Inv X pq σ H s)(hv:Vals ys its)(hz:ys.length<=sizeLine):
 Inv X pq σ (upd H s.heap.objs.size (.lst ys)) { s with heap:=s.heap.push { cls:=.type "list",data:=.seq its.toArray},toks:=t'} :=
 I.laid (λ_ _ q=>aai _ q) (aae _) ⟨hz,its,0,hv,aaB _ rfl⟩
def Inv.fresh(I:Inv X pq σ H s):H s.heap.objs.size=none:=I.hok.fresh (aae _)
def Inv.LC(I:Inv X pq σ H s)(hH:H l=some (.lst xs)):xs.length<=sizeLine/\∃(its:List Value) (n:Nat),Vals xs its/\xs.length=its.length/\s.heap.get? l=some { cls:=.type "list",data:=.seq its.toArray n}:=by
 obtain⟨z,its,n,r,e⟩:=I.hok l _ hH;exact⟨z,its,n,r,r.length,e⟩
def z6{n:Nat}(h:n<=sizeLine):Builtin.List.listTooLong n=false:=by
 unfold Builtin.List.listTooLong;exact eI (by lia)
end
section
variable {X:Cx}
def LD:V->List V->Hp->VK->Prop:=λx vs H Q=>∃l xs y,x = .ref l/\vs=[y]/\H l=some (.lst xs)/\xs.length<sizeLine/\Q .dS (upd H l (.lst (xs++[y])))
def cO:Xa X "list.append" LD:=by
 intro pq s σ H x vs v us Q I rx rv h;obtain⟨l,xs,y,rfl,rfl,hH,hz,q⟩:=h;cases rx;obtain⟨u,rfl,ru⟩:=rv.one;obtain⟨z,its,n,r,hl,e⟩:=I.LC hH;refine call_meets F.slot_list_append ⟨_,e,rfl⟩ F.entry_list_append (F.args_list_append_2 _ _) (PySem.list_append l its.toArray n u (by rw[aav];lia)) ⟨e,?_⟩
 refine⟨.dS,_,I.Rx (its':=its++[u]) hH e (by simp) (r.append (.cons ru .nil)) ?_,rfl,q⟩
 rw[aah,aaU]
 lia
def LF:V->List V->Hp->VK->Prop:=λx vs H Q=>∃l b xs zs,x = .ref l/\vs=[.ref b]/\H l=some (.lst xs)/\H b=some (.lst zs)/\xs.length+zs.length<=sizeLine/\Q .dS (upd H l (.lst (xs++zs)))
def Ft:Xa X "list.extend" LF:=by
 intro pq s σ H x vs v us Q I rx rv h;obtain⟨l,b,xs,zs,rfl,rfl,hH,hB,hz,q⟩:=h;cases rx;obtain⟨u,rfl,ru⟩:=rv.one;cases ru;obtain⟨z,its,n,r,hl,e⟩:=I.LC hH;obtain⟨z2,its2,n2,r2,hl2,e2⟩:=I.LC hB;have hsz:its.toArray.size+its2.toArray.size<=sizeLine:=by rw[aav,aav];lia
 have HU : ¬(!its.toArray.isEmpty&&Builtin.List.listTooLong (its.toArray.size+its2.toArray.size))=true:=by
  rw[z6 hsz,aci];exact aal
 refine call_meets F.slot_list_extend ⟨_,e,rfl⟩ F.entry_list_extend (F.args_list_extend_2 _ _)
  (AutoSeq1.list_extend_list_list_0 l its.toArray n b its2.toArray n2 HU (by rw[aav];lia) (by lia)) ⟨e,e2,?_⟩
 refine⟨.dS,_,I.Rx (its':=its++its2) hH e (by simp) (r.append r2) ?_,rfl,q⟩
 rw[aah]
 lia
def U0:R2:=λx y H Q=>∃l k xs,x = .ref l/\y = .int k/\H l=some (.lst xs)/\-(2^63)<=k/\k<2^63/\xs.length*k.toNat<=sizeLine/\
 ∀p,H p=none->Q (.ref p) (upd H p (.lst (List.replicate k.toNat xs).flatten))
def len_rep{α:Type}(xs:List α)(k:Nat):(List.replicate k xs).flatten.length=k*xs.length:=by
 induction k with
 | zero=>simp
 | succ k ih=>rw[abQ,acF,aah,ih,Nat.succ_mul,adD]
def HV:kG X (binaryOp .Mult) U0:=by
 intro pq s σ H x y v u Q I rx ry h;obtain⟨l,k,xs,rfl,rfl,hH,h1,h2,hz,q⟩:=h;cases rx;obtain⟨t,rfl⟩:=ry;obtain⟨z,its,n,r,hl,e⟩:=I.LC hH;have hlen:its.toArray.size*k.toNat<=sizeLine:=by rw[aav,<-hl];exact hz
 have U1 : ¬ its.toArray.size*k.toNat > (2^63-1)/8:=by
  have:(sizeLine:Nat)<=(2^63-1)/8:=by decide
  lia
 have hfit : ¬(!Builtin.List.listFitsIndex k)=true:=by
  rw[fitsIndex_both h1 h2];exact aal
 have HU : ¬ Builtin.List.listTooLong (its.toArray.size*k.toNat)=true:=by
  rw[z6 hlen];exact aal
 have hnew:List.foldl (λx1 x2=>x1++x2) #[] (List.replicate (if its.toArray.isEmpty=true then 0 else k.toNat) its.toArray)=(List.replicate k.toNat its).flatten.toArray:=by
  have f0:∀m:Nat,List.foldl (λx1 x2=>x1++x2) #[] (List.replicate m its.toArray)=(List.replicate m its).flatten.toArray:=λm=>by
   have:=foldl_rep its m [];rw[List.nil_append]at this;exact this
  rw[f0];cases its with
  | nil=>simp
  | cons a r'=>rw[aab (by simp)]
 refine wpAny_binaryOp_repeat_ref (T:="list") (U:="int") (by decide) ⟨_,e,rfl⟩ (λs'=>typeIs_int s' k t) noFill_list_mul F.fills_int_mul F.slot_int_rmul repeat_list F.slot_int_index.lookup
  (call_meets F.slot_int_rmul (typeIs_int s k t) F.entry_int_rmul (F.args_int_rmul_2 _ _) (int___rmul___int_list k t l its.toArray n)
   ⟨e,rfl,⟨_,e,rfl⟩,call_meets F.slot_list_mul ⟨_,e,rfl⟩ F.entry_list_mul (F.args_list_mul_2 _ _) (AutoListH.list___mul___list_int_3 l its.toArray n k t hfit U1 HU) ⟨e,?_⟩⟩)
 rw[hnew];exact⟨.ref _,_,I.Ry (t':=s.toks) (r.rep k.toNat) (by rw[len_rep,adE];exact hz),rfl,q _ I.fresh⟩
end
end L2
namespace Att
open PySem PySem.W PySem.Calls PyProof.Rows
def rS{P:Params}{h:Heap}:∀(ns:List Int) (vs:List Value),WellAll P h vs (ns.map WData.int)->IntsAre vs ns:=by
 intro ns
 induction ns with
 | nil =>
   intro vs w;rw[List.map_nil]at w;cases w;exact .nil
 | cons n ns ih =>
   intro vs w;rw[aaT]at w;cases w with
   | cons a b =>
     cases a;exact .cons _ _ (ih _ b)
def Fv{l:OpenLaw}{n:Nat}(hn:l.most=some n){P:Params}{h:Heap}{args:List WData}{vals:List Value}
 (hpre:l.row.toRowW.claim.pre args=true) (U3:WellAll P h vals args) :
 ∃a vs ns,vals=[Value.ref a]/\args=[WData.list (ns.map WData.int)]/\h.get? a=some { cls:=.type "list",data:=.seq vs.toArray}/\IntsAre vs ns/\ns.length<=n:=by
 have hsh:WShape.hasAll [] args [.list .int]=true:=(pre_splitW hpre).1;have hc:l.pre.holds [] { args:=args}=true:=(pre_splitW hpre).2;obtain⟨d,r,rfl,h1,h2⟩:=hasAllW_cons hsh;obtain rfl:=hasAllW_nil h2;obtain⟨xs,rfl,h3⟩:=hasW_list h1;obtain⟨ns,rfl⟩:=items_int h3;have hlen:ns.length<=n:=by
  unfold OpenLaw.pre at hc;have h4:(WTm.not (.lt (.lit (.int (n:Int))) (.len (.arg 0)))).holds [] { args:=[.list (ns.map .int)]}=true:=by
   have h4:=(holds_andW hc).1;rw[hn]at h4;exact h4
  have h5:=condW_of h4 (w_not (w_lt w_lit (w_len_list (w_arg rfl))));rw[aac]at h5;refine adf λq=>?_
  have q' : (n:Int)<((ns.length:Nat):Int):=by lia
  first
   | (rw[cF q']at h5;exact absurd h5 (by decide))
   | (simp at h5;lia)
 cases U3 with
 | cons w1 w2 =>
   cases w2;cases w1 with
   | list ho hall=>exact⟨_,_,ns,rfl,rfl,ho,rS ns _ hall,hlen⟩
def Fw(l:OpenLaw)(args:List WData):l.row.toRowW.claim.post args (.bool true) args=true :=
 postW_of (r:=l.row.toRowW) (X:=(true==true))
  (show WShape.has [] (.bool true) .bool=true by first | rfl | decide | simp[WShape.has,WShape.arms,WShape.armsAll])
  (show(WTm.eq .res (.lit (.bool true))).value [] { args:=args,res:=some (.bool true),after:=args}=some (.bool (true==true)) from w_eq_bool (w_res rfl) w_lit) rfl
def z7{l:OpenLaw}{n:Nat}{q:Program}{loose:List Str}{XP:(Str->Option Value)->Heap->Prop}{YP:World->Heap->Prop}{d:DefRec}
 (hn:l.most=some n) (Np:d.params.defaults=[])
 (call:∀(w:World) (s₀ s₁:Shared) (mg mb:oE) (fa:Addr) (o:Obj) (pm cd doc:Value) (a:Addr) (vs:List Value) (ns:List Int),
  Ground q loose [] XP w s₀ mg mb s₁.heap->YP w s₁.heap->
  s₁.heap.get? fa=some o->o.data = .func (docDef d.name d.params d.body d.scope pm cd doc)->s₁.heap.CodeRec cd d.name->mg d.name=some (.ref fa)->
  s₁.heap.get? a=some { cls:=.type "list",data:=.seq vs.toArray}->IntsAre vs ns->ns.length<=n->s₁.gens = #[]->
  codeAny (model l.prog w) callerA (.call (.ref fa) ⟨[.ref a],[]⟩) (λr s'=>r = .ok (.ret (.bool true))/\OldK s₁.heap s'.heap/\s'.os=s₁.os/\AllBare s'.gens) s₁) :
 WalkO q loose XP YP l.row.toRowW d [] (λf vs=>PySem.call f vs):=by
 intro w s₀ s₁ mg mb G Y fa o pm cd doc dV kV ho hd hcd hD hmg hg args vals as hpre hlay hrd U3 hlo;obtain rfl:dV = .none:=Dflts.none hD Np;obtain rfl:kV = .none:=Dflts.noKw hD;obtain⟨a,vs,ns,rfl,rfl,hobj,hints,hlen⟩:=Fv hn hpre U3;refine enter_call (codeAny_mono (call w s₀ s₁ mg mb fa o pm cd doc a vs ns G Y ho (fd_plain hd) hcd hmg hobj hints hlen hg) λr s' hq=>?_)
 obtain⟨rfl,h2,h3,h4⟩:=hq;exact⟨.inl ⟨.bool true,.bool true,[],rfl,λ_=>rfl,.bool true,Fw l _,λ_=>⟨List.Pairwise.nil,λ_ hm=>(nomatch hm)⟩⟩,h2,h3,h4⟩
end Att
namespace L2
open PySem PySem.Spec PyProof.Rows
def w9:∀{vs:List Value} {ns:List Int},IntsAre vs ns->Vals (ns.map V.int) vs
 | _,_,.nil=>.nil
 | _,_,.cons n t h=>.cons ⟨t,rfl⟩ (w9 h)
end L2
namespace L2
open PySem PySem.Spec PyProof.Rows
def dG(s:Stmt):Arguments:=match s with
 | .FunctionDef _ a _ _ _ _ _ _ _ _=>a
 | _=>{ posonlyargs:=[],args:=[],vararg:=none,kwonlyargs:=[],kw_defaults:=[],kwarg:=none,defaults:=[]}
def bW(s:Stmt):List Stmt:=match s with
 | .FunctionDef _ _ b _ _ _ _ _ _ _=>b
 | _=>[]
def ai(s:Stmt):Scope:=match s with
 | .FunctionDef _ _ _ _ _ _ sc _ _ _=>sc
 | _=>{ kind:=.function,names:=[],isGenerator:=false,isCoroutine:=false}
abbrev Ek:Hj:=λ_ _ _ _ _ _=>False
abbrev E0:XK:=λ_ _ _=>False
def aP{X:Cx}:Passes Ek X E0:=λ_ _ _ _ _ _ _ h=>h.elim
structure LG(K:bM)(x qual:Str)(st:Stmt)(f:Addr)(fd:FuncData):Prop where
 ex:∃(oc:Value) (od:Option Addr) (kV doc pm:Value) (an:Option Addr) (cdv ct:Value) (osl:Array (Option Value)),
  fd=PySem.W.fnOf x qual (dG st) (bW st) (ai st) .none kV doc pm an cdv ct/\K.lookup f=some ⟨oc,od,.func fd,osl⟩/\PySem.W.codeIn K cdv qual=true
 kp:PySem.W.keepIn K (.ref f)=true
section
variable {P:Program}{w:World}{K:bM}{mg:oE}{base:Heap}
def LG.ok{x qual:Str}{st:Stmt}{f:Addr}{fd:FuncData}{N ps:List Str}{k:Nat}{sp:Sp}(F:LG K x qual st f fd)(S:aE N ps (ai st))(len:∀vs H Q E,sp vs H Q E->vs.length=ps.length)
 (hbody:∀(cdv:Value) (A:Around) (outer:List Env) (s:Shared) (H:Hp) (vs:List V) (Q:VK) (E:XK),eK k (A.deeper (envOfC qual (ai st) s.heap.objs.size f cdv))->sp vs H Q E->
  ∃t,wO (rQ Ek P w K mg base N qual (ai st) f cdv A outer s H E).Cm (bW st) t/\t { nx:=λ_ H'=>Q .dS H',rt:=Q} (start N vs) H):lT P w K mg base Ek (k+1) f fd ps sp:=by
 obtain⟨oc,od,kV,doc,pm,an,cdv,ct,osl,rfl,lk,hcd⟩:=F.ex;refine HK lk hcd S len λA outer s H vs Q E hr Cn=>?_
 obtain⟨t,h,q⟩:=hbody cdv A outer s H vs Q E hr Cn;exact⟨t,h.Cm,q⟩
def LG.binds{x qual:Str}{st:Stmt}{f:Addr}{fd:FuncData}{ps:List Str}(F:LG K x qual st f fd)
 (h:∀(kV doc pm:Value) (an:Option Addr) (cdv ct:Value) (us:List Value),us.length=ps.length->bindArgs (PySem.W.fnOf x qual (dG st) (bW st) (ai st) .none kV doc pm an cdv ct) ⟨us,[]⟩=pure (ps.zip us)):Binds K fd ps []:=by
 obtain⟨oc,od,kV,doc,pm,an,cdv,ct,osl,rfl,lk,hcd⟩:=F.ex;exact .all (h kV doc pm an cdv ct)
def Ox{x qual:Str}{st:Stmt}{f:Addr}{oc:Value}{od an:Option Addr}{osl:Array (Option Value)}{kV doc pm cdv ct:Value}(l:K.lookup f=some ⟨oc,od,.func (PySem.W.fnOf x qual (dG st) (bW st) (ai st) .none kV doc pm an cdv ct),osl⟩)
 (c:PySem.W.codeIn K cdv qual=true) (k:PySem.W.keepIn K (.ref f)=true):LG K x qual st f (PySem.W.fnOf x qual (dG st) (bW st) (ai st) .none kV doc pm an cdv ct):=⟨⟨oc,od,kV,doc,pm,an,cdv,ct,osl,rfl,l,c⟩,k⟩
end
def z8{A:Around}{k:Nat}(hr:eK k A):A.units+1<cLine:=abm (Nat.add_le_add_left (by decide:1<=64) _) hr.units
def iH{n:Nat}(h:n<=1000):n<sizeLine:=abm h (by decide)
section
variable {X:Cx}
def pv(i:Nat){x:Str}{pos:Pos}(hN:X.N[i]?=some x:=by rfl)(hv:TF X.env.scope x:=by first | exact Or.inl rfl | exact Or.inr (Or.inl rfl) | exact Or.inr (Or.inr rfl))(hd:(x==("__debug__":Str))=false:=by decide)
 (hcd:(x==("__classdict__":Str))=false:=by decide):PE X (.Name x pos) (Lf i):=Oa hN hv hd hcd
end
def gn{A B:Prop}(h:B):if false=true then A else B:=by
 rw[aab aal];exact h
def jg{A B:Prop}(h:A):if true=true then A else B:=by
 rw[aad rfl];exact h
def nV{c A B:Prop}[Decidable c](h1:c->A)(h2 : ¬ c->B):if c then A else B:=by
 by_cases h:c
 ·rw[aad h];exact h1 h
 ·rw[aab h];exact h2 h
def HW{c A B:Prop}[Decidable c](hc:c)(h:B):if(!decide c)=true then A else B:=by
 rw[cF hc];exact gn h
def aq(H H' : Hp):Prop:=∀b o,H b=some o->H' b=some o
def aq.refl(H:Hp):aq H H:=λ_ _ h=>h
def aq.trans{H H1 H2:Hp}(a:aq H H1)(b:aq H1 H2):aq H H2:=λc o h=>b c o (a c o h)
def aq.free{H H' : Hp}(e:aq H H'){l:Addr}(h:H' l=Option.none):H l=Option.none:=by
 cases q:H l with
 | none=>rfl
 | some o =>
   rw[e l o q]at h;cases h
def aq.seq{K:bM}{H H' : Hp}{a:Addr}{xs:List V}(e:aq H H')(h:aL K H a xs):aL K H' a xs:=by
 rcases h with(h|⟨o,h⟩) | h
 ·exact .inl (.inl (e _ _ h))
 ·exact .inl (.inr ⟨o,e _ _ h⟩)
 ·exact .inr h
def cP(cells:List (Str×Addr)):List (Str×NameKind)->List (Str×Addr)->List (Str×Addr)
 | [],cs=>cs
 | (n,k)::r,cs=>cP cells r (if(k==NameKind.free)=true then(n,(cells.lookup n).getD 0)::cs else cs)
def tN{env:Env}{f:Str×NameKind->List (Str×Addr)->Sem (ForInStep (List (Str×Addr)))}
 (hf1:∀n k cs c,(k==NameKind.free)=true->env.cells.lookup n=some c->f (n,k) cs=pure (.yield ((n,c)::cs)))
 (hf2:∀n k cs,(k==NameKind.free)=false->f (n,k) cs=pure (.yield cs)) :
 ∀(names:List (Str×NameKind)) (cs:List (Str×Addr)),(∀n k,(n,k)∈names->(k==NameKind.free)=true->∃c,env.cells.lookup n=some c)->
  forIn names cs f=(pure (cP env.cells names cs):Sem (List (Str×Addr)))
 | [],cs,_=>by rw[List.forIn_nil];rfl
 | (n,k)::r,cs,h=>by
   have ih:=λcs=>tN hf1 hf2 r cs λm j hm=>h m j (nR _ hm)
   rw[List.forIn_cons];cases e:(k==NameKind.free) with
   | true =>
     obtain⟨c,hc⟩:=h n k aar e;rw[hf1 n k cs c e hc,pure_bind];show forIn r ((n,c)::cs) f=_;rw[ih]
     conv=>rhs;unfold cP
     rw[aad e,hc];rfl
   | false =>
     rw[hf2 n k cs e,pure_bind];show forIn r cs f=_;rw[ih]
     conv=>rhs;unfold cP
     rw[aab (by rw[e];exact aal)]
def nW{scope:Scope}{env:Env}(h:∀n k,(n,k)∈scope.names->(k==NameKind.free)=true->∃c,env.cells.lookup n=some c):closureFor scope env=pure (cP env.cells scope.names []):=by
 simp only[closureFor];rw[tN (env:=env) ?_ ?_ scope.names [] h]
 ·rfl
 ·intro n k cs c e hc;show(if(k==NameKind.free)=true then _ else _)=_
  rw[aad e];unfold cellOf;rw[hc];rfl
 ·intro n k cs e;show(if(k==NameKind.free)=true then _ else _)=_
  rw[aab (by rw[e];exact aal)]
def ji{cells:List (Str×Addr)}{x:Str}{c:Addr}:∀{names:List (Str×NameKind)} {cs:List (Str×Addr)},(cP cells names cs).lookup x=some c->cs.lookup x=some c\/((x,NameKind.free)∈names/\(cells.lookup x).getD 0=c)
 | [],cs,h=>.inl h
 | (n,k)::r,cs,h=>by
   unfold cP at h;rcases ji h with q|⟨q1,q2⟩
   ·by_cases e:(k==NameKind.free)=true
    ·rw[aad e]at q
     by_cases hx:x=n
     ·subst hx;rw[adi]at q;have hk:k=NameKind.free:=eq_of_beq e;exact .inr ⟨by rw[hk];exact aar,Option.some.inj q⟩
     ·have hb:(x==n)=false:=beq_eq_false_iff_ne.mpr hx;simp only[abo,hb]at q;exact .inl q
    ·rw[aab e]at q;exact .inl q
   ·exact .inr ⟨nR _ q1,q2⟩
def iU{cells:List (Str×Addr)}{x:Str}:∀{names:List (Str×NameKind)} {cs:List (Str×Addr)},((x,NameKind.free)∈names\/∃c,cs.lookup x=some c)->∃c,(cP cells names cs).lookup x=some c
 | [],cs,h=>by
   rcases h with h|h
   ·cases h
   ·exact h
 | (n,k)::r,cs,h=>by
   unfold cP;apply iU;rcases h with h|⟨c,h⟩
   ·rcases aas.mp h with h|h
    ·cases h
     right
     rw[aad (by rfl)]
     exact⟨_,adi⟩
    ·exact .inl h
   ·right
    by_cases e:(k==NameKind.free)=true
    ·rw[aad e]
     by_cases hx:x=n
     ·subst hx;exact⟨_,adi⟩
     ·have hb:(x==n)=false:=beq_eq_false_iff_ne.mpr hx;exact⟨c,by simp only[abo,hb];exact h⟩
    ·rw[aab e];exact⟨c,h⟩
def kM{env:Env}{x:Str}{k:NameKind}:∀{names:List (Str×NameKind)},
 (names.map λ(n,k)=>if(k==NameKind.free&&env.scope.kind == .function&&env.kindOf n==some .cell) then(n,NameKind.cell) else(n,k)).lookup x=some k->
  ∃k0,names.lookup x=some k0/\(k=k0\/(k0 = .free/\k = .cell))
 | [],h=>by cases h
 | (n,j)::r,h=>by
   have ih:=@kM env x k r
   replace h:List.lookup x ((if(j==NameKind.free&&env.scope.kind == .function&&env.kindOf n==some .cell)=true then(n,NameKind.cell) else(n,j))::_)=some k:=h
   cases hx:x==n with
   | true =>
     by_cases hc:(j==NameKind.free&&env.scope.kind == .function&&env.kindOf n==some .cell)=true
     ·rw[aad hc]at h;simp only[abo,hx]at h ⊢;have hj:j=NameKind.free:=by
       rw[aaI,aaI]at hc;exact eq_of_beq hc.1.1
      exact⟨j,rfl,.inr ⟨hj,(Option.some.inj h).symm⟩⟩
     ·rw[aab hc]at h;simp only[abo,hx]at h ⊢;exact⟨j,rfl,.inl (Option.some.inj h).symm⟩
   | false =>
     by_cases hc:(j==NameKind.free&&env.scope.kind == .function&&env.kindOf n==some .cell)=true
     ·rw[aad hc]at h;simp only[abo,hx]at h ⊢;exact ih h
     ·rw[aab hc]at h;simp only[abo,hx]at h ⊢;exact ih h
def oO{env:Env}{x:Str}:∀{names:List (Str×NameKind)},names.lookup x=some .free->
 (names.map λ(n,k)=>if(k==NameKind.free&&env.scope.kind == .function&&env.kindOf n==some .cell) then(n,NameKind.cell) else(n,k)).lookup x=some .cell\/
 (names.map λ(n,k)=>if(k==NameKind.free&&env.scope.kind == .function&&env.kindOf n==some .cell) then(n,NameKind.cell) else(n,k)).lookup x=some .free
 | [],h=>by cases h
 | (n,j)::r,h=>by
   have ih:=@oO env x r;show List.lookup x ((if(j==NameKind.free&&env.scope.kind == .function&&env.kindOf n==some .cell)=true then(n,NameKind.cell) else(n,j))::_)=_\/
    List.lookup x ((if(j==NameKind.free&&env.scope.kind == .function&&env.kindOf n==some .cell)=true then(n,NameKind.cell) else(n,j))::_)=_
   cases hx:x==n with
   | true =>
     simp only[abo,hx]at h;cases h
     by_cases hc:(NameKind.free==NameKind.free&&env.scope.kind == .function&&env.kindOf n==some .cell)=true
     ·rw[aad hc];simp only[abo,hx];exact .inl trivial
     ·rw[aab hc];simp only[abo,hx];exact .inr trivial
   | false =>
     simp only[abo,hx]at h
     by_cases hc:(j==NameKind.free&&env.scope.kind == .function&&env.kindOf n==some .cell)=true
     ·rw[aad hc];simp only[abo,hx];exact ih h
     ·rw[aab hc];simp only[abo,hx];exact ih h
def cQ(X:Cx)(N:List Str)(scope:Scope)(xe:di)(C:Addr)(s:Shared)(H:Hp)(fp:List Addr):Cx where
 prog:=X.prog
 w:=X.w
 K:=X.K
 mg:=X.mg
 base:=X.base
 A:=X.A
 N:=N
 s₀:=s
 H₀:=H
 env:=compEnvC scope (cP X.env.cells scope.names []) C X.env
 outer:=X.stack
 stack:=X.stack
 ex:=fp
 fn:=λ_=>false
 calm:=X.calm
 pn:=[]
 xe:=xe
def eN(σ:St)(js:List Nat):St:=js.map λj=>(σ[j]?).getD none
structure c9(X:Cx)(scope:Scope)(own fq:List Str)(js:List Nat):Prop where
 kind:scope.kind = .function
 yr:∀y∈scope.names,y.2≠.cell
 names:∀y∈scope.names,y.2 = .local->scope.names.lookup y.1=some .local
 free:∀y∈scope.names,y.2 = .free->X.env.scope.names.lookup y.1=some .cell\/X.env.scope.names.lookup y.1=some .free
 at_:js.map (λj=>X.N[j]?)=fq.map some
 fr:∀x∈fq,scope.names.lookup x=some .free
def tO{σ:St}{js:List Nat}{i:Nat}{v:V}(h:(eN σ js)[i]?=some (some v)):∃j,js[i]?=some j/\σ[j]?=some (some v):=by
 unfold eN at h;rw[aan]at h;cases e:js[i]? with
 | none=>rw[e]at h;cases h
 | some j =>
   rw[e]at h;have h' : (σ[j]?).getD none=some v:=Option.some.inj h;refine⟨j,rfl,?_⟩;cases q:σ[j]? with
   | none=>rw[q]at h';cases h'
   | some o=>rw[q]at h';rw[show o=some v from h']
section
variable {X:Cx}
def gz{pq:aV}{σ:St}{H:Hp}{s:Shared}{scope:Scope}{own fq:List Str}{js:List Nat}(I:Inv X pq σ H s)(T:c9 X scope own fq js):
 ∀n k,(n,k)∈scope.names->(k==NameKind.free)=true->∃c,X.env.cells.lookup n=some c:=λn k hm e=>by
 have hk:k=NameKind.free:=eq_of_beq e;exact I.ok.has n (T.free (n,k) hm hk)
def HX{pq:aV}{σ:St}{H:Hp}{s:Shared}{scope:Scope}{own fq:List Str}{js:List Nat}{fp:List Addr}{D C:Addr}{h1:Heap}{t1:Nat}{m:oE}{xe:di}
 (I:Inv X pq σ H s) (T:c9 X scope own fq js) (hf:∀b∈fp,nS X pq H b) (hfo:∀b∈fp,∃o,s.heap.get? b=some o) (hD:s.heap.objs.size<=D) (hC:s.heap.objs.size<=C) (hDC:D≠C)
 (old:∀b o,s.heap.get? b=some o->h1.get? b=some o) (hl:h1.get? D=some { cls:=.type "list",data:=.seq ([]:List Value).toArray 0}) (hn:h1.Ns C m) :
 Inv (cQ X (own++fq) scope xe C s H fp) [] (List.replicate own.length none++eN σ js) (upd H D (.lst [])) { s with heap:=h1,toks:=t1}:=by
 have cells:∀x c,(cP X.env.cells scope.names []).lookup x=some c->X.env.cells.lookup x=some c:=λx c h=>by
  rcases ji h with q|⟨q1,q2⟩
  ·cases q
  ·obtain⟨c',hc'⟩:=gz I T x .free q1 rfl;rw[hc']at q2;rw[hc'];exact abf some q2
 have Rz:∀b o,s.heap.get? b=some o->b<s.heap.objs.size:=λb o e=>aaq e
 have hcl:∀x c,X.env.cells.lookup x=some c->c<s.heap.objs.size:=λx c e=>by
  obtain⟨v,q⟩:=I.cell x c e;exact q.lt
 have Zr:∀b∈frs X.stack,b<s.heap.objs.size:=λb hb=>by
  obtain⟨_,o,ho,_⟩:=I.stack.mem hb;exact aaq ho
 have Zs:H D=none:=I.hok.fresh hD;have Oz:H C=none:=I.hok.fresh hC;refine⟨⟨I.ok.mod,T.kind,I.ok.glob,I.ok.blt,hC,λx y c a b=>I.ok.inj x y c (cells x c a) (cells y c b),λx hx=>?_,λx c z _=>(nomatch z),I.ok.hd,I.ok.frames,.inl rfl,λb hb=>⟨?_,λx c e z=>?_⟩,
  λb o e=>I.bs b o e,aaD I.ok.Nh I.sz,λb o e hb=>?_,λb hb z=>?_,I.stack,I.ye⟩,
  rfl,I.bare,Un.laid old hD Zs,⟨m,hn,λi x v e1 e2 e3=>?_⟩,λx c e=>?_,?_,λx c e=>?_,λp hp=>absurd (show p∈([]:aV) from hp) (by simp),?_,?_⟩
 ·
  have hx:(relabel scope X.env).names.lookup x=some .cell\/(relabel scope X.env).names.lookup x=some .free:=hx;have Zt:(x,NameKind.free)∈scope.names:=by
   rcases hx with hx|hx
   ·obtain⟨k0,q,r⟩:=kM hx;have hm:=abk q;rcases r with r|⟨r,_⟩
    ·exact absurd r.symm (T.yr _ hm)
    ·rw[r]at hm;exact hm
   ·obtain⟨k0,q,r⟩:=kM hx;have hm:=abk q;rcases r with r|⟨_,r⟩
    ·rw[<-r]at hm;exact hm
    ·cases r
  exact iU (.inl Zt)
 ·
  obtain⟨o,ho⟩:=hfo b hb;exact aaK (aaj (Rz b o ho) hC)
 ·exact(hf b hb).2.2.2.2.1 x c (cells x c e) z
 ·
  obtain⟨_,_,_,f3,_,_⟩:=hf b hb;rcases f3 with z|z
  ·exact I.ok.Hw b o e z
  ·exact absurd (aaj (aaq (I.ok.bs b o e).1) z) (abr _)
 ·
  obtain⟨_,f1,f2,_⟩:=hf b hb;rcases aas.mp (I.tF b z) with q|q
  ·exact f1 q
  ·exact f2 q
 ·
  by_cases hi:i<own.length
  ·rw[aaE (by simpa using hi),acs,aad hi]at e2
   cases e2
  ·rw[aaO (by simpa using hi),abJ]at e2
   replace e1:(own++fq)[i]?=some x:=e1
   rw[aaO (by lia)]at e1
   obtain⟨j,hj,hσ⟩:=tO e2;have hN:X.N[j]?=some x:=by
    have q:=abf (λl=>l[i-own.length]?) T.at_
    simp only[aan,hj,e1,ab9]at q;exact Option.some.inj q
   have hfx:=T.fr x (iq e1);have hm:=abk hfx;have hk:=T.free (x,.free) hm rfl;obtain⟨m0,hn0,El⟩:=I.loc;obtain⟨u,r,l⟩:=El j x v hN hσ (by rcases hk with k|k;exact .inr (.inl k);exact .inr (.inr k))
   refine⟨u,r,.inr ⟨oO hfx,?_⟩⟩;rcases l with⟨xg,_⟩|⟨_,c,hc,hcell⟩
   ·have xg:X.env.scope.names.lookup x=some .local:=xg;rcases hk with k|k<;>(rw[xg]at k;cases k)
   ·obtain⟨c',hc'⟩:=iU (cells:=X.env.cells) (names:=scope.names) (cs:=[]) (x:=x) (.inl hm);have q:=cells x c' hc';rw[hc]at q;cases q;exact⟨c,hc',hcell.keeps old⟩
 ·
  obtain⟨v,q⟩:=I.cell x c (cells x c e);exact⟨v,q.keeps old⟩
 ·
  show upd H D (.lst []) C=none;rw[ak (aa2 hDC)];exact Oz
 ·show upd H D (.lst []) c=none;have e:=cells x c e;rw[ak (aaK (aaj (hcl x c e) hD))];exact I.eU x c e
 ·exact I.hok.laid old hD ⟨aaN _,[],0,.nil,hl⟩
 ·show _=(own++fq).length;have q:=abf List.length T.at_;rw[aac,aac]at q;rw[aah,aah,abJ];unfold eN;rw[aac,q]
def nJ{pq:aV}{σ σ' : St}{H H' : Hp}{s s' : Shared}{scope:Scope}{N:List Str}{fp:List Addr}{C:Addr}{h' : Heap}{xe:di}
 (I:Inv X pq σ H s) (hf:∀b∈fp,nS X pq H b) (hC:s.heap.objs.size<=C) (J:Inv (cQ X N scope xe C s H fp) [] σ' H' s') (sb:Heap.SameBut C s'.heap h'):Inv X pq σ H' { s' with heap:=h'}:=by
 have Oz:H' C=none:=J.free;refine I.Hx (ch:=fp) J.os ?_ ?_ J.bare (λb hb=>?_)
 ·have u:Un (frs X.stack) fp H H' s.heap s'.heap:=J.base;have ne:∀b o,s.heap.get? b=some o->b≠C:=λb o e=>aaK (aaj (aaq e) hC)
  refine⟨λb o e n hb hx=>(sb.2 b (ne b o e)).trans (u.keep b o e n hb hx),λb o e n hb hx=>?_,u.free,λb o e hx=>?_,u.tups,u.kJ,u.lR⟩
  ·obtain⟨sl,q⟩:=u.slot b o e n hb hx;exact⟨sl,(sb.2 b (ne b o e)).trans q⟩
  ·obtain⟨o',q⟩:=u.there b o e hx;exact⟨o',(sb.2 b (ne b o e)).trans q⟩
 ·intro b ob e;refine(J.hok b ob e).stay (λc w' hc q=>(sb.2 c ?_).trans q) (λ_ q=>q) λ_ _ q=>q
  rintro rfl;rcases hc with rfl|hc
  ·rw[Oz]at e;cases e
  ·rw[Oz]at hc;cases hc
 ·obtain⟨_,f1,_,f3,f4,f5⟩:=hf b hb;exact⟨f3,f1,f4,f5⟩
end
section
variable {prog:Program}{w:World}{A:Around}{R:Result->Shared->Prop}{s:Shared}
abbrev Em(ifs:List Expr)(env:Env):Sem Bool:=forIn ifs true λc r=>if r=true then do let ok←isTrue c env (eval c env);pure (ForInStep.yield ok) else pure (ForInStep.yield r)
def yt{elt target iter:Expr}{ifs:List Expr}{scope:Scope}{pos:Pos}{it acc:Value}{env:Env}(I:Nat->Shared->Prop)
 (turn:∀n s,I n s->wpAny (model prog w) A (pyNext it) (λr s₁=>match r with
  | none=>R (.ok .next) s₁
  | some v=>wpAny (model prog w) A (letOwnedTupleGo target it v) (λ_ s₀=>wpAny (model prog w) A (assign target env v) (λ_ s₂ =>
   wpAny (model prog w) A (Em ifs env) (λok s₃ =>
    if ok=true then wpAny (model prog w) A (eval elt env) (λx s₄ =>
     wpAny (model prog w) A (call (.builtin "list.append") [acc,x]) (λ_ s₅=>∃m,m<n/\I m s₅) (notedBy (model prog w) A env λe s'=>R (.error e) s') s₄) (notedBy (model prog w) A env λe s'=>R (.error e) s') s₃
    else ∃m,m<n/\I m s₃) (notedBy (model prog w) A env λe s'=>R (.error e) s') s₂) (notedBy (model prog w) A env λe s'=>R (.error e) s') s₀) (notedBy (model prog w) A env λe s'=>R (.error e) s') s₁) (notedBy (model prog w) A env λe s'=>R (.error e) s') s)
 (n:Nat) (h:I n s) :
 codeAny (model prog w) A (.compLoop (.ListComp elt [⟨target,iter,ifs,0⟩] scope pos) 0 it acc env) R s:=by
 refine codeAny_loop rfl I (λn s hI=>?_) n h
 show wpAny _ A ((compTurn (.ListComp elt [⟨target,iter,ifs,0⟩] scope pos) 0 it acc env).onRaise (λx=>do noteFrame x env;theTreesLotGoes x)) _ _ s
 refine wpAny_noted ?_;rw[compTurn_list];refine aS (wpAny_standAt (aS (aaP (turn n s hI) (λr s₁ h₁=>?_) λ_ _ h'=>h')))
 cases r with
 | none=>exact aag h₁
 | some v =>
   refine aS (aaP h₁ (λ_ s₀ h₀=>?_) λ_ _ h'=>h')
   refine aS (aaP h₀ (λ_ s₂ h₂=>aS (aaP h₂ (λok s₃ h₃=>?_) λ_ _ h'=>h')) λ_ _ h'=>h')
   cases ok with
   | false=>exact aag ⟨rfl,h₃⟩
   | true =>
     exact aS (aS (aaP h₃ (λx s₄ h₄=>aS (aaP h₄ (λ_ s₅ h₅=>aag (aag ⟨rfl,h₅⟩)) λ_ _ h'=>h')) λ_ _ h'=>h'))
end
def RA(X:Cx)(ifs:List Expr)(t:TT):Prop :=
 ∀(pq:aV) (s:Shared) (σ:St) (H:Hp) (Q:Bool->Hp->Prop),Inv X pq σ H s->t σ H Q->wpAny (model X.prog X.w) X.A (Em ifs X.env) (TP X pq σ Q) X.xe s
def Nq:TT:=λ_ H Q=>Q true H
def bJ{X:Cx}:RA X [] Nq:=λ_ _ _ H _ I h=>wpAny_tests_nil ⟨H,I,h⟩
def fQ{X:Cx}{c:Expr}{t:TT}(h:PT X c t):RA X [c] t:=λpq s σ H Q I q=>wpAny_tests_one (h pq s σ H Q I q)
def eW(J:It)(g:TG)(tt:TT)(te:TE)(n:Nat)(fr:St)(D:Addr)(Q:Hp->Prop)(H1:Hp):Prop :=
 ∃W:Nat->Nat->List V->Hp->Prop,(∃m,W 0 m [] H1)/\∀i m acc H,W i m acc H->H D=some (.lst acc)/\
   ((J.stop i H/\Q H)\/(J.go i H/\acc.length<sizeLine/\∃N:List V->Hp->Prop,(∀acc' H',N acc' H'->∃m',m'<m/\W (i+1) m' acc' H')/\
     ∀x H',J.KZ i H x H'->g x (List.replicate n none++fr) H' λσ2 H2=>σ2.drop n=fr/\tt σ2 H2 λb H3 =>
     if b=true then te σ2 H3 λv H4=>H4 D=some (.lst acc)/\N (acc++[v]) (upd H4 D (.lst (acc++[v])))
     else N acc H3))
def Nr(wi:TI)(g:TG)(tt:TT)(te:TE)(n:Nat)(js:List Nat):TE:=λσ H Q=>wi σ H λJ H1=>∀D,H1 D=none->eW J g tt te n (eN σ js) D (λH2=>Q (.ref D) H2) (upd H1 D (.lst []))
structure Nt(A:Around)(cm:Bool)(P:Program)(w:World)(K:bM)(tg:Expr)(J:It)(fp:List Addr)(it:Addr)(tn:Nat->Heap->Prop):Prop where
 mem:it∈fp
 obj:∀i h,tn i h->∀b∈fp,∃o,h.get? b=some o/\∀v,o.data≠.cell v
 keep:∀i h h',tn i h->(∀b∈fp,∀o,h.get? b=some o->h'.get? b=some o)->tn i h'
 item:∀(X:Cx),X.prog=P->X.w=w->X.K=K->X.A=A->X.calm=cm->∀(i:Nat) (pq:aV) (s:Shared) (σ:St) (H:Hp) (E:di),Inv X pq σ H s->(∀b∈fp,nS X pq H b)->tn i s.heap->J.go i H->
  wpAny (model P w) X.A (pyNext (.ref it)) (λr s1=>∃u,r=some u/\
   wpAny (model P w) X.A (letOwnedTupleGo tg (.ref it) u) (λ_ s2=>∃x H',Inv X pq σ H' s2/\RelV x u/\J.KZ i H x H'/\tn (i+1) s2.heap/\∀b∈fp,H' b=none) E s1) E s
 done:∀(X:Cx),X.prog=P->X.w=w->X.K=K->X.A=A->X.calm=cm->∀(i:Nat) (pq:aV) (s:Shared) (σ:St) (H:Hp) (E:di),Inv X pq σ H s->(∀b∈fp,nS X pq H b)->tn i s.heap->J.stop i H->
  wpAny (model P w) X.A (pyNext (.ref it)) (λr s1=>r=none/\Inv X pq σ H s1) E s
 self:∀(A:Around) (i:Nat) (s:Shared) (Q:di) (E:di),tn i s.heap->Q (.ref it) s->wpAny (model P w) A (pyIter (.ref it)) Q E s
def Turn.x{A:Around}{cm:Bool}{P:Program}{w:World}{K:bM}{tg:Expr}{J:It}{fp:List Addr}{it:Addr}{tn:Nat->Heap->Prop}(T:Turn P w K tg J fp it tn)(hc:cm=true):Nt A cm P w K tg J fp it tn :=
 ⟨T.mem,T.obj,T.keep,λX a b c _ d=>T.item X a b c (d.trans hc),λX a b c _ d=>T.done X a b c (d.trans hc),T.self⟩
section
variable {X:Cx}{elt iter tg:Expr}{ifs:List Expr}{scope:Scope}{pos:Pos}{own fq:List Str}{js:List Nat}{wi:TI}{g:TG}{tt:TT}{te:TE}
def tP{pq:aV}{σ:St}{H2:Hp}{s2:Shared}{it:Addr}{fp:List Addr}{tn:Nat->Heap->Prop}{J:It}{E:di}{RR:Value->Addr->Result->Shared->Prop}{QQ:Addr->Hp->Prop}
 (T:c9 X scope own fq js)
 (hg:∀C s H fp,PG (cQ X (own++fq) scope (λ_ _=>False) C s H fp) tg g)
 (ht:∀C s H fp,RA (cQ X (own++fq) scope (λ_ _=>False) C s H fp) ifs tt)
 (he:∀C s H fp,PE (cQ X (own++fq) scope (λ_ _=>False) C s H fp) elt te)
 (I2:Inv X pq σ H2 s2) (Ho:Nt X.A X.calm X.prog X.w X.K tg J fp it tn) (st2:tn 0 s2.heap) (f2:∀b∈fp,nS X pq H2 b)
 (hl:∀D,H2 D=none->eW J g tt te own.length (eN σ js) D (QQ D) (upd H2 D (.lst [])))
 (hRR:∀D C σ' H' s',s2.heap.objs.size<=C->Inv (cQ X (own++fq) scope (λ_ _=>False) C s2 H2 fp) [] σ' H' s'->QQ D H'->RR (.ref D) C (.ok .next) s') :
 wpAny (model X.prog X.w) X.A (newList []) (λacc s₃=>wpAny (model X.prog X.w) X.A (newFunctionEnv scope X.env.globals (cP X.env.cells scope.names []) [] X.env.qual none .none (some X.env)) (λcenv s₄ =>
  codeAny (model X.prog X.w) X.A (.compStart (.ListComp elt [⟨tg,iter,ifs,0⟩] scope pos) 0 (.ref it) acc { cenv with scope:=relabel scope X.env}) (RR acc cenv.locals) s₄) E s₃) E s2:=by
 refine wpAny_newObj_type (wpAny_newFunctionEnv T.yr (by intro y hy;simp at hy) (λh₁ OA LH=>?_) T.kind)
 dsimp only at OA LH ⊢;generalize LI:s2.heap.push { cls:=.type "list",dict:=none,data:=.seq ([]:List Value).toArray}=G2 at OA LH ⊢;have hC:G2.objs.size=s2.heap.objs.size+1:=by rw[<-LI,adx]
 have hDC:s2.heap.objs.size≠G2.objs.size:=by rw[hC];exact aaK (acj _)
 have RB:s2.heap.objs.size<=G2.objs.size:=by rw[hC];exact abA _
 have below:∀b,b<s2.heap.objs.size->b≠G2.objs.size:=λb hb=>by rw[hC];exact aaK (abI hb)
 have old:∀b o,s2.heap.get? b=some o->h₁.get? b=some o:=λb o e=>LH.extBut b o (below b (aaq e)) (aai _ (LI▸aai _ e))
 have hacc:h₁.get? s2.heap.objs.size=some { cls:=.type "list",data:=.seq ([]:List Value).toArray 0}:=LH.extBut _ _ hDC (aai _ (LI▸aaB _ rfl));have U4:∀b∈fp,∃o,s2.heap.get? b=some o:=λb hb=>let⟨o,e,_⟩:=Ho.obj _ _ st2 b hb;⟨o,e⟩
 have st1:tn 0 h₁:=Ho.keep _ _ _ st2 λb _ o e=>old b o e
 obtain⟨W,⟨m0,w0⟩,turn⟩:=hl s2.heap.objs.size (I2.hok.fresh (aae _));have hfx:∀{H' : Hp},(∀b∈fp,H' b=none)->∀b∈fp,nS (cQ X (own++fq) scope (λ_ _=>False) G2.objs.size s2 H2 fp) [] H' b:=λ{H'} hn b hb=>by
  obtain⟨_,f1,Zu,_,f4,_⟩:=f2 b hb;obtain⟨o,ho⟩:=U4 b hb;refine⟨hn b hb,below b (aaq ho),λz=>?_,.inl hb,λx c e=>?_,λp hp=>absurd (show p∈([]:aV) from hp) (by simp)⟩
  ·rcases aas.mp (I2.tF b z) with q|q
   ·exact f1 q
   ·exact Zu q
  ·rcases ji (show(cP X.env.cells scope.names []).lookup x=some c from e) with q|⟨q1,q2⟩
   ·cases q
   ·obtain⟨c',hc'⟩:=gz I2 T x .free q1 rfl;rw[hc']at q2;have q2:c' = c:=q2;rw[<-q2];exact f4 x c' hc'
 have Zv:∀b∈fp,upd H2 s2.heap.objs.size (.lst []) b=none:=λb hb=>by
  obtain⟨o,ho⟩:=U4 b hb;rw[ak (aaK (aaq ho))];exact(f2 b hb).1
 have back:∀{σ6:St} {p6:aV} {H6:Hp} {s6:Shared},Inv (cQ X (own++fq) scope (λ_ _=>False) G2.objs.size s2 H2 fp) p6 σ6 H6 s6->σ6.drop own.length=eN σ js->
  Inv (cQ X (own++fq) scope (λ_ _=>False) G2.objs.size s2 H2 fp) [] (List.replicate own.length none++eN σ js) H6 s6:=λ{σ6 p6 H6 s6} I6 hd=>by
  have Zw:σ6.length=(own++fq).length:=I6.len;have J6:=I6.fM (TL:=[]) λp hp=>absurd hp (by simp)
  refine J6.weak ?_ λi v e=>?_
  ·have q:=abf List.length hd;rw[acQ]at q;rw[aah]at Zw;rw[aah,abJ]
   lia
  ·by_cases hi:i<own.length
   ·rw[aaE (by simpa using hi),acs,aad hi]at e
    cases e
   ·rw[aaO (by simpa using hi),abJ,<-hd,List.getElem?_drop]at e
    rw[show own.length+(i-own.length)=i by lia]at e
    exact e
 have loop:∀s₃:Shared,s₃={ s2 with heap:=h₁,toks:=s2.toks+([]:List (Str×Value)).length}->
  codeAny (model X.prog X.w) X.A (.compLoop (.ListComp elt [⟨tg,iter,ifs,0⟩] scope pos) 0 (.ref it) (.ref s2.heap.objs.size) (compEnvC scope (cP X.env.cells scope.names []) G2.objs.size X.env))
   (RR (.ref s2.heap.objs.size) G2.objs.size) s₃:=by
  rintro s₃ rfl;refine yt (λn s'=>∃i acc H',Inv (cQ X (own++fq) scope (λ_ _=>False) G2.objs.size s2 H2 fp) [] (List.replicate own.length none++eN σ js) H' s'/\tn i s'.heap/\(∀b∈fp,H' b=none)/\W i n acc H') ?_ m0
   ⟨0,[],upd H2 s2.heap.objs.size (.lst []),HX I2 T f2 U4 (aae _) RB hDC old hacc OA,st1,Zv,w0⟩
  rintro n s3 ⟨i,acc,H3,I3,st3,Nj,w3⟩;obtain⟨rT,RC⟩:=turn i n acc H3 w3;rcases RC with⟨stop,qn⟩|⟨go,hz,NN,Xb,step⟩
  ·refine aaP (Ho.done (cQ X (own++fq) scope (λ_ _=>False) G2.objs.size s2 H2 fp) rfl rfl rfl rfl rfl i [] s3 _ H3 (λ_ _=>False) I3 (hfx Nj) st3 stop) (λr s4 ⟨hr,I4⟩=>?_) λ_ _ z=>z.elim
   subst hr;exact hRR _ _ _ H3 s4 RB I4 qn
  ·refine aaP (Ho.item (cQ X (own++fq) scope (λ_ _=>False) G2.objs.size s2 H2 fp) rfl rfl rfl rfl rfl i [] s3 _ H3 (λ_ _=>False) I3 (hfx Nj) st3 go) (λr s4 ⟨u,hr,h4⟩=>?_) λ_ _ z=>z.elim
   subst hr;refine aaP h4 (λ_ s5 ⟨x,H5,I5,r5,y5,HD,Rk⟩=>?_) λ_ _ z=>z.elim
   have Rl:=I5.pinned (hfx Rk) (Ho.obj _ _ HD);refine aaP (hg _ _ _ _ _ s5 _ H5 x u _ Rl r5 (step x H5 y5)) (λ_ s6 ⟨σ6,H6,I6,Xc,q6⟩=>?_) λ_ _ z=>z.elim
   refine aaP (ht _ _ _ _ _ s6 σ6 H6 _ I6 q6) (λok s7 ⟨H7,I7,q7⟩=>?_) λ_ _ z=>z.elim
   have again:∀{H8:Hp} {s8:Shared},Inv (cQ X (own++fq) scope (λ_ _=>False) G2.objs.size s2 H2 fp) ([]++pY fp s5.heap) σ6 H8 s8->tn (i+1) s8.heap/\∀b∈fp,H8 b=none:=λ{H8 s8} I8=>by
    refine⟨Ho.keep _ _ _ HD λb hb o e=>(I8.pin (b,o) (iB _ (iB _ (gx hb e)))).1,λb hb=>?_⟩
    obtain⟨o,e,d⟩:=Ho.obj _ _ HD b hb;exact(I8.pin (b,o) (iB _ (iB _ (gx hb e)))).2.1
   cases ok with
   | false =>
     rw[aab aal];obtain⟨m',hm,w7⟩:=Xb _ _ q7;obtain⟨t7,n7⟩:=again I7;exact⟨m',hm,i+1,acc,H7,back I7 Xc,t7,n7,w7⟩
   | true =>
     rw[aad rfl];refine aaP (he _ _ _ _ _ s7 σ6 H7 _ I7 q7) (λxv s8 ⟨v,H8,I8,r8,Zx,q8⟩=>?_) λ_ _ z=>z.elim
     obtain⟨m',hm,w8⟩:=Xb _ _ q8;refine aaP (cO (X:=cQ X (own++fq) scope (λ_ _=>False) G2.objs.size s2 H2 fp) _ s8 σ6 H8 (.ref s2.heap.objs.size) [v] (.ref s2.heap.objs.size) [xv] (λy H9=>y = .dS/\H9=upd H8 s2.heap.objs.size (.lst (acc++[v]))) I8 rfl (.cons r8 .nil) ⟨_,acc,v,rfl,rfl,Zx,hz,rfl,rfl⟩)
      (λ_ s9 ⟨y,H9,I9,_,_,e9⟩=>?_) λ_ _ z=>z.elim
     subst e9;obtain⟨t9,n9⟩:=again I9;exact⟨m',hm,i+1,acc++[v],_,back I9 Xc,t9,n9,w8⟩
 exact codeAny_compStart_list (loop _ rfl) (Ho.self _ 0 _ _ _ st1 (loop _ rfl))
def bK(T:c9 X scope own fq js)(hc:X.calm=true)(hi:PI X tg iter wi)
 (hg:∀C s H fp,PG (cQ X (own++fq) scope (λ_ _=>False) C s H fp) tg g)
 (ht:∀C s H fp,RA (cQ X (own++fq) scope (λ_ _=>False) C s H fp) ifs tt)
 (he:∀C s H fp,PE (cQ X (own++fq) scope (λ_ _=>False) C s H fp) elt te)
 (hs:∀x,foldedSetIterable iter X.env x=pure x:=by intro _;rfl) :
 PE X (.ListComp elt [⟨tg,iter,ifs,0⟩] scope pos) (Nr wi g tt te own.length js):=by
 intro pq s σ H Q I h;rw[eval_ListComp];refine wpAny_comprehension_free (use:=none) rfl hs (nW (gz I T)) T.kind T.names ?_;refine aaP (hi pq s σ H _ I h) (λv s1 h1=>aaP h1 (λitv s2 h2=>?_) λ_ _ z=>z) λ_ _ z=>z
 obtain⟨it,fp,tn,J,H2,e,I2,Ho,st2,f2,hl⟩:=h2;subst e;refine tP (QQ:=λD H'=>Q (.ref D) H') T hg ht he I2 (Ho.x hc) st2 f2 hl λD C σ' H' s' hC J' q=>?_
 obtain⟨m,hn,_⟩:=J'.loc;exact⟨m,hn,λh' sb=>⟨.ref D,H',nJ I2 f2 hC J' sb,rfl,q⟩⟩
def HY(i:Nat)(wi:TI)(g:TG)(tt:TT)(te:TE)(n:Nat)(js:List Nat):TS:=λD σ H=>Nr wi g tt te n js σ H λv H1=>D.nx (σ.set i (some v)) H1
def fR{i:Nat}{x:Str}{pos' spos:Pos}(hN:X.N.Nodup)(hix:X.N[i]?=some x)(hx:X.env.scope.names.lookup x=some .local)(T:c9 X scope own fq js)(hc:X.calm=true)(hi:PI X tg iter wi)
 (hg:∀C s H fp,PG (cQ X (own++fq) scope (λ_ _=>False) C s H fp) tg g)
 (ht:∀C s H fp,RA (cQ X (own++fq) scope (λ_ _=>False) C s H fp) ifs tt)
 (he:∀C s H fp,PE (cQ X (own++fq) scope (λ_ _=>False) C s H fp) elt te)
 (hsw:swapsWith (.ListComp elt [⟨tg,iter,ifs,0⟩] scope pos) (some (.Name x pos')) spos.line X.env=pure true:=by rfl)
 (hs:∀x,foldedSetIterable iter X.env x=pure x:=by intro _;rfl) :
 PS X (.Assign [.Name x pos'] (.ListComp elt [⟨tg,iter,ifs,0⟩] scope pos) spos) (HY i wi g tt te own.length js):=by
 intro pq s σ H D I h;rw[exec_Assign_Name_used _ _ _ _ hsw];refine aS (wpAny_standAt (aS ?_));show wpAny _ X.A (do let _←comprehension (.ListComp elt [⟨tg,iter,ifs,0⟩] scope pos) scope X.env _ (newList []) false (eval iter X.env) (some (assign (.Name x pos') X.env))) _ _ s
 refine aS (aaP (wpAny_comprehension_free (use:=some (assign (.Name x pos') X.env)) (Q:=λ_ s'=>SP X pq D .next s') rfl hs (nW (gz I T)) T.kind T.names ?_) (λ_ s' hq=>aag (aag hq)) λ_ _ e=>e)
 refine aaP (hi pq s σ H _ I h) (λv s1 h1=>aaP h1 (λitv s2 h2=>?_) λ_ _ z=>z) λ_ _ z=>z
 obtain⟨it,fp,tn,J,H2,e,I2,Ho,st2,f2,hl⟩:=h2;subst e;refine tP (QQ:=λD' H'=>D.nx (σ.set i (some (.ref D'))) H') T hg ht he I2 (Ho.x hc) st2 f2 hl λD' C σ' H' s' hC J' q=>?_
 have I3:Inv X pq σ H' s':=by
  obtain⟨hh,gg,dd,tt',oo⟩:=s';exact nJ I2 f2 hC J' (Heap.SameBut.refl ..)
 obtain⟨m,hn,_⟩:=J'.loc;obtain⟨oC,es,ep,Zy,Xd,rest⟩:=id hn;have Oz:H' C=none:=J'.free;have Xe:C≠X.env.locals:=abS (aaj I2.lt hC);have Zz:C∉X.fs:=λz=>by
  obtain⟨_,o,ho,_⟩:=I2.funs.mem z;exact absurd (aaj (aaq ho) hC) (abr _)
 have I4:Inv X (pq++[(C,oC)]) σ H' s':=I3.fM λp hp=>(aaL.mp hp).elim (λz=>I3.pin p (iB _ z)) λz=>by
  have e:p=(C,oC):=by simpa using z
  subst e;exact⟨Zy,Oz,Xe,Zz,λv z=>by have z' : oC.data = .cell v:=z;rw[Xd]at z';cases z'⟩
 show wpAny _ X.A (assign (.Name x pos') X.env (.ref D')) _ _ _;refine wpAny_assign_Name (oG (v:=.ref D') I4 hN hix (.inl hx) rfl (λs5 I5=>?_) (.inr hx))
 have e5:s5.heap.get? C=some oC:=(I5.pin (C,oC) (iB _ (iB _ (by simp)))).1
 refine⟨m,⟨oC,es,ep,e5,Xd,rest⟩,λh' sb=>⟨_,H',?_,q⟩⟩
 have I6:Inv X pq (σ.set i (some (.ref D'))) H' s5:=I5.iS;refine I6.turned (t':=s5.toks) (λb o hb e=>(sb.2 b hb).trans e) Oz Xe (.inr (aaD I2.sz hC)) (λy c e=>?_) (λp hp z=>?_)
 ·obtain⟨v,qc⟩:=I2.cell y c e;exact aaK (aaj qc.lt hC)
 ·have Qt:=(I2.pin p hp).1;exact absurd (aaj (aaq Qt) (by rw[z];exact hC)) (abr _)
end
section
variable {K:bM}{a:Addr}{xs:List V}{g:TG}{tt:TT}{te:TE}{n:Nat}{fr:St}{D:Addr}{Q:Hp->Prop}{H1:Hp}
def bO(Pv:Nat->List V->Hp->Prop)(h0:Pv 0 [] H1)(hl:∀i acc H,i<=xs.length->Pv i acc H->aL K H a xs/\H D=some (.lst acc)/\acc.length<=i)(hz:xs.length<=sizeLine)
 (hs:∀i x acc H,xs[i]?=some x->Pv i acc H->g x (List.replicate n none++fr) H λσ2 H2=>σ2.drop n=fr/\tt σ2 H2 λb H3 =>
  if b=true then te σ2 H3 λv H4=>H4 D=some (.lst acc)/\Pv (i+1) (acc++[v]) (upd H4 D (.lst (acc++[v]))) else Pv (i+1) acc H3)
 (hd:∀acc H,Pv xs.length acc H->Q H):eW (Lj K a) g tt te n fr D Q H1:=by
 refine⟨λi m acc H=>m=xs.length-i/\i<=xs.length/\Pv i acc H,⟨xs.length,by simp,aaN _,h0⟩,?_⟩
 rintro i m acc H ⟨rfl,hi,p⟩;obtain⟨q,hD,ha⟩:=hl i acc H hi p;refine⟨hD,?_⟩
 by_cases hlt:i<xs.length
 ·refine .inr ⟨⟨xs,xs[i],q,by simp[hlt]⟩,by lia,Pv (i+1),λacc' H' p'=>⟨xs.length-(i+1),by lia,rfl,hlt,p'⟩,λx H' y=>?_⟩
  obtain⟨e,y⟩:=y;subst e;exact hs i x acc _ (y xs q) p
 ·have e:i=xs.length:=by lia
  subst e;exact .inl ⟨⟨xs,q,aae _⟩,hd acc H p⟩
def z9(Pv:Nat->List V->Hp->Prop)(h0:Pv 0 [] H1)(hl:∀i acc H,i<=xs.length->Pv i acc H->bg K H a xs/\H D=some (.lst acc)/\acc.length<=i)(hz:xs.length<=sizeLine)
 (hs:∀i x acc H,xs[i]?=some x->Pv i acc H->g x (List.replicate n none++fr) H λσ2 H2=>σ2.drop n=fr/\tt σ2 H2 λb H3 =>
  if b=true then te σ2 H3 λv H4=>H4 D=some (.lst acc)/\Pv (i+1) (acc++[v]) (upd H4 D (.lst (acc++[v]))) else Pv (i+1) acc H3)
 (hd:∀acc H,Pv xs.length acc H->Q H):eW (Qp K a) g tt te n fr D Q H1:=by
 refine⟨λi m acc H=>m=xs.length-i/\i<=xs.length/\Pv i acc H,⟨xs.length,by simp,aaN _,h0⟩,?_⟩
 rintro i m acc H ⟨rfl,hi,p⟩;obtain⟨q,hD,ha⟩:=hl i acc H hi p;refine⟨hD,?_⟩
 by_cases hlt:i<xs.length
 ·refine .inr ⟨⟨xs,xs[i],q,by simp[hlt]⟩,by lia,Pv (i+1),λacc' H' p'=>⟨xs.length-(i+1),by lia,rfl,hlt,p'⟩,λx H' y=>?_⟩
  obtain⟨e,y⟩:=y;subst e;exact hs i x acc _ (y xs q) p
 ·have e:i=xs.length:=by lia
  subst e;exact .inl ⟨⟨xs,q,aae _⟩,hd acc H p⟩
def cz{lo:Int}{m:Nat}(Pv:Nat->List V->Hp->Prop)(h0:Pv 0 [] H1)(hl:∀i acc H,i<=m->Pv i acc H->H D=some (.lst acc)/\acc.length<=i)(hz:m<=sizeLine)
 (hs:∀i acc H,i<m->Pv i acc H->g (.int (lo+i)) (List.replicate n none++fr) H λσ2 H2=>σ2.drop n=fr/\tt σ2 H2 λb H3 =>
  if b=true then te σ2 H3 λv H4=>H4 D=some (.lst acc)/\Pv (i+1) (acc++[v]) (upd H4 D (.lst (acc++[v]))) else Pv (i+1) acc H3)
 (hd:∀acc H,Pv m acc H->Q H):eW (HC lo m) g tt te n fr D Q H1:=by
 refine⟨λi k acc H=>k=m-i/\i<=m/\Pv i acc H,⟨m,by simp,aaN _,h0⟩,?_⟩
 rintro i k acc H ⟨rfl,hi,p⟩;obtain⟨hD,ha⟩:=hl i acc H hi p;refine⟨hD,?_⟩
 by_cases hlt:i<m
 ·refine .inr ⟨hlt,by lia,Pv (i+1),λacc' H' p'=>⟨m-(i+1),by lia,rfl,hlt,p'⟩,λx H' y=>?_⟩
  obtain⟨e,y⟩:=y;subst e y;exact hs i acc _ hlt p
 ·have e:i=m:=by lia
  subst e;exact .inl ⟨aae _,hd acc H p⟩
end
def Aa(scope RD:Scope)(N fq:List Str)(js:List Nat):Bool :=
 decide (scope.kind = .function)&&scope.names.all (λy=>decide (y.2≠.cell))&&scope.names.all (λy=>decide (y.2 = .local->scope.names.lookup y.1=some .local)) &&
 scope.names.all (λy=>decide (y.2 = .free->RD.names.lookup y.1=some .cell\/RD.names.lookup y.1=some .free))&&decide (js.map (λj=>N[j]?)=fq.map some)&&fq.all (λx=>decide (scope.names.lookup x=some .free))
def aC{X:Cx}{scope:Scope}{own fq:List Str}{js:List Nat}(RD:Scope)(N:List Str)(h1:X.env.scope=RD:=by rfl)(h2:X.N=N:=by rfl)(h:Aa scope RD N fq js=true:=by decide +kernel):c9 X scope own fq js:=by
 unfold Aa at h;simp only[aaI,decide_eq_true_eq,adF]at h;obtain⟨⟨⟨⟨⟨a,b⟩,c⟩,d⟩,e⟩,f⟩:=h;exact⟨a,b,c,by rw[h1];exact d,by rw[h2];exact e,f⟩
mutual
inductive oQ(K:bM)(H:Hp):V->PyData->Prop
 | dS:oQ K H .dS .none
 | bl (b:Bool):oQ K H (.bl b) (.bool b)
 | int (i:Int):oQ K H (.int i) (.int i)
 | str (x:Str):oQ K H (.str x) (.str x)
 | lst {a:Addr} {xs:List V} {ds:List PyData} (h:aL K H a xs) (r:DatVs K H xs ds):oQ K H (.ref a) (.list ds)
 | tup {a:Addr} {xs:List V} {ds:List PyData} (h:bg K H a xs) (r:DatVs K H xs ds):oQ K H (.ref a) (.tuple ds)
inductive DatVs(K:bM)(H:Hp):List V->List PyData->Prop
 | nil:DatVs K H [] []
 | cons {x:V} {d:PyData} {xs:List V} {ds:List PyData} (h:oQ K H x d) (r:DatVs K H xs ds):DatVs K H (x::xs) (d::ds)
end
section
variable {X:Cx}{pq:aV}{σ:St}{H:Hp}{s:Shared}
mutual
def oQ.reads(I:Inv X pq σ H s):∀{v:V} {d:PyData} {u:Value},oQ X.K H v d->RelV v u->∃as,Reads s.heap u d as
 | _,_,u,.dS,r=>by cases(show u=Value.none from r);exact⟨_,.none⟩
 | _,_,u,.bl b,r=>by cases(show u=Value.bool b from r);exact⟨_,.bool b⟩
 | _,_,u,.int i,r=>by obtain⟨t,rfl⟩:=(show ∃t,u=Value.int i t from r);exact⟨_,.int i t⟩
 | _,_,u,.str x,r=>by obtain⟨t,rfl⟩:=(show ∃t,u=Value.str x t from r);exact⟨_,.str x t⟩
 | _,_,u,.lst (a:=a) h rs,r=>by
   cases(show u=Value.ref a from r)
   obtain⟨its,rv,⟨o,n,e,c,_,d⟩,_⟩:=I.list h;obtain⟨as,q⟩:=DatVs.reads I rs rv;exact⟨_,.list e c d (by simpa using q)⟩
 | _,_,u,.tup (a:=a) h rs,r=>by
   cases(show u=Value.ref a from r)
   obtain⟨its,rv,⟨o,e,c,n,d⟩,_⟩:=I.tuple h;obtain⟨as,q⟩:=DatVs.reads I rs rv;exact⟨_,.tuple e c d (by simpa using q)⟩
def DatVs.reads(I:Inv X pq σ H s):∀{vs:List V} {ds:List PyData} {us:List Value},DatVs X.K H vs ds->Vals vs us->∃as,ReadsAll s.heap us ds as
 | _,_,_,.nil,.nil=>⟨_,.nil⟩
 | _,_,_,.cons h r,.cons rv rr=>by
   obtain⟨as,q⟩:=oQ.reads I h rv;obtain⟨bs,q2⟩:=DatVs.reads I r rr;exact⟨_,.cons q q2⟩
end
end
section
variable {X:Cx}
def RE(K:bM):R2:=λx y H Q=>∃d e,oQ K H x d/\oQ K H y e/\SeqAt.shaped d=true/\SeqAt.shaped e=true/\Q (.bl (PyData.eqv d e)) H
def RG(K:bM):R2:=λx y H Q=>∃d e,oQ K H x d/\oQ K H y e/\SeqAt.shaped d=true/\SeqAt.shaped e=true/\Q (.bl (!PyData.eqv d e)) H
def OB(hu:X.A.units+64<cLine):kG X (compareOp .Eq) (RE X.K):=by
 intro pq s σ H x y v u Q I rx ry h;obtain⟨d,e,h1,h2,s1,s2,q⟩:=h;obtain⟨as,ra⟩:=h1.reads I rx;obtain⟨bs,rb⟩:=h2.reads I ry;exact eq_dataH ra rb s1 s2 hu ⟨.bl _,H,I,rfl,q⟩
def OD(hu:X.A.units+64<cLine):kG X (compareOp .NotEq) (RG X.K):=by
 intro pq s σ H x y v u Q I rx ry h;obtain⟨d,e,h1,h2,s1,s2,q⟩:=h;obtain⟨as,ra⟩:=h1.reads I rx;obtain⟨bs,rb⟩:=h2.reads I ry;exact ne_dataH ra rb s1 s2 hu ⟨.bl _,H,I,rfl,q⟩
def LJ:UW X "int.bit_length" (λx xs H Q=>∃i,x = .int i/\xs=[]/\Q (.int (Builtin.Int.intBits i)) H):=by
 intro pq s σ H x xs v us Q I rx rs h;obtain⟨i,rfl,rfl,q⟩:=h;obtain⟨t,rfl⟩:=rx;cases rs;exact call_int_bit_length ⟨.int _,H,I.tok _,⟨_,rfl⟩,q⟩
def LK{x:Str}{v:Int}{pos:Pos}(hg:Gl X x)(h:∃t,X.mg x=some (.int v t))(hd:(x==("__debug__":Str))=false:=by decide):PE X (.Name x pos) (tC (.int v)):=by
 obtain⟨t,e⟩:=h;exact Lg hg e ⟨t,rfl⟩ hd
end
def dl{n:Nat}(h:Nat.ble n 1000=true):n<=sizeLine:=aaW (iH (Nat.le_of_ble_eq_true h))
def rV{j:Int}(h:decide (0<j)=true):0<j:=jB h
def Ab{c A B:Prop}[Decidable c](h : ¬ c)(hb:B):if decide c=true then A else B:=by
 rw[eI h];exact gn hb
def LL{c A B:Prop}[Decidable c](h:c)(ha:A):if decide c=true then A else B:=by
 rw[cF h];exact jg ha
def aq.new{H:Hp}{p:Addr}{o:HO}(h:H p=none):aq H (upd H p o):=λb u e=>by
 rw[ak (bj e h)];exact e
def aq.put{H H2:Hp}{D:Addr}{o:HO}(s:aq H H2)(h:H D=none):aq H (upd H2 D o):=λb u e=>by
 rw[ak (bj e h)];exact s b u e
def aq.ZA{K:bM}{H H' : Hp}{a:Addr}{xs:List V}(e:aq H H')(h:bg K H a xs):bg K H' a xs:=by
 rcases h with(h|⟨o,h⟩) | h
 ·exact .inl (.inl (e _ _ h))
 ·exact .inl (.inr ⟨o,e _ _ h⟩)
 ·exact .inr h
def dJ(H H' : Hp):Prop:=∀b xs,H b=some (.tup xs)->H' b=some (.tup xs)
def aq.tups{H H' : Hp}(s:aq H H'):dJ H H':=λb xs e=>s b _ e
def dJ.trans{H H1 H2:Hp}(a:dJ H H1)(b:dJ H1 H2):dJ H H2:=λc xs e=>b c xs (a c xs e)
def dJ.put{H:Hp}{D:Addr}{o:HO}{ys:List V}(h:H D=some (.lst ys)):dJ H (upd H D o):=λb xs e=>by
 rw[ak (aU e h (by intro z;cases z))]
 exact e
def Paired.nX{α β:Type}{F:α->β->Prop}:∀{l:List α} {r:List β} {i:Nat} {x:α},Paired F l r->l[i]?=some x->∃y,r[i]?=some y/\F x y
 | _,_,_,_,.nil,e=>by simp at e
 | _,_,0,_,.cons h _,e=>by
   simp at e;subst e;exact⟨_,rfl,h⟩
 | _,_,i+1,x,.cons _ t,e=>by
   obtain⟨y,h1,h2⟩:=Paired.nX (i:=i) (x:=x) t (by simpa using e)
   exact⟨y,by simpa using h1,h2⟩
def HZ(ns:List Int)(lo hi:Option Int):rR (ns.map V.int) lo hi=((ns.drop (HT.dU ns.length 0 lo)).take (HT.dU ns.length ns.length hi-HT.dU ns.length 0 lo)).map V.int:=by
 unfold rR;rw[aac,<-List.map_drop,<-List.map_take]
section
variable {X:Cx}{l:Expr}{tl:TE}{tg a b o e:Expr}{ta tb to:TE}{es:List Expr}
def CG(K:bM)(hu:X.A.units+64<cLine)(h:X.K=K:=by rfl):kG X (compareOp .Eq) (RE K):=by subst h;exact OB hu
def OE(K:bM)(hu:X.A.units+64<cLine)(h:X.K=K:=by rfl):kG X (compareOp .NotEq) (RG K):=by subst h;exact OD hu
def RH(K:bM):List V->Hp->VK->Prop:=λxs H Q=>∃p ys,xs=[.ref p]/\(aL K H p ys\/bg K H p ys)/\Q (.int ys.length) H
def U5(K:bM)(h:X.K=K:=by rfl):gw X (.builtin "len") (RH K):=by subst h;exact yp
def RI(K:bM):List V->Hp->VK->Prop:=λxs H Q=>∃p ys,xs=[.ref p]/\(aL K H p ys\/bg K H p ys)/\∀l,H l=none->Q (.ref l) (upd H l (.lst ys))
def Nu(K:bM)(h:X.K=K:=by rfl):gw X (.type "list") (RI K):=by subst h;exact yq
def RJ(K:bM):List V->Hp->VK->Prop:=λxs H Q=>∃p ys,xs=[.ref p]/\((aL K H p ys/\∀l,H l=none->Q (.ref l) (upd H l (.tup ys)))\/(bg K H p ys/\Q (.ref p) H))
def Ac(K:bM)(h:X.K=K:=by rfl):gw X (.type "tuple") (RJ K):=by subst h;exact vJ
def ik(K:bM)(h:X.K=K:=by rfl):Qs X (Oq K):=by subst h;exact Lx
def eO(K:bM)(h:X.K=K:=by rfl):Qs X (Ru K):=by subst h;exact Ot
def U6(K:bM)(h:X.K=K:=by rfl):TQ X (Rw K):=by subst h;exact Ly
def TU(K:bM)(h:X.K=K:=by rfl):kG X (compareOp .In) (TR K false):=by subst h;exact Fq
def Ia(K:bM)(h:X.K=K:=by rfl):kG X (compareOp .NotIn) (TR K true):=by subst h;exact yo
def rW(K:bM)(hl:PE X l tl)(h:X.K=K:=by rfl):PI X tg l (Ni K tl):=by subst h;exact Ll hl
def U7(K:bM)(hl:PE X l tl)(h:X.K=K:=by rfl):PI X tg l (Rh K tl):=by subst h;exact Of hl
def K0(K:bM){k:Nat}{t:KY}{n:Nat}{pos:Pos}(hc:X.calm=true)(hp:Qo X es t)(hn:(assignEach es X.env).length=n:=by rfl)(hst:(assignEach es X.env).findIdx? (·.1)=none:=by rfl)(h:X.K=K:=by rfl):
 PG X (.Tuple es k pos) (Rb K n t):=by subst h;exact Oe hc hp hn hst
end
def vK(od:Option Addr)(c:Value)(e:Addr)(h:Heap):Prop:=∃oe vs,h.get? e=some oe/\oe.data = .fields vs/\vs[2]?=some c/\oe.dict=od
def Ib(o:Obj)(f):(o.mapFields f).dict=o.dict:=by
 obtain⟨c,d,dt,sl⟩:=o;cases dt<;>rfl
section
variable {M:Model}{A:Around}{E:di}{s:Shared}{B:Heap}{env:Env}{outer l:List Env}{L e:Addr}{cls a0:Value}{Q:Unit->Shared->Prop}{od:Option Addr}{c:Value}
def yu{h:Heap}{T:Addr}{oT:Obj}{ts:Array Value}(f:Obj->Obj)(hT:h.get? T=some oT)(hd:oT.data = .fields ts):h.UpToSlots (h.update T f):=λb o hb hn=>by
 have ne:T≠b:=λz=>by
  rw[<-z,hT]at hb;cases hb;exact hn ts hd
 exact⟨o.slots,(abH h f ne).trans hb⟩
def p8{h:Heap}{T:Addr}(f:Obj->Obj)(k:B.StaysIn h)(n:B.get? T=none):B.StaysIn (h.update T f):=λb o hb=>by
 have ne:T≠b:=λz=>by
  rw[<-z,n]at hb;cases hb
 exact(abH h f ne).trans (k b o hb)
def kN{h h' : Heap}(x:h.FunFrames B l)(u:h.UpToSlots h'):h'.FunFrames B l:=x.of_keeps λb o hb hn =>
 let⟨_,q⟩:=u b o hb hn
 ⟨_,q,rfl⟩
def Nv{fl:Value}(hk:B.StaysIn s.heap)(hn:B.get? e=none)(hl:s.heap.FunFrames B l)(ht:s.heap.TracedAtW B e cls a0 fl)(h2:vK od c e s.heap)
 (q:∀h',Heap.FlyingW B l e cls a0 h'->vK od c e h'->s.heap.UpToSlots h'->Q () { s with heap:=h'}):wpAny M A (setFlight (.ref e) none) Q E s:=by
 obtain⟨oe,vs,T,oT,ts,ge,hc,de,f1,nT,Te,gT,dT,f3⟩:=ht;have z3:3<ts.size:=(abW.mp f3).1;rw[setFlight];refine aS (wpAny_field ge de f1 ?_);rw[aad (by simp)]
 refine wpAny_setField gT dT z3 ?_;have up:=yu (Obj.mapFields (·.setIfInBounds 3 ((none:Option Addr).elim Value.none λf=>rawInt f))) gT dT
 have TV:=(abH s.heap (Obj.mapFields (·.setIfInBounds 3 ((none:Option Addr).elim Value.none λf=>rawInt f))) Te).trans ge
 have Xf:=acz dT (·.setIfInBounds 3 ((none:Option Addr).elim Value.none λf=>rawInt f))
 refine q _ ⟨p8 _ hk nT,hn,kN hl up,oe,vs,T,_,_,TV,hc,de,f1,nT,Te,abX _ gT (acK Xf),Xf,by simp[z3]⟩ ?_ up
 obtain⟨o2,v2,g2,d2,k2,z2⟩:=h2;rw[ge]at g2;cases g2;exact⟨oe,v2,TV,d2,k2,z2⟩
def Ic{oe:Obj}{vs:Array Value}{head:Value}{hadNext:Bool}(hfr:A.frames=some (env::outer))(hl:s.heap.FunFrames B (env::outer))(hf:env.frame=some L)(ge:s.heap.get? e=some oe)(hk:B.StaysIn s.heap)(hn:B.get? e=none)
 (de:oe.data = .fields vs) (hz:1<vs.size) (h0:vs[0]?=some a0) (h2:vs[2]?=some c) (hz2:oe.dict=od)
 (q:∀h',Heap.HeldW B (env::outer) e oe.cls a0 L h'->vK od c e h'->s.heap.UpToSlots h'->Q () { s with heap:=h'}) :
 wpAny M A (do let a←frameOf env;let pl←entryPlaceOf L hadNext;let b←EntryCells.newEntry head a .none (rawInt L) .none pl;setField (.ref e) 1 b) Q E s:=by
 have U8:e∉(env::outer).filterMap (·.frame):=λz=>by
  obtain⟨_,o,ho,nf⟩:=hl.mem z;rw[ge]at ho;cases ho;exact nf vs de
 refine aS (wpAny_frameOf_fun hfr hl hf λh1 so=>aS (wpAny_entryPlaceOf λpl ip=>?_))
 rw[EntryCells.newEntry,newFields];refine aS (wpAny_newObj_type ?_ (ip.sizeOk5 _ _ _ _ _));generalize hnw:({ cls:=.type "traceback",dict:=none,data:=.fields ([head,.ref L,.none,rawInt L,.none]++(if pl.isEmpty then List.replicate 6 Value.none else pl)).toArray}:Obj)=nw
 have dn:nw.data = .fields ([head,.ref L,.none,rawInt L,.none]++(if pl.isEmpty then List.replicate 6 Value.none else pl)).toArray:=by rw[<-hnw]
 have ge1:h1.get? e=some oe:=(so.2.1 e U8).trans ge;have U9:=aai (h:=h1) nw ge1;have Te:h1.objs.size≠e:=abS (aaq ge1);refine wpAny_setField U9 de hz ?_;have Va:=acz de (·.setIfInBounds 1 (Value.ref h1.objs.size));have Xg:=abX (Obj.mapFields (·.setIfInBounds 1 (Value.ref h1.objs.size))) U9 (acK Va);have ZC:=(abH (h1.push nw) (Obj.mapFields (·.setIfInBounds 1 (Value.ref h1.objs.size))) (aa2 Te)).trans (aaB h1 (by rw[<-hnw];rfl))
 have up:s.heap.UpToSlots ((h1.push nw).update e (Obj.mapFields (·.setIfInBounds 1 (Value.ref h1.objs.size)))):=by
  have u1:s.heap.UpToSlots h1:=λb o hb _=>so.2.2 b o hb
  exact(u1.trans (.of_keeps λb o hb=>aai nw hb)).trans (yu _ U9 de)
 have k1:B.StaysIn h1:=λb o hb=>(so.2.1 b λz=>by rw[(hl.mem z).1]at hb;cases hb).trans (hk b o hb)
 have k2:B.StaysIn (h1.push nw):=λb o hb=>aai nw (k1 b o hb)
 refine q _ ⟨p8 _ k2 hn,hn,kN hl up,_,_,h1.objs.size,nw,_,Xg,⟨Obj.cls_mapFields _ _,by rw[adn (by decide)];exact h0⟩,Va,by simp[hz],k1.fresh,Te,ZC,dn,?_⟩ ?_ up
 ·first | (simp;done) | (rcases ip with rfl | ⟨_,_,_,_,_,_,_,rfl⟩<;>simp)
 ·exact⟨_,_,Xg,Va,by rw[adn (by decide)];exact h2,(Ib _ _).trans hz2⟩
def RK(hfr:A.frames=some (env::outer))(hf:env.frame=some L)(fl:Heap.FlyingW B (env::outer) e cls a0 s.heap)(h2:vK od c e s.heap)
 (q:∀h',Heap.HeldW B (env::outer) e cls a0 L h'->vK od c e h'->s.heap.UpToSlots h'->Q () { s with heap:=h'}):wpAny M A (noteFrame (.ref e) env) Q E s:=by
 obtain⟨hk,hn,hl,oe,vs,T,oT,ts,ge,⟨hc,h0⟩,de,f1,nT,Te,gT,dT,f3⟩:=fl;obtain⟨o2,v2,g2,d2,k2,z2⟩:=h2;rw[ge]at g2;cases g2;rw[de]at d2;cases d2;cases hc;rw[noteFrame];simp only[hf];refine aS (wpAny_field ge de f1 ?_);rw[aad (by simp)]
 refine aS (wpAny_field gT dT f3 ?_);rw[aab (by simp[rawInt])]
 refine aS (wpAny_setField gT dT (abW.mp f3).1 ?_);have up:=yu (Obj.mapFields (·.setIfInBounds 3 Value.none)) gT dT;have TV:=(abH s.heap (Obj.mapFields (·.setIfInBounds 3 Value.none)) Te).trans ge;exact Ic (s:={ s with heap:=s.heap.update T (Obj.mapFields (·.setIfInBounds 3 Value.none))}) hfr (kN hl up) hf TV (p8 _ hk nT) hn de (abW.mp f1).1 h0 k2 z2 λh' x1 x2 x3=>q h' x1 x2 (up.trans x3)
def RL(x:Heap.FlyingW B (env::outer) e cls a0 s.heap):Heap.FlyingW B outer e cls a0 s.heap :=
 let⟨k1,k2,⟨_,_,k3⟩,k4⟩:=x
 ⟨k1,k2,k3,k4⟩
def leave_on2(hfr:A.frames=some (env::outer))(hf:env.frame=some L)(fl:Heap.FlyingW B (env::outer) e cls a0 s.heap)(h2:vK od c e s.heap)
 (q:∀h',Heap.FlyingW B outer e cls a0 h'->vK od c e h'->s.heap.UpToSlots h'->Q () { s with heap:=h'}):wpAny M A (leaving env (.ref e)) Q E s:=by
 rw[leaving];refine aS (RK hfr hf fl h2 λh' x1 x2 x3=>?_)
 obtain⟨y1,y2,y3,y4⟩:=x1;exact Nv (s:={ s with heap:=h'}) y1 y2 y3 y4 x2 λh'' z1 z2 z3=>q h'' (RL (s:={ s with heap:=h''}) z1) z2 (x3.trans z3)
def leave_new{oe:Obj}{vs:Array Value}(hfr:A.frames=some (env::outer))(hf:env.frame=some L)(hk:B.StaysIn s.heap)(hn:B.get? e=none)(hl:s.heap.FunFrames B (env::outer))(ge:s.heap.get? e=some oe)(de:oe.data = .fields vs)
 (h0:vs[0]?=some a0) (h1:vs[1]?=some .none) (h2:vs[2]?=some c) (hz2:oe.dict=od)
 (q:∀h',Heap.FlyingW B outer e oe.cls a0 h'->vK od c e h'->s.heap.UpToSlots h'->Q () { s with heap:=h'}):wpAny M A (leaving env (.ref e)) Q E s:=by
 rw[leaving,noteFrame];simp only[hf];refine aS (aS (wpAny_field ge de h1 ?_));rw[aab (by decide)]
 refine Ic (a0:=a0) hfr hl hf ge hk hn de (abW.mp h1).1 h0 h2 hz2 λh' x1 x2 x3=>?_
 obtain⟨y1,y2,y3,y4⟩:=x1;exact Nv (s:={ s with heap:=h'}) y1 y2 y3 y4 x2 λh'' z1 z2 z3=>q h'' (RL (s:={ s with heap:=h''}) z1) z2 (x3.trans z3)
end
section
variable {P:Program}{w:World}{H H0 H1:Hp}{h h0 h1 h2:Heap}{a:Addr}{o:HO}{fs:List Addr}{B:Heap}
def bI.thing(x:bI P w H h a o):∃ob,h.get? a=some ob:=by
 cases o with
 | lst xs=>obtain⟨_,_,_,_,e⟩:=x;exact⟨_,e⟩
 | tup xs=>obtain⟨_,_,_,ob,e,_⟩:=x;exact⟨ob,e⟩
 | dK kvs=>obtain⟨_,_,_,_,ob,_,_,e,_⟩:=x;exact⟨ob,e⟩
 | dT kvs=>obtain⟨_,_,_,_,ob,_,_,e,_⟩:=x;exact⟨ob,e⟩
 | set S n=>obtain⟨ob,_,_,_,e,_⟩:=x;exact⟨ob,e⟩
 | ins C dx fs=>obtain⟨_,_,_,e,_⟩:=x;exact⟨_,e⟩
 | own y=>exact x
 | xd fs=>obtain⟨_,⟨ob,_,_,e,_⟩,_⟩:=x;exact⟨ob,e⟩
 | Fd lo hi=>obtain⟨_,_,_,e⟩:=x;exact⟨_,e⟩
 | lQ ob u=>obtain⟨e,_⟩:=x;exact⟨_,e⟩
 | jC ps=>obtain⟨_,e,_⟩:=x;exact⟨_,e⟩
 | met f y=>exact⟨_,(show h.get? a=some _ from x)⟩
 | ext φ=>obtain⟨_,e,_⟩:=x;exact e
def LM(B:Heap)(fs:List Addr)(h0:Heap)(H:Hp)(h:Heap):Prop:=∀b o,h.get? b=some o->(H b≠none\/∃o',h0.get? b=some o')->b∉fs->B.get? b=some o
def Ie(un:Un fs [] H0 H1 h0 h1)(hok:mQ P w H1 h1)(ZD:∀b∈fs,H1 b=none)(fr:∀b∈fs,∀ob,h1.get? b=some ob->∀vs,ob.data≠.fields vs)(Nx:LM B fs h0 H1 h1)
 (hB:B.StaysIn h2) (up:h1.UpToSlots h2):Un fs [] H0 H1 h0 h2/\mQ P w H1 h2/\LM B fs h0 H1 h2:=by
 have Vb:∀b ob,h1.get? b=some ob->(H1 b≠none\/∃o',h0.get? b=some o')->b∉fs->h2.get? b=some ob:=λb ob e c n=>hB b ob (Nx b ob e c n)
 have Qn:∀b u,H1 b=some u->b∉fs:=λb u e z=>by
  rw[ZD b z]at e;cases e
 refine⟨⟨λb ob e n hb hx=>Vb b ob (un.keep b ob e n hb hx) (.inr ⟨ob,e⟩) hb,λb ob e n hb hx=>?_,un.free,λb ob e hx=>?_,un.tups,un.kJ,un.lR⟩,λb u e=>?_,λb ob e c n=>?_⟩
 ·obtain⟨sl,q⟩:=un.slot b ob e n hb hx;obtain⟨TJ,q'⟩:=up b _ q (fr b hb _ q);exact⟨TJ,q'⟩
 ·obtain⟨o',q⟩:=un.there b ob e hx
  by_cases hb:b∈fs
  ·obtain⟨TJ,q'⟩:=up b _ q (fr b hb _ q);exact⟨_,q'⟩
  ·exact⟨o',Vb b o' q (.inr ⟨ob,e⟩) hb⟩
 ·refine(hok b u e).stay (λc v hc q=>?_) (λ_ q=>q) λ_ _ q=>q
  have hct:∃z,H1 c=some z:=by
   rcases hc with hc|hc
   ·rw[hc];exact⟨u,e⟩
   ·exact⟨_,hc⟩
  obtain⟨z,hz⟩:=hct;exact Vb c v q (.inl (by rw[hz];simp)) (Qn c z hz)
 ·have ht:∃o1,h1.get? b=some o1:=by
   rcases c with c|⟨o',c⟩
   ·cases hz:H1 b with
    | none=>exact absurd hz c
    | some z=>exact(hok b z hz).thing
   ·exact un.there b o' c (by simp)
  obtain⟨o1,q⟩:=ht;have q2:=Nx b o1 q c n;have q3:=hB b o1 q2;rw[e]at q3;rw[Option.some.inj q3];exact q2
end
def Vc(ea:Addr)(cls:Value):HO:=.ext λh=>∃oe vs,h.get? ea=some oe/\oe.cls=cls/\oe.data = .fields vs/\vs[2]?=some .none
def OF(E:XK)(cls:Value)(od:Option Addr)(c:Value)(H:Hp):Prop:=(c = .none/\(∃C0:Addr,cls = .ref C0)/\E cls od H)\/∃C e' C',cls = .ref C/\od=none/\c = .ref e'/\H e' = some (Vc e' C')/\E (.int (C:Int) e') none H
def Ig(P:Program)(w:World):Hj:=λouter H s E e s'=>∃(ea:Addr) (cls a0:Value) (od:Option Addr) (c:Value) (H' : Hp) (B:Heap),e = .ref ea/\s'.os=s.os/\AllBare s'.gens/\Un (frs outer) [] H H' s.heap s'.heap/\mQ P w H' s'.heap/\H' ea=none/\
 LM B (frs outer) s.heap H' s'.heap/\Heap.FlyingW B outer ea cls a0 s'.heap/\vK od c ea s'.heap/\OF E cls od c H'
structure Out(X:Cx)(E:XK):Prop where
 Lc:X.stack=X.env::X.outer
 fr:X.env.frame=some X.env.locals
 ex:X.ex=[]
 xe:∀e s',wpAny (model X.prog X.w) X.A (leaving X.env e) (λ_ s''=>Ig X.prog X.w X.outer X.H₀ X.s₀ E e s'') (λe' s''=>Ig X.prog X.w X.outer X.H₀ X.s₀ E e' s'') s'->X.xe e s'
def Xh(X:Cx)(E:XK):Prop:=∀(pq:aV) (σ:St) (H:Hp) (s:Shared) (h1:Heap) (ea C0:Addr) (vs:List Value),Inv X pq σ H s->Heap.MadeExcOf s.heap h1 ea (.ref C0) vs->E (.ref C0) none H->X.xe (.ref ea) { s with heap:=h1}
section
variable {X:Cx}{E:XK}{pq:aV}{σ:St}{H:Hp}{s:Shared}
def Inv.OG(I:Inv X pq σ H s):∀b∈X.fs,∀ob,s.heap.get? b=some ob->∀vs,ob.data≠.fields vs:=λb hb ob e=>by
 obtain⟨_,o,ho,hnf⟩:=I.funs.mem hb;rw[e]at ho;cases ho;exact hnf
def Inv.OH(I:Inv X pq σ H s)(hx:X.ex=[]):∀b∈X.fs,H b=none:=λb hb=>by
 obtain⟨_,o,ho,_⟩:=I.ok.funs.mem hb;exact I.base.free b o ho (I.ok.N7 b hb) (by rw[hx];simp)
def LM.outer{B h0:Heap}{h:Heap}(I:Inv X pq σ H s)(Nx:LM B (frs X.stack) h0 H h)(k:∀b o,X.s₀.heap.get? b=some o->∃o',h0.get? b=some o'):LM B X.fs X.s₀.heap H h:=λb o e c n=>by
 refine Nx b o e (c.imp id λ⟨o',q⟩=>k b o' q) λz=>?_
 rcases aas.mp (I.tF b z) with q|q
 ·subst q;rcases c with c|⟨o',c⟩
  ·exact c I.free
  ·exact absurd (aaj (aaq c) I.ok.above) (abr _)
 ·exact n q
def En(O:Out X E)(I:Inv X pq σ H s){B:Heap}{ea:Addr}{cls a0:Value}{od:Option Addr}{c:Value}{h2:Heap}(Nx:LM B X.fs X.s₀.heap H s.heap)(fl:Heap.FlyingW B X.outer ea cls a0 h2)(sc:vK od c ea h2)(up:s.heap.UpToSlots h2)(hn:H ea=none)(q:OF E cls od c H):
 Ig X.prog X.w X.outer X.H₀ X.s₀ E (.ref ea) { s with heap:=h2}:=by
 have un:Un X.fs [] X.H₀ H X.s₀.heap s.heap:=by
  have u:=I.base;rw[O.ex]at u;exact u
 obtain⟨u2,ZE,c2⟩:=Ie un I.hok (I.OH O.ex) I.OG Nx fl.1 up;exact⟨ea,cls,a0,od,c,H,B,rfl,I.os,I.bare,u2,ZE,hn,c2,fl,sc,q⟩
def Out.Vd(O:Out X E){ea:Addr}{oe:Obj}{vs:Array Value}{a0 c:Value}(I:Inv X pq σ H s)(ge:s.heap.get? ea=some oe)(de:oe.data = .fields vs)(h0:vs[0]?=some a0)(h1:vs[1]?=some .none)(h2:vs[2]?=some c)
 (hn:H ea=none) (new:X.s₀.heap.get? ea=none) (q:OF E oe.cls oe.dict c H):X.xe (.ref ea) s:=by
 refine O.xe _ _ ?_;have hfr:X.A.frames=some (X.env::X.outer):=by rw[I.ok.frames,O.Lc]
 have hl:s.heap.FunFrames (PySem.W.hideAll s.heap (ea::frs X.stack)) (X.env::X.outer):=by
  have z:=PySem.W.funFrames_hide (as:=ea::frs X.stack) I.stack λenv he b hb=>nR _ (acu.mpr ⟨env,he,hb⟩)
  rw[O.Lc]at z ⊢;exact z
 refine leave_new hfr O.fr (λb o e=>PySem.W.of_hideAll _ e) (PySem.W.hideAll_none _ (aar ..)) hl ge de h0 h1 h2 rfl λh3 fl sc up=>?_
 refine En O I (LM.outer I (h0:=X.s₀.heap) (λb o e c n=>?_) λb o e=>⟨o,e⟩) fl sc up hn q
 refine PySem.W.hideAll_get _ e λz=>?_
 rcases aas.mp z with z|z
 ·subst z;rcases c with c|⟨o',c⟩
  ·exact c hn
  ·rw[new]at c;cases c
 ·exact n z
def Out.Ve(O:Out X E){ea:Addr}{oe:Obj}{vs:Array Value}{a0:Value}(I:Inv X pq σ H s)(ge:s.heap.get? ea=some oe)(de:oe.data = .fields vs)(h0:vs[0]?=some a0)(h1:vs[1]?=some .none)(h2:vs[2]?=some .none)
 (hn:H ea=none) (new:X.s₀.heap.get? ea=none) (hcl:∃C0:Addr,oe.cls = .ref C0) (q:E oe.cls oe.dict H):X.xe (.ref ea) s:=O.Vd I ge de h0 h1 h2 hn new (.inl ⟨rfl,hcl,q⟩)
def Out.Vf(O:Out X E):Xh X E:=by
 intro pq σ H s h1 ea C0 vs I mk q;have I1:Inv X pq σ H { s with heap:=h1}:=I.kept (t':=s.toks) mk.keeps
 have hn:H ea=none:=by
  cases hz:H ea with
  | none=>rfl
  | some z =>
    obtain⟨ob,e⟩:=(I.hok ea z hz).thing;rw[mk.new]at e;cases e
 obtain⟨t,ge,_,_⟩:=mk.there;refine O.Ve I1 (a0:=.ref t) ge rfl rfl rfl rfl hn ?_ ⟨_,rfl⟩ q;cases hz:X.s₀.heap.get? ea with
 | none=>rfl
 | some o =>
   obtain⟨o',e⟩:=I.base.there ea o hz (by rw[O.ex];simp)
   rw[mk.new]at e;cases e
def Inv.RN{H' : Hp}{s' : Shared}(I:Inv X pq σ H s)(os:s'.os=s.os)(bare:AllBare s'.gens)(un:Un (frs X.stack) [] H H' s.heap s'.heap)(hok:mQ X.prog X.w H' s'.heap):Inv X pq σ H' s' :=
 I.Hx (ch:=[]) os un hok bare λb z=>absurd z (by simp)
def Out.passes(O:Out X E):Passes (Ig X.prog X.w) X E:=by
 intro pq σ H s e s' I q;obtain⟨ea,cls,a0,od,c,H',B,rfl,os,bare,un,hok,hn,Nx,fl,sc,qE⟩:=q;have I1:=I.RN os bare un hok;refine O.xe _ _ ?_;have hfr:X.A.frames=some (X.env::X.outer):=by rw[I.ok.frames,O.Lc]
 rw[O.Lc]at fl;refine leave_on2 hfr O.fr fl sc λh2 ZF TX up=>?_
 exact En O I1 (LM.outer I1 Nx λb o e=>I.base.there b o e (by rw[O.ex];simp)) ZF TX up hn qE
end
def fu{P:Program}{w:World}{K:bM}{mg:oE}{base:Heap}{N:List Str}{qual:Str}{scope:Scope}{f:Addr}{cd:Value}{A:Around}{outer:List Env}{s:Shared}{H:Hp}{E:XK}:
 Out (rQ (Ig P w) P w K mg base N qual scope f cd A outer s H E) E:=⟨rfl,rfl,rfl,λ_ _ h=>h⟩
def LG.Eo{P:Program}{w:World}{K:bM}{mg:oE}{base:Heap}{x qual:Str}{st:Stmt}{f:Addr}{fd:FuncData}{N ps:List Str}{k:Nat}{sp:Sp}(F:LG K x qual st f fd)(S:aE N ps (ai st))
 (len:∀vs H Q E,sp vs H Q E->vs.length=ps.length)
 (hbody:∀(cdv:Value) (A:Around) (outer:List Env) (s:Shared) (H:Hp) (vs:List V) (Q:VK) (E:XK),eK k (A.deeper (envOfC qual (ai st) s.heap.objs.size f cdv))->sp vs H Q E->
  ∃t,wO (rQ (Ig P w) P w K mg base N qual (ai st) f cdv A outer s H E) (bW st) t/\t { nx:=λ_ H'=>Q .dS H',rt:=Q} (start N vs) H):lT P w K mg base (Ig P w) (k+1) f fd ps sp:=by
 obtain⟨oc,od,kV,doc,pm,an,cdv,ct,osl,rfl,lk,hcd⟩:=F.ex;exact HK lk hcd S len λA outer s H vs Q E hr Cn=>hbody cdv A outer s H vs Q E hr Cn
section
variable {X:Cx}{E:XK}
def OI(C:Addr)(E:XK)(t:TA):TS:=λ_ σ H=>t σ H λvs H1=>vs.length<=sizeLine/\E (.ref C) none H1
def tQ{x:Str}{C:Addr}{bm:List Value}{B newId initId:String}{e:Expr}{es:List Expr}{ta:TA}{np cpos pos:Pos}(th:Xh X E)(hc:X.calm=true)(hg:Gl X x)(O:∀h,X.K.In h->h.Ns mainGlobals X.mg->OwnCls x C bm newId X.mg h)
 (FB:ExcBaseFacts B newId initId bm) (ha:PA X (e::es) ta) (he:starEach (e::es) X.env=(false,eval e X.env)::starEach es X.env:=by rfl) (hpl:(backTo cpos (starEach es X.env)).any (·.1)=false:=by rfl)
 (hd:(x==("__debug__":Str))=false:=by decide):PS X (.Raise (some (.Call (.Name x np) (e::es) [] cpos)) none pos) (OI C E ta):=by
 intro pq s σ H D I h;have OC:=O _ I.mod.Tz I.mod.glob;obtain⟨tl,N,nm,q,bs,hdct,sn,sub,ab,col,dd,k0,k1,k2,k3,k5,mN,hC,hN,hni,T⟩:=OC.obj;refine wpAny_Raise_call_subT (C:=C) (nm:=nm) (q:=q) (N:=N) (bs:=bs) (bm:=tl) (hdct:=hdct) (sn:=sn) (sub:=sub) (ab:=ab) (col:=col) (dd:=dd) (k0:=k0) (k1:=k1) (k2:=k2) (k3:=k3) (k5:=k5)
  FB (mN:=mN) (T.hasType FB.hasBase) (I.ok.hd hc) (by rw[he];show(false || (backTo cpos (starEach es X.env)).any (·.1))=false;rw[hpl];rfl) hni (yf I hg OC.bound ⟨rfl,?_⟩ hd)
 have hA:=ha cpos pq s σ H _ I h;rw[he]at hA ⊢;refine Calls.evalArgs_plain (aaP hA (λus s1 ⟨vs,H1,I1,r1,z,q1⟩=>?_) λ_ _ y=>y)
 exact⟨rfl,by rw[<-r1.length];exact z,I1.bk _ _ hC,hN.keeps I1.bk,T.keeps I1.bk,λh' ea hm=>th pq σ H1 s1 h' ea _ us I1 hm q1⟩
end
open PySem PySem.Spec PySem.Calls PyProof.Rows PySem.W PySem.Builtin PySem.Builtin.ObjectAttr PySem.Builtin.Getset_descriptor
section
variable {X:Cx}
def yv:kG X (binaryOp .Mult) (rI IntMulOk λi j=>.int (i*j)):=Ln λ_ _ _ _ _ _ _ hc q=>mul_int q hc
def mulOk_of{i j:Int}(hi:i.natAbs<2^1000)(hj:j.natAbs<2^1000):IntMulOk i j:=by
 have bits:∀k:Int,k.natAbs<2^1000->Builtin.Int.intBits k<=2^20:=λk hk=>by
  unfold Builtin.Int.intBits
  by_cases h0:k.natAbs=0
  ·simp only[h0]
   split<;>decide
  ·have h1:k.natAbs.log2<1000:=(Nat.log2_lt h0).mpr hk
   split<;>lia
 exact IntMulOk.of_bits (bits i hi) (bits j hj)
def RO(K:bM):V->V->Hp->VK->Prop:=λo i H Q=>∃p xs j v,o = .ref p/\i = .int ((j:Nat):Int)/\aL K H p xs/\xs[j]?=some v/\Q v H
def getL(K:bM)(hK:X.K=K:=by rfl):Rg X (RO K):=by
 subst hK;intro pq s σ H o i ov iv Q I ro ri h;obtain⟨p,xs,j,v,rfl,rfl,hq,e,q⟩:=h;cases ro;obtain⟨t,rfl⟩:=ri;obtain⟨its,r,pl,hz⟩:=I.list hq;obtain⟨u,eu,ru⟩:=r.get e;have hj:j<xs.length:=(jf.mp e).1;have hn:=tJ;exact wpAny_getItem_list pl.isList (by lia) (by lia) (by simpa using eu) ⟨v,H,I,ru,q⟩
def RP(K:bM):R2:=λx y H Q=>∃l b xs zs,x = .ref l/\y = .ref b/\aL K H l xs/\aL K H b zs/\xs.length+zs.length<=sizeLine/\∀p,H p=none->Q (.ref p) (upd H p (.lst (xs++zs)))
def Ih(K:bM)(hK:X.K=K:=by rfl):kG X (binaryOp .Add) (RP K):=by
 subst hK;intro pq s σ H x y v u Q I rx ry h;obtain⟨l,b,xs,zs,rfl,rfl,hH,hB,hz,q⟩:=h;cases rx;cases ry;obtain⟨its,r,pl,_⟩:=I.list hH;obtain⟨its2,r2,TY,_⟩:=I.list hB;obtain⟨⟨cls,dd,data,sl⟩,n,e,hc,_,hd⟩:=pl;obtain⟨⟨Rq,dd2,data2,sl2⟩,n2,e2,hc2,_,hd2⟩:=TY;simp only at hc hd hc2 hd2;subst hc hd hc2 hd2;have l1:=r.length;have l2:=r2.length;have ea:its.toArray++its2.toArray=(its++its2).toArray:=by simp
 refine concat_meets ⟨_,e,rfl⟩ ⟨_,e2,rfl⟩ noFill_list_add seq_list_add PySem.F.slot_list_add PySem.F.entry_list_add (PySem.F.args_list_add_2 _ _)
  (list_addW l b its.toArray its2.toArray n n2 dd dd2 sl sl2 (by rw[aav,aav];lia)) ⟨e,e2,?_⟩
 rw[ea];exact⟨.ref _,_,I.Ry (t':=s.toks) (r.append r2) (by rw[aah];lia),rfl,q _ I.fresh⟩
end
section
variable {X:Cx}{tg:Expr}
def yw{iter:Expr}{body:List Stmt}{wi:TI}{g:TG}{tb:TS}{pos:Pos}(hc:X.calm=true)(hi:PI X tg iter wi)(hg:PG X.Cm tg g)(hb:wO X.Cm body tb)(hs:∀x,foldedSetIterable iter X.env x=pure x:=by intro _;rfl):
 PS X (.For tg iter body [] pos) (eV wi g tb):=by
 intro pq s σ H D I h;refine wpAny_For (cW (hi pq s σ H _ I h) λv s1 h1=>cW h1 λitv s2 h2=>?_) hs
 obtain⟨it,fp,tn,J,H2,e,I2,T,st2,f2,W,⟨m0,w0⟩,turn⟩:=h2;subst e;have Cv:∀{H' : Hp},(∀b∈fp,H' b=none)->∀b∈fp,nS X.Cm pq H' b:=λhn b hb=>⟨hn b hb,(f2 b hb).2⟩
 refine codeAny_forLoop_any (λn s'=>∃i σ' H',Inv X.Cm pq σ' H' s'/\tn i s'.heap/\(∀b∈fp,H' b=none)/\W i n σ' H') ?_ m0 ⟨0,σ,H2,I2.tG _,st2,λb hb=>(f2 b hb).1,w0⟩
 rintro n s3 ⟨i,σ3,H3,I3,st3,Nj,w3⟩;rcases turn i n σ3 H3 w3 with⟨stop,qn⟩|⟨go,N,hN,step⟩
 ·refine aaP (T.done X.Cm rfl rfl rfl hc i pq s3 σ3 H3 (λ_ _=>False) I3 (Cv Nj) st3 stop) (λr s4 ⟨hr,I4⟩=>?_) λ_ _ z=>z.elim
  subst hr;exact wpAny_execs_nil ⟨σ3,H3,I4.iR,qn⟩
 ·refine aaP (T.item X.Cm rfl rfl rfl hc i pq s3 σ3 H3 (λ_ _=>False) I3 (Cv Nj) st3 go) (λr s4 ⟨u,hr,h4⟩=>?_) λ_ _ z=>z.elim
  subst hr;refine aaP h4 (λ_ s5 ⟨x,H5,I5,r5,y5,HD,Rk⟩=>?_) λ_ _ z=>z.elim
  have Rl:=I5.pinned (Cv Rk) (T.obj _ _ HD);refine aaP (hg _ s5 σ3 H5 x u _ Rl r5 (step x H5 y5)) (λ_ s6 ⟨σ6,H6,I6,q6⟩=>?_) λ_ _ z=>z.elim
  refine aaP (hb _ s6 σ6 H6 _ I6 q6) (λf s7 q7=>?_) λ_ _ z=>z.elim
  have again:∀{σ7:St} {H7:Hp},Inv X.Cm (pq++pY fp s5.heap) σ7 H7 s7->N σ7 H7->∃m,m<n/\∃i σ' H',Inv X.Cm pq σ' H' s7/\tn i s7.heap/\(∀b∈fp,H' b=none)/\W i m σ' H':=λ{σ7 H7} I7 n7=>by
   obtain⟨m',hm,w7⟩:=hN σ7 H7 n7;refine⟨m',hm,i+1,σ7,H7,I7.iS,T.keep _ _ _ HD λb hb o e=>(I7.pin (b,o) (iB _ (iB _ (gx hb e)))).1,λb hb=>?_,w7⟩
   obtain⟨o,e,d⟩:=T.obj _ _ HD b hb;exact(I7.pin (b,o) (iB _ (iB _ (gx hb e)))).2.1
  cases f with
  | next=>obtain⟨σ7,H7,I7,n7⟩:=q7;exact again I7 n7
  | cont=>obtain⟨σ7,H7,I7,n7⟩:=q7;exact again I7 n7
  | brk=>obtain⟨σ7,H7,I7,q7⟩:=q7;exact⟨σ7,H7,I7.iS.iR,q7⟩
  | ret v=>obtain⟨x7,σ7,H7,I7,r7,q7⟩:=q7;exact⟨x7,σ7,H7,I7.iS.iR,r7,q7⟩
def nK{P:Program}{w:World}{X:Cx}:Passes (Ig P w) X (λ_ _ _=>False):=by
 intro pq σ H s e s' I q;obtain⟨_,_,_,_,_,_,_,_,_,_,_,_,_,_,_,_,z⟩:=q;rcases z with⟨_,_,z⟩|⟨_,_,_,_,_,_,_,z⟩
 ·exact z.elim
 ·exact z.elim
end
def CH{K:bM}{h:Heap}{mg:oE}{x:Str}{C:Addr}{bmB:List Value}{newId:String}(X:K.In h)(G:h.Ns mainGlobals mg)(e:PySem.W.nsIn K mainGlobals x=some (some (.ref C)))(q:PySem.W.excIn K C bmB newId=true):
 OwnCls x C bmB newId mg h:=by
 refine⟨PySem.W.mg_of X G e,?_⟩;unfold PySem.W.excIn at q
 split at q
 ·rename_i od cd sl look
  split at q
  ·rename_i Cx bm j0 j1 j2 j3 nw j5 hmro hsl
   simp only[aaI,beq_iff_eq,Bool.not_eq_true']at q;obtain⟨⟨⟨⟨⟨rfl,rfl⟩,RQ⟩,ht⟩,hok⟩,hni⟩:=q;obtain⟨nm,bs,mro,ns,qn,hd,sn,sub,ab,col,del⟩:=cd
   (dsimp only at hmro RQ hok hni;subst hmro RQ)
   have hs2:sl = #[j0,j1,j2,j3,some (.builtin nw),j5]:=by
    obtain⟨l⟩:=sl;simp only at hsl;rw[hsl]
   subst hs2;exact⟨bm,ns,nm,qn,bs,hd,sn,sub,ab,col,od,j0,j1,j2,j3,j5,_,X _ _ look,.of_isNs (PySem.W.isNs_of_in X hok),PySem.W.nsMap_none_of_in X hok hni,PySem.W.tail_of_in X ht⟩
  ·cases q
 ·cases q
def Vg{α:Type}:∀us:List α,us.length=1->∃a,us=[a]
 | [_],_=>⟨_,rfl⟩
def Vh{α:Type}:∀us:List α,us.length=2->∃a b,us=[a,b]
 | [_,_],_=>⟨_,_,rfl⟩
def Vi{α:Type}:∀us:List α,us.length=3->∃a b c,us=[a,b,c]
 | [_,_,_],_=>⟨_,_,_,rfl⟩
def Vj{α:Type}:∀us:List α,us.length=4->∃a b c d,us=[a,b,c,d]
 | [_,_,_,_],_=>⟨_,_,_,_,rfl⟩
section
variable {X:Cx}{pq:aV}{σ:St}{H:Hp}{s:Shared}{h' : Heap}
def Inv.yields{t' : Nat}{wr:List Addr}{T:Addr}{o:HO}(I:Inv X pq σ H s)(k:∀b u,b∉wr->s.heap.get? b=some u->h'.get? b=some u)(hf:∀b∈wr,nS X pq H b)(hT:s.heap.objs.size<=T)
 (new:bI X.prog X.w (upd H T o) h' T o):Inv X pq σ (upd H T o) { s with heap:=h',toks:=t'}:=by
 have Xi:H T=none:=I.hok.fresh hT;have nT:∀b u,H b=some u->b≠T:=λb u e=>bj e Xi
 have nw:∀b u,H b=some u->b∉wr:=λb u e hb=>by rw[(hf b hb).1]at e;cases e
 refine I.step (g':=s.gens) (d':=s.drawn) (ch:=wr) (λb hb=>?_) (λb o _ _ hc e _=>k b o hc e) (λb o _ _ hc e _=>⟨o.slots,k b o hc e⟩) (λb u hc e n=>?_)
  (λb o hc e=>⟨o,k b o hc e⟩) (λb xs e=>?_) (λb ob xs e=>?_) (λb ps e=>⟨#[],?_⟩) (λm hm=>?_) (λb u e=>?_) I.bare
 ·obtain⟨_,f1,_,f3,f4,f5⟩:=hf b hb;exact⟨f3,f1,f4,f5⟩
 ·rw[ak (aaK (aaj (aaq e) hT))];exact n
 ·rw[ak (nT b _ e)];exact e
 ·rw[ak (nT b _ e)];exact e
 ·rw[ak (nT b _ e),e];simp
 ·obtain⟨o,es,ep,ho,r⟩:=hm;exact⟨o,es,ep,k _ o (λhb=>(hf _ hb).2.1 rfl) ho,r⟩
 ·by_cases hb:b=T
  ·subst hb;rw[ae]at e;cases e;exact new
  ·rw[ak hb]at e;refine(I.hok b u e).stay (λc v hc q=>k c v ?_ q) (λc q=>by rw[ak (nT c _ q)];exact q) λc xs q=>by rw[ak (nT c _ q)];exact q
   rcases hc with z|z
   ·rw[z];exact nw b u e
   ·exact nw c _ z
def Inv.LN{t' : Nat}{wr:List Addr}(I:Inv X pq σ H s)(k:∀b u,b∉wr->s.heap.get? b=some u->h'.get? b=some u)(hf:∀b∈wr,nS X pq H b):Inv X pq σ H { s with heap:=h',toks:=t'}:=by
 have nw:∀b u,H b=some u->b∉wr:=λb u e hb=>by rw[(hf b hb).1]at e;cases e
 refine I.step (g':=s.gens) (d':=s.drawn) (ch:=wr) (λb hb=>?_) (λb o _ _ hc e _=>k b o hc e) (λb o _ _ hc e _=>⟨o.slots,k b o hc e⟩) (λ_ _ _ _ n=>n)
  (λb o hc e=>⟨o,k b o hc e⟩) (λ_ _ e=>e) (λ_ _ _ e=>e) (λb ps e=>⟨#[],by rw[e];simp⟩) (λm hm=>?_) (λb u e=>?_) I.bare
 ·obtain⟨_,f1,_,f3,f4,f5⟩:=hf b hb;exact⟨f3,f1,f4,f5⟩
 ·obtain⟨o,es,ep,ho,r⟩:=hm;exact⟨o,es,ep,k _ o (λhb=>(hf _ hb).2.1 rfl) ho,r⟩
 ·refine(I.hok b u e).stay (λc v hc q=>k c v ?_ q) (λ_ q=>q) λ_ _ q=>q
  rcases hc with z|z
  ·rw[z];exact nw b u e
  ·exact nw c _ z
end
def Vk(K:bM)(a:Addr):It :=
 ⟨λi H=>∃xs x,aL K H a xs/\xs[i]?=some x,λi H v H'=>∃T x,v = .ref T/\H T=none/\H' = upd H T (.tup [.int (i:Int),x])/\∀xs,aL K H a xs->xs[i]?=some x,λi H=>∃xs,aL K H a xs/\xs.length<=i⟩
def Fy{P:Program}{w:World}{K:bM}{elts:List Expr}{k:Nat}{pos:Pos}(a e it:Addr)(hne:e≠it):
 Turn P w K (.Tuple elts k pos) (Vk K a) [e,it] e (λi h=>(∃old,IsEnum h e it (i:Int) old)/\h.IsListIter it a i) where
 mem:=by simp
 obj:=λi h st b hb=>by
  obtain⟨⟨old,he⟩,o,ho,c,d⟩:=st;have hb' : b=e\/b=it:=by simpa using hb
  rcases hb' with rfl|rfl
  ·exact⟨_,he,λv z=>by cases z⟩
  ·exact⟨o,ho,λv z=>by rw[d]at z;cases z⟩
 keep:=λi h h' st k=>by
  obtain⟨⟨old,he⟩,hit⟩:=st;exact⟨⟨old,k e (by simp) _ he⟩,hit.at λo x=>k it (by simp) o x⟩
 item:=by
  intro X hP hw hK hc i pq s σ H E I hf st hg;subst hP hw hK;obtain⟨xs,x,hq,hx⟩:=hg;obtain⟨its,rv,p,hz⟩:=I.list hq;obtain⟨u,hu,ru⟩:=rv.get hx;obtain⟨⟨old,he⟩,hit⟩:=st;refine wpAny_pyNext_enum_item he hit p.isList (x:=u) (by simpa using hu) hne λh1 ho OJ hT hsz hk=>?_
  refine⟨_,rfl,wpAny_letOwnedTupleGo_enum ho λh2 Qu hs2=>?_⟩
  have RS:s.heap.objs.size≠e:=abS (aaq he);have hT2:h2.get? s.heap.objs.size=some { cls:=.type "tuple",data:=.seq #[.int i s.toks,u]}:=(hs2.2 _ RS).trans hT;refine⟨.ref s.heap.objs.size,upd H s.heap.objs.size (.tup [.int (i:Int),x]),I.yields (wr:=[e,it]) (t':=s.toks+1) (λb o hb q=>?_) hf (aae _) ?_,rfl,⟨_,x,rfl,I.fresh,rfl,λys hy=>by rw[I.oH hy hq];exact hx⟩,⟨⟨u,by simpa using Qu⟩,?_⟩,λb hb=>?_⟩
  ·have Ii:b≠e:=λz=>hb (by simp[z])
   have OL:b≠it:=λz=>hb (by simp[z])
   exact(hs2.2 b Ii).trans (hk b o Ii OL q)
  ·exact⟨dl rfl,[.int i s.toks,u],.cons ⟨_,rfl⟩ (.cons ru .nil),⟨_,hT2,rfl,_,rfl⟩⟩
  ·exact OJ.at λo q=>(hs2.2 it (aa2 hne)).trans q
  ·rw[ak]
   ·exact(hf b hb).1
   ·have hb' : b=e\/b=it:=by simpa using hb
    rcases hb' with rfl|rfl
    ·exact aa2 RS
    ·obtain⟨o,q,_⟩:=hit;exact aaK (aaq q)
 done:=by
  intro X hP hw hK hc i pq s σ H E I hf st hg;subst hP hw hK;obtain⟨xs,hq,hx⟩:=hg;obtain⟨its,rv,p,hz⟩:=I.list hq;obtain⟨⟨old,he⟩,hit⟩:=st;obtain⟨f0,f1,f2,f3,f4,f5⟩:=hf it (by simp)
  have hl:=rv.length;exact wpAny_pyNext_enum_end (I.ok.hd hc) he hit p.isList (by simp;lia) λh' eb=>⟨rfl,I.turned (t':=s.toks) (λb o hb e=>eb b o hb e) f0 f1 f3 f4 f5⟩
 self:=λ_ _ _ _ _ st h=>by
  obtain⟨⟨old,he⟩,_⟩:=st;exact wpAny_pyIter_enum he h
def Vl(K:bM)(a b:Addr):It :=
 ⟨λi H=>∃xs ys x y,aL K H a xs/\aL K H b ys/\xs[i]?=some x/\ys[i]?=some y,
  λi H v H'=>∃T x y,v = .ref T/\H T=none/\H' = upd H T (.tup [x,y])/\(∀xs,aL K H a xs->xs[i]?=some x)/\∀ys,aL K H b ys->ys[i]?=some y,
  λi H=>∃xs ys,aL K H a xs/\aL K H b ys/\(xs.length<=i\/ys.length<=i)⟩
def Ij{P:Program}{w:World}{K:bM}{elts:List Expr}{k:Nat}{pos:Pos}(a b z TI TO i1 i2:Addr)(D:ZipApart z TI TO i1 i2 a b):
 Turn P w K (.Tuple elts k pos) (Vl K a b) [z,TI,TO,i1,i2] z (λi h=>IsZip h z TI TO .none/\IsPair h TI (.ref i1) (.ref i2)/\(∃u v,IsPair h TO u v)/\h.IsListIter i1 a i/\h.IsListIter i2 b i) where
 mem:=by simp
 obj:=λi h st c hc=>by
  obtain⟨hz,hI,⟨u,v,hO⟩,⟨o1,Qv,_,d1⟩,o2,ho2,_,d2⟩:=st;have hc' : c=z\/c=TI\/c=TO\/c=i1\/c=i2:=by simpa using hc
  rcases hc' with rfl|rfl|rfl|rfl|rfl
  ·exact⟨_,hz,λv z=>by cases z⟩
  ·exact⟨_,hI,λv z=>by cases z⟩
  ·exact⟨_,hO,λv z=>by cases z⟩
  ·exact⟨o1,Qv,λv z=>by rw[d1]at z;cases z⟩
  ·exact⟨o2,ho2,λv z=>by rw[d2]at z;cases z⟩
 keep:=λi h h' st k=>by
  obtain⟨hz,hI,⟨u,v,hO⟩,h1,h2⟩:=st;exact⟨k z (by simp) _ hz,k TI (by simp) _ hI,⟨u,v,k TO (by simp) _ hO⟩,h1.at λo e=>k i1 (by simp) o e,h2.at λo e=>k i2 (by simp) o e⟩
 item:=by
  intro X hP hw hK hc i pq s σ H E I hf st hg;subst hP hw hK;obtain⟨xs,ys,x,y,hq,hq2,hx,hy⟩:=hg;obtain⟨its,rv,p,ZG⟩:=I.list hq;obtain⟨its2,TZ,p2,Vm⟩:=I.list hq2;obtain⟨u,hu,ru⟩:=rv.get hx;obtain⟨u2,ZH,ZI⟩:=TZ.get hy;obtain⟨hz,hI,⟨v1,v2,hO⟩,h1,h2⟩:=st;refine wpAny_pyNext_zip_item D hz hI hO h1 h2 p.isList p2.isList (x:=u) (y:=u2) (by simpa using hu) (by simpa using ZH) λh3 ZJ ZK Vn Vo hT hsz hk=>?_
  refine⟨_,rfl,wpAny_letOwnedTupleGo_zip ZJ λh4 ZL Ik=>?_⟩
  have lt:∀{c o},s.heap.get? c=some o->s.heap.objs.size≠c:=λe=>abS (aaq e)
  have T3:h4.get? s.heap.objs.size=some { cls:=.type "tuple",data:=.seq #[u,u2]}:=(Ik.2 _ (lt hz)).trans hT;have kk:∀c o,c∉[z,TO,i1,i2]->s.heap.get? c=some o->h4.get? c=some o:=λc o hc q=>by
   have c1:c≠z:=λe=>hc (by simp[e])
   exact(Ik.2 c c1).trans (hk c o c1 (λe=>hc (by simp[e])) (λe=>hc (by simp[e])) (λe=>hc (by simp[e])) q)
  have hsub:∀c∈[z,TO,i1,i2],c∈[z,TI,TO,i1,i2]:=λc hc=>by
   have hc' : c=z\/c=TO\/c=i1\/c=i2:=by simpa using hc
   rcases hc' with rfl|rfl|rfl|rfl<;>simp
  refine⟨.ref s.heap.objs.size,upd H s.heap.objs.size (.tup [x,y]),I.yields (wr:=[z,TO,i1,i2]) (t':=s.toks) kk (λc hc=>hf c (hsub c hc)) (aae _) ?_,rfl,
   ⟨_,x,y,rfl,I.fresh,rfl,λzs hy=>by rw[I.oH hy hq];exact hx,λzs hz=>by rw[I.oH hz hq2];exact hy⟩,⟨ZL,(Ik.2 _ D.TIz).trans (hk _ _ D.TIz D.TITO D.TIi1 D.TIi2 hI),⟨u,u2,(Ik.2 _ D.TOz).trans ZK⟩,?_,?_⟩,λc hc=>?_⟩
  ·exact⟨dl rfl,[u,u2],.cons ru (.cons ZI .nil),⟨_,T3,rfl,_,rfl⟩⟩
  ·exact Vn.at λo q=>(Ik.2 _ D.i1z).trans q
  ·exact Vo.at λo q=>(Ik.2 _ D.i2z).trans q
  ·rw[ak]
   ·exact(hf c hc).1
   ·have hc' : c=z\/c=TI\/c=TO\/c=i1\/c=i2:=by simpa using hc
    rcases hc' with rfl|rfl|rfl|rfl|rfl
    ·exact aa2 (lt hz)
    ·exact aa2 (lt hI)
    ·exact aa2 (lt hO)
    ·obtain⟨o,q,_⟩:=h1;exact aa2 (lt q)
    ·obtain⟨o,q,_⟩:=h2;exact aa2 (lt q)
 done:=by
  intro X hP hw hK hc i pq s σ H E I hf st hg;subst hP hw hK;obtain⟨xs,ys,hq,hq2,hx⟩:=hg;obtain⟨its,rv,p,ZG⟩:=I.list hq;obtain⟨its2,TZ,p2,Vm⟩:=I.list hq2;obtain⟨hz,hI,⟨v1,v2,hO⟩,h1,h2⟩:=st;have hl:=rv.length;have hl2:=TZ.length;have hsub:∀c∈[z,TO,i1,i2],c∈[z,TI,TO,i1,i2]:=λc hc=>by
   have hc' : c=z\/c=TO\/c=i1\/c=i2:=by simpa using hc
   rcases hc' with rfl|rfl|rfl|rfl<;>simp
  refine wpAny_pyNext_zip_end (I.ok.hd hc) D hz hI hO h1 h2 p.isList p2.isList (hx.imp (λq=>by simp;lia) λq=>by simp;lia) λh' kk=>⟨rfl,I.LN (wr:=[z,TO,i1,i2]) (t':=s.toks) (λc o hc q=>?_) λc hc=>hf c (hsub c hc)⟩
  exact kk c o (λe=>hc (by simp[e])) (λe=>hc (by simp[e])) (λe=>hc (by simp[e])) (λe=>hc (by simp[e])) q
 self:=λ_ _ _ _ _ st h=>wpAny_pyIter_zip st.1 h
def Fz{n a b:Nat}(la:a<n)(lb:b<n):ZipApart (n+4) (n+2) (n+3) n (n+1) a b:=by
 have k:∀{x y:Nat},x<y\/y<x->x≠y:=λh=>by lia
 constructor<;>exact k (by lia)
section
variable {X:Cx}{elts:List Expr}{n:Nat}{tp:Pos}
def RT(K:bM)(ta:TA):TI:=λσ H R=>ta σ H λvs H1=>∃a,vs=[.ref a]/\(∃xs,aL K H1 a xs)/\R (Vk K a) H1
def Vp(K:bM)(ta:TA):TI:=λσ H R=>ta σ H λvs H1=>∃a b,vs=[.ref a,.ref b]/\(∃xs,aL K H1 a xs)/\(∃ys,aL K H1 b ys)/\R (Vl K a b) H1
def LO(K:bM){a:Expr}{ta:TA}{p pos:Pos}(hg:Gl X "enumerate")(hm:X.mg "enumerate"=none)(ha:PA X [a] ta)(hs:starEach [a] X.env=[(false,eval a X.env)]:=by rfl)(hK:X.K=K:=by rfl):
 PI X (.Tuple elts n tp) (.Call (.Name "enumerate" p) [a] [] pos) (RT K ta):=by
 subst hK;intro pq s σ H R I h;refine Call_ (jD I hg hm boot_enumerate (abp (cW (ha pos pq s σ H _ I h) λus s1 ⟨vs,H1,I1,r1,q1⟩=>?_) hs rfl))
 obtain⟨a,e,⟨xs,hq⟩,q⟩:=q1;subst e;cases r1 with
 | cons r rr =>
   cases rr;cases r;obtain⟨its,rv,pl,hz⟩:=I1.list hq;refine call_enumerate_list pl.isList λh' he hit hsz hk=>?_
   have I2:Inv X pq σ H1 { s1 with heap:=h'}:=I1.kept (t':=s1.toks) hk
   refine wpAny_pyIter_enum he ⟨_,[s1.heap.objs.size+1,s1.heap.objs.size],_,_,H1,rfl,I2,Fy a _ _ (adg _),⟨⟨_,he⟩,hit⟩,λb hb=>?_,q⟩
   have hb' : b=s1.heap.objs.size+1\/b=s1.heap.objs.size:=by simpa using hb
   have RU:s1.heap.objs.size<=b:=by
    rcases hb' with rfl|rfl
    ·exact abA _
    ·exact aae _
   exact I1.zW RU (I1.hok.fresh RU)
def CI(K:bM){a b:Expr}{ta:TA}{p pos:Pos}(hg:Gl X "zip")(hm:X.mg "zip"=none)(ha:PA X [a,b] ta)(hs:starEach [a,b] X.env=[(false,eval a X.env),(false,eval b X.env)]:=by rfl)(hs2:starEach [b] X.env=[(false,eval b X.env)]:=by rfl)(hK:X.K=K:=by rfl):
 PI X (.Tuple elts n tp) (.Call (.Name "zip" p) [a,b] [] pos) (Vp K ta):=by
 subst hK;intro pq s σ H R I h;refine Call_ (jD I hg hm boot_zip (abp (cW (ha pos pq s σ H _ I h) λus s1 ⟨vs,H1,I1,r1,q1⟩=>?_) (by rw[hs,hs2]) (by rw[hs2];rfl)))
 obtain⟨a,b,e,⟨xs,hq⟩,⟨ys,hq2⟩,q⟩:=q1;subst e;cases r1 with
 | cons r rr =>
   cases rr with
   | cons r' rr =>
     cases rr;cases r;cases r';obtain⟨its,rv,pl,hz⟩:=I1.list hq;obtain⟨its2,TZ,TY,hz2⟩:=I1.list hq2;refine call_zip_2 pl.isList TY.isList λh' Xj hI hO h1 h2 hsz hk=>?_
     have I2:Inv X pq σ H1 { s1 with heap:=h'}:=I1.kept (t':=s1.toks) hk
     have la:a<s1.heap.objs.size:=by obtain⟨_,q,_⟩:=pl.isList;exact aaq q
     have lb:b<s1.heap.objs.size:=by obtain⟨_,q,_⟩:=TY.isList;exact aaq q
     refine wpAny_pyIter_zip Xj ⟨_,[s1.heap.objs.size+4,s1.heap.objs.size+2,s1.heap.objs.size+3,s1.heap.objs.size,s1.heap.objs.size+1],_,_,H1,rfl,I2,
      Ij a b _ _ _ _ _ (Fz la lb),⟨Xj,hI,⟨_,_,hO⟩,h1,h2⟩,λc hc=>?_,q⟩
     have hc' : c=s1.heap.objs.size+4\/c=s1.heap.objs.size+2\/c=s1.heap.objs.size+3\/c=s1.heap.objs.size\/c=s1.heap.objs.size+1:=by simpa using hc
     have hcs:s1.heap.objs.size<=c:=by
      rcases hc' with rfl|rfl|rfl|rfl|rfl
      ·exact ab5 _ _
      ·exact ab5 _ _
      ·exact ab5 _ _
      ·exact aae _
      ·exact ab5 _ _
     exact I1.zW hcs (I1.hok.fresh hcs)
end
section
variable {K:bM}{a b:Addr}{xs ys:List V}{g:TG}{tt:TT}{te:TE}{n:Nat}{fr:St}{D:Addr}{Q:Hp->Prop}{H1:Hp}
def tR(hxy:xs.length=ys.length)(Pv:Nat->List V->Hp->Prop)(h0:Pv 0 [] H1)(hl:∀i acc H,i<=xs.length->Pv i acc H->aL K H a xs/\aL K H b ys/\H D=some (.lst acc)/\acc.length<=i)(hz:xs.length<=sizeLine)
 (hs:∀i x y T acc H,xs[i]?=some x->ys[i]?=some y->Pv i acc H->H T=none->g (.ref T) (List.replicate n none++fr) (upd H T (.tup [x,y])) λσ2 H2=>σ2.drop n=fr/\tt σ2 H2 λb H3 =>
  if b=true then te σ2 H3 λv H4=>H4 D=some (.lst acc)/\Pv (i+1) (acc++[v]) (upd H4 D (.lst (acc++[v]))) else Pv (i+1) acc H3)
 (hd:∀acc H,Pv xs.length acc H->Q H):eW (Vl K a b) g tt te n fr D Q H1:=by
 refine⟨λi m acc H=>m=xs.length-i/\i<=xs.length/\Pv i acc H,⟨xs.length,by simp,aaN _,h0⟩,?_⟩
 rintro i m acc H ⟨rfl,hi,p⟩;obtain⟨q,q2,hD,ha⟩:=hl i acc H hi p;refine⟨hD,?_⟩
 by_cases hlt:i<xs.length
 ·have Vq:i<ys.length:=by lia
  refine .inr ⟨⟨xs,ys,xs[i],ys[i],q,q2,by simp[hlt],by simp[Vq]⟩,by lia,Pv (i+1),λacc' H' p'=>⟨xs.length-(i+1),by lia,rfl,hlt,p'⟩,λv H' y=>?_⟩
  obtain⟨T,x,z,rfl,hT,rfl,y1,y2⟩:=y;exact hs i x z T acc _ (y1 xs q) (y2 ys q2) p hT
 ·have e:i=xs.length:=by lia
  subst e;exact .inl ⟨⟨xs,ys,q,q2,.inl (aae _)⟩,hd acc H p⟩
end
section
variable {X:Cx}
def Ad:gw X (.type "range") (λxs H Q=>∃j:Int,xs=[.int j]/\∀p,H p=none->Q (.ref p) (upd H p (.Fd 0 j))):=by
 intro pq s σ H xs us Q I r h;obtain⟨j,rfl,q⟩:=h;obtain⟨u,rfl,t,rfl⟩:=vals1 r;refine call_range_1 ⟨.ref s.heap.objs.size,_,I.laid (t':=s.toks+1+1) (λb o e=>aai _ e) (aae _) ?_,rfl,q _ I.fresh⟩
 exact⟨_,_,_,aaB _ rfl⟩
def vL(n:Nat):List V:=(List.range n).map λi=>V.int ((i:Nat):Int)
def Ny(hc:X.calm=true):gw X (.type "list") (λxs H Q=>∃p,∃n:Nat,xs=[.ref p]/\H p=some (.Fd 0 (n:Int))/\n<=900/\∀l,H l=none->Q (.ref l) (upd H l (.lst (vL n)))):=by
 intro pq s σ H xs us Q I r h;obtain⟨p,n,rfl,hp,hn,q⟩:=h;obtain⟨u,rfl,rx⟩:=vals1 r;cases rx;obtain⟨t,u,v,e⟩:=(show bI X.prog X.w H s.heap p (.Fd 0 (n:Int)) from I.hok p _ hp)
 have hsz:Builtin.Range.rangeSize 0 (n:Int) 1=(n:Int):=by rw[rangeSize_one];split<;>lia
 refine call_list_range (I.ok.hd hc) e (small_one (by lia) (by lia) (by lia) (by lia)) hsz (aaD hn (by decide)) λh' tk acc c kp e' hacc=>?_
 refine⟨.ref s.heap.objs.size,_,I.laid (t':=tk) kp (aae _) ?_,rfl,q _ I.fresh⟩;have hl:acc.toList.length=n:=by rw[ab4];exact hacc.1
 have hz:(vL n).length<=sizeLine:=by
  unfold vL;rw[aac,aay];exact aaW (iH (by lia))
 refine⟨hz,acc.toList,c,?_,by simpa using e'⟩
 have key:∀(ys:List Value) (k:Nat),(∀j v,ys[j]?=some v->∃t,v=Value.int (((k+j:Nat)):Int) t)->Vals ((List.range' k ys.length).map λi=>V.int ((i:Nat):Int)) ys:=by
  intro ys
  induction ys with
  | nil=>intro k _;exact .nil
  | cons y r ih =>
    intro k hy;obtain⟨t,ht⟩:=hy 0 y rfl;refine .cons ⟨t,by simpa using ht⟩ (ih (k+1) λj v hv=>?_)
    obtain⟨t',ht'⟩:=hy (j+1) v (by simpa using hv)
    exact⟨t',by rw[ht'];congr 2;lia⟩
 have z:=key acc.toList 0 λj v hv=>by
  obtain⟨t,ht⟩:=hacc.2 j v (by simpa using hv)
  exact⟨t,by rw[ht];congr 1;lia⟩
 rw[hl]at z;unfold vL;rw[List.range_eq_range'];exact z
def sumK(K:bM)(hc:X.calm=true)(hK:X.K=K:=by rfl):gw X (.builtin "sum") (λxs H Q=>∃(p:Addr) (ns:List Int),xs=[.ref p]/\aL K H p (ns.map V.int)/\Q (.int ns.sum) H):=by
 subst hK;intro pq s σ H xs us Q I r h;obtain⟨p,ns,rfl,hq,q⟩:=h;obtain⟨u,rfl,rx⟩:=vals1 r;cases rx;obtain⟨its,rv,pl,hz⟩:=I.list hq;have hi:∀{ns:List Int} {its:List Value},Vals (ns.map V.int) its->∃xs:Array (Int×Tok),its.toArray=intItems xs/\xs.toList.map (·.1)=ns:=by
  intro ns
  induction ns with
  | nil=>intro its r;cases r;exact⟨#[],by simp[intItems],rfl⟩
  | cons a l ih =>
    intro its r;cases r with
    | cons r1 r2 =>
      obtain⟨t,rfl⟩:=r1;obtain⟨xs,h1,h2⟩:=ih r2;refine⟨#[(a,t)]++xs,?_,by simp[h2]⟩
      have Ii:=abf Array.toList h1;simp only[intItems,Array.toList_map,List.toList_toArray]at Ii;simp[intItems,Ii,Array.map_append]
 obtain⟨ar,e1,e2⟩:=hi rv;have hl:s.heap.IsList p (intItems ar):=e1▸pl.isList;refine sum_intListG (I.ok.hd hc) hl λh' tk t' hk=>?_
 have e3:preSum (numAt ar) ar.size=ns.sum:=by rw[preSum_eq,ac8 (by simp),e2]
 rw[e3];exact⟨.int ns.sum,H,I.kept hk,⟨t',rfl⟩,q⟩
end
def Ae:∀{us:List Value} {ns:List Int},IntsAre us ns->Vals (ns.map V.int) us
 | _,_,.nil=>.nil
 | _,_,.cons n t r=>.cons ⟨t,rfl⟩ (Ae r)
section
variable {X:Cx}
def sortedK(K:bM)(hK:X.K=K:=by rfl):gw X (.builtin "sorted") (λxs H Q=>∃(p:Addr) (ns:List Int),xs=[.ref p]/\aL K H p (ns.map V.int)/\ns.length<64/\
 ∀(l:Addr) (ns' : List Int),H l=none->ns'.Perm ns->ns'.Pairwise (·<=·)->Q (.ref l) (upd H l (.lst (ns'.map V.int)))):=by
 subst hK;intro pq s σ H xs us Q I r h;obtain⟨p,ns,rfl,hq,hn,q⟩:=h;obtain⟨u,rfl,rx⟩:=vals1 r;cases rx;obtain⟨its,rv,pl,hz⟩:=I.list hq;have hl:=rv.length;rw[aac]at hl;refine PyProof.Rows.sorted_ints pl.isList (intsAre_of rv) (by lia) λout ns' a1 a2 a3=>?_
 obtain⟨e,he⟩:=sortedAll_at s.heap its out;have hfr:H (s.heap.objs.size+1)=none:=I.hok.fresh (abA _);refine⟨.ref (s.heap.objs.size+1),_,I.laid (t':=s.toks) (λ_ _=>sortedAll_old) (abA _) ?_,rfl,q _ ns' hfr a2 a3⟩
 refine⟨?_,out.toList,e,Ae a1,?_⟩
 ·rw[aac,a2.length_eq];exact aaW (iH (by lia))
 ·have:out.toList.toArray=out:=by simp
  rw[this];exact he
end
end L2
namespace HT
open PySem PyProof.Rows
section
variable {prog:Program}{w:World}{A:Around}{E:di}{s:Shared}
def nF{t sl:Addr}{items:Array Value}{vl vu:Value}{lo hi:Option Int}{Q:di}(ht:IsTup s.heap t items)(hs:s.heap.IsSliceOf sl vl vu .none)(pl:IsPart vl lo)(pu:IsPart vu hi)
 (hw:dU items.size 0 lo=0/\dU items.size items.size hi=items.size) (h:Q (.ref t) s):wpAny (model prog w) A (getItem (.ref t) (.ref sl)) Q E s:=by
 obtain⟨os,hos,hcs,hds⟩:=id hs;have UU:s.TypeIs (.ref sl) "slice":=⟨os,hos,hcs⟩;unfold getItem
 try with_reducible refine aaX ?_
 first | refine wpAny_bind (aag ?_) | skip
 refine wpAny_bind (wpAny_sequenceKey ht.typeIs (by decide) ?_)
 refine wpAny_bind (wpAny_callSpecial?_slot (name:=Str.ofString "__getitem__") ht.typeIs abG
  (wpAny_call_entry abG ht.typeIs entry_tuple_getitem ?_ (args_tuple_getitem _ _)))
 show wpAny _ _ (Builtin.Tuple.tupleItemsOf (.ref t) >>= _) _ _ s;refine wpAny_bind (tupleItemsOf_ ht ?_);refine wpAny_bind (wpAny_typeOf UU ?_);rw[aad (by decide)]
 refine wpAny_bind (j6 hs pl pu ?_);have hyes:(((dU items.size 0 lo:Nat):Int)==0&&(1:Int)==1&&(dU items.size items.size hi-dU items.size 0 lo)==items.size)=true:=by
  rw[hw.1,hw.2];simp
 show wpAny _ _ (if(((dU items.size 0 lo:Nat):Int)==0&&(1:Int)==1&&(dU items.size items.size hi-dU items.size 0 lo)==items.size)=true then _ else _) _ _ s
 rw[aad hyes];refine wpAny_bind ?_;unfold Builtin.Tuple.tupleIsExact;refine wpAny_bind (wpAny_typeOf ht.typeIs (aag ?_));rw[aad (by decide)]
 exact wpAny_bind (wpAny_rule (aag ⟨_,rfl,aag h⟩))
end
end HT
namespace L2
open PySem PySem.Spec PyProof.Rows
section
variable {X:Cx}
def RV:V->Option Int->Option Int->Hp->VK->Prop:=λx lo hi H Q=>∃a xs,x = .ref a/\H a=some (.tup xs)/\∀p H',aq H H'->H' p=some (.tup (rR xs lo hi))->Q (.ref p) H'
def OM:TQ X RV:=by
 intro pq s σ H x v vl vu lo hi sl Q I rx hs pl pu h;obtain⟨a,xs,rfl,hx,q⟩:=h;cases rx;obtain⟨its,r,ht,hz⟩:=I.tuple (bg.of hx);have hlen:its.toArray.size=xs.length:=by rw[aav];exact r.length.symm
 refine⟨"tuple",_,abG.lookup,ht.typeIs,?_⟩
 by_cases hw:HT.dU xs.length 0 lo=0/\HT.dU xs.length xs.length hi=xs.length
 ·refine HT.nF ht hs pl pu (by rw[hlen];exact hw) ⟨.ref a,H,I,rfl,q a H (aq.refl _) ?_⟩
  unfold rR;rw[hw.1,hw.2,ady,Nat.sub_zero,aa5];exact hx
 ·refine HT.oJ ht hs pl pu (by rw[hlen];exact hw) ?_ (by rw[hlen];exact hz)
  rw[hlen];refine⟨.ref s.heap.objs.size,_,I.laid (t':=s.toks) (o:=.tup (rR xs lo hi)) (λb ob q=>aai _ q) (aae _) ?_,rfl,q _ _ (aq.new (I.hok.fresh (aae _))) ae⟩
  exact⟨aaD (rC xs lo hi) hz,_,(r.drop (HT.dU xs.length 0 lo)).take (HT.dU xs.length xs.length hi-HT.dU xs.length 0 lo),IsTup.new _ _⟩
end
end L2
namespace Ring
open PySem
abbrev cC:=Int×Int×Int
def bit(S:Int)(k:Nat):Bool:=decide (S/2^k%2=1)
def bu(S:Int):List Nat:=(List.range (Builtin.Int.intBits S)).filter (bit S)
def bump(e:List Int)(i:Int):List Int:=e.set i.toNat (e.getD i.toNat 0+1)
def step(ts:List cC)(e:List Int)(k:Nat):List Int:=match ts[k]? with
 | some t=>bump (bump e t.1) t.2.1
 | none=>e
def jE(p:Nat)(ts:List cC)(S:Int):List Int:=(bu S).foldl (step ts) (List.replicate p 0)
def tS(p:Nat)(ts:List cC)(S:Int):List Nat:=(List.range p).filter λi=>decide ((jE p ts S).getD i 0%2=1)
def K1(ts:List cC)(k i:Nat):Int:=match ts[k]? with
 | some t=>(if t.1=(i:Int) then 1 else 0)+(if t.2.1=(i:Int) then 1 else 0)
 | none=>0
def j8(e:List Int)(i:Int):(bump e i).length=e.length:=by unfold bump;rw[acw]
def Il(ts:List cC)(e:List Int)(k:Nat):(step ts e k).length=e.length:=by
 unfold step
 split
 ·rw[j8,j8]
 ·rfl
def Af(e:List Int)(j:Int)(i:Nat)(h0:0<=j)(h1:j<e.length):(bump e j).getD i 0=e.getD i 0+if j=(i:Int) then 1 else 0:=by
 unfold bump;rw[aaa,aaa,aaa]
 by_cases h:j=(i:Int)
 ·have hi:j.toNat=i:=by lia
  rw[aad h,hi,acC (by lia)]
  rfl
 ·have hi:j.toNat≠i:=by lia
  rw[aab h,acP hi]
  lia
structure Ep(p:Nat)(ts:List cC):Prop where
 ends:∀t∈ts,0<=t.1/\t.1<(p:Int)/\0<=t.2.1/\t.2.1<(p:Int)
def step_get{p:Nat}{ts:List cC}(W:Ep p ts)(e:List Int)(k i:Nat)(he:e.length=p):(step ts e k).getD i 0=e.getD i 0+K1 ts k i:=by
 unfold step K1;cases h:ts[k]? with
 | none=>simp
 | some t =>
   obtain⟨a0,a1,b0,b1⟩:=W.ends t (iq h);dsimp only;rw[Af _ _ _ b0 (by rw[j8,he];exact b1),Af _ _ _ a0 (by rw[he];exact a1)]
   lia
def p9(ts:List cC)(ks:List Nat)(i:Nat):Int:=(ks.map λk=>K1 ts k i).sum
def Ag{p:Nat}{ts:List cC}(W:Ep p ts)(i:Nat):∀(ks:List Nat) (e:List Int),e.length=p->(ks.foldl (step ts) e).getD i 0=e.getD i 0+p9 ts ks i
 | [],e,_=>by simp[p9]
 | k::r,e,he=>by
   rw[acy,Ag W i r _ (by rw[Il,he]),step_get W e k i he]
   unfold p9;rw[aaT,ab1]
   lia
def Im{p:Nat}{ts:List cC}(W:Ep p ts)(S:Int)(i:Nat):(jE p ts S).getD i 0=p9 ts (bu S) i:=by
 unfold jE;rw[Ag W i _ _ (by simp)]
 have e:(List.replicate p (0:Int)).getD i 0=0:=by
  rw[aaa,acs]
  split<;>rfl
 rw[e]
 lia
def mU(m k:Nat):bit (m:Int) k=m.testBit k:=by
 unfold bit;rw[Nat.testBit_eq_decide_div_mod_eq];have e:((m:Int)/2^k%2=1)↔(m/2^k%2=1):=by
  have h2:((2:Int)^k)=((2^k:Nat):Int):=by simp
  rw[h2,<-Int.natCast_ediv]
  lia
 simp only[e]
def Ah(m:Nat):Builtin.Int.intBits (m:Int)=if m=0 then 0 else m.log2+1:=by
 unfold Builtin.Int.intBits
 by_cases h:m=0
 ·simp[h]
 ·simp[h]
def bits_le{m n:Nat}(h:m<2^n):Builtin.Int.intBits (m:Int)<=n:=by
 rw[Ah]
 split
 ·exact aaN _
 ·rename_i h0
  exact(Nat.log2_lt h0).mpr h
def Ai{m k:Nat}(h:Builtin.Int.intBits (m:Int)<=k):bit (m:Int) k=false:=by
 rw[mU];rw[Ah]at h
 by_cases h0:m=0
 ·simp[h0]
 ·rw[aab h0]at h;exact aaR (aaj Nat.lt_log2_self (aaM (by decide) h))
def oR(f:Nat->Bool)(a:Nat):∀d,(∀k,a<=k->f k=false)->(List.range (a+d)).filter f=(List.range a).filter f
 | 0,_=>rfl
 | d+1,h=>by
   rw[<-Nat.add_assoc,abB,abu,oR f a d h];have e:[a+d].filter f=[]:=by rw[aaJ,aab (by rw[h _ (by lia)];simp)];rfl
   rw[e,abP]
def j9{m n:Nat}(h:m<2^n):bu (m:Int)=(List.range n).filter λk=>m.testBit k:=by
 unfold bu;have hb:=bits_le h;obtain⟨d,hd⟩:=ac5 hb;have e:(λk=>m.testBit k)=bit (m:Int):=funext λk=>(mU m k).symm
 rw[e]
 conv=>rhs;rw[hd]
 exact(oR _ _ d λk hk=>Ai hk).symm
def sG{m n:Nat}(h:m<2^n){k:Nat}(hk:k∈bu (m:Int)):k<n:=by
 rw[j9 h]at hk;exact aax.mp (aaC.mp hk).1
def sum_filter(ts:List cC)(i:Nat)(f:Nat->Bool):∀ks:List Nat,p9 ts (ks.filter f) i=(ks.map λk=>if f k=true then K1 ts k i else 0).sum
 | []=>rfl
 | k::r=>by
   have ih:=sum_filter ts i f r;rw[aaT,ab1,<-ih];cases h:f k with
   | true =>
     rw[aaJ,aad h];unfold p9;rw[aaT,ab1];simp
   | false =>
     rw[aaJ,aab (by rw[h];simp)]
     simp
def Io{a b x y:Nat}(q:x/2+2*(y/2)=a/2+b/2)(h:x%2+2*(y%2)=a%2+b%2):x+2*y=a+b:=by lia
def mod_one{u v:Nat}(hu:u=0\/u=1)(hv:v=0\/v=1):(u^^^v)+2*(u&&&v)=u+v:=by
 rcases hu with rfl|rfl<;>rcases hv with rfl|rfl<;>rfl
def LP:∀a b:Nat,(a^^^b)+2*(a&&&b)=a+b:=by
 intro a
 induction a using Nat.strongRecOn with
 | ind a ih =>
   intro b
   by_cases h:a=0
   ·subst h;simp
   ·have q:=ih (a/2) (by lia) (b/2)
    rw[<-Nat.xor_div_two,<-Nat.and_div_two]at q;refine Io q ?_;have e1:(a^^^b)%2=a%2^^^b%2:=Nat.xor_mod_two_pow (n:=1);have e2:(a&&&b)%2=a%2&&&b%2:=Nat.and_mod_two_pow (n:=1);rw[e1,e2];exact mod_one (acf a) (acf b)
def xor_int(a b:Nat):Builtin.bitXor (a:Int) (b:Int)=((a^^^b:Nat):Int):=by
 have h:(a:Int)+b-2*((a&&&b:Nat):Int)=((a^^^b:Nat):Int):=by
  have q:=LP a b
  lia
 have e:=PyProof.Rows.bitXor_and (a:Int) (b:Int);rw[e,ac9 (by lia) (by lia)]
 simpa using h
open PySem L2
def CJ(t:cC):List V:=[.int t.1,.int t.2.1,.int t.2.2]
def TupAt(H:Hp)(x:V)(t:cC):Prop:=∃b,x = .ref b/\H b=some (.tup (CJ t))
structure bx(H:Hp)(w:Addr)(p:Nat)(ts:List cC):Prop where
 ex:∃b xs,H w=some (.tup [.int (p:Int),.ref b])/\H b=some (.tup xs)/\Paired (TupAt H) xs ts
structure LQ(p:Nat)(ts:List cC):Prop where
 Xk:Ep p ts
 len:ts.length<=24
 pV:p<=10
def TupAt.tups{H H' : Hp}(s:dJ H H'){x:V}{t:cC}(h:TupAt H x t):TupAt H' x t:=by
 obtain⟨b,e,h⟩:=h;exact⟨b,e,s _ _ h⟩
def bx.tups{H H' : Hp}{w:Addr}{p:Nat}{ts:List cC}(s:dJ H H')(h:bx H w p ts):bx H' w p ts:=by
 obtain⟨b,xs,h1,h2,h3⟩:=h.ex;exact⟨b,xs,s _ _ h1,s _ _ h2,Paired.imp' (λ_ _ z=>z.tups s) h3⟩
def bx.same{H H' : Hp}{w:Addr}{p:Nat}{ts:List cC}(s:aq H H')(h:bx H w p ts):bx H' w p ts:=h.tups s.tups
def aB(l:List Nat):List V:=l.map λk=>V.int ((k:Nat):Int)
def cZ(l:List Nat)(k:Nat):aB (l++[k])=aB l++[.int (k:Int)]:=by unfold aB;rw[aat];rfl
def aD(l:List Nat):(aB l).length=l.length:=by unfold aB;rw[aac]
def cR{l:List Nat}{i:Nat}{x:V}(h:(aB l)[i]?=some x):∃k,l[i]?=some k/\x = .int (k:Int):=by
 unfold aB at h;rw[aan]at h;obtain⟨k,e,q⟩:=wM.mp h;exact⟨k,e,q.symm⟩
def bX(f:Nat->Bool)(i:Nat):(List.range (i+1)).filter f=(List.range i).filter f++(if f i=true then[i] else[]):=by
 rw[abB,abu]
 congr 1
 cases h:f i with
 | true=>rw[aaJ,aad h,aad rfl];rfl
 | false=>rw[aaJ,aab (by rw[h];simp),aab (by simp)];rfl
def lW(f:Nat->Bool)(H:Hp)(D:Addr)(i:Nat)(acc:List V)(H2:Hp):Prop:=aq H H2/\H2 D=some (.lst acc)/\acc=aB ((List.range i).filter f)
section
variable {f:Nat->Bool}{H H2 H3:Hp}{D:Addr}{i:Nat}{acc:List V}
def lW.start(hD:H D=none):lW f H D 0 [] (upd H D (.lst [])):=⟨aq.new hD,ae,rfl⟩
def lW.len(p:lW f H D i acc H2):H2 D=some (.lst acc)/\acc.length<=i:=by
 refine⟨p.2.1,?_⟩;rw[p.2.2,aD];exact aaD (aaG _ _) (by rw[aay];exact aae _)
def lW.yes(p:lW f H D i acc H2)(hD:H D=none)(s:aq H2 H3)(hf:f i=true):H3 D=some (.lst acc)/\lW f H D (i+1) (acc++[.int (i:Int)]) (upd H3 D (.lst (acc++[.int (i:Int)]))):=by
 refine⟨s _ _ p.2.1,(p.1.trans s).put hD,ae,?_⟩;rw[bX,aad hf,cZ,<-p.2.2]
def lW.no(p:lW f H D i acc H2)(s:aq H2 H3)(hf:f i=false):lW f H D (i+1) acc H3:=by
 refine⟨p.1.trans s,s _ _ p.2.1,?_⟩;rw[bX,aab (by rw[hf];simp),abP]
 exact p.2.2
end
def aX(ts:List cC)(k:Nat):cC:=ts.getD k (0,0,0)
def stepT(e:List Int)(t:cC):List Int:=bump (bump e t.1) t.2.1
def xh{ts:List cC}:∀(ks:List Nat) (e:List Int),(∀k∈ks,k<ts.length)->(ks.map (aX ts)).foldl stepT e=ks.foldl (step ts) e
 | [],_,_=>rfl
 | k::r,e,h=>by
   rw[aaT,acy,acy,xh r _ λj hj=>h j (nR _ hj)]
   have hk:=h k aar;have e1:ts[k]?=some (aX ts k):=by
    unfold aX;rw[aaa];simp[hk]
   have e2:step ts e k=stepT e (aX ts k):=by
    unfold step stepT;rw[e1]
   rw[e2]
def xj{p:Nat}{ts:List cC}{m:Nat}(h:m<2^ts.length):jE p ts (m:Int)=((bu (m:Int)).map (aX ts)).foldl stepT (List.replicate p 0):=by
 unfold jE;rw[xh _ _ λk hk=>sG h hk]
def FA(e:List Int)(t:cC):(stepT e t).length=e.length:=by unfold stepT;rw[j8,j8]
def qa:∀(l:List cC) (e:List Int),(l.foldl stepT e).length=e.length
 | [],_=>rfl
 | t::r,e=>by rw[acy,qa r,FA]
def cE(l:List Int):List V:=l.map V.int
def gA{l:List Int}{i:Nat}(h:i<l.length):(cE l)[i]?=some (.int (l.getD i 0)):=by
 unfold cE;rw[aan,aaa];simp[h]
def tT(l:List Int)(i:Nat):(cE l).set i (.int (l.getD i 0+1))=cE (bump l (i:Int)):=by
 unfold cE bump;rw[aau,List.map_set]
def Ip(p:Nat):(List.replicate p [V.int 0]).flatten=cE (List.replicate p 0):=by
 induction p with
 | zero=>rfl
 | succ p ih=>rw[abQ,acF,ih,abQ];rfl
def mV{n j:Nat}(h:j<n):Lw n (j:Int)=some j:=by
 unfold Lw;rw[aad (by lia),aad (by lia),aau]
def yy(k:Nat):PyData:=.int (k:Int)
def Aj{K:bM}{H:Hp}:∀l:List Nat,DatVs K H (aB l) (l.map yy)
 | []=>.nil
 | _::r=>.cons (.int _) (Aj r)
def Ak:∀l:List Nat,PyData.canLayAll0 (l.map yy)=true
 | []=>rfl
 | _::r=>by
   have ih:=Ak r;simp only[aaT,PyData.canLayAll0,ih,acT];rfl
def xm:∀l:List Nat,PyData.depthAll (l.map yy)=0
 | []=>rfl
 | _::r=>by
   have ih:=xm r;show max (PyData.depth (PyData.int _)) (PyData.depthAll (r.map _))=0;rw[ih];rfl
def Al(l:List Nat):SeqAt.shaped (.list (l.map yy))=true:=by
 unfold SeqAt.shaped;have e:(PyData.list (l.map yy)).canLay0=PyData.canLayAll0 (l.map yy):=by simp[PyData.canLay0]
 rw[e,Ak,aa7];refine cF ?_;have e2:PyData.depth (PyData.list (l.map yy))=PyData.depthAll (l.map yy)+1:=by simp[PyData.depth]
 rw[e2,xm]
 decide
def LR(l:List Nat):PyData.eqv (.list (l.map yy)) (.list [])=decide (l=[]):=by
 cases l with
 | nil=>rfl
 | cons a r=>rfl
def ON(S:Int)(k:Nat):decide (V.int (Builtin.bitAnd (S/2^k) 1)=V.int 1)=bit S k:=by
 unfold bit;rw[PyProof.Rows.bitAnd_m1];rw[abt];simp
def LS(x:Int):decide (V.int x=V.int 1)=decide (x=1):=by
 rw[abt];simp
structure jk(p:Int)(t:cC):Prop where
 a0:0<=t.1
 a1:t.1<p
 b0:0<=t.2.1
 b1:t.2.1<p
 ne:t.1≠t.2.1
 l0:1<=t.2.2
 l1:t.2.2<=1000000000000000000000000000000
structure aA(p:Nat)(ts:List cC):Prop where
 p1:1<=p
 p2:p<=10
 len:ts.length<=24
 nY:∀t∈ts,jk (p:Int) t
def aA.Iq{p:Nat}{ts:List cC}(g:aA p ts):LQ p ts:=⟨⟨λt ht=>let z:=g.nY t ht;⟨z.a0,z.a1,z.b0,z.b1⟩⟩,g.len,g.p2⟩
def qb(p:Int)(H:Hp)(D:Addr)(n:Nat)(H2:Hp):Prop:=aq H H2/\∃acc ts,H2 D=some (.lst acc)/\Paired (TupAt H2) acc ts/\acc.length=n/\∀t∈ts,jk p t
section
variable {p:Int}{H H2 H3:Hp}{D b:Addr}{n:Nat}{t:cC}
def qb.start(hD:H D=none):qb p H D 0 (upd H D (.lst [])):=⟨aq.new hD,[],[],ae,.nil,rfl,λt ht=>nomatch ht⟩
def qb.push(h:qb p H D n H2)(hD:H D=none)(s:aq H2 H3)(g:jk p t)(hb:H3 b=some (.tup (CJ t))):
 ∃acc,H3 D=some (.lst acc)/\acc.length=n/\qb p H D (n+1) (upd H3 D (.lst (acc++[.ref b]))):=by
 obtain⟨s2,acc,ts,hd,pr,hn,gt⟩:=h;have RW:H3 D=some (.lst acc):=s _ _ hd;refine⟨acc,RW,hn,(s2.trans s).put hD,acc++[.ref b],ts++[t],ae,?_,by rw[aah,aaU,hn],λu hu=>?_⟩
 ·exact Paired.snoc (Paired.imp' (λ_ _ z=>z.tups (s.tups.trans (dJ.put RW))) pr) ⟨b,rfl,dJ.put RW _ _ hb⟩
 ·rcases aaL.mp hu with hu|hu
  ·exact gt u hu
  ·cases aaA.mp hu;exact g
def qb.fin{q:Nat}(h:qb (q:Int) H D n H2):∃acc ts,H2 D=some (.lst acc)/\ts.length=n/\(∀t∈ts,jk (q:Int) t)/\∀l,H2 l=none->∀w,upd H2 l (.tup acc) w=none->
 aq H (upd (upd H2 l (.tup acc)) w (.tup [.int (q:Int),.ref l]))/\bx (upd (upd H2 l (.tup acc)) w (.tup [.int (q:Int),.ref l])) w q ts:=by
 obtain⟨s2,acc,ts,hd,pr,hn,gt⟩:=h;refine⟨acc,ts,hd,by rw[<-pr.length,hn],gt,λl hl w hw=>?_⟩
 have n1:aq H2 (upd H2 l (.tup acc)):=aq.new hl;have n2:=n1.trans (aq.new (o:=.tup [.int (q:Int),.ref l]) hw);refine⟨s2.trans n2,l,acc,ae,?_,Paired.imp' (λ_ _ z=>z.tups n2.tups) pr⟩
 rw[ak (bj ae hw),ae]
end
def Ir{p o r:Int}(h:0<=o)(h1:o<p)(r0:0<=r)(r1:r<p-1):0<=(o+1+r)%p/\(o+1+r)%p<p/\o≠(o+1+r)%p:=by
 have hp:0<p:=by lia
 refine⟨Int.emod_nonneg _ (by lia),Int.emod_lt_of_pos _ hp,?_⟩
 by_cases hlt:o+1+r<p
 ·rw[Int.emod_eq_of_lt (by lia) hlt]
  lia
 ·have e:(o+1+r)%p=o+1+r-p:=by
   rw[<-Int.sub_emod_right,Int.emod_eq_of_lt (by lia) (by lia)]
  rw[e]
  lia
def fT{n:Nat}(h:n<=24):n<=sizeLine:=aaW (iH (by lia))
def c5{n:Nat}(h:n<=900):n<sizeLine:=iH (by lia)
def Er{ns:List Int}{k:Nat}(h:k<ns.length):(ns.map V.int)[k]?=some (.int (ns.getD k 0)):=by
 rw[aan,aaa];simp[h]
def lX(x m:Int)(h:0<m):0<=x%m/\x%m<m:=⟨Int.emod_nonneg _ (by lia),Int.emod_lt_of_pos _ h⟩
end Ring
namespace RM
def bh(f:Nat->Bool):Nat->Bool
 | 0=>false
 | n+1=>bh f n^^f n
def bf{f g:Nat->Bool}:∀{n:Nat},(∀k,k<n->f k=g k)->bh f n=bh g n
 | 0,_=>rfl
 | n+1,h=>by
   unfold bh;rw[bf λk hk=>h k (by lia),h n (by lia)]
def iV(f g:Nat->Bool):∀n,bh (λk=>f k^^g k) n=(bh f n^^bh g n)
 | 0=>rfl
 | n+1=>by
   unfold bh;rw[iV f g n];cases bh f n<;>cases bh g n<;>cases f n<;>cases g n<;>rfl
def nZ:∀n,bh (λ_=>false) n=false
 | 0=>rfl
 | n+1=>by unfold bh;rw[nZ n];rfl
def oU(c:Bool)(f:Nat->Bool):∀n,bh (λk=>c&&f k) n=(c&&bh f n)
 | 0=>by cases c<;>rfl
 | n+1=>by
   unfold bh;rw[oU c f n];cases c<;>simp
def xn(f:Nat->Nat->Bool)(n:Nat):∀m,bh (λx=>bh (λk=>f x k) n) m=bh (λk=>bh (λx=>f x k) m) n
 | 0=>by
   show false=_;rw[<-nZ n];rfl
 | m+1=>by
   show(bh (λx=>bh (λk=>f x k) n) m^^bh (λk=>f m k) n)=_
   rw[xn f n m,<-iV];rfl
def dX{f:Nat->Bool}{n:Nat}(h:∀k,k<n->f k=false):bh f n=false:=by
 rw[bf (g:=λ_=>false) h,nZ]
def lY{f:Nat->Bool}{a:Nat}:∀{n:Nat},a<n->(∀k,k<n->k≠a->f k=false)->bh f n=f a
 | 0,h,_=>absurd h (abn _)
 | n+1,h,z=>by
   unfold bh
   by_cases e:a=n
   ·subst e;rw[dX λk hk=>z k (by lia) (by lia)]
    simp
   ·rw[lY (a:=a) (by lia) λk hk hn=>z k (by lia) hn,z n (by lia) (λq=>e q.symm)]
    simp
def gB(C:Nat->Bool){a m:Nat}(h:a<m):bh (λx=>C x&&decide (a=x)) m=C a:=by
 rw[lY h λk _ hk=>by simp[aa2 hk]]
 simp
structure Net where
 p:Nat
 n:Nat
 a:Nat->Nat
 b:Nat->Nat
 al:∀k,k<n->a k<p
 bl:∀k,k<n->b k<p
 ne:∀k,k<n->a k≠b k
variable (N:Net)
def Net.inc(k x:Nat):Bool:=decide (N.a k=x)^^decide (N.b k=x)
def Net.bd(m x:Nat):Bool:=bh (λk=>m.testBit k&&N.inc k x) N.n
def Net.bL(m:Nat):Prop:=∀x,x<N.p->N.bd m x=false
variable {N}
def eR(m q x:Nat):N.bd (m^^^q) x=(N.bd m x^^N.bd q x):=by
 unfold Net.bd;rw[<-iV];refine bf λk _=>?_
 rw[aam];cases m.testBit k<;>cases q.testBit k<;>cases N.inc k x<;>rfl
def kO(x:Nat):N.bd 0 x=false:=by
 unfold Net.bd;exact dX λk _=>by simp
def jF{k:Nat}(h:k<N.n)(x:Nat):N.bd (2^k) x=N.inc k x:=by
 unfold Net.bd;rw[lY h λj _ hj=>by simp[aaw,aa2 hj]]
 simp[aaw]
def bL.xor{m q:Nat}(h:N.bL m)(h' : N.bL q):N.bL (m^^^q):=λx hx=>by rw[eR,h x hx,h' x hx];rfl
def bL.zero:N.bL 0:=λx _=>kO x
def tU{m:Nat}(C:Nat->Bool)(h:∀k,k<N.n->m.testBit k=true->C (N.a k)=C (N.b k)):bh (λx=>C x&&N.bd m x) N.p=false:=by
 have e:bh (λx=>C x&&N.bd m x) N.p=bh (λx=>bh (λk=>C x&&(m.testBit k&&N.inc k x)) N.n) N.p :=
  bf λx _=>(oU (C x) _ N.n).symm
 rw[e,xn];refine dX λk hk=>?_
 have e2:bh (λx=>C x&&(m.testBit k&&N.inc k x)) N.p=(m.testBit k&&(C (N.a k)^^C (N.b k))):=by
  rw[<-gB C (N.al k hk),<-gB C (N.bl k hk),<-iV,<-oU];refine bf λx _=>?_
  unfold Net.inc;cases C x<;>cases m.testBit k<;>cases decide (N.a k=x)<;>cases decide (N.b k=x)<;>rfl
 rw[e2];cases hb:m.testBit k with
 | false=>rfl
 | true=>rw[h k hk hb];simp
def join(L:Nat->Nat)(u v:Nat):Nat->Nat:=λx=>if L x=max (L u) (L v) then min (L u) (L v) else L x
def join_eq{L:Nat->Nat}{u v x y:Nat}(h:L x=L y):join L u v x=join L u v y:=by unfold join;rw[h]
def FD(L:Nat->Nat)(u v:Nat):join L u v u=join L u v v:=by
 unfold join
 split<;>split<;>lia
def xo{L:Nat->Nat}{u v:Nat}(h:L u=L v):join L u v=L:=by
 funext x
 unfold join;rw[h]
 split<;>lia
def CK{L:Nat->Nat}{u v x y:Nat}(h:join L u v x=join L u v y):L x=L y\/(L x=L u/\L y=L v)\/(L x=L v/\L y=L u):=by
 unfold join at h;have mm:(max (L u) (L v)=L u/\min (L u) (L v)=L v)\/(max (L u) (L v)=L v/\min (L u) (L v)=L u):=by
  rcases acY (L u) (L v) with q|q
  ·exact .inr ⟨acR q,acd q⟩
  ·exact .inl ⟨acX q,acS q⟩
 rcases mm with⟨e1,e2⟩|⟨e1,e2⟩
 ·rw[e1,e2]at h
  split at h
  ·rename_i hx
   split at h
   ·rename_i hy
    exact .inl (hx.trans hy.symm)
   ·exact .inr (.inl ⟨hx,h.symm⟩)
  ·split at h
   ·rename_i hy
    exact .inr (.inr ⟨h,hy⟩)
   ·exact .inl h
 ·rw[e1,e2]at h
  split at h
  ·rename_i hx
   split at h
   ·rename_i hy
    exact .inl (hx.trans hy.symm)
   ·exact .inr (.inr ⟨hx,h.symm⟩)
  ·split at h
   ·rename_i hy
    exact .inr (.inl ⟨h,hy⟩)
   ·exact .inl h
def join_le{L:Nat->Nat}{u v x:Nat}(h:L x<=x):join L u v x<=x:=by
 unfold join
 split<;>lia
def FE{L:Nat->Nat}{u v:Nat}(h:∀x,L (L x)=L x)(x:Nat):join L u v (join L u v x)=join L u v x:=by
 have hu:=h u;have hv:=h v;have hx:=h x;have hlo:L (min (L u) (L v))=min (L u) (L v):=by
  rcases acY (L u) (L v) with q|q
  ·rw[acd q];exact hu
  ·rw[acS q];exact hv
 unfold join
 split
 ·rw[hlo]
  split<;>lia
 ·rw[hx]
  split<;>lia
def Net.aR(N:Net)(S:Nat->Bool):Nat->Nat->Nat
 | 0=>λx=>x
 | k+1=>if S k=true then join (Net.aR N S k) (N.a k) (N.b k) else Net.aR N S k
variable {S:Nat->Bool}
def sH:∀(k x:Nat),N.aR S k x<=x
 | 0,_=>aae _
 | k+1,x=>by
   unfold Net.aR
   split
   ·exact join_le (sH k x)
   ·exact sH k x
def cS:∀(k x:Nat),N.aR S k (N.aR S k x)=N.aR S k x
 | 0,_=>rfl
 | k+1,x=>by
   by_cases hs:S k=true
   ·have e:N.aR S (k+1)=join (N.aR S k) (N.a k) (N.b k):=by
     conv=>lhs;unfold Net.aR
     rw[aad hs]
    rw[e];exact FE (cS k) x
   ·have e:N.aR S (k+1)=N.aR S k:=by
     conv=>lhs;unfold Net.aR
     rw[aab hs]
    rw[e];exact cS k x
def xq{x y k:Nat}(h:N.aR S k x=N.aR S k y):∀d,N.aR S (k+d) x=N.aR S (k+d) y
 | 0=>h
 | d+1=>by
   have ih:=xq h d;show N.aR S (k+d+1) x=N.aR S (k+d+1) y;unfold Net.aR
   split
   ·exact join_eq ih
   ·exact ih
def gY{j k:Nat}(h:j<k)(hs:S j=true):N.aR S k (N.a j)=N.aR S k (N.b j):=by
 obtain⟨d,rfl⟩:=ac5 (Nat.succ_le_of_lt h);refine xq ?_ d;show N.aR S (j+1) (N.a j)=N.aR S (j+1) (N.b j);unfold Net.aR;rw[aad hs];exact FD _ _ _
inductive Net.lP(N:Net)(S:Nat->Bool)(k u:Nat):Nat->Prop
 | refl:Net.lP N S k u u
 | fwd {j:Nat} (h:Net.lP N S k u (N.a j)) (hj:j<k) (hs:S j=true):Net.lP N S k u (N.b j)
 | bwd {j:Nat} (h:Net.lP N S k u (N.b j)) (hj:j<k) (hs:S j=true):Net.lP N S k u (N.a j)
def Net.lP.trans{k u v w:Nat}(h:N.lP S k u v)(h' : N.lP S k v w):N.lP S k u w:=by
 induction h' with
 | refl=>exact h
 | fwd _ hj hs ih=>exact .fwd ih hj hs
 | bwd _ hj hs ih=>exact .bwd ih hj hs
def Net.lP.mono{k l u v:Nat}(h:N.lP S k u v)(xg:k<=l):N.lP S l u v:=by
 induction h with
 | refl=>exact .refl
 | fwd _ hj hs ih=>exact .fwd ih (by lia) hs
 | bwd _ hj hs ih=>exact .bwd ih (by lia) hs
def cG:∀(k u v:Nat),N.aR S k u=N.aR S k v->N.lP S k u v
 | 0,u,v,h=>by
   have e:u=v:=h;subst e;exact .refl
 | k+1,u,v,h=>by
   unfold Net.aR at h
   split at h
   ·rename_i hs
    rcases CK h with q|⟨q1,q2⟩|⟨q1,q2⟩
    ·exact(cG k u v q).mono (by lia)
    ·have c1:=(cG k u _ q1).mono (abA k);have c2:=(cG k _ v q2.symm).mono (abA k);exact Net.lP.trans (.fwd c1 (by lia) hs) c2
    ·have c1:=(cG k u _ q1).mono (abA k);have c2:=(cG k _ v q2.symm).mono (abA k);exact Net.lP.trans (.bwd c1 (by lia) hs) c2
   ·exact(cG k u v h).mono (by lia)
def Net.b8(N:Net)(k:Nat):Nat->Nat:=N.aR (λ_=>true) k
def Net.fK(N:Net)(k:Nat):Bool:=!decide (N.b8 k (N.a k)=N.b8 k (N.b k))
def tV(k:Nat):N.b8 (k+1)=if N.fK k=true then join (N.b8 k) (N.a k) (N.b k) else N.b8 k:=by
 show N.aR (λ_=>true) (k+1)=_
 unfold Net.aR;rw[aad rfl];unfold Net.fK
 by_cases h:N.b8 k (N.a k)=N.b8 k (N.b k)
 ·rw[aab (by simp[h])]
  exact xo h
 ·rw[aad (by simp[h])]
  rfl
def fU{m:Nat}(hf:∀k,m.testBit k=true->k<N.n/\N.fK k=true)(he:N.bL m):m=0:=by
 by_cases h0:m=0
 ·exact h0
 exfalso
 have hK:m.testBit m.log2=true:=Nat.testBit_log2 h0;obtain⟨T4,T5⟩:=hf _ hK;generalize ZN:m.log2=K at hK T4 T5;have hlt:m<2^(K+1):=by rw[<-ZN];exact Nat.lt_log2_self
 have hcl:=tU (N:=N) (m:=m^^^2^K) (λx=>decide (N.b8 K x=N.b8 K (N.a K))) λk hk hb=>by
  have Vr:k<K:=by
   rw[aam,aaw]at hb
   by_cases e:K=k
   ·subst e;simp[hK]at hb
   ·have hb' : m.testBit k=true:=by simpa[e]using hb
    have:k<K+1:=by
     by_cases q:k<K+1
     ·exact q
     ·have z:=aaR (aaj hlt (aaM (by decide) (show K+1<=k by lia)))
      rw[hb']at z;cases z
    lia
  have e:N.b8 K (N.a k)=N.b8 K (N.b k):=gY (S:=λ_=>true) Vr rfl
  show decide (N.b8 K (N.a k)=_)=decide (N.b8 K (N.b k)=_);rw[e]
 have e:bh (λx=>decide (N.b8 K x=N.b8 K (N.a K))&&N.bd (m^^^2^K) x) N.p=bh (λx=>decide (N.b8 K x=N.b8 K (N.a K))&&N.inc K x) N.p :=
  bf λx hx=>by rw[eR,he x hx,jF T4];simp
 rw[e]at hcl;have e2:bh (λx=>decide (N.b8 K x=N.b8 K (N.a K))&&N.inc K x) N.p=(decide (N.b8 K (N.a K)=N.b8 K (N.a K))^^decide (N.b8 K (N.b K)=N.b8 K (N.a K))):=by
  rw[<-gB (λx=>decide (N.b8 K x=N.b8 K (N.a K))) (N.al K T4),<-gB (λx=>decide (N.b8 K x=N.b8 K (N.a K))) (N.bl K T4),<-iV]
  refine bf λx _=>?_
  unfold Net.inc;cases decide (N.b8 K x=N.b8 K (N.a K))<;>cases decide (N.a K=x)<;>cases decide (N.b K=x)<;>rfl
 rw[e2]at hcl;unfold Net.fK at T5;have hne : ¬ N.b8 K (N.b K)=N.b8 K (N.a K):=λq=>by rw[q]at T5;simp at T5
 simp[hne]at hcl
def Net.trail(N:Net):Nat->Nat->Nat
 | 0=>λ_=>0
 | k+1=>if N.fK k=true then λv=>if N.b8 k v=max (N.b8 k (N.a k)) (N.b8 k (N.b k)) then Net.trail N k v^^^(Net.trail N k (N.a k)^^^Net.trail N k (N.b k)^^^2^k) else Net.trail N k v
   else Net.trail N k
def fV:∀(k v j:Nat),(N.trail k v).testBit j=true->j<k/\N.fK j=true
 | 0,v,j,h=>by simp[Net.trail]at h
 | k+1,v,j,h=>by
   have ih:=fV k;unfold Net.trail at h
   split at h
   ·rename_i hf
    dsimp only at h
    split at h
    ·rw[aam,aam,aam,aaw]at h
     by_cases e:k=j
     ·subst e;exact⟨by lia,hf⟩
     ·have z : ¬((N.trail k v).testBit j=false/\(N.trail k (N.a k)).testBit j=false/\(N.trail k (N.b k)).testBit j=false):=by
       rintro⟨z1,z2,z3⟩;simp[z1,z2,z3,e]at h
      cases h1:(N.trail k v).testBit j with
      | true=>obtain⟨q,r⟩:=ih v j h1;exact⟨by lia,r⟩
      | false=>cases h2:(N.trail k (N.a k)).testBit j with
        | true=>obtain⟨q,r⟩:=ih _ j h2;exact⟨by lia,r⟩
        | false=>cases h3:(N.trail k (N.b k)).testBit j with
          | true=>obtain⟨q,r⟩:=ih _ j h3;exact⟨by lia,r⟩
          | false=>exact absurd ⟨h1,h2,h3⟩ z
    ·obtain⟨q,r⟩:=ih v j h;exact⟨by lia,r⟩
   ·obtain⟨q,r⟩:=ih v j h;exact⟨by lia,r⟩
def Iu(a b c d e f g h:Bool)(ZO:(d^^f)=(g^^h)):((a^^g)^^(((c^^d)^^(e^^f))^^(c^^e)))=(a^^h):=by
 have e1:(((c^^d)^^(e^^f))^^(c^^e))=(d^^f):=by cases c<;>cases d<;>cases e<;>cases f<;>rfl
 rw[e1,ZO];cases a<;>cases g<;>cases h<;>rfl
def lZ:∀(k:Nat),k<=N.n->∀v x,N.bd (N.trail k v) x=(decide (v=x)^^decide (N.b8 k v=x))
 | 0,_,v,x=>by
   show N.bd 0 x=(decide (v=x)^^decide (v=x));rw[kO];simp
 | k+1,hk,v,x=>by
   have ih:=lZ k (by lia)
   rw[tV];unfold Net.trail
   by_cases hf:N.fK k=true
   ·rw[aad hf,aad hf]
    by_cases hm:N.b8 k v=max (N.b8 k (N.a k)) (N.b8 k (N.b k))
    ·have e:join (N.b8 k) (N.a k) (N.b k) v=min (N.b8 k (N.a k)) (N.b8 k (N.b k)):=by unfold join;rw[aad hm]
     show N.bd (if N.b8 k v=_ then _ else _) x=_
     rw[aad hm,e,eR,eR,eR,jF (by lia),ih,ih,ih]
     unfold Net.inc;refine Iu _ false _ _ _ _ _ _ ?_;rw[hm];rcases acY (N.b8 k (N.a k)) (N.b8 k (N.b k)) with q|q
     ·rw[acR q,acd q,Bool.xor_comm]
     ·rw[acX q,acS q]
    ·have e:join (N.b8 k) (N.a k) (N.b k) v=N.b8 k v:=by unfold join;rw[aab hm]
     show N.bd (if N.b8 k v=_ then _ else _) x=_
     rw[aab hm,e,ih]
   ·rw[aab hf,aab hf];exact ih v x
def Net.ring(N:Net)(c:Nat):Nat:=N.trail N.n (N.a c)^^^N.trail N.n (N.b c)^^^2^c
def Iv{c:Nat}(h:c<N.n):N.b8 N.n (N.a c)=N.b8 N.n (N.b c):=gY (S:=λ_=>true) h rfl
def kc{c:Nat}(h:c<N.n):N.bL (N.ring c):=λx _=>by
 unfold Net.ring;rw[eR,eR,jF h,lZ _ (aae _),lZ _ (aae _),Iv h];unfold Net.inc;cases decide (N.a c=x)<;>cases decide (N.b c=x)<;>cases decide (N.b8 N.n (N.b c)=x)<;>rfl
def kg{c j:Nat}(h:(N.ring c).testBit j=true):j=c\/(j<N.n/\N.fK j=true):=by
 unfold Net.ring at h;rw[aam,aam,aaw]at h
 by_cases e:c=j
 ·exact .inl e.symm
 ·right
  cases h1:(N.trail N.n (N.a c)).testBit j with
  | true=>exact fV _ _ _ h1
  | false=>cases h2:(N.trail N.n (N.b c)).testBit j with
    | true=>exact fV _ _ _ h2
    | false=>simp[h1,h2,e]at h
def l5{c:Nat}(hf:N.fK c=false):(N.ring c).testBit c=true:=by
 unfold Net.ring;rw[aam,aam,aaw];cases h1:(N.trail N.n (N.a c)).testBit c with
 | true=>obtain⟨_,q⟩:=fV _ _ _ h1;rw[hf]at q;cases q
 | false=>cases h2:(N.trail N.n (N.b c)).testBit c with
   | true=>obtain⟨_,q⟩:=fV _ _ _ h2;rw[hf]at q;cases q
   | false=>simp
def FF{j:Nat}(h:j<N.n)(hf:N.fK j=true):(N.trail N.n (N.a j)).testBit j=true\/(N.trail N.n (N.b j)).testBit j=true:=by
 have z:N.ring j=0:=fU (λk hk=>by
  rcases kg hk with rfl|q
  ·exact⟨h,hf⟩
  ·exact q) (kc h)
 have b:(N.ring j).testBit j=false:=by rw[z];simp
 unfold Net.ring at b;rw[aam,aam,aaw]at b;cases h1:(N.trail N.n (N.a j)).testBit j with
 | true=>exact .inl rfl
 | false=>cases h2:(N.trail N.n (N.b j)).testBit j with
   | true=>exact .inr rfl
   | false=>simp[h1,h2]at b
def cnt(f:Nat->Bool):Nat->Nat
 | 0=>0
 | n+1=>cnt f n+(if f n=true then 1 else 0)
def iI{f g:Nat->Bool}:∀{n:Nat},(∀k,k<n->f k=g k)->cnt f n=cnt g n
 | 0,_=>rfl
 | n+1,h=>by
   unfold cnt;rw[iI λk hk=>h k (by lia),h n (by lia)]
def tW{f g:Nat->Bool}{h:Nat}(hg:g h=true):∀{p:Nat},h<p->(∀x,x<p->f x=(g x && !decide (x=h)))->cnt g p=cnt f p+1
 | 0,hh,_=>absurd hh (abn _)
 | p+1,hh,e=>by
   unfold cnt
   by_cases q:h=p
   ·subst q;have z:cnt g h=cnt f h:=iI λk hk=>by rw[e k (by lia)];simp[show k≠h by lia]
    rw[z,aad hg,e h (by lia)]
    simp
   ·rw[tW hg (by lia) λx hx=>e x (by lia),e p (by lia)]
    simp[aa2 q]
    lia
def dY(f:Nat->Bool):∀n,((List.range n).filter f).length=cnt f n
 | 0=>rfl
 | n+1=>by
   rw[abB,abu,aah,dY f n];show _=cnt f n+(if f n=true then 1 else 0)
   cases h:f n with
   | true=>rw[aaJ,aad h];rfl
   | false=>rw[aaJ,aab (by rw[h];simp)];rfl
def oW(f:Nat->Bool):∀n,cnt f n+cnt (λk=>!f k) n=n
 | 0=>rfl
 | n+1=>by
   have ih:=oW f n;unfold cnt;cases h:f n<;>simp<;>lia
def yz{f:Nat->Bool}:∀{n:Nat},(∀k,k<n->f k=true)->cnt f n=n
 | 0,_=>rfl
 | n+1,h=>by
   unfold cnt;rw[yz λk hk=>h k (by lia),aad (h n (by lia))]
variable {N:Net}{S:Nat->Bool}
def Net.root(N:Net)(S:Nat->Bool)(k x:Nat):Bool:=decide (N.aR S k x=x)
def iJ(k:Nat):N.aR S (k+1)=if S k=true then join (N.aR S k) (N.a k) (N.b k) else N.aR S k:=by
 conv=>lhs;unfold Net.aR
def oX{k x:Nat}(h:x<N.p):N.aR S k x<N.p:=abm (sH k x) h
def FG{L:Nat->Nat}{u v:Nat}(hr:∀x,L (L x)=L x)(hne:L u≠L v)(x:Nat):decide (join L u v x=x)=(decide (L x=x) && !decide (x=max (L u) (L v))):=by
 have hhi:L (max (L u) (L v))=max (L u) (L v):=by
  rcases acY (L u) (L v) with q|q
  ·rw[acR q];exact hr v
  ·rw[acX q];exact hr u
 have hlo:L (min (L u) (L v))=min (L u) (L v):=by
  rcases acY (L u) (L v) with q|q
  ·rw[acd q];exact hr u
  ·rw[acS q];exact hr v
 unfold join
 by_cases h:L x=max (L u) (L v)
 ·rw[aad h];have h1 : ¬ min (L u) (L v)=x:=λz=>by
   rw[<-z,hlo]at h
   lia
  by_cases h2:x=max (L u) (L v)
  ·simp[h1,h2]
   lia
  ·have h3 : ¬ L x=x:=λz=>h2 (z.symm.trans h)
   simp[h1,h3]
 ·rw[aab h];have h2 : ¬ x=max (L u) (L v):=λz=>h (by rw[z];exact hhi)
  simp[h2]
def tX{k:Nat}(hk:k<N.n):cnt (N.root S k) N.p=cnt (N.root S (k+1)) N.p+(if(S k && !decide (N.aR S k (N.a k)=N.aR S k (N.b k)))=true then 1 else 0):=by
 cases hs:S k with
 | false =>
   have e:N.root S (k+1)=N.root S k:=by unfold Net.root;rw[iJ,aab (by rw[hs];simp)]
   rw[e];simp
 | true =>
   by_cases h:N.aR S k (N.a k)=N.aR S k (N.b k)
   ·have e:N.root S (k+1)=N.root S k:=by unfold Net.root;rw[iJ,aad hs,xo h]
    rw[e];simp[h]
   ·have hhi:N.aR S k (max (N.aR S k (N.a k)) (N.aR S k (N.b k)))=max (N.aR S k (N.a k)) (N.aR S k (N.b k)):=by
     rcases acY (N.aR S k (N.a k)) (N.aR S k (N.b k)) with q|q
     ·rw[acR q];exact cS _ _
     ·rw[acX q];exact cS _ _
    have h1:=oX (S:=S) (k:=k) (N.al k hk);have h2:=oX (S:=S) (k:=k) (N.bl k hk);rw[tW (f:=N.root S (k+1)) (g:=N.root S k) (h:=max (N.aR S k (N.a k)) (N.aR S k (N.b k))) (cF hhi) (by lia) λx _=>by
     unfold Net.root;rw[iJ,aad hs];exact FG (cS k) h x]
    simp[h]
def kP:∀k,k<=N.n->cnt (N.root (λ_=>true) k) N.p+cnt N.fK k=N.p
 | 0,_=>by
   show cnt (N.root (λ_=>true) 0) N.p+0=N.p
   rw[yz (f:=N.root (λ_=>true) 0) λx _=>cF rfl]
   rfl
 | k+1,hk=>by
   have ih:=kP k (by lia)
   have st:=tX (N:=N) (S:=λ_=>true) (k:=k) (by lia)
   have e:((λ_=>true:Nat->Bool) k && !decide (N.aR (λ_=>true) k (N.a k)=N.aR (λ_=>true) k (N.b k)))=N.fK k:=by rw[aa7];rfl
   rw[e]at st;show cnt (N.root (λ_=>true) (k+1)) N.p+(cnt N.fK k+if N.fK k=true then 1 else 0)=N.p
   lia
def Am:(N.n:Int)-N.p+cnt (N.root (λ_=>true) N.n) N.p=(cnt (λk=>!N.fK k) N.n:Nat):=by
 have h:=kP (N:=N) N.n (aae _);have h2:=oW N.fK N.n
 lia
def Net.ah(N:Net):List Nat:=(List.range N.n).filter λk=>!N.fK k
def aY{c:Nat}:c∈N.ah↔c<N.n/\N.fK c=false:=by
 unfold Net.ah;rw[aaC,aax];simp
def iW:N.ah.length=cnt (λk=>!N.fK k) N.n:=dY _ _
def cL{m n:Nat}(h:∀k,m.testBit k=true->k<n):m<2^n:=Nat.lt_pow_two_of_testBit m λk hk=>by
 cases q:m.testBit k with
 | false=>rfl
 | true=>exact absurd (h k q) (by lia)
def bR{m n k:Nat}(h:m<2^n)(hb:m.testBit k=true):k<n:=by
 by_cases q:k<n
 ·exact q
 ·have z:=aaR (aaj h (aaM (by decide) (show n<=k by lia)))
  rw[hb]at z;cases z
def kh{m q:Nat}(hm:m<2^N.n)(hq:q<2^N.n)(em:N.bL m)(eq:N.bL q)(h:∀c,c<N.n->N.fK c=false->m.testBit c=q.testBit c):m=q:=by
 have z:m^^^q=0:=fU (N:=N) (λk hk=>by
  have hk':=bR (abb hm hq) hk;refine⟨hk',?_⟩;cases hf:N.fK k with
  | true=>rfl
  | false =>
    rw[aam,h k hk' hf]at hk;simp at hk) (bL.xor em eq)
 have e:m=m^^^q^^^q:=by rw[abh,abD,abE]
 rw[e,z,abj]
def mW{c:Nat}(h:c<N.n):N.ring c<2^N.n:=cL λk hk=>by
 rcases kg hk with rfl|⟨q,_⟩
 ·exact h
 ·exact q
def fB{c d:Nat}(hc:N.fK c=false)(hd:N.fK d=false):(N.ring c).testBit d=decide (c=d):=by
 by_cases e:c=d
 ·subst e;rw[l5 hc];simp
 ·cases q:(N.ring c).testBit d with
  | false=>simp[e]
  | true=>rcases kg q with rfl | ⟨_,r⟩
          ·exact absurd rfl e
          ·rw[hd]at r;cases r
def Net.gq(N:Net)(number:Nat):List Nat->Nat->Nat
 | [],_=>0
 | c::r,i=>(if number.testBit i=true then N.ring c else 0)^^^Net.gq N number r (i+1)
def mX{number:Nat}:∀{l:List Nat} {i:Nat},(∀c∈l,c<N.n)->N.bL (N.gq number l i)/\N.gq number l i<2^N.n
 | [],_,_=>⟨bL.zero,aa0 _⟩
 | c::r,i,h=>by
   obtain⟨h1,h2⟩:=mX (number:=number) (l:=r) (i:=i+1) λd hd=>h d (nR _ hd)
   have hc:=h c aar;unfold Net.gq
   split
   ·exact⟨bL.xor (kc hc) h1,abb (mW hc) h2⟩
   ·rw[abj];exact⟨h1,h2⟩
def An{number d:Nat}(hd:N.fK d=false):∀{l:List Nat} {i:Nat},(∀c∈l,N.fK c=false)->d∉l->(N.gq number l i).testBit d=false
 | [],_,_,_=>by simp[Net.gq]
 | c::r,i,h,hn=>by
   have ih:=An (number:=number) (d:=d) hd (l:=r) (i:=i+1) (λe he=>h e (nR _ he)) λq=>hn (nR _ q)
   unfold Net.gq;rw[aam,ih]
   split
   ·rw[fB (h c aar) hd];have:c≠d:=λq=>hn (by rw[q];exact aar)
    simp[this]
   ·simp
def Ao{number:Nat}:∀{l:List Nat} {i j:Nat} {d:Nat},l.Nodup->(∀c∈l,N.fK c=false)->l[j]?=some d->(N.gq number l i).testBit d=number.testBit (i+j)
 | [],_,_,_,_,_,h=>by simp at h
 | c::r,i,0,d,hn,hf,h=>by
   have e:c=d:=by simpa using h
   subst e;have hc:=hf c aar;unfold Net.gq;rw[aam,An hc (λe he=>hf e (nR _ he)) (aa6.mp hn).1]
   cases q:number.testBit (i+0) with
   | true=>rw[aad (by simpa using q),l5 hc];rfl
   | false=>rw[aab (by simpa using q)];simp
 | c::r,i,j+1,d,hn,hf,h=>by
   have h' : r[j]?=some d:=by simpa using h
   have hd:d∈r:=iq h';have ih:=Ao (number:=number) (l:=r) (i:=i+1) (j:=j) (d:=d) (aa6.mp hn).2 (λe he=>hf e (nR _ he)) h'
   unfold Net.gq;rw[aam,ih];have hne:c≠d:=λq=>(aa6.mp hn).1 (q▸hd)
   have z:(if number.testBit i=true then N.ring c else 0).testBit d=false:=by
    split
    ·rw[fB (hf c aar) (hf d (nR _ hd))];simp[hne]
    ·simp
   rw[z,show i+1+j=i+(j+1) by lia]
   simp
end RM
namespace Ring
open PySem L2
def maskOf(f:Nat->Bool):Nat->Nat
 | 0=>0
 | n+1=>(if f n=true then 2^n else 0)+maskOf f n
def mask_lt(f:Nat->Bool):∀n,maskOf f n<2^n
 | 0=>by show 0<1;decide
 | n+1=>by
   have ih:=mask_lt f n;have e:2^(n+1)=2^n+2^n:=by rw[abT];lia
   unfold maskOf
   split<;>lia
def mask_bit(f:Nat->Bool)(j:Nat):∀n,(maskOf f n).testBit j=(decide (j<n)&&f j)
 | 0=>by simp[maskOf]
 | n+1=>by
   have ih:=mask_bit f j n;have hl:=mask_lt f n;unfold maskOf
   by_cases h:f n=true
   ·rw[aad h];rcases Nat.lt_trichotomy j n with q|q|q
    ·rw[Nat.testBit_two_pow_add_gt q,ih];simp[q,show j<n+1 by lia]
    ·subst q;rw[Nat.testBit_two_pow_add_eq,ih];simp[h]
    ·have z:2^n+maskOf f n<2^j:=aaj (show 2^n+maskOf f n<2^(n+1) by rw[abT];lia) (aaM (by decide) q)
     rw[aaR z];simp[show ¬ j<n+1 by lia]
   ·rw[aab h,ack,ih]
    by_cases q:j=n
    ·subst q;have h' : f j=false:=by simpa using h
     simp[h']
    ·by_cases r:j<n
     ·simp[r,show j<n+1 by lia]
     ·simp[r,show ¬ j<n+1 by lia]
def Iw(n:Nat):maskOf (λ_=>true) n=2^n-1:=by
 induction n with
 | zero=>rfl
 | succ n ih =>
   unfold maskOf;rw[ih,aad rfl,abT];have:=aa0 n
   lia
def yC(n j:Nat):(2^n-1).testBit j=decide (j<n):=by
 rw[<-Iw,mask_bit];simp
def OO{a b x y:Nat}(q:x/2+y/2=a/2+b/2)(h:x%2+y%2=a%2+b%2):x+y=a+b:=by lia
def OP{u v:Nat}(hu:u=0\/u=1)(hv:v=0\/v=1):(u ||| v)+(u&&&v)=u+v:=by
 rcases hu with rfl|rfl<;>rcases hv with rfl|rfl<;>rfl
def OQ:∀a b:Nat,(a ||| b)+(a&&&b)=a+b:=by
 intro a
 induction a using Nat.strongRecOn with
 | ind a ih =>
   intro b
   by_cases h:a=0
   ·subst h;simp
   ·have q:=ih (a/2) (by lia) (b/2)
    rw[<-Nat.or_div_two,<-Nat.and_div_two]at q;refine OO q ?_;have e1:(a ||| b)%2=a%2 ||| b%2:=Nat.or_mod_two_pow (n:=1)
    have e2:(a&&&b)%2=a%2&&&b%2:=Nat.and_mod_two_pow (n:=1);rw[e1,e2];exact OP (acf a) (acf b)
def or_int(a b:Nat):Builtin.bitOr (a:Int) (b:Int)=((a ||| b:Nat):Int):=by
 have q:=OQ a b;rw[PyProof.Rows.bitOr_and,ac9 (by lia) (by lia)]
 have h:(a:Int)+b-((a&&&b:Nat):Int)=((a ||| b:Nat):Int):=by lia
 simpa using h
def sI(k:Nat):(1:Int)*2^(k:Int).toNat=((2^k:Nat):Int):=by
 rw[aau,abU];simp
def dZ{ts:List cC}{k:Nat}(h:k<ts.length):aX ts k∈ts:=by
 unfold aX;rw[aaa];simp[h]
def qf{ts:List cC}{k:Nat}(h:k<ts.length):ts[k]?=some (aX ts k):=by
 unfold aX;rw[aaa];simp[h]
def aA.N{p:Nat}{ts:List cC}(g:aA p ts):RM.Net where
 p:=p
 n:=ts.length
 a:=λk=>(aX ts k).1.toNat
 b:=λk=>(aX ts k).2.1.toNat
 al:=λk hk=>by
  have z:=g.nY _ (dZ hk);have z0:=z.a0;have z1:=z.a1
  lia
 bl:=λk hk=>by
  have z:=g.nY _ (dZ hk);have z0:=z.b0;have z1:=z.b1
  lia
 ne:=λk hk e=>by
  have z:=g.nY _ (dZ hk);have z0:=z.a0;have z1:=z.b0;exact z.ne (by lia)
def Es{p:Nat}{ts:List cC}{g:aA p ts}{k:Nat}(h:k<ts.length):(aX ts k).1=((g.N.a k:Nat):Int):=by
 have z:=(g.nY _ (dZ h)).a0;show _=(((aX ts k).1.toNat:Nat):Int)
 lia
def Et{p:Nat}{ts:List cC}{g:aA p ts}{k:Nat}(h:k<ts.length):(aX ts k).2.1=((g.N.b k:Nat):Int):=by
 have z:=(g.nY _ (dZ h)).b0;show _=(((aX ts k).2.1.toNat:Nat):Int)
 lia
def LU{p:Nat}{ts:List cC}{g:aA p ts}{k:Nat}(h:k<ts.length)(x:Nat):K1 ts k x%2=if g.N.inc k x=true then 1 else 0:=by
 unfold K1 RM.Net.inc;rw[qf h];dsimp only;rw[Es (g:=g) h,Et (g:=g) h];generalize g.N.a k=u;generalize g.N.b k=v
 by_cases h1:u=x
 ·by_cases h2:v=x
  ·simp[h1,h2]
  ·have OL : ¬((v:Int)=(x:Int)):=by lia
   simp[h1,h2,OL]
 ·have Ii : ¬((u:Int)=(x:Int)):=by lia
  by_cases h2:v=x
  ·simp[h1,h2,Ii]
  ·have OL : ¬((v:Int)=(x:Int)):=by lia
   simp[h1,h2,Ii,OL]
def Iz{p:Nat}{ts:List cC}{g:aA p ts}(m x:Nat):∀n,n<=ts.length->((List.range n).map λk=>if m.testBit k=true then K1 ts k x else 0).sum%2=if RM.bh (λk=>m.testBit k&&g.N.inc k x) n=true then 1 else 0
 | 0,_=>rfl
 | n+1,h=>by
   have ih:=Iz (g:=g) m x n (by lia)
   have hd:=LU (g:=g) (k:=n) (by lia) x
   rw[abB,aat,ado];show(_+((if m.testBit n=true then K1 ts n x else 0)+0))%2=if(RM.bh _ n^^(m.testBit n&&g.N.inc n x))=true then 1 else 0
   generalize ((List.range n).map λk=>if m.testBit k=true then K1 ts k x else 0).sum=u at ih ⊢
   generalize RM.bh (λk=>m.testBit k&&g.N.inc k x) n=v at ih ⊢
   generalize g.N.inc n x=i at hd ⊢;generalize K1 ts n x=d at hd ⊢;cases m.testBit n<;>cases v<;>cases i<;>simp at ih hd ⊢ <;> lia
def Eu{p:Nat}{ts:List cC}(g:aA p ts){m:Nat}(hm:m<2^ts.length){x:Nat}:decide ((jE p ts (m:Int)).getD x 0%2=1)=g.N.bd m x:=by
 rw[Im g.Iq.Xk,j9 hm,sum_filter];have h:=Iz (g:=g) m x ts.length (aae _);rw[h];show _=RM.bh _ ts.length;generalize RM.bh (λk=>m.testBit k&&g.N.inc k x) ts.length=v
 cases v<;>simp
def Aq{p:Nat}{ts:List cC}(g:aA p ts){m:Nat}(hm:m<2^ts.length):tS p ts (m:Int)=[]↔g.N.bL m:=by
 unfold tS;rw[ada]
 constructor
 ·intro h x hx;have q:=h x (aax.mpr hx);rw[Eu g hm]at q
  simpa using q
 ·intro h x hx;rw[Eu g hm,h x (aax.mp hx)];simp
def gZ(f:Nat->Nat)(n:Nat):List V:=(List.range n).map λx=>V.int ((f x:Nat):Int)
def fW(f:Nat->Nat)(n:Nat):(gZ f n).length=n:=by unfold gZ;rw[aac,aay]
def cf{f:Nat->Nat}{n x:Nat}(h:x<n):(gZ f n)[x]?=some (.int ((f x:Nat):Int)):=by
 unfold gZ;rw[aan,acW h];rfl
def sJ{f:Nat->Nat}{n x:Nat}{v:V}(h:(gZ f n)[x]?=some v):x<n/\v = .int ((f x:Nat):Int):=by
 have hx:x<n:=by
  have:=(jf.mp h).1
  rwa [fW]at this
 rw[cf hx]at h;exact⟨hx,(Option.some.inj h).symm⟩
def xr(f:Nat->Nat)(n:Nat):gZ f (n+1)=gZ f n++[.int ((f n:Nat):Int)]:=by
 unfold gZ;rw[abB,aat];rfl
def IA(p:Nat):(List.replicate p [V.int 0]).flatten=gZ (λ_=>0) p:=by
 induction p with
 | zero=>rfl
 | succ p ih =>
   rw[xr,<-ih,List.replicate_succ',List.flatten_append];rfl
def yD(f:Nat->Nat)(H:Hp)(D:Addr)(i:Nat)(acc:List V)(H2:Hp):Prop:=aq H H2/\H2 D=some (.lst acc)/\acc=gZ f i
section
variable {f:Nat->Nat}{H H2 H3:Hp}{D:Addr}{i:Nat}{acc:List V}{v:V}
def yD.start(hD:H D=none):yD f H D 0 [] (upd H D (.lst [])):=⟨aq.new hD,ae,rfl⟩
def yD.len(p:yD f H D i acc H2):H2 D=some (.lst acc)/\acc.length<=i:=⟨p.2.1,by rw[p.2.2,fW];exact aae _⟩
def yD.next(p:yD f H D i acc H2)(hD:H D=none)(s:aq H2 H3)(hv:v = .int ((f i:Nat):Int)):H3 D=some (.lst acc)/\yD f H D (i+1) (acc++[v]) (upd H3 D (.lst (acc++[v]))):=by
 refine⟨s _ _ p.2.1,(p.1.trans s).put hD,ae,?_⟩;rw[xr,<-p.2.2,hv]
end
def xu{N:RM.Net}{m:Nat}:∀n,((List.range n).filter λk=>m.testBit k).foldl (λL k=>RM.join L (N.a k) (N.b k)) (λx=>x)=N.aR (λk=>m.testBit k) n
 | 0=>rfl
 | n+1=>by
   rw[bX,acG,xu n,RM.iJ]
   split<;>rfl
end Ring
namespace RM
def n6{N:Net}{S S' : Nat->Bool}:∀{n:Nat},(∀k,k<n->S k=S' k)->N.aR S n=N.aR S' n
 | 0,_=>rfl
 | n+1,h=>by rw[iJ,iJ,n6 λk hk=>h k (by lia),h n (by lia)]
end RM
namespace Ring
open PySem L2
def pieceOf(L:Nat->Nat)(p s:Nat):List Nat:=(List.range p).filter λx=>decide (L x=s)
def bY(L:Nat->Nat)(p:Nat):List Nat:=(List.range p).filter λx=>decide (L x=x)
def Nz(D:Addr)(H0 H:Hp)(y:V)(l:List Nat):Prop:=∃b,y = .ref b/\b≠D/\H0 b=none/\H b=some (.lst (aB l))
def tY(L:Nat->Nat)(p:Nat)(H:Hp)(D:Addr)(i:Nat)(H2:Hp):Prop:=aq H H2/\∃ys,H2 D=some (.lst ys)/\Paired (Nz D H H2) ys ((bY L i).map (pieceOf L p))/\ys.length<=i
section
variable {L:Nat->Nat}{p i:Nat}{H H2 H3:Hp}{D b:Addr}
def tY.start(hD:H D=none):tY L p H D 0 (upd H D (.lst [])):=⟨aq.new hD,[],ae,.nil,aae _⟩
def tZ:bY L (i+1)=bY L i++(if L i=i then[i] else[]):=by
 unfold bY;rw[bX]
 by_cases h:L i=i<;>simp[h]
def tY.skip(h:tY L p H D i H2)(hn : ¬ L i=i):tY L p H D (i+1) H2:=by
 obtain⟨s,ys,hd,pr,hl⟩:=h;refine⟨s,ys,hd,?_,by lia⟩
 rw[tZ,aab hn,abP];exact pr
def tY.push(h:tY L p H D i H2)(hD:H D=none)(hr:L i=i)(s:aq H2 H3)(hb:H2 b=none)(ZP:H3 b=some (.lst (aB (pieceOf L p i)))):
 ∃ys,H3 D=some (.lst ys)/\ys.length<=i/\tY L p H D (i+1) (upd H3 D (.lst (ys++[.ref b]))):=by
 obtain⟨s2,ys,hd,pr,hl⟩:=h;have RW:=s _ _ hd;have Xl:b≠D:=λe=>by rw[e,hd]at hb;cases hb
 refine⟨ys,RW,hl,(s2.trans s).put hD,ys++[.ref b],ae,?_,by rw[aah,aaU];lia⟩
 rw[tZ,aad hr,aat];refine Paired.snoc (Paired.imp' (λ_ _ ⟨e,he,hn,h0,q⟩=>⟨e,he,hn,h0,by rw[ak hn];exact s _ _ q⟩) pr) ?_
 exact⟨b,rfl,Xl,s2.free hb,by rw[ak Xl];exact ZP⟩
end
def rD(p:Nat)(ts:List cC)(g:aA p ts)(ks:List Nat):Nat->Nat:=ks.foldl (λL k=>RM.join L (g.N.a k) (g.N.b k)) λx=>x
def CL{p:Nat}{ts:List cC}{g:aA p ts}{ks:List Nat}{k:Nat}:rD p ts g (ks++[k])=RM.join (rD p ts g ks) (g.N.a k) (g.N.b k):=by
 unfold rD;rw[acG];rfl
def bq(p:Nat)(ts:List cC)(g:aA p ts)(m:Nat):Nat->Nat:=g.N.aR (λk=>m.testBit k) ts.length
def CM{p:Nat}{ts:List cC}{g:aA p ts}{m:Nat}(hm:m<2^ts.length):rD p ts g (bu (m:Int))=bq p ts g m:=by
 unfold rD bq;rw[j9 hm];exact xu _
def LV{p:Nat}{ts:List cC}{g:aA p ts}:bq p ts g (2^ts.length-1)=g.N.b8 ts.length:=by
 unfold bq RM.Net.b8;exact RM.n6 λk hk=>by rw[yC];simp[hk]
def LW{p:Nat}{ts:List cC}{g:aA p ts}:(ts.length:Int)-(p:Int)+(bY (bq p ts g (2^ts.length-1)) p).length=(g.N.ah.length:Int):=by
 have h:=RM.Am (N:=g.N);rw[RM.iW];unfold bY;rw[RM.dY,LV];exact h
def LX(a b:Nat):(if(b:Int)<(a:Int) then(b:Int) else(a:Int))=((min a b:Nat):Int):=by
 split<;>lia
def Ew(a b:Nat):(if(b:Int) > (a:Int) then(b:Int) else(a:Int))=((max a b:Nat):Int):=by
 split<;>lia
def kQ(a b:Nat):decide (V.int (a:Int)=V.int (b:Int))=decide (a=b):=by
 rw[abt];simp
 lia
end Ring
namespace RM
variable {N:Net}{S:Nat->Bool}
variable {pt r j:Nat}{l:List Nat}
def IB{l:List Nat}:∀{p:Nat},l.Nodup->(∀x∈l,x<p)->l.length<=p:=by
 intro p hn hl;have hp:l.Perm ((List.range p).filter λx=>decide (x∈l)):=by
  refine(acU hn (abM _ ab6)).mpr λa=>?_
  rw[aaC,aax];simp;exact λh=>hl a h
 rw[hp.length_eq];have:=aaG (λx=>decide (x∈l)) (List.range p)
 rwa [aay]at this
end RM
namespace Ring
open PySem L2
def CN{p:Nat}{f:Nat->Bool}:((List.range p).filter f).Pairwise (· < ·):=abM _ List.pairwise_lt_range
def CO{L:Nat->Nat}{p s:Nat}(hle:∀x,L x<=x)(hs:L s=s)(hp:s<p):(pieceOf L p s)[0]?=some s:=by
 unfold pieceOf;obtain⟨d,rfl⟩:=Nat.exists_eq_add_of_lt hp;rw[show s+d+1=s+(d+1) by lia,List.range_add,abu]
 have e:(List.range s).filter (λx=>decide (L x=s))=[]:=by
  rw[ada];intro x hx;have h1:=aax.mp hx;have h2:=hle x;simp
  lia
 rw[e,List.nil_append,List.range_succ_eq_map,aaT,aaJ,aad (by simp[hs])]
 rfl
def kR(l:List Nat):aB l=(l.map λx=>((x:Nat):Int)).map V.int:=by unfold aB;rw[acL];rfl
def l6(u:Nat)(l:List Nat):LA (.int (u:Int)) (aB l)=decide (u∈l):=by
 unfold LA aB;rw[List.any_map,abt,adG];simp only[Function.comp,decide_eq_true_eq]
 constructor
 ·rintro⟨x,hx,h⟩;have e:((x:Nat):Int)=(u:Int):=eq_of_beq h;have:x=u:=by lia
  exact this▸hx
 ·intro h;exact⟨u,h,by simp[Lz]⟩
def mY(l:List Nat):(aB l).all oM=true:=by
 unfold aB;rw[List.all_map,adF];intro x _;rfl
def and_int(a b:Nat):Builtin.bitAnd (a:Int) (b:Int)=((a&&&b:Nat):Int):=by
 rw[ac9 (by lia) (by lia)]
 simp
def Qw(T:Nat->Nat):Nat->Nat
 | 0=>0
 | n+1=>Qw T n ||| T n
def Ex(T:Nat->Nat)(j:Nat):∀n,(Qw T n).testBit j=true↔∃x,x<n/\(T x).testBit j=true
 | 0=>by simp[Qw]
 | n+1=>by
   unfold Qw;rw[Nat.testBit_or,Bool.or_eq_true,Ex T j n]
   constructor
   ·rintro(⟨x,hx,h⟩|h)
    ·exact⟨x,by lia,h⟩
    ·exact⟨n,by lia,h⟩
   ·rintro⟨x,hx,h⟩
    by_cases e:x=n
    ·subst e;exact .inr h
    ·exact .inl ⟨x,by lia,h⟩
section
variable {p:Nat}{ts:List cC}{g:aA p ts}
def jl(p:Nat)(ts:List cC)(g:aA p ts):Nat:=maskOf g.N.fK ts.length
def CP:Qw (g.N.trail ts.length) p=jl p ts g:=by
 refine aaS λj=>?_
 unfold jl;rw[mask_bit,abt,Ex];simp only[aaI,decide_eq_true_eq]
 constructor
 ·rintro⟨x,_,h⟩;exact RM.fV _ _ _ h
 ·rintro⟨h1,h2⟩;rcases RM.FF (N:=g.N) h1 h2 with h|h
  ·exact⟨_,g.N.al j h1,h⟩
  ·exact⟨_,g.N.bl j h1,h⟩
def CQ(j:Nat):((2^ts.length-1)^^^jl p ts g).testBit j=(decide (j<ts.length) && !g.N.fK j):=by
 unfold jl;rw[aam,yC,mask_bit];cases decide (j<ts.length)<;>cases g.N.fK j<;>rfl
def xw:(2^ts.length-1)^^^jl p ts g<2^ts.length:=abb (by have:=aa0 ts.length;lia) (mask_lt _ _)
def Ar:bu (((2^ts.length-1)^^^jl p ts g:Nat):Int)=g.N.ah:=by
 rw[j9 xw];unfold RM.Net.ah;refine acH λk hk=>?_
 have:=aax.mp hk;rw[CQ];simp[this]
end
def LY(n:Nat):((2:Int)^n-1)=((2^n-1:Nat):Int):=by
 have h:((2:Int)^n)=((2^n:Nat):Int):=by simp
 have:=aa0 n
 lia
def OR{S:Int}{l:List Nat}(h:∀c∈l,S≠((c:Nat):Int)):LA (.int S) (aB l)=false:=by
 unfold LA aB;rw[List.any_map,List.any_eq_false];intro x hx z;exact h x hx (eq_of_beq z).symm
def nL{c:Nat}:∀{n:Nat},c<n->(List.range n).filter (λk=>decide (k=c))=[c]
 | 0,h=>absurd h (abn _)
 | n+1,h=>by
   rw[bX]
   by_cases e:c=n
   ·subst e;have z:(List.range c).filter (λk=>decide (k=c))=[]:=by
     rw[ada];intro x hx;have:=aax.mp hx;simp
     lia
    rw[z];simp
   ·rw[nL (by lia)]
    simp[aa2 e]
def sL{l:List Nat}{i:Nat}{k:Nat}(h:l[i]?=some k):(aB l)[i]?=some (.int (k:Int)):=by
 unfold aB;rw[aan,h];rfl
def rX(f:Nat->Int)(l:List Nat)(H:Hp)(D:Addr)(i:Nat)(acc:List V)(H2:Hp):Prop:=aq H H2/\H2 D=some (.lst acc)/\acc=((l.take i).map f).map V.int
section
variable {f:Nat->Int}{l:List Nat}{H H2 H3:Hp}{D:Addr}{i k:Nat}{acc:List V}{v:V}
def rX.start(hD:H D=none):rX f l H D 0 [] (upd H D (.lst [])):=⟨aq.new hD,ae,rfl⟩
def rX.len(p:rX f l H D i acc H2):H2 D=some (.lst acc)/\acc.length<=i:=by
 refine⟨p.2.1,?_⟩;rw[p.2.2,aac,aac,aa8]
 lia
def rX.next(p:rX f l H D i acc H2)(hD:H D=none)(s:aq H2 H3)(hk:l[i]?=some k)(hv:v = .int (f k)):H3 D=some (.lst acc)/\rX f l H D (i+1) (acc++[v]) (upd H3 D (.lst (acc++[v]))):=by
 refine⟨s _ _ p.2.1,(p.1.trans s).put hD,ae,?_⟩;rw[aaZ,hk,aat,aat,<-p.2.2,hv];rfl
def rX.fin(p:rX f l H D l.length acc H2):H2 D=some (.lst ((l.map f).map V.int)):=by rw[p.2.1,p.2.2,aa5]
end
end Ring
namespace RM
def t8(f:Nat->Bool):∀n,bh f n=decide (cnt f n%2=1)
 | 0=>rfl
 | n+1=>by
   unfold bh cnt;rw[t8 f n]
   by_cases h:f n=true
   ·rw[h,aad rfl]
    by_cases q:cnt f n%2=1
    ·have q' : ¬(cnt f n+1)%2=1:=by lia
     simp[q,q']
    ·have q' : (cnt f n+1)%2=1:=by lia
     simp[q,q']
   ·have h' : f n=false:=by simpa using h
    rw[h',aab (by decide)]
    simp
end RM
namespace Ring
open PySem L2
def lenOf(ts:List cC)(m:Nat):Int:=((bu (m:Int)).map λk=>(aX ts k).2.2).sum
def FH(ts:List cC)(f:Nat->Bool):Nat->Int
 | 0=>0
 | n+1=>FH ts f n+(if f n=true then(aX ts n).2.2 else 0)
def rE(ts:List cC)(f:Nat->Bool):∀n,(((List.range n).filter f).map λk=>(aX ts k).2.2).sum=FH ts f n
 | 0=>rfl
 | n+1=>by
   rw[bX,aat,ado,rE ts f n];show _=FH ts f n+(if f n=true then(aX ts n).2.2 else 0)
   split<;>simp
def FI{ts:List cC}{m:Nat}(hm:m<2^ts.length):lenOf ts m=FH ts (λk=>m.testBit k) ts.length:=by
 unfold lenOf;rw[j9 hm];exact rE ts _ _
section
variable {p:Nat}{ts:List cC}(g:aA p ts)
include g
end
end Ring
namespace RM
def sm(f:Nat->Nat):Nat->Nat
 | 0=>0
 | n+1=>sm f n+f n
def g7{f g:Nat->Nat}:∀{n:Nat},(∀k,k<n->f k=g k)->sm f n=sm g n
 | 0,_=>rfl
 | n+1,h=>by
   show sm f n+f n=sm g n+g n;rw[g7 λk hk=>h k (by lia),h n (by lia)]
def ua(f g:Nat->Nat):∀n,sm (λk=>f k+g k) n=sm f n+sm g n
 | 0=>rfl
 | n+1=>by
   show sm (λk=>f k+g k) n+(f n+g n)=sm f n+f n+(sm g n+g n)
   rw[ua f g n]
   lia
def sM:∀n,sm (λ_=>0) n=0
 | 0=>rfl
 | n+1=>by
   show sm (λ_=>0) n+0=0
   rw[sM n]
def Ey(f:Nat->Nat->Nat)(n:Nat):∀p,sm (λx=>sm (λk=>f x k) n) p=sm (λk=>sm (λx=>f x k) p) n
 | 0=>(sM n).symm
 | p+1=>by
   show sm (λx=>sm (λk=>f x k) n) p+sm (λk=>f p k) n=sm (λk=>sm (λx=>f x k) p+f p k) n
   rw[Ey f n p,ua]
def iX(f:Nat->Bool):∀n,cnt f n=sm (λk=>if f k=true then 1 else 0) n
 | 0=>rfl
 | n+1=>by
   show cnt f n+(if f n=true then 1 else 0)=sm (λk=>if f k=true then 1 else 0) n+(if f n=true then 1 else 0)
   rw[iX f n]
def Ez{f g:Nat->Nat}:∀{n:Nat},(∀k,k<n->f k<=g k)->sm f n<=sm g n
 | 0,_=>aae _
 | n+1,h=>by
   have h1:=Ez (f:=f) (g:=g) (n:=n) λk hk=>h k (by lia)
   have h2:=h n (by lia)
   show sm f n+f n<=sm g n+g n
   lia
def NB{f g:Nat->Nat}{n:Nat}(h:∀k,k<n->f k<=g k)(e:sm f n=sm g n):∀k,k<n->f k=g k:=by
 induction n with
 | zero=>exact λk hk=>absurd hk (abn _)
 | succ n ih =>
   intro k hk;have h1:=Ez (f:=f) (g:=g) (n:=n) λk hk=>h k (by lia)
   have h2:=h n (by lia)
   have e:sm f n+f n=sm g n+g n:=e
   by_cases hkn:k=n
   ·subst hkn
    lia
   ·exact ih (λj hj=>h j (by lia)) (by lia) k (by lia)
def CS{f g:Nat->Bool}{n:Nat}(h:∀k,k<n->f k=true->g k=true):cnt f n<=cnt g n:=by
 rw[iX,iX];refine Ez λk hk=>?_
 by_cases hf:f k=true
 ·rw[aad hf,aad (h k hk hf)];exact aae _
 ·rw[aab hf];exact aaN _
def As{f g:Nat->Bool}{n:Nat}(h:∀k,k<n->f k=true->g k=true)(e:cnt f n=cnt g n):∀k,k<n->g k=true->f k=true:=λk hk hg=>by
 rw[iX,iX]at e;have q:=NB (n:=n) (λk hk=>by
  by_cases hf:f k=true
  ·rw[aad hf,aad (h k hk hf)];exact aae _
  ·rw[aab hf];exact aaN _) e k hk
 rw[aad hg]at q
 by_cases hf:f k=true
 ·exact hf
 ·rw[aab hf]at q
  lia
def oY{f:Nat->Bool}:∀{n:Nat},0<cnt f n->∃k,k<n/\f k=true
 | 0,h=>absurd h (abr _)
 | n+1,h=>by
   by_cases hf:f n=true
   ·exact⟨n,by lia,hf⟩
   ·have h:0<cnt f n+(if f n=true then 1 else 0):=h
    rw[aab hf]at h;obtain⟨k,hk,q⟩:=oY (f:=f) (n:=n) (by lia)
    exact⟨k,by lia,q⟩
def oZ{f:Nat->Bool}{k:Nat}(hf:f k=true):∀{n:Nat},k<n->0<cnt f n
 | 0,h=>absurd h (abn _)
 | n+1,h=>by
   show 0<cnt f n+(if f n=true then 1 else 0)
   by_cases hk:k=n
   ·subst hk;rw[aad hf]
    lia
   ·have:=oZ hf (n:=n) (by lia)
    lia
def o4{f:Nat->Bool}:∀{n:Nat},2<=cnt f n->∃c d,c<d/\d<n/\f c=true/\f d=true
 | 0,h=>absurd h (by show ¬ 2<=0;lia)
 | n+1,h=>by
   have h:2<=cnt f n+(if f n=true then 1 else 0):=h
   by_cases hf:f n=true
   ·rw[aad hf]at h;obtain⟨k,hk,q⟩:=oY (f:=f) (n:=n) (by lia)
    exact⟨k,n,hk,by lia,q,hf⟩
   ·rw[aab hf]at h;obtain⟨c,d,h1,h2,h3,h4⟩:=o4 (f:=f) (n:=n) (by lia)
    exact⟨c,d,h1,by lia,h3,h4⟩
def yE{f:Nat->Bool}{u v:Nat}(hu:f u=true)(hv:f v=true)(ne:u≠v):∀{n:Nat},u<n->v<n->2<=cnt f n
 | 0,h,_=>absurd h (abn _)
 | n+1,h1,h2=>by
   show 2<=cnt f n+(if f n=true then 1 else 0)
   by_cases e1:u=n
   ·subst e1;have:=oZ hv (n:=u) (by lia)
    rw[aad hu]
    lia
   ·by_cases e2:v=n
    ·subst e2;have:=oZ hu (n:=v) (by lia)
     rw[aad hv]
     lia
    ·have:=yE hu hv ne (n:=n) (by lia) (by lia)
     lia
def yF(a:Nat):∀n,cnt (λx=>decide (a=x)) n=if a<n then 1 else 0
 | 0=>rfl
 | n+1=>by
   show cnt (λx=>decide (a=x)) n+(if decide (a=n)=true then 1 else 0)=_
   rw[yF a n]
   by_cases e:a=n
   ·subst e;simp
   ·have d:(if decide (a=n)=true then 1 else 0)=0:=aab (by simpa using e)
    rw[d]
    by_cases h:a<n
    ·rw[aad h,aad (by lia)]
    ·rw[aab h,aab (by lia)]
def yG{f g:Nat->Bool}:∀{n:Nat},(∀x,x<n->¬(f x=true/\g x=true))->cnt (λx=>f x^^g x) n=cnt f n+cnt g n
 | 0,_=>rfl
 | n+1,h=>by
   show cnt (λx=>f x^^g x) n+(if(f n^^g n)=true then 1 else 0)=cnt f n+(if f n=true then 1 else 0)+(cnt g n+(if g n=true then 1 else 0))
   rw[yG λx hx=>h x (by lia)]
   have q:=h n (by lia)
   cases hf:f n<;>cases hg:g n
   ·simp
   ·simp
    lia
   ·simp
    lia
   ·exact absurd ⟨hf,hg⟩ q
variable {N:Net}
def Net.dg(N:Net)(m x:Nat):Nat:=cnt (λk=>m.testBit k&&N.inc k x) N.n
def NC(m x:Nat):N.bd m x=decide (N.dg m x%2=1):=t8 _ _
def yH{m x:Nat}(e:N.bL m)(hx:x<N.p):N.dg m x%2=0:=by
 have h:=e x hx;rw[NC]at h;have:=of_decide_eq_false h
 lia
def sN{k x:Nat}(hk:k<N.n):N.inc k x=true↔(N.a k=x\/N.b k=x):=by
 have ne:=N.ne k hk;unfold Net.inc
 by_cases h1:N.a k=x
 ·have h2 : ¬ N.b k=x:=λz=>ne (h1.trans z.symm)
  simp[h1,h2]
 ·by_cases h2:N.b k=x
  ·simp[h1,h2]
  ·simp[h1,h2]
def LZ{k:Nat}(hk:k<N.n):cnt (N.inc k) N.p=2:=by
 have ne:=N.ne k hk;have e:cnt (N.inc k) N.p=cnt (λx=>decide (N.a k=x)^^decide (N.b k=x)) N.p:=rfl
 rw[e,yG λx _ ⟨h1,h2⟩=>ne ((jB h1).trans (jB h2).symm),yF,yF,aad (N.al k hk),aad (N.bl k hk)]
def IC(m:Nat):sm (λx=>N.dg m x) N.p=2*cnt (λk=>m.testBit k) N.n:=by
 have e:sm (λx=>N.dg m x) N.p=sm (λx=>sm (λk=>if(m.testBit k&&N.inc k x)=true then 1 else 0) N.n) N.p:=g7 λx _=>iX _ _
 rw[e,Ey,iX];have d:∀n,2*sm (λk=>if m.testBit k=true then 1 else 0) n=sm (λk=>(if m.testBit k=true then 1 else 0)+(if m.testBit k=true then 1 else 0)) n:=λn=>by
  rw[ua]
  lia
 rw[d];refine g7 λk hk=>?_
 by_cases h:m.testBit k=true
 ·rw[aad h];have q:=LZ hk;rw[iX]at q;show _=2;exact(g7 λx _=>by rw[h,aa7]).trans q
 ·rw[aab h];have h' : m.testBit k=false:=by simpa using h
  have:sm (λx=>if(m.testBit k&&N.inc k x)=true then 1 else 0) N.p=sm (λ_=>0) N.p:=g7 λx _=>by rw[h'];rfl
  rw[this,sM]
def RX{q m:Nat}(h:∀k,q.testBit k=true->m.testBit k=true)(x:Nat):N.dg q x<=N.dg m x:=CS λk _ hq=>by
 rw[aaI]at hq ⊢;exact⟨h k hq.1,hq.2⟩
def Au{m k x:Nat}(hk:k<N.n)(hb:m.testBit k=true)(hx:N.a k=x\/N.b k=x):0<N.dg m x:=oZ (k:=k) (by rw[hb,aa7];exact(sN hk).mpr hx) hk
def yI{m x:Nat}(h:0<N.dg m x):∃k,k<N.n/\m.testBit k=true/\(N.a k=x\/N.b k=x):=by
 obtain⟨k,hk,q⟩:=oY h;rw[aaI]at q;exact⟨k,hk,q.1,(sN hk).mp q.2⟩
def alone{m x y:Nat}(h:N.dg m x=0)(c:N.lP (λk=>m.testBit k) N.n x y):y=x:=by
 induction c with
 | refl=>rfl
 | fwd _ hj hs ih=>exact absurd (Au hj hs (.inl ih)) (by lia)
 | bwd _ hj hs ih=>exact absurd (Au hj hs (.inr ih)) (by lia)
def FJ{S:Nat->Bool}{k u v:Nat}(hk:k<=N.n)(c:N.lP S k u v):∃t,(∀j,t.testBit j=true->j<k/\S j=true)/\∀x,N.bd t x=(decide (u=x)^^decide (v=x)):=by
 induction c with
 | refl=>exact⟨0,λj hj=>by simp at hj,λx=>by rw[kO];simp⟩
 | fwd _ hj hs ih =>
   rename_i j _
   obtain⟨t,h1,h2⟩:=ih;refine⟨t^^^2^j,λi hi=>?_,λx=>?_⟩
   ·rw[aam,aaw]at hi
    by_cases e:j=i
    ·subst e;exact⟨hj,hs⟩
    ·rw[eI e,aby]at hi;exact h1 i hi
   ·rw[eR,h2,jF (by lia)]
    unfold Net.inc;cases decide (u=x)<;>cases decide (N.a j=x)<;>cases decide (N.b j=x)<;>rfl
 | bwd _ hj hs ih =>
   rename_i j _
   obtain⟨t,h1,h2⟩:=ih;refine⟨t^^^2^j,λi hi=>?_,λx=>?_⟩
   ·rw[aam,aaw]at hi
    by_cases e:j=i
    ·subst e;exact⟨hj,hs⟩
    ·rw[eI e,aby]at hi;exact h1 i hi
   ·rw[eR,h2,jF (by lia)]
    unfold Net.inc;cases decide (u=x)<;>cases decide (N.a j=x)<;>cases decide (N.b j=x)<;>rfl
def Net.Ring(N:Net)(m:Nat):Prop:=m≠0/\N.bL m/\∀q,(∀k,q.testBit k=true->m.testBit k=true)->N.bL q->q=0\/q=m
section
variable {m s:Nat}
def L3(hm:m<2^N.n)(ev:N.bL m)(C:Nat->Bool)(hC:∀x,x<N.p->C x=decide (N.aR (λk=>m.testBit k) N.n x=s))(h2:2<=cnt C N.p)
 (Vs:∀k,k<N.n->m.testBit k=true->C (N.a k)=true) (hl:cnt C N.p=cnt (λk=>m.testBit k) N.n):N.Ring m:=by
 have ND:∀k,k<N.n->m.testBit k=true->C (N.a k)=true/\C (N.b k)=true:=λk hk hb=>by
  have h:=Vs k hk hb;refine⟨h,?_⟩;rw[hC _ (N.al k hk)]at h;rw[hC _ (N.bl k hk)];rw[gY (S:=λk=>m.testBit k) hk hb]at h
  exact h
 have pos:∀x,x<N.p->C x=true->0<N.dg m x:=λx hx hc=>by
  cases hz:N.dg m x with
  | succ d=>lia
  | zero =>
    exfalso
    obtain⟨y,hy,RY,hne⟩:∃y,y<N.p/\C y=true/\y≠x:=by
     obtain⟨c,d,h1,h3,h4,h5⟩:=o4 h2
     by_cases e:c=x
     ·exact⟨d,h3,h5,by lia⟩
     ·exact⟨c,by lia,h4,e⟩
    rw[hC x hx]at hc;rw[hC y hy]at RY;exact hne (alone hz (cG _ _ _ ((jB hc).trans (jB RY).symm)))
 have two:∀x,x<N.p->(if C x=true then 2 else 0)=N.dg m x:=by
  refine NB (λx hx=>?_) ?_
  ·by_cases hc:C x=true
   ·rw[aad hc];have h1:=pos x hx hc;have h3:=yH ev hx
    lia
   ·rw[aab hc];exact aaN _
  ·rw[IC,<-hl,iX];have d:∀n,2*sm (λk=>if C k=true then 1 else 0) n=sm (λk=>(if C k=true then 1 else 0)+(if C k=true then 1 else 0)) n:=λn=>by
    rw[ua]
    lia
   rw[d];exact g7 λx _=>by split<;>rfl
 obtain⟨c0,hc0,hcc⟩:=oY (f:=C) (n:=N.p) (by lia)
 refine⟨λz=>?_,ev,λq hq eq=>?_⟩
 ·have h:=pos c0 hc0 hcc;obtain⟨k,_,hb,_⟩:=yI h;rw[z]at hb;simp at hb
 ·by_cases T6:q=0
  ·exact .inl T6
  ·right
   have full:∀x,x<N.p->0<N.dg q x->∀k,k<N.n->m.testBit k=true->(N.a k=x\/N.b k=x)->q.testBit k=true:=λx hx h k hk hb Qx=>by
    have h1:=RX (N:=N) hq x;have h3:=yH eq hx;have h4:=two x hx;have h5:N.dg q x=N.dg m x:=by
     by_cases hc:C x=true
     ·rw[aad hc]at h4
      lia
     ·rw[aab hc]at h4
      lia
    have h6:=As (f:=λk=>q.testBit k&&N.inc k x) (g:=λk=>m.testBit k&&N.inc k x) (n:=N.n) (λk _ z=>by
     rw[aaI]at z ⊢;exact⟨hq k z.1,z.2⟩) h5 k hk (by rw[hb,aa7];exact(sN hk).mpr Qx)
    rw[aaI]at h6;exact h6.1
   obtain⟨k0,hb0⟩:∃k,q.testBit k=true:=abx T6;have hk0:k0<N.n:=bR hm (hq k0 hb0);have spread:∀{y},N.lP (λk=>m.testBit k) N.n (N.a k0) y->0<N.dg q y:=λ{y} c=>by
    induction c with
    | refl=>exact Au hk0 hb0 (.inl rfl)
    | fwd _ hj hs ih=>exact Au hj (full _ (N.al _ hj) ih _ hj hs (.inl rfl)) (.inr rfl)
    | bwd _ hj hs ih=>exact Au hj (full _ (N.bl _ hj) ih _ hj hs (.inr rfl)) (.inl rfl)
   refine aaS λk=>?_
   cases hb:m.testBit k with
   | false =>
     cases hz:q.testBit k with
     | false=>rfl
     | true =>
       have:=hq k hz;rw[hb]at this;cases this
   | true =>
     have hk:=bR hm hb;have e1:=(ND k hk hb).1;have e2:=(ND k0 hk0 (hq k0 hb0)).1;rw[hC _ (N.al k hk)]at e1;rw[hC _ (N.al k0 hk0)]at e2;exact full _ (N.al k hk) (spread (cG _ _ _ ((jB e2).trans (jB e1).symm))) k hk hb (.inl rfl)
def CT(hm:m<2^N.n)(r:N.Ring m):∃k0,k0<N.n/\m.testBit k0=true/\∀k,k<N.n->m.testBit k=true->N.aR (λk=>m.testBit k) N.n (N.a k)=N.aR (λk=>m.testBit k) N.n (N.a k0):=by
 obtain⟨h0,ev,mn⟩:=r;obtain⟨k0,hb0⟩:=abx h0;have hk0:=bR hm hb0;refine⟨k0,hk0,hb0,?_⟩;generalize hs:N.aR (λk=>m.testBit k) N.n (N.a k0)=s
 have bit:∀k,(Ring.maskOf (λk=>m.testBit k&&decide (N.aR (λk=>m.testBit k) N.n (N.a k)=s)) N.n).testBit k=(decide (k<N.n)&&(m.testBit k&&decide (N.aR (λk=>m.testBit k) N.n (N.a k)=s))):=λk=>Ring.mask_bit _ k _
 have sub:∀k,(Ring.maskOf (λk=>m.testBit k&&decide (N.aR (λk=>m.testBit k) N.n (N.a k)=s)) N.n).testBit k=true->m.testBit k=true:=λk hk=>by
  rw[bit,aaI,aaI]at hk;exact hk.2.1
 have Vt:N.bL (Ring.maskOf (λk=>m.testBit k&&decide (N.aR (λk=>m.testBit k) N.n (N.a k)=s)) N.n):=λx hx=>by
  have e:N.bd (Ring.maskOf (λk=>m.testBit k&&decide (N.aR (λk=>m.testBit k) N.n (N.a k)=s)) N.n) x=(decide (N.aR (λk=>m.testBit k) N.n x=s)&&N.bd m x):=by
   unfold Net.bd;rw[<-oU];refine bf λk hk=>?_
   rw[bit,cF hk,aa7];cases hb:m.testBit k with
   | false=>simp
   | true =>
     cases hi:N.inc k x with
     | false=>simp
     | true =>
       have el:N.aR (λk=>m.testBit k) N.n (N.a k)=N.aR (λk=>m.testBit k) N.n x:=by
        rcases(sN hk).mp hi with z|z
        ·rw[z]
        ·rw[<-z];exact gY (S:=λk=>m.testBit k) hk hb
       rw[el];simp
  rw[e,ev x hx,aci]
 rcases mn _ sub Vt with q|q
 ·have:=bit k0;rw[q,hb0,hs,cF hk0]at this;simp at this
 ·intro k hk hb;have h:=bit k;rw[q,hb,cF hk]at h;exact jB (by simpa using h.symm)
def xx(S:Nat->Bool):∀k,k<=N.n->cnt (N.root S k) N.p+cnt (λj=>S j && !decide (N.aR S j (N.a j)=N.aR S j (N.b j))) k=N.p
 | 0,_=>by
   show cnt (N.root S 0) N.p+0=N.p;rw[yz (f:=N.root S 0) λx _=>cF rfl]
   rfl
 | k+1,hk=>by
   have ih:=xx S k (by lia)
   have st:=tX (N:=N) (S:=S) (k:=k) (by lia)
   show cnt (N.root S (k+1)) N.p+(cnt (λj=>S j && !decide (N.aR S j (N.a j)=N.aR S j (N.b j))) k+if(S k && !decide (N.aR S k (N.a k)=N.aR S k (N.b k)))=true then 1 else 0)=N.p
   lia
def ID(hm:m<2^N.n)(r:N.Ring m)(C:Nat->Bool)(hC:∀x,x<N.p->C x=decide (N.aR (λk=>m.testBit k) N.n x=s))
 (Vs:∀k,k<N.n->m.testBit k=true->C (N.a k)=true):2<=cnt C N.p/\cnt C N.p=cnt (λk=>m.testBit k) N.n/\∀x,x<N.p->C x=false->N.aR (λk=>m.testBit k) N.n x=x/\∀y,N.aR (λk=>m.testBit k) N.n y=x->y=x:=by
 obtain⟨h0,ev,mn⟩:=r;obtain⟨k0,hb0⟩:=abx h0;have hk0:=bR hm hb0;have ND:∀k,k<N.n->m.testBit k=true->C (N.a k)=true/\C (N.b k)=true:=λk hk hb=>by
  have h:=Vs k hk hb;refine⟨h,?_⟩;rw[hC _ (N.al k hk)]at h;rw[hC _ (N.bl k hk),<-gY (S:=λk=>m.testBit k) hk hb]
  exact h
 have h2:2<=cnt C N.p:=yE (ND k0 hk0 hb0).1 (ND k0 hk0 hb0).2 (N.ne k0 hk0) (N.al k0 hk0) (N.bl k0 hk0);have none:∀x,x<N.p->C x=false->N.dg m x=0:=λx hx hc=>by
  cases hz:N.dg m x with
  | zero=>rfl
  | succ d =>
    exfalso
    obtain⟨k,hk,hb,Qx⟩:=yI (N:=N) (m:=m) (x:=x) (by lia)
    rcases Qx with e|e
    ·have:=(ND k hk hb).1;rw[e,hc]at this;cases this
    ·have:=(ND k hk hb).2;rw[e,hc]at this;cases this
 have L4:∀x,x<N.p->C x=false->N.aR (λk=>m.testBit k) N.n x=x/\∀y,N.aR (λk=>m.testBit k) N.n y=x->y=x:=λx hx hc=>by
  have hz:=none x hx hc;have r1:N.aR (λk=>m.testBit k) N.n x=x:=alone hz (cG _ _ _ (cS _ _).symm)
  exact⟨r1,λy hy=>alone hz (cG _ _ _ (r1.trans hy.symm))⟩
 refine⟨h2,?_,L4⟩;have pos:∀x,x<N.p->C x=true->0<N.dg m x:=λx hx hc=>by
  cases hz:N.dg m x with
  | succ d=>lia
  | zero =>
    exfalso
    obtain⟨y,hy,RY,hne⟩:∃y,y<N.p/\C y=true/\y≠x:=by
     obtain⟨c,d,h1,h3,h4,h5⟩:=o4 h2
     by_cases e:c=x
     ·exact⟨d,h3,h5,by lia⟩
     ·exact⟨c,by lia,h4,e⟩
    rw[hC x hx]at hc;rw[hC y hy]at RY;exact hne (alone hz (cG _ _ _ ((jB hc).trans (jB RY).symm)))
 have ge:cnt C N.p<=cnt (λk=>m.testBit k) N.n:=by
  have h:sm (λx=>if C x=true then 2 else 0) N.p<=sm (λx=>N.dg m x) N.p:=Ez λx hx=>by
   by_cases hc:C x=true
   ·rw[aad hc];have h1:=pos x hx hc;have h3:=yH ev hx
    lia
   ·rw[aab hc];exact aaN _
  rw[IC]at h;have d:sm (λx=>if C x=true then 2 else 0) N.p=2*cnt C N.p:=by
   rw[iX];have d:∀n,2*sm (λk=>if C k=true then 1 else 0) n=sm (λk=>(if C k=true then 1 else 0)+(if C k=true then 1 else 0)) n:=λn=>by
    rw[ua]
    lia
   rw[d];exact g7 λx _=>by split<;>rfl
  lia
 refine Nat.le_antisymm ge (adf λmore=>?_)
 have Vu:=xx (N:=N) (λk=>m.testBit k) N.n (aae _)
 have hr:cnt (N.root (λk=>m.testBit k) N.n) N.p+cnt C N.p=N.p+1:=by
  have hc0:=(ND k0 hk0 hb0).1;rw[hC _ (N.al k0 hk0)]at hc0;have hs:=jB hc0;have Cn:s<N.p:=by rw[<-hs];exact oX (N.al k0 hk0)
  have hss:N.aR (λk=>m.testBit k) N.n s=s:=by rw[<-hs];exact cS _ _
  have e:cnt (N.root (λk=>m.testBit k) N.n) N.p=cnt (λx=>!C x^^decide (s=x)) N.p:=iI λx hx=>by
   unfold Net.root;cases hc:C x with
   | false =>
     have ne : ¬ s=x:=λz=>by
      have:=hC x hx;rw[hc,<-z,hss]at this;simp at this
     rw[cF (L4 x hx hc).1,eI ne];rfl
   | true =>
     have h:=hC x hx;rw[hc]at h;have h:=jB h.symm;rw[h];simp
  rw[e,yG λx hx ⟨z1,z2⟩=>by
   have z2:=jB z2;have:=hC x hx;rw[<-z2,hss]at this;rw[<-z2,this]at z1;simp at z1,yF,aad Cn]
  have:=oW C N.p
  lia
 have split:cnt (λk=>m.testBit k) N.n=cnt (λj=>m.testBit j && !decide (N.aR (λk=>m.testBit k) j (N.a j)=N.aR (λk=>m.testBit k) j (N.b j))) N.n+cnt (λj=>m.testBit j&&decide (N.aR (λk=>m.testBit k) j (N.a j)=N.aR (λk=>m.testBit k) j (N.b j))) N.n:=by
  rw[<-yG λx _ ⟨z1,z2⟩=>by
   rw[aaI]at z1 z2;have:=z1.2;rw[z2.2]at this;cases this]
  refine iI λk _=>?_
  cases m.testBit k<;>cases decide (N.aR (λk=>m.testBit k) k (N.a k)=N.aR (λk=>m.testBit k) k (N.b k))<;>rfl
 obtain⟨c,d,hcd,hd,hc1,hd1⟩:=o4 (f:=λj=>m.testBit j&&decide (N.aR (λk=>m.testBit k) j (N.a j)=N.aR (λk=>m.testBit k) j (N.b j))) (n:=N.n) (by lia)
 have whole:∀j,j<N.n->(m.testBit j&&decide (N.aR (λk=>m.testBit k) j (N.a j)=N.aR (λk=>m.testBit k) j (N.b j)))=true->∀i,m.testBit i=true->i<=j:=λj hj h i hi=>by
  rw[aaI]at h;obtain⟨t,t1,t2⟩:=FJ (aaW hj) (cG _ _ _ (jB h.2));have own:(t^^^2^j).testBit j=true:=by
   rw[aam,aaw,cF rfl];cases hz:t.testBit j with
   | false=>rfl
   | true=>exact absurd (t1 j hz).1 (abr _)
  have sub:∀k,(t^^^2^j).testBit k=true->m.testBit k=true:=λk hk=>by
   rw[aam,aaw]at hk
   by_cases e:j=k
   ·subst e;exact h.1
   ·rw[eI e,aby]at hk;exact(t1 k hk).2
  have Vt:N.bL (t^^^2^j):=λx hx=>by
   rw[eR,t2,jF hj];unfold Net.inc;cases decide (N.a j=x)<;>cases decide (N.b j=x)<;>rfl
  rcases mn _ sub Vt with q|q
  ·rw[q]at own;simp at own
  ·rw[<-q,aam,aaw]at hi
   by_cases e:j=i
   ·lia
   ·rw[eI e,aby]at hi;exact aaW (t1 i hi).1
 have h1:m.testBit d=true:=by
  rw[aaI]at hd1;exact hd1.1
 have:=whole c (by lia) hc1 d h1
 lia
end
end RM
namespace Ring
open PySem L2
def dm(L:Nat->Nat)(p:Nat):List Nat:=(bY L p).filter λs=>decide (1<(pieceOf L p s).length)
def OS(L:Nat->Nat)(p k:Nat):List Nat->Bool
 | [s]=>decide ((pieceOf L p s).length=k)
 | _=>false
def lM(p:Nat)(ts:List cC)(g:aA p ts)(m:Nat):Bool:=decide (tS p ts (m:Int)=[])&&OS (bq p ts g m) p (bu (m:Int)).length (dm (bq p ts g m) p)
def iK(L:Nat->Nat)(p s:Nat):(pieceOf L p s).length=RM.cnt (λx=>decide (L x=s)) p:=RM.dY _ _
def uc{m n:Nat}(hm:m<2^n):(bu (m:Int)).length=RM.cnt (λk=>m.testBit k) n:=by
 rw[j9 hm];exact RM.dY _ _
def FL{f:Nat->Bool}{n c:Nat}(hc:c<n)(h:∀k,k<n->f k=decide (k=c)):(List.range n).filter f=[c]:=by
 rw[<-nL hc];exact acH λk hk=>h k (aax.mp hk)
def xy{p:Nat}{ts:List cC}(g:aA p ts){m:Nat}(hm:m<2^ts.length):lM p ts g m=true↔g.N.Ring m:=by
 have eL:bq p ts g m=g.N.aR (λk=>m.testBit k) g.N.n:=rfl
 have ep:g.N.p=p:=rfl
 constructor
 ·intro h;unfold lM at h;rw[aaI]at h;obtain⟨h1,h2⟩:=h;have ev:=(Aq g hm).mp (jB h1);unfold OS at h2
  split at h2
  ·rename_i s hs
   have h2:=jB h2;have hmem:s∈dm (bq p ts g m) p:=by rw[hs];exact aaA.mpr rfl
   unfold dm at hmem;have hlen:=jB (aaC.mp hmem).2;refine RM.L3 (s:=s) hm ev (λx=>decide (bq p ts g m x=s)) (λx _=>by rw[eL]) ?_ (λk hk hb=>?_) ?_
   ·rw[ep,<-iK];exact hlen
   ·
    have Xm:=g.N.al k hk;have ZQ:=g.N.bl k hk;have e:bq p ts g m (g.N.b k)=bq p ts g m (g.N.a k):=(RM.gY (S:=λk=>m.testBit k) hk hb).symm
    have hr:bq p ts g m (bq p ts g m (g.N.a k))=bq p ts g m (g.N.a k):=RM.cS _ _;have hlt:bq p ts g m (g.N.a k)<p:=RM.oX Xm;have ht:bq p ts g m (g.N.a k)∈dm (bq p ts g m) p:=by
     unfold dm bY;refine aaC.mpr ⟨aaC.mpr ⟨aax.mpr hlt,cF hr⟩,cF ?_⟩;rw[iK];exact RM.yE (u:=g.N.a k) (v:=g.N.b k) (cF rfl) (cF e) (g.N.ne k hk) Xm ZQ
    rw[hs]at ht;exact cF (aaA.mp ht)
   ·rw[ep,<-iK,h2];exact uc hm
  ·cases h2
 ·intro r;obtain⟨k0,hk0,hb0,hall⟩:=RM.CT hm r;generalize hs:g.N.aR (λk=>m.testBit k) g.N.n (g.N.a k0)=s at hall
  obtain⟨h2,hl,L4⟩:=RM.ID (s:=s) hm r (λx=>decide (bq p ts g m x=s)) (λx _=>by rw[eL]) (λk hk hb=>cF (hall k hk hb))
  have Cn:s<p:=by rw[<-hs];exact RM.oX (g.N.al k0 hk0)
  have hss:bq p ts g m s=s:=by rw[eL,<-hs];exact RM.cS _ _
  have ht:dm (bq p ts g m) p=[s]:=by
   unfold dm bY;rw[List.filter_filter];refine FL Cn λx hx=>?_
   by_cases e:x=s
   ·subst e;rw[cF hss,iK,cF rfl,acT];exact cF h2
   ·rw[eI e]
    by_cases Qx:bq p ts g m x=x
    ·have hc:decide (bq p ts g m x=s)=false:=eI (by rw[Qx];exact e)
     obtain⟨_,q⟩:=L4 x hx hc;have : ¬ 1<(pieceOf (bq p ts g m) p x).length:=λz=>by
      rw[iK]at z;obtain⟨c,d,h1,_,h3,h4⟩:=RM.o4 z;have h3:=q c (jB h3);have h4:=q d (jB h4)
      lia
     rw[eI this,ach]
    ·rw[eI Qx,aci]
  unfold lM;rw[cF ((Aq g hm).mpr r.2.1),ht,aa7];refine cF ?_;rw[iK,uc hm];exact hl
def CU{p:Nat}{ts:List cC}{g:aA p ts}{m:Nat}(ev:tS p ts (m:Int)=[]):lM p ts g m=OS (bq p ts g m) p (bu (m:Int)).length (dm (bq p ts g m) p):=by
 unfold lM;rw[cF ev,aa7]
def OT(H:Hp)(y:V)(l:List Nat):Prop:=∃b,y = .ref b/\H b=some (.lst (aB l))
def ud(f:List Nat->Bool)(ls:List (List Nat))(H:Hp)(D:Addr)(i:Nat)(acc:List V)(H2:Hp):Prop:=aq H H2/\H2 D=some (.lst acc)/\Paired (OT H) acc ((ls.take i).filter f)
section
variable {f:List Nat->Bool}{ls:List (List Nat)}{H H2 H3:Hp}{D:Addr}{i:Nat}{acc:List V}{y:V}{l:List Nat}
def ud.start(hD:H D=none):ud f ls H D 0 [] (upd H D (.lst [])):=⟨aq.new hD,ae,.nil⟩
def ud.len(h:ud f ls H D i acc H2):H2 D=some (.lst acc)/\acc.length<=i:=⟨h.2.1,by
 rw[h.2.2.length];exact aaD (aaG _ _) (by rw[aa8];lia)⟩
def ud.yes(h:ud f ls H D i acc H2)(hD:H D=none)(hl:ls[i]?=some l)(hf:f l=true)(hy:OT H y l):H2 D=some (.lst acc)/\ud f ls H D (i+1) (acc++[y]) (upd H2 D (.lst (acc++[y]))):=by
 refine⟨h.2.1,h.1.put hD,ae,?_⟩;rw[aaZ,hl,abu];show Paired _ _ (_++List.filter f [l]);rw[aaJ,aad hf];exact Paired.snoc h.2.2 hy
def ud.no(h:ud f ls H D i acc H2)(hl:ls[i]?=some l)(hf:f l=false):ud f ls H D (i+1) acc H2:=by
 refine⟨h.1,h.2.1,?_⟩;rw[aaZ,hl,abu];show Paired _ _ (_++List.filter f [l]);rw[aaJ,aab (by rw[hf];exact aal)]
 simpa using h.2.2
end
end Ring
namespace L2
open PySem PySem.Spec PyProof.Rows
section
variable {prog:Program}{w:World}{A:Around}{E:di}{s:Shared}
def CV{it t:Addr}{i:Nat}{items:Array Value}{x:Value}{Q:di}(hit:s.heap.IsTupleIter it t i)(ht:s.heap.IsTuple t items)(hx:items[i]?=some x)
 (q:∀h',h'.IsTupleIter it t (i+1)->Heap.SameBut it s.heap h'->Q x { s with heap:=h'}):wpAny (model prog w) A (Builtin.SmallTypes.nextOf (.ref it)) Q E s:=by
 obtain⟨o,ho,hc,hd⟩:=id hit;obtain⟨ot,Vv,_,nt,hdt⟩:=ht;rw[Builtin.SmallTypes.nextOf];refine aS (wpAny_callSpecial?_slot (name:=Str.ofString "__next__") hit.typeIs F.slot_tuple_iterator_next (wpAny_call_entry F.slot_tuple_iterator_next hit.typeIs F.entry_tuple_iterator_next ?_ (F.args_tuple_iterator_next_1 _)));show wpAny _ _ (field (.ref it) 0 >>= λ_=>_) _ _ s
 refine aS (wpAny_field ho hd (x:=.ref t) rfl ?_);show wpAny _ _ (if(Value.ref t==Value.none)=true then _ else _) _ _ s
 rw[aab (by simp)]
 show wpAny _ _ (field (.ref it) 1 >>= λ_=>_) _ _ s
 refine aS (wpAny_field ho hd (x:=.int i 0) rfl ?_);show wpAny _ _ (seqItems? (.ref t) >>= λ_=>_) _ _ s
 refine aS (wpAny_seqItems Vv hdt ?_);simp only[aau,hx];refine aS (wpAny_setField ho hd (by simp) (aag ⟨x,rfl,aag (q _ ?_ (aa1 ..))⟩))
 refine⟨_,abX _ ho (acK (acz hd _)),(Obj.cls_mapFields ..).trans hc,?_⟩;rw[acz hd];simp[rawInt]
def FN{it t:Addr}{i:Nat}{items:Array Value}{Q:di}(hh:A.handled=none)(hit:s.heap.IsTupleIter it t i)(ht:s.heap.IsTuple t items)(hx:items[i]?=none)
 (q:∀h' e,Heap.ExtBut it s.heap h'->(∃o,h'.get? e=some o/\o.cls = .type "StopIteration")->E (.ref e) { s with heap:=h'}):wpAny (model prog w) A (Builtin.SmallTypes.nextOf (.ref it)) Q E s:=by
 obtain⟨o,ho,hc,hd⟩:=id hit;obtain⟨ot,Vv,_,nt,hdt⟩:=ht;rw[Builtin.SmallTypes.nextOf];refine aS (wpAny_callSpecial?_slot (name:=Str.ofString "__next__") hit.typeIs F.slot_tuple_iterator_next (wpAny_call_entry F.slot_tuple_iterator_next hit.typeIs F.entry_tuple_iterator_next ?_ (F.args_tuple_iterator_next_1 _)));show wpAny _ _ (field (.ref it) 0 >>= λ_=>_) _ _ s
 refine aS (wpAny_field ho hd (x:=.ref t) rfl ?_);show wpAny _ _ (if(Value.ref t==Value.none)=true then _ else _) _ _ s
 rw[aab (by simp)]
 show wpAny _ _ (field (.ref it) 1 >>= λ_=>_) _ _ s
 refine aS (wpAny_field ho hd (x:=.int i 0) rfl ?_);show wpAny _ _ (seqItems? (.ref t) >>= λ_=>_) _ _ s
 refine aS (wpAny_seqItems Vv hdt ?_);simp only[aau,hx];refine aS (wpAny_rule (aS (wpAny_setField ho hd (by simp) ?_)))
 show wpAny _ _ (newExc (.type "StopIteration") [] >>= λ_=>_) _ _ _
 refine aS ?_;simp only[newExc,newTuple];refine aS (wpAny_newObj_type ?_ (by size_fits))
 refine aS (m:=firstArgMember _ _) (wpAny_of_eq (a:=Value.none) (by first | rfl | (simp only[firstArgMember];rfl)) (wpAny_newObj_type ?_ (by size_fits)))
 exact wpAny_raiseNew_none hh (q _ _ (((aa1 ..).extBut.push _).push _) ⟨_,aaB _ rfl,rfl⟩)
def rF(hh:A.handled=none)(it t:Addr)(hne:t≠it)(items:Array Value):
 Draws prog w A it [it,t] items.size (λi v=>items[i]?=some v) (λi h=>h.IsTupleIter it t i/\h.IsTuple t items) where
 live:=λ_ _ st=>let⟨o,ho,_⟩:=st.1;⟨o,ho⟩
 frame:=λ_ _ _ st hk=>⟨st.1.at λo e=>hk it (by simp) o e,st.2.at λo e=>hk t (by simp) o e⟩
 item:=λi s Q E hi st hQ=>CV st.1 st.2 (x:=items[i]) (by simp[hi]) λh' Vw hs'=>hQ _ h' s.toks (by simp[hi]) ⟨Vw,st.2.extBut hs'.extBut hne⟩ hs'
 done:=λs Q E st hE=>FN hh st.1 st.2 (by simp) hE
end
open AutoSeq1 (wpAny_loadPart') in
def qg(l:Addr)(items:Array Value)(n:Nat)(dct:Option Addr)(sl:Array (Option Value)):
 Meets (Builtin.«enumerate.__new__» ⟨[.type "enumerate",.ref l],[]⟩) (λ_ R s=>s.heap.get? l=some { cls:=.type "tuple",dict:=dct,data:=.seq items n,slots:=sl}/\
  R (.ok (.ret (.ref (s.heap.push { cls:=.type "tuple_iterator",data:=.fields #[.ref l,.int 0 0]}).objs.size)))
    { s with heap:=(s.heap.push { cls:=.type "tuple_iterator",data:=.fields #[.ref l,.int 0 0]}).push { cls:=.type "enumerate",data:=.fields #[.none,.bool false,.ref s.heap.objs.size,rawInt 0,.none,.none]}}) :=
 .of_wp λprog w A R s h=>by
  obtain⟨hp,g,d,tk,os⟩:=s;obtain⟨hl,h⟩:=h;have hsub:=sub_enumerate;have hL:Heap.IsTuple (Shared.heap ⟨hp,g,d,tk,os⟩) l items:=⟨_,hl,rfl,n,rfl⟩
  wp_walk using wpAny_loadPart' hl
  refine wpAny_stack_any λst=>aag ?_
  split
  ·rename_i c _ _ _ _ _
   cases(c==Value.type "enumerate")
   ·wp_walk using wpAny_loadPart' hl,wpAny_pyIter_tuple hL
    exact⟨_,rfl,h⟩
   ·wp_walk using wpAny_loadPart' hl,wpAny_pyIter_tuple hL
    exact⟨_,rfl,h⟩
  ·wp_walk using wpAny_loadPart' hl,wpAny_pyIter_tuple hL
   exact⟨_,rfl,h⟩
section
variable {prog:Program}{w:World}{A:Around}{E:di}{s:Shared}
def CW{l:Addr}{items:Array Value}{Q:di}(hL:s.heap.IsTuple l items)
 (h:∀h',IsEnum h' (s.heap.objs.size+1) s.heap.objs.size 0 .none->h'.IsTupleIter s.heap.objs.size l 0->h'.objs.size=s.heap.objs.size+2->(∀b o,s.heap.get? b=some o->h'.get? b=some o)->Q (.ref (s.heap.objs.size+1)) { s with heap:=h'}) :
 wpAny (model prog w) A (call (.type "enumerate") [.ref l]) Q E s:=by
 obtain⟨⟨c,dct,dt,sl⟩,hl,hc,n,hd⟩:=hL
 replace hc:c = .type "tuple":=hc
 replace hd:dt = .seq items n:=hd
 subst hc hd;refine callType_new F.called_enumerate (by decide) (F.typeCall_enumerate_1 _) (F.newCall_enumerate_1 _) (λobj=>F.args_object_init_2 obj _) F.entry_enumerate_new (qg l items n dct sl) ⟨hl,?_⟩
 have hz:(s.heap.push { cls:=.type "tuple_iterator",data:=.fields #[.ref l,.int 0 0]}).objs.size=s.heap.objs.size+1:=adx ..;show _/\_;rw[hz];have he:IsEnum ((s.heap.push { cls:=.type "tuple_iterator",data:=.fields #[.ref l,.int 0 0]}).push { cls:=.type "enumerate",data:=.fields #[.none,.bool false,.ref s.heap.objs.size,rawInt 0,.none,.none]}) (s.heap.objs.size+1) s.heap.objs.size 0 .none:=by
  have z:=aaB (s.heap.push { cls:=.type "tuple_iterator",data:=.fields #[.ref l,.int 0 0]}) (o:={ cls:=.type "enumerate",data:=.fields #[.none,.bool false,.ref s.heap.objs.size,rawInt 0,.none,.none]}) rfl;rw[hz]at z;exact z
 exact⟨⟨_,he,rfl⟩,h _ he ⟨_,aai _ (aaB _ rfl),rfl,rfl⟩ (by rw[adx,hz]) λb o x=>aai _ (aai _ x)⟩
end
def FO(K:bM)(a:Addr):It :=
 ⟨λi H=>∃xs x,bg K H a xs/\xs[i]?=some x,λi H v H'=>∃T x,v = .ref T/\H T=none/\H' = upd H T (.tup [.int (i:Int),x])/\∀xs,bg K H a xs->xs[i]?=some x,λi H=>∃xs,bg K H a xs/\xs.length=i⟩
def CY{P:Program}{w:World}{K:bM}{elts:List Expr}{k:Nat}{pos:Pos}(a e it:Addr)(hne:e≠it):
 Turn P w K (.Tuple elts k pos) (FO K a) [e,it] e (λi h=>(∃old,IsEnum h e it (i:Int) old)/\h.IsTupleIter it a i) where
 mem:=by simp
 obj:=λi h st b hb=>by
  obtain⟨⟨old,he⟩,o,ho,c,d⟩:=st;have hb' : b=e\/b=it:=by simpa using hb
  rcases hb' with rfl|rfl
  ·exact⟨_,he,λv z=>by cases z⟩
  ·exact⟨o,ho,λv z=>by rw[d]at z;cases z⟩
 keep:=λi h h' st k=>by
  obtain⟨⟨old,he⟩,hit⟩:=st;exact⟨⟨old,k e (by simp) _ he⟩,hit.at λo x=>k it (by simp) o x⟩
 item:=by
  intro X hP hw hK hc i pq s σ H E I hf st hg;subst hP hw hK;obtain⟨xs,x,hq,hx⟩:=hg;obtain⟨its,rv,p,hz⟩:=I.tuple hq;obtain⟨u,hu,ru⟩:=rv.get hx;obtain⟨⟨old,he⟩,hit⟩:=st;have pT:s.heap.IsTuple a its.toArray:=p;have hai:a≠it:=λz=>by
   obtain⟨o1,h1,_,_,d1⟩:=pT;obtain⟨o2,h2,_,d2⟩:=hit;rw[z,h2]at h1;cases h1;rw[d2]at d1;cases d1
  have ZR:e∉[it,a]:=λz=>by
   have z' : e=it\/e=a:=by simpa using z
   rcases z' with z' | z'
   ·exact hne z'
   ·obtain⟨o1,h1,_,_,d1⟩:=pT;rw[<-z',he]at h1;cases h1;cases d1
  refine wpAny_pyNext_enum_itemD (rF (A:=X.A.in1) (I.ok.hd hc) it a hai its.toArray) he ⟨hit,pT⟩ (by have:=(jf.mp hu).1;simpa using this) hne ZR λy h1 tk hy ho OJ hT hsz hk=>?_
  have ZS:y=u:=by
   have z:its.toArray[i]?=some u:=by simpa using hu
   rw[hy]at z;exact Option.some.inj z
  subst ZS;refine⟨_,rfl,wpAny_letOwnedTupleGo_enum ho λh2 Qu hs2=>?_⟩
  have RS:s.heap.objs.size≠e:=abS (aaq he);have hT2:h2.get? s.heap.objs.size=some { cls:=.type "tuple",data:=.seq #[.int i tk,y]}:=(hs2.2 _ RS).trans hT;refine⟨.ref s.heap.objs.size,upd H s.heap.objs.size (.tup [.int (i:Int),x]),I.yields (wr:=[e,it]) (t':=tk+1) (λb o hb q=>?_) hf (aae _) ?_,rfl,⟨_,x,rfl,I.fresh,rfl,λys hy=>by rw[I.wR hy hq];exact hx⟩,⟨⟨y,by simpa using Qu⟩,?_⟩,λb hb=>?_⟩
  ·have Ii:b≠e:=λz=>hb (by simp[z])
   have OL:b≠it:=λz=>hb (by simp[z])
   exact(hs2.2 b Ii).trans (hk b o Ii OL q)
  ·exact⟨dl rfl,[.int i tk,y],.cons ⟨_,rfl⟩ (.cons ru .nil),⟨_,hT2,rfl,_,rfl⟩⟩
  ·exact OJ.1.at λo q=>(hs2.2 it (aa2 hne)).trans q
  ·rw[ak]
   ·exact(hf b hb).1
   ·have hb' : b=e\/b=it:=by simpa using hb
    rcases hb' with rfl|rfl
    ·exact aa2 RS
    ·obtain⟨o,q,_⟩:=hit;exact aaK (aaq q)
 done:=by
  intro X hP hw hK hc i pq s σ H E I hf st hg;subst hP hw hK;obtain⟨xs,hq,hx⟩:=hg;obtain⟨its,rv,p,hz⟩:=I.tuple hq;obtain⟨⟨old,he⟩,hit⟩:=st;have pT:s.heap.IsTuple a its.toArray:=p;have hai:a≠it:=λz=>by
   obtain⟨o1,h1,_,_,d1⟩:=pT;obtain⟨o2,h2,_,d2⟩:=hit;rw[z,h2]at h1;cases h1;rw[d2]at d1;cases d1
  obtain⟨f0,f1,f2,f3,f4,f5⟩:=hf it (by simp)
  have hl:=rv.length;have hi:i=its.toArray.size:=by rw[aav];lia
  subst hi;exact wpAny_pyNext_enum_endD (rF (A:=X.A.in1) (I.ok.hd hc) it a hai its.toArray) he ⟨hit,pT⟩ λh' eb=>⟨rfl,I.turned (t':=s.toks) (λb o hb e=>eb b o hb e) f0 f1 f3 f4 f5⟩
 self:=λ_ _ _ _ _ st h=>by
  obtain⟨⟨old,he⟩,_⟩:=st;exact wpAny_pyIter_enum he h
section
variable {X:Cx}{elts:List Expr}{n:Nat}{tp:Pos}
def OU(K:bM)(ta:TA):TI:=λσ H R=>ta σ H λvs H1=>∃a,vs=[.ref a]/\(∃xs,bg K H1 a xs)/\R (FO K a) H1
def Av(K:bM){a:Expr}{ta:TA}{p pos:Pos}(hg:Gl X "enumerate")(hm:X.mg "enumerate"=none)(ha:PA X [a] ta)(hs:starEach [a] X.env=[(false,eval a X.env)]:=by rfl)(hK:X.K=K:=by rfl):
 PI X (.Tuple elts n tp) (.Call (.Name "enumerate" p) [a] [] pos) (OU K ta):=by
 subst hK;intro pq s σ H R I h;refine Call_ (jD I hg hm boot_enumerate (abp (cW (ha pos pq s σ H _ I h) λus s1 ⟨vs,H1,I1,r1,q1⟩=>?_) hs rfl))
 obtain⟨a,e,⟨xs,hq⟩,q⟩:=q1;subst e;cases r1 with
 | cons r rr =>
   cases rr;cases r;obtain⟨its,rv,pl,hz⟩:=I1.tuple hq;refine CW (show s1.heap.IsTuple a its.toArray from pl) λh' he hit hsz hk=>?_
   have I2:Inv X pq σ H1 { s1 with heap:=h'}:=I1.kept (t':=s1.toks) hk
   refine wpAny_pyIter_enum he ⟨_,[s1.heap.objs.size+1,s1.heap.objs.size],_,_,H1,rfl,I2,CY a _ _ (adg _),⟨⟨_,he⟩,hit⟩,λb hb=>?_,q⟩
   have hb' : b=s1.heap.objs.size+1\/b=s1.heap.objs.size:=by simpa using hb
   have RU:s1.heap.objs.size<=b:=by
    rcases hb' with rfl|rfl
    ·exact abA _
    ·exact aae _
   exact I1.zW RU (I1.hok.fresh RU)
end
section
variable {K:bM}{a:Addr}{xs:List V}{g:TG}{tt:TT}{te:TE}{n:Nat}{fr:St}{D:Addr}{Q:Hp->Prop}{H1:Hp}
def CZ(Pv:Nat->List V->Hp->Prop)(h0:Pv 0 [] H1)(hl:∀i acc H,i<=xs.length->Pv i acc H->bg K H a xs/\H D=some (.lst acc)/\acc.length<=i)(hz:xs.length<=sizeLine)
 (hs:∀i x T acc H,xs[i]?=some x->Pv i acc H->H T=none->g (.ref T) (List.replicate n none++fr) (upd H T (.tup [.int (i:Int),x])) λσ2 H2=>σ2.drop n=fr/\tt σ2 H2 λb H3 =>
  if b=true then te σ2 H3 λv H4=>H4 D=some (.lst acc)/\Pv (i+1) (acc++[v]) (upd H4 D (.lst (acc++[v]))) else Pv (i+1) acc H3)
 (hd:∀acc H,Pv xs.length acc H->Q H):eW (FO K a) g tt te n fr D Q H1:=by
 refine⟨λi m acc H=>m=xs.length-i/\i<=xs.length/\Pv i acc H,⟨xs.length,by simp,aaN _,h0⟩,?_⟩
 rintro i m acc H ⟨rfl,hi,p⟩;obtain⟨q,hD,ha⟩:=hl i acc H hi p;refine⟨hD,?_⟩
 by_cases hlt:i<xs.length
 ·refine .inr ⟨⟨xs,xs[i],q,by simp[hlt]⟩,by lia,Pv (i+1),λacc' H' p'=>⟨xs.length-(i+1),by lia,rfl,hlt,p'⟩,λv H' y=>?_⟩
  obtain⟨T,x,rfl,hT,rfl,y⟩:=y;exact hs i x T acc _ (y xs q) p hT
 ·have e:i=xs.length:=by lia
  subst e;exact .inl ⟨⟨xs,q,rfl⟩,hd acc H p⟩
end
end L2
namespace RM
variable {N:Net}
def Net.cut(N:Net)(C:Nat->Bool):Nat:=Ring.maskOf (λk=>C (N.a k)^^C (N.b k)) N.n
def Net.par(N:Net)(q m:Nat):Bool:=bh (λk=>q.testBit k&&m.testBit k) N.n
def kT(q r m:Nat):N.par (q^^^r) m=(N.par q m^^N.par r m):=by
 unfold Net.par;rw[<-iV];refine bf λk _=>?_
 rw[aam];cases q.testBit k<;>cases r.testBit k<;>cases m.testBit k<;>rfl
def ki(m:Nat):N.par 0 m=false:=dX λk _=>by simp
def yJ{k:Nat}(h:k<N.n)(m:Nat):N.par (2^k) m=m.testBit k:=by
 unfold Net.par;rw[lY h λj _ hj=>by simp[aaw,aa2 hj]]
 simp[aaw]
def yK(C:Nat->Bool)(k:Nat):(N.cut C).testBit k=(decide (k<N.n)&&(C (N.a k)^^C (N.b k))):=Ring.mask_bit _ k _
def OV(C:Nat->Bool):N.cut C<2^N.n:=Ring.mask_lt _ _
def FP{C D:Nat->Bool}(h:∀x,x<N.p->C x=D x):N.cut C=N.cut D:=by
 refine aaS λk=>?_
 rw[yK,yK]
 by_cases hk:k<N.n
 ·rw[h _ (N.al k hk),h _ (N.bl k hk)]
 ·rw[eI hk];rfl
def Aw{k:Nat}(hk:k<N.n)(hf:N.fK k=true):N.ring k=0:=fU (λj hj=>by
 rcases kg hj with e|e
 ·subst e;exact⟨hk,hf⟩
 ·exact e) (kc hk)
def FQ{m:Nat}(k:Nat):(m^^^N.cut λx=>N.par (N.trail N.n x) m).testBit k=if k<N.n then N.par (N.ring k) m else m.testBit k:=by
 rw[aam,yK]
 by_cases hk:k<N.n
 ·rw[aad hk,cF hk,aa7];unfold Net.ring;rw[kT,kT,yJ hk];cases m.testBit k<;>cases N.par (N.trail N.n (N.a k)) m<;>cases N.par (N.trail N.n (N.b k)) m<;>rfl
 ·rw[aab hk,eI hk];simp
def Ax{m k:Nat}(hm:m<2^N.n)(h:(m^^^N.cut λx=>N.par (N.trail N.n x) m).testBit k=true):k<N.n/\N.fK k=false/\N.par (N.ring k) m=true:=by
 rw[FQ]at h
 by_cases hk:k<N.n
 ·rw[aad hk]at h;refine⟨hk,?_,h⟩;cases hf:N.fK k with
  | false=>rfl
  | true =>
    rw[Aw hk hf,ki]at h;cases h
 ·rw[aab hk]at h;exact absurd (bR hm h) hk
end RM
namespace Ring
def orM(ks:List Nat):Nat:=ks.foldl (λm k=>m ||| 2^k) 0
def IE(ks:List Nat)(j:Nat):∀m,(ks.foldl (λm k=>m ||| 2^k) m).testBit j=(m.testBit j || decide (j∈ks)):=by
 induction ks with
 | nil=>intro m;simp
 | cons k r ih =>
   intro m;rw[acy,ih,Nat.testBit_or,aaw]
   by_cases h:k=j
   ·subst h;simp
   ·have h' : ¬ j=k:=λz=>h z.symm
    simp[h,h']
def kU(ks:List Nat)(j:Nat):(orM ks).testBit j=decide (j∈ks):=by
 unfold orM;rw[IE];simp
def Ay(ks:List Nat){t:Nat}(h:t∉ks):orM (ks++[t])=orM ks^^^2^t:=aaS λj=>by
 rw[aam,kU,kU,aaw]
 by_cases e:t=j
 ·subst e;simp[h]
 ·have e' : ¬ j=t:=λz=>e z.symm
  simp[e,e']
def C1(f:Nat->Bool)(n:Nat):orM ((List.range n).filter f)=maskOf f n:=aaS λj=>by
 rw[kU,mask_bit,abt];simp
end Ring
namespace RM
variable {N:Net}
inductive Net.Walk(N:Net):List Nat->Nat->List Nat->Prop
 | one {v:Nat}:Net.Walk N [] v []
 | snoc {pre ks:List Nat} {v w t:Nat} (h:Net.Walk N pre v ks) (ht:t<N.n) (hn:t∉ks) (j:(N.a t=v/\N.b t=w)\/(N.b t=v/\N.a t=w)):Net.Walk N (pre++[v]) w (ks++[t])
def Net.Walk.len{pre ks:List Nat}{v:Nat}(h:N.Walk pre v ks):pre.length=ks.length:=by
 induction h with
 | one=>rfl
 | snoc _ _ _ _ ih=>rw[aah,aah,ih];rfl
def Net.Walk.lt{pre ks:List Nat}{v:Nat}(h:N.Walk pre v ks):∀t∈ks,t<N.n:=by
 induction h with
 | one=>exact λt ht=>nomatch ht
 | snoc _ ht _ _ ih =>
   intro s hs;rcases aaL.mp hs with q|q
   ·exact ih s q
   ·have e:=aaA.mp q;rw[e];exact ht
def Net.Walk.bd{pre ks:List Nat}{v:Nat}(h:N.Walk pre v ks):∀i u,(pre++[v])[i]?=some u->∀x,N.bd (Ring.orM (ks.drop i)) x=(decide (u=x)^^decide (v=x)):=by
 induction h with
 | one =>
   rename_i v
   intro i u hu x
   match i,hu with
   | 0,hu =>
     have e:v=u:=Option.some.inj hu;subst e;show N.bd 0 x=_;rw[kO];simp
   | i+1,hu=>simp at hu
 | snoc hw ht hn j ih =>
   rename_i pre ks v w t
   intro i u hu x;have hl:=hw.len
   by_cases hi:i<(pre++[v]).length
   ·rw[aaE hi]at hu;have hi' : i<=ks.length:=by rw[aah]at hi;simp at hi;lia
    rw[List.drop_append_of_le_length hi',Ring.Ay _ (λz=>hn (adp z)),eR,ih i u hu x,jF ht]
    have e:N.inc t x=(decide (v=x)^^decide (w=x)):=by
     unfold Net.inc;rcases j with⟨j1,j2⟩|⟨j1,j2⟩
     ·rw[j1,j2]
     ·rw[j1,j2];exact Bool.xor_comm _ _
    rw[e];cases decide (u=x)<;>cases decide (v=x)<;>cases decide (w=x)<;>rfl
   ·have hi2:i=(pre++[v]).length:=by
     have:=(jf.mp hu).1;rw[aah]at this;simp at this hi ⊢
     lia
    rw[hi2,aaO (aae _),adq]at hu;have e:w=u:=Option.some.inj hu;subst e;have:(ks++[t]).drop i=[]:=List.drop_eq_nil_of_le (by rw[hi2,aah,aah];simp;lia)
    rw[this];show N.bd 0 x=_;rw[kO];simp
structure Way(N:Net)(c6:Nat)(pre:List Nat)(v:Nat)(ks:List Nat)(left:Nat):Prop where
 w:N.Walk pre v ks
 lt:c6<2^N.n
 ev:N.bL c6
 sub:∀t∈ks,c6.testBit t=true
 sO:left=c6^^^Ring.orM ks
 nd:pre.Nodup
 Vx:∀x∈pre++[v],x<N.p
 st:pre=[]->∃t,t<N.n/\c6.testBit t=true/\N.a t=v
section
variable {c6 left v:Nat}{pre ks:List Nat}
def Way.start{t:Nat}(lt:c6<2^N.n)(ev:N.bL c6)(hb:c6.testBit t=true):Way N c6 [] (N.a t) [] c6:=by
 have ht:=bR lt hb;refine⟨.one,lt,ev,(λ_ z=>nomatch z),?_,List.Pairwise.nil,λx hx=>?_,λ_=>⟨t,ht,hb,rfl⟩⟩
 ·show c6=c6^^^0;simp
 ·have e:x=N.a t:=by simpa using hx
  rw[e];exact N.al t ht
def Way.o5(h:Way N c6 pre v ks left)(t:Nat):left.testBit t=(c6.testBit t && !decide (t∈ks)):=by
 rw[h.sO,aam,Ring.kU]
 by_cases hm:t∈ks
 ·rw[h.sub t hm,cF hm];rfl
 ·rw[eI hm];simp
def Way.L5(h:Way N c6 pre v ks left):left<2^N.n:=cL λk hk=>by
 rw[h.o5,aaI]at hk;exact bR h.lt hk.1
def Way.on(h:Way N c6 pre v ks left)(hv:v∉pre):∃t,left.testBit t=true/\(N.a t=v\/N.b t=v):=by
 cases pre with
 | nil =>
   obtain⟨t,ht,hb,e⟩:=h.st rfl;have hk:ks=[]:=List.length_eq_zero_iff.mp (by rw[<-h.w.len];rfl)
   refine⟨t,?_,.inl e⟩;rw[h.o5,hb,hk];simp
 | cons u r =>
   have hb:=h.w.bd 0 u rfl v;rw[ady]at hb;have hu : ¬ u=v:=λz=>hv (by rw[z];exact aar)
   rw[eI hu,cF rfl]at hb;have Vy:v<N.p:=h.Vx v (iB _ (aaA.mpr rfl));have hl:N.bd left v=true:=by
    rw[h.sO,eR,h.ev v Vy,hb];rfl
   rw[NC]at hl;have hp:=jB hl;obtain⟨k,hk,hkb,hx⟩:=yI (N:=N) (m:=left) (x:=v) (by lia)
   exact⟨k,hkb,hx⟩
def Way.go(h:Way N c6 pre v ks left)(hv:v∉pre){t w:Nat}(hb:left.testBit t=true)(j:(N.a t=v/\N.b t=w)\/(N.b t=v/\N.a t=w)):
 Way N c6 (pre++[v]) w (ks++[t]) (left^^^2^t):=by
 rw[h.o5,aaI]at hb;have hn:t∉ks:=by simpa using hb.2
 have ht:=bR h.lt hb.1;refine⟨.snoc h.w ht hn j,h.lt,h.ev,λs hs=>?_,?_,?_,λx hx=>?_,λz=>?_⟩
 ·rcases aaL.mp hs with q|q
  ·exact h.sub s q
  ·rw[aaA.mp q];exact hb.1
 ·rw[Ring.Ay _ hn,h.sO,abh]
 ·refine acI.mpr ⟨h.nd,by simp,λx hx y hy=>?_⟩
  have e:y=v:=by simpa using hy
  rw[e];exact λz=>hv (z▸hx)
 ·rcases aaL.mp hx with q|q
  ·exact h.Vx x q
  ·have e:x=w:=by simpa using q
   rw[e];rcases j with⟨_,j2⟩|⟨_,j2⟩
   ·rw[<-j2];exact N.bl t ht
   ·rw[<-j2];exact N.al t ht
 ·simp at z
def Way.closes(h:Way N c6 pre v ks left){i:Nat}(hi:pre[i]?=some v):Ring.orM (ks.drop i)≠0/\N.bL (Ring.orM (ks.drop i))/\Ring.orM (ks.drop i)<2^N.n/\∀k,(Ring.orM (ks.drop i)).testBit k=true->c6.testBit k=true:=by
 have Qy:=(jf.mp hi).1;have hl:=h.w.len;have RZ:∀k,(Ring.orM (ks.drop i)).testBit k=true->k∈ks:=λk hk=>by
  rw[Ring.kU]at hk;exact adp (jB hk)
 refine⟨λz=>?_,λx _=>?_,cL λk hk=>h.w.lt k (RZ k hk),λk hk=>h.sub k (RZ k hk)⟩
 ·have hne:ks.drop i≠[]:=λq=>by
   have:=List.drop_eq_nil_iff.mp q
   lia
  obtain⟨k,hk⟩:=List.exists_mem_of_ne_nil _ hne;have:=Ring.kU (ks.drop i) k;rw[z,cF hk]at this;simp at this
 ·rw[h.w.bd i v (by rw[aaE Qy];exact hi) x]
  simp
end
end RM
namespace Ring
open PySem L2
def EA{p:Nat}{ts:List cC}{g:aA p ts}{q m:Nat}(hm:m<2^ts.length):decide ((bu ((q&&&m:Nat):Int)).length%2=1)=g.N.par q m:=by
 rw[uc (n:=ts.length) (adA q hm)];unfold RM.Net.par;rw[RM.t8];have e:RM.cnt (λk=>(q&&&m).testBit k) ts.length=RM.cnt (λk=>q.testBit k&&m.testBit k) g.N.n:=RM.iI λk _=>by rw[Nat.testBit_and]
 rw[e]
def xorL(rs:List Nat):Nat:=rs.foldl (λm r=>m^^^r) 0
def FT(rs:List Nat):∀m,rs.foldl (λm r=>m^^^r) m=m^^^xorL rs:=by
 induction rs with
 | nil=>intro m;show m=m^^^0;simp
 | cons r rs ih =>
   intro m;show rs.foldl (λm r=>m^^^r) (m^^^r)=m^^^rs.foldl (λm r=>m^^^r) (0^^^r)
   rw[ih,ih,abj,abh]
def xorL_cons(rs:List Nat)(r:Nat):xorL (r::rs)=r^^^xorL rs:=by
 show rs.foldl (λm r=>m^^^r) (0^^^r)=_
 rw[FT,abj]
def IF(l:List Nat){i:Nat}(h:i<=l.length):rR (aB l) (some (i:Int)) none=aB (l.drop i):=by
 unfold rR;rw[HT.Lu,HT.HP,aD,acd h];unfold aB;rw[<-List.map_drop,<-List.map_take,ac8 (by rw[acQ];lia)]
end Ring
namespace L2
open PySem PySem.Spec PyProof.Rows
section
variable {κ:Type}[DecidableEq κ]
def dM(kvs:List (κ×V))(k:κ):Option V:=(kvs.find? λkv=>decide (kv.1=k)).map (·.2)
def putK(kvs:List (κ×V))(k:κ)(v:V):List (κ×V) :=
 if(kvs.any λkv=>decide (kv.1=k))=true then kvs.map (λkv=>if kv.1=k then(kv.1,v) else kv) else kvs++[(k,v)]
def dc(kvs:List (κ×V))(k:κ):List (κ×V):=kvs.filter λkv=>decide (kv.1≠k)
def ue{k:κ}:dM ([]:List (κ×V)) k=none:=rfl
def cA{p:κ×V}{r:List (κ×V)}{k:κ}(e:p.1=k):dM (p::r) k=some p.2:=by simp[dM,acA,e]
def cg{p:κ×V}{r:List (κ×V)}{k:κ}(e : ¬ p.1=k):dM (p::r) k=dM r k:=by simp[dM,acA,e]
def g8(k:κ):∀kvs:List (κ×V),(kvs.any λkv=>decide (kv.1=k))=(dM kvs k).isSome
 | []=>rfl
 | p::r=>by
   rw[ade]
   by_cases e:p.1=k
   ·simp only[cA e,cF e,Bool.true_or,Option.isSome_some]
   ·rw[cg e,eI e,Bool.false_or];exact g8 k r
def Az(k j:κ)(y:V):∀kvs:List (κ×V),dM (kvs.map λkv=>if kv.1=k then(kv.1,y) else kv) j=(dM kvs j).map λx=>if j=k then y else x
 | []=>rfl
 | p::r=>by
   have ih:=Az k j y r;rw[aaT]
   by_cases h:p.1=k
   ·rw[aad h]
    by_cases e:p.1=j
    ·rw[cA (p:=(p.1,y)) e,cA e,ab9,aad (e.symm.trans h)]
    ·rw[cg (p:=(p.1,y)) e,cg e,ih]
   ·rw[aab h]
    by_cases e:p.1=j
    ·rw[cA (p:=p) e,cA e,ab9,aab (λz=>h (e.trans z))]
    ·rw[cg (p:=p) e,cg e,ih]
def xA(k j:κ)(y:V):∀kvs:List (κ×V),dM kvs k=none->dM (kvs++[(k,y)]) j=if j=k then some y else dM kvs j
 | [],_=>by
   by_cases e:k=j
   ·rw[aad e.symm];exact cA (p:=(k,y)) e
   ·rw[aab (λz=>e z.symm)];exact cg (p:=(k,y)) e
 | p::r,hn=>by
   rw[List.cons_append];have hk : ¬ p.1=k:=λz=>by rw[cA z]at hn;cases hn
   rw[cg hk]at hn;have ih:=xA k j y r hn
   by_cases e:p.1=j
   ·rw[cA e,cA e,aab (λz=>hk (e.trans z))]
   ·rw[cg e,cg e,ih]
def IG(kvs:List (κ×V))(k j:κ)(y:V):dM (putK kvs k y) j=if j=k then some y else dM kvs j:=by
 unfold putK
 by_cases a:(kvs.any λkv=>decide (kv.1=k))=true
 ·rw[aad a,Az];rw[g8]at a
  by_cases e:j=k
  ·obtain⟨x,hx⟩:=Option.isSome_iff_exists.mp a;rw[aad e,e,hx,ab9,aad rfl]
  ·rw[aab e];cases dM kvs j with
   | none=>rfl
   | some x=>rw[ab9,aab e]
 ·rw[aab a];refine xA k j y kvs ?_;rw[g8]at a;cases q:dM kvs k with
  | none=>rfl
  | some x=>rw[q]at a;exact(a rfl).elim
def rG(kvs:List (κ×V))(k:κ)(v:V):(putK kvs k v).length<=kvs.length+1:=by
 unfold putK
 split
 ·rw[aac];lia
 ·rw[aah,abc,acv];lia
def AA{kvs:List (κ×V)}{k:κ}(v:V)(h:dM kvs k=none):putK kvs k v=kvs++[(k,v)]:=by
 unfold putK;rw[g8,h];exact aab (by decide)
def pW.FU{o:Option V}{u:Option Value}(r:pW o u):o.isSome=u.isSome:=by
 cases o with
 | none=>cases u with
   | none=>rfl
   | some _=>exact(show False from r).elim
 | some _=>cases u with
   | none=>exact(show False from r).elim
   | some _=>rfl
def pW.getD{o:Option V}{u:Option Value}{d:V}{d' : Value}(r:pW o u)(rd:RelV d d'):RelV (o.getD d) (u.getD d'):=by
 cases o with
 | none=>cases u with
   | none=>exact rd
   | some _=>exact(show False from r).elim
 | some _=>cases u with
   | none=>exact(show False from r).elim
   | some _=>exact r
def KV.val{kvs:List (κ×V)}{vs:List (κ×Value)}(r:KV kvs vs)(k:κ):pW (dM kvs k) (valueAt vs k):=by
 unfold KV at r
 induction r with
 | nil=>exact True.intro
 | @cons p q ps qs h t ih =>
   obtain⟨h1,h2⟩:=h
   by_cases e:p.1=k
   ·have e' : q.1=k:=h1.symm.trans e;have b:valueAt (q::qs) k=some q.2:=by simp[valueAt,acA,e']
    rw[cA e,b];exact h2
   ·have e' : ¬ q.1=k:=λz=>e (h1.trans z)
    have b:valueAt (q::qs) k=valueAt qs k:=by simp[valueAt,acA,e']
    rw[cg e,b];exact ih
def KV.any{kvs:List (κ×V)}{vs:List (κ×Value)}(r:KV kvs vs)(k:κ):(kvs.any λkv=>decide (kv.1=k))=vs.any λkv=>decide (kv.1=k):=by
 unfold KV at r
 induction r with
 | nil=>rfl
 | cons h t ih=>rw[ade,ade,ih,h.1]
def KV.repl{kvs:List (κ×V)}{vs:List (κ×Value)}(r:KV kvs vs)(k:κ){y:V}{u:Value}(ry:RelV y u):
 KV (kvs.map λkv=>if kv.1=k then(kv.1,y) else kv) (vs.map λkv=>if kv.1=k then(kv.1,u) else kv):=by
 unfold KV at r ⊢
 induction r with
 | nil=>exact .nil
 | @cons p q ps qs h t ih =>
   rw[aaT,aaT];refine .cons ?_ ih;obtain⟨h1,h2⟩:=h
   by_cases e:p.1=k
   ·rw[aad e,aad (h1.symm.trans e)];exact⟨h1,ry⟩
   ·rw[aab e,aab (λz=>e (h1.trans z))];exact⟨h1,h2⟩
def KV.put{kvs:List (κ×V)}{vs:List (κ×Value)}(r:KV kvs vs)(k:κ){y:V}{u:Value}(ry:RelV y u):KV (putK kvs k y) (stored vs k u):=by
 unfold putK stored;rw[r.any k]
 by_cases e:(vs.any λkv=>decide (kv.1=k))=true
 ·rw[aad e,aad e];exact r.repl k ry
 ·rw[aab e,aab e];exact Paired.snoc r ⟨rfl,ry⟩
def KV.length{kvs:List (κ×V)}{vs:List (κ×Value)}(r:KV kvs vs):kvs.length=vs.length:=Paired.length r
def II(kvs:List (κ×V))(k:κ):(dc kvs k).length<=kvs.length:=aaG _ _
end
def EB{P:Program}{w:World}{k:Key}{u:Value}(r:RelV (kV k) u):(cX P w).is k u=true:=by
 cases k with
 | inl i=>obtain⟨t,e⟩:=(show ∃t,u=Value.int i t from r);subst e;exact zR P w i t
 | inr x=>obtain⟨t,e⟩:=(show ∃t,u=Value.str x t from r);subst e;exact zS P w x t
def xB{P:Program}{w:World}:∀{ks:List Key} {us:List Value},Vals (ks.map kV) us->ItemsAre (cX P w) ks us
 | [],_,r=>by rw[List.map_nil]at r;cases r;exact .nil
 | k::ks,_,r=>by
   rw[aaT]at r;cases r with
   | cons h t=>exact .cons (EB h) (xB t)
abbrev KT(H:Hp):List (List Key×V)->List (List Key×Addr×Value)->Prop:=Paired λp q=>p.1=q.1/\H q.2.1=some (.tup (p.1.map kV))/\RelV p.2 q.2.2
def KT.val{H:Hp}{kvs:List (List Key×V)}{xs:List (List Key×Addr×Value)}(r:KT H kvs xs)(k:List Key):pW (dM kvs k) ((atKey xs k).map (·.2)):=by
 induction r with
 | nil=>exact True.intro
 | @cons p q ps qs h t ih =>
   obtain⟨h1,_,h2⟩:=h
   by_cases e:p.1=k
   ·have e' : q.1=k:=h1.symm.trans e;have b:atKey (q::qs) k=some q.2:=by simp[atKey,acA,e']
    rw[cA e,b];exact h2
   ·have e' : ¬ q.1=k:=λz=>e (h1.trans z)
    have b:atKey (q::qs) k=atKey qs k:=by simp[atKey,acA,e']
    rw[cg e,b];exact ih
def KT.repl{H:Hp}{kvs:List (List Key×V)}{xs:List (List Key×Addr×Value)}(r:KT H kvs xs)(k:List Key){y:V}{u:Value}(ry:RelV y u):
 KT H (kvs.map λkv=>if kv.1=k then(kv.1,y) else kv) (xs.map (putAt k u)):=by
 induction r with
 | nil=>exact .nil
 | @cons p q ps qs h t ih =>
   rw[aaT,aaT];refine .cons ?_ ih;obtain⟨h1,h2,h3⟩:=h;unfold putAt
   by_cases e:p.1=k
   ·rw[aad e,aad (h1.symm.trans e)];exact⟨h1,h2,ry⟩
   ·rw[aab e,aab (λz=>e (h1.trans z))];exact⟨h1,h2,h3⟩
def KT.put{H:Hp}{kvs:List (List Key×V)}{xs:List (List Key×Addr×Value)}(r:KT H kvs xs)(k:List Key){b:Addr}{y:V}{u:Value}(hb:H b=some (.tup (k.map kV)))(ry:RelV y u):
 KT H (putK kvs k y) (storedH xs k b u):=by
 have e:(kvs.any λkv=>decide (kv.1=k))=(atKey xs k).isSome:=by
  rw[g8,(r.val k).FU,Option.isSome_map]
 unfold putK storedH;rw[e]
 by_cases q:(atKey xs k).isSome=true
 ·rw[aad q,aad q];exact r.repl k ry
 ·rw[aab q,aab q];exact Paired.snoc r ⟨rfl,hb,ry⟩
def KT.keeps{H H' : Hp}{kvs:List (List Key×V)}{xs:List (List Key×Addr×Value)}(r:KT H kvs xs)(ht:∀b ys,H b=some (.tup ys)->H' b=some (.tup ys)):KT H' kvs xs :=
 Paired.yd r λ_ _ z=>⟨z.1,ht _ _ z.2.1,z.2.2⟩
section
variable {P:Program}{w:World}{H:Hp}{h:Heap}{a:Addr}
def NF{u:HO}(ok:mQ P w H h)(e:Rd H a u):bI P w H h a u:=e.ok ok
def AB{kvs:List (Key×V)}(ok:mQ P w H h)(e:Rd H a (.dK kvs)):kvs.length<=sizeLine/\(a==sysModules)=false/\∃vs,KV kvs vs/\h.DictOf (cX P w) a vs :=
 show bI P w H h a (.dK kvs) from NF ok e
def R4{kvs:List (Key×V)}(ok:mQ P w H h)(e:H a=some (.dK kvs)):kvs.length<=sizeLine/\(a==sysModules)=false/\∃vs,KV kvs vs/\h.DictOf (cX P w) a vs:=AB ok (.inl e)
def qh{ks:List Key}(ok:mQ P w H h)(e:H a=some (.tup (ks.map kV))):(tupleKind (cX P w)).is h ks a:=by
 obtain⟨_,its,r,o,h1,h2,n,h3⟩:=(show bI P w H h a (.tup (ks.map kV)) from ok a _ e)
 exact⟨o,its.toArray,n,h1,h2,h3,by simpa using xB r⟩
def AD{kvs:List (List Key×V)}(ok:mQ P w H h)(e:Rd H a (.dT kvs)):kvs.length<=sizeLine/\(a==sysModules)=false/\
 ∃xs,KT H kvs xs/\h.DictOfH (tupleKind (cX P w)) a xs:=by
 obtain⟨z,y,xs,r,o,es,ep,h1,h2,h3,h4,h5⟩:=(show bI P w H h a (.dT kvs) from NF ok e)
 refine⟨z,y,xs,r,o,es,ep,h1,h2,h3,h4,λx hx=>?_,h5⟩
 have all:∀{l:List (List Key×V)} {m:List (List Key×Addr×Value)},KT H l m->∀x∈m,(tupleKind (cX P w)).is h x.1 x.2.1:=by
  intro l m q
  induction q with
  | nil=>intro x hx;exact nomatch hx
  | @cons p q ps qs hq t ih =>
    intro x hx;rcases aas.mp hx with e|hx
    ·subst e;exact qh ok (by rw[<-hq.1];exact hq.2.1)
    ·exact ih x hx
 exact all r x hx
def IJ{kvs:List (List Key×V)}(ok:mQ P w H h)(e:H a=some (.dT kvs)):kvs.length<=sizeLine/\(a==sysModules)=false/\
 ∃xs,KT H kvs xs/\h.DictOfH (tupleKind (cX P w)) a xs:=AD ok (.inl e)
end
def IK(H:Hp)(a:Addr)(y:V)(r:Option V):Prop :=
 (∃kvs k,Rd H a (.dK kvs)/\y=kV k/\r=dM kvs k)\/∃kvs k b,Rd H a (.dT kvs)/\y = .ref b/\H b=some (.tup (k.map kV))/\r=dM kvs k
def IL(H:Hp)(a:Addr)(y v:V)(H' : Hp):Prop :=
 (∃kvs k,H a=some (.dK kvs)/\y=kV k/\kvs.length<sizeLine/\H' = upd H a (.dK (putK kvs k v)))\/
 ∃kvs k b,H a=some (.dT kvs)/\y = .ref b/\H b=some (.tup (k.map kV))/\kvs.length<sizeLine/\H' = upd H a (.dT (putK kvs k v))
def IL.t{H:Hp}{a b:Addr}{kvs:List (List Key×V)}{k:List Key}{v:V}(e:H a=some (.dT kvs))(eb:H b=some (.tup (k.map kV)))(hl:kvs.length<sizeLine):
 IL H a (.ref b) v (upd H a (.dT (putK kvs k v))):=.inr ⟨kvs,k,b,e,rfl,eb,hl,rfl⟩
section
variable {X:Cx}{pq:aV}{σ:St}{H:Hp}{s:Shared}{a:Addr}{y v:V}{u r:Value}{o:Option V}{A:Around}{E:di}
def Inv.big(I:Inv X pq σ H s):sysModules<s.heap.objs.size:=by
 have h:mainGlobals<s.heap.objs.size:=(I.mod.glob.keeps I.bk).lt;exact acZ (by decide) h
def FW{Q:di}(hu:A.units+1<cLine)(I:Inv X pq σ H s)(g:IK H a y (some v))(ry:RelV y u)(h:∀w' s',Inv X pq σ H s'->RelV v w'->Q w' s'):
 wpAny (model X.prog X.w) A (getItem (.ref a) u) Q E s:=by
 rcases g with⟨kvs,k,e,ey,l⟩|⟨kvs,k,b,e,ey,eb,l⟩
 ·subst ey;obtain⟨z,hd,vs,rel,dd⟩:=AB I.hok e;obtain⟨w',hw,rw'⟩:=pW.some_of (v:=v) (o:=valueAt vs k) (by rw[l];exact rel.val k)
  exact wpAny_getItem_of (EB ry) dd.mapOf hw (h w' _ (I.tok _) rw')
 ·subst ey;cases(show u=Value.ref b from ry)
  obtain⟨z,hd,xs,rel,dd⟩:=AD I.hok e;obtain⟨w',hw,rw'⟩:=pW.some_of (v:=v) (o:=(atKey xs k).map (·.2)) (by rw[l];exact rel.val k)
  obtain⟨p,hp,Qt⟩:=wM.mp hw;refine wpAny_getItem_heap (tupleKind_room_in1 hu) (qh I.hok eb) dd hp ?_;rw[Qt];exact h w' _ (I.tok _) rw'
def sP{h' : Heap}{t' : Nat}{ob:HO}(I:Inv X pq σ H s)(mu:Q0 (H a))(hs:Heap.SameBut a s.heap h')(he:∃q,h'.get? a=some q)(new:bI X.prog X.w (upd H a ob) h' a ob):
 Inv X pq σ (upd H a ob) { s with heap:=h',toks:=t'} :=
 I.write (x:=a) (e:=a) mu (.inl rfl) (λb q hb z=>(hs.2 b hb).trans z) he new
def OX{P:Program}{w:World}{H' : Hp}{h' : Heap}{kvs:List (Key×V)}{vs:List (Key×Value)}(z:kvs.length<=sizeLine)(hd:(a==sysModules)=false)(rel:KV kvs vs)(dd:h'.DictOf (cX P w) a vs):
 bI P w H' h' a (.dK kvs):=⟨z,hd,vs,rel,dd⟩
def FY{H' : Hp}{Q:Unit->Shared->Prop}(hu:A.units+1<cLine)(I:Inv X pq σ H s)(g:IL H a y v H')(ry:RelV y u)(rv:RelV v r)(h:∀s',Inv X pq σ H' s'->Q () s'):
 wpAny (model X.prog X.w) A (setItem (.ref a) u r) Q E s:=by
 rcases g with⟨kvs,k,e,ey,l,eH⟩|⟨kvs,k,b,e,ey,eb,l,eH⟩
 ·subst ey eH;obtain⟨z,hd,vs,rel,dd⟩:=R4 I.hok e;have hz:vs.length<=sizeLine:=by rw[<-rel.length];exact z
  have hl:(putK kvs k v).length<=sizeLine:=by have:=rG kvs k v;lia
  refine wpAny_setItem_pairs (hsz:=hz) (EB ry) dd λh' Qz hs=>h _ ?_
  have he:∃q,h'.get? a=some q:=let⟨q,_,_,hq,_⟩:=Qz;⟨q,hq⟩;exact sP I (by rw[e];exact True.intro) hs he (OX hl hd (rel.put k rv) Qz)
 ·subst ey eH;cases(show u=Value.ref b from ry)
  obtain⟨z,hd,xs,rel,dd⟩:=IJ I.hok e;have hz:xs.length<=sizeLine:=by rw[<-Paired.length rel];exact z
  have hl:(putK kvs k v).length<=sizeLine:=by have:=rG kvs k v;lia
  refine wpAny_setItem_heap (hsz:=hz) (tupleKind_room_in1 hu) (qh I.hok eb) dd λh' Qz hs=>h _ ?_
  obtain⟨q,es,ep,hq,h2,h3,h4,_,h5⟩:=Qz;refine sP I (by rw[e];exact True.intro) hs ⟨q,hq⟩ ⟨hl,hd,_,(rel.put k eb rv).keeps λc ys ec=>?_,q,es,ep,hq,h2,h3,h4,h5⟩
  rw[ak (aU ec e (λz=>nomatch z))]
  exact ec
end
def R5(i:Expr):Prop:=∀ov iv,subscripted i false ov iv=operate [ov,iv] (getItem ov iv)
def L6{prog:Program}{w:World}{A:Around}{E:di}{s:Shared}{env:Env}{value slice:Expr}{pos:Pos}{T id:String}{Q:di}
 (hl:typeLookup (.type T) "__getitem__"=pure (some (.builtin id))) (hs:R5 slice)
 (h:wpAny (model prog w) A (eval value env) (λo s₁=>wpAny (model prog w) A (eval slice env) (λi s₂=>s₂.TypeIs o T/\wpAny (model prog w) A (getItem o i) Q E s₂) E s₁) E s) :
 wpAny (model prog w) A (eval (.Subscript value slice pos) env) Q E s:=by
 refine Subscript_ (aaP h (λo s₁ h₁=>aaP h₁ (λi s₂ h₂=>?_) λ_ _ x=>x) λ_ _ x=>x)
 obtain⟨hT,h₂⟩:=h₂;unfold subscriptTail;refine aS ?_;rw[getitemInPython_of_ne hT.not_modules];refine aS (wpAny_specialOf hT hl ?_);have fin:wpAny (model prog w) A (subscripted slice false o i) (λr s₃=>wpAny (model prog w) A (letTemporaryGo value o r >>= λ_=>pure r) Q E s₃) E s₂:=by
  rw[hs o i];exact wpAny_operating (aaP h₂ (λr s₃ h₃=>aS (wpAny_letTemporaryGo (aag h₃))) λ_ _ x=>x)
 first
  | exact aag (aS fin)
  | exact aS (aag (aS fin))
  | exact aS fin
def AE{X:Cx}{pq:aV}{σ:St}{H:Hp}{s:Shared}{a:Addr}{y:V}{o:Option V}(I:Inv X pq σ H s)(g:IK H a y o):s.TypeIs (.ref a) "dict":=by
 rcases g with⟨kvs,k,e,_,_⟩|⟨kvs,k,b,e,_,_,_⟩
 ·obtain⟨_,_,vs,_,dd⟩:=AB I.hok e;exact dd.typeIs
 ·obtain⟨_,_,xs,_,dd⟩:=AD I.hok e;exact dd.typeIs
def R6(td ty:TE):TE:=λσ H Q=>td σ H λx H1=>ty σ H1 λy H2=>∃a v,x = .ref a/\IK H2 a y (some v)/\Q v H2
def R7(td ty tv:TE):TS:=λD σ H=>tv σ H λv H1=>td σ H1 λx H2=>ty σ H2 λy H3=>∃a H4,x = .ref a/\IL H3 a y v H4/\D.nx σ H4
section
variable {X:Cx}{o i e value:Expr}{pos pos' tpos:Pos}{td ty tv:TE}
def L7(hu:X.A.units+1<cLine)(ho:PE X o td)(hi:PE X i ty)(hs:R5 i):PE X (.Subscript o i pos) (R6 td ty):=by
 intro pq s σ H Q I h;refine L6 PySem.F.slot_dict_getitem.lookup hs (cW (ho pq s σ H _ I h) λu s1 ⟨x,H1,I1,rx,q1⟩=>cW (hi pq s1 σ H1 _ I1 q1) λiv s2 ⟨y,H2,I2,ry,a,v,ex,g,q2⟩=>?_)
 subst ex;obtain rfl:u=Value.ref a:=rx;exact⟨AE I2 g,FW hu I2 g ry λw' s3 I3 rw'=>⟨v,H2,I3,rw',q2⟩⟩
def L8(hu:X.A.units+1<cLine)(ho:PE X o td)(hi:PE X i ty)(hv:PE X value tv)(hs:swapsWith value (some (.Subscript o i pos')) pos.line X.env=pure false):
 PS X (.Assign [.Subscript o i pos'] value pos) (R7 td ty tv):=by
 intro pq s σ H D I h;refine wpAny_Assign_Subscript (cW (hv pq s σ H _ I h) λr s1 ⟨v,H1,I1,rv,q1⟩=>cW (ho pq s1 σ H1 _ I1 q1) λu s2 ⟨x,H2,I2,rx,q2⟩=>cW (hi pq s2 σ H2 _ I2 q2) λiv s3 ⟨y,H3,I3,ry,a,H4,ex,g,q3⟩=>?_) hs
 subst ex;obtain rfl:u=Value.ref a:=rx;exact FY hu I3 g ry rv λs4 I4=>⟨σ,H4,I4,q3⟩
end
def IM{P:Program}{w:World}{H:Hp}(h:Heap)(hb:sysModules<h.objs.size):bI P w H (h.push { cls:=.type "dict",data:=.dict #[]}) h.objs.size (.dT []) :=
 ⟨aaN _,beq_eq_false_iff_ne.mpr (aa2 (aaK hb)),[],.nil,_,#[],0,aaB _ rfl,⟨rfl,rfl,rfl⟩,rfl,rfl,ac4⟩
structure M1(X:Cx)(o:Expr)(m:Str)(apos:Pos)(e:Expr)(cpos:Pos):Prop where
 base:attributeBase o m X.env (eval o X.env)=eval o X.env
 few:((backTo cpos (starEach [e] X.env)).all (λx=>!x.1)&&(backToKw cpos (keywordEach [] X.env)).all (λx=>x.1.isSome)
  && decide (([e]:List Expr).length+([]:List Keyword).length+(if([]:List Keyword).isEmpty then 0 else 1)<30))=true
 line:(apos.endLine==cpos.line)=true
 trees:backTo cpos (starEach [e] X.env)=[(false,eval e X.env)]
structure M2(X:Cx)(o:Expr)(m:Str)(apos:Pos)(e f:Expr)(cpos:Pos):Prop where
 base:attributeBase o m X.env (eval o X.env)=eval o X.env
 few:((backTo cpos (starEach [e,f] X.env)).all (λx=>!x.1)&&(backToKw cpos (keywordEach [] X.env)).all (λx=>x.1.isSome)
  && decide (([e,f]:List Expr).length+([]:List Keyword).length+(if([]:List Keyword).isEmpty then 0 else 1)<30))=true
 line:(apos.endLine==cpos.line)=true
 trees:backTo cpos (starEach [e,f] X.env)=[(false,eval e X.env),(false,eval f X.env)]
def Vz(H:Hp)(a:Addr):Prop:=(∃kvs,Rd H a (.dK kvs))\/∃kvs,Rd H a (.dT kvs)
def IP{X:Cx}{pq:aV}{σ:St}{H:Hp}{s:Shared}{a:Addr}(I:Inv X pq σ H s)(d:Vz H a):
 s.TypeIs (.ref a) "dict"/\(∀b,Value.ref a = .ref b->∃ob,s.heap.get? b=some ob/\ob.dict=none)/\(a==sysModules)=false:=by
 rcases d with⟨kvs,e⟩|⟨kvs,e⟩
 ·obtain⟨_,hd,vs,_,dd⟩:=AB I.hok e;refine⟨dd.typeIs,λb q=>?_,hd⟩
  cases q;obtain⟨ob,_,_,h1,h2,_⟩:=dd;exact⟨ob,h1,h2.2.1⟩
 ·obtain⟨_,hd,xs,_,dd⟩:=AD I.hok e;refine⟨dd.typeIs,λb q=>?_,hd⟩
  cases q;obtain⟨ob,_,_,h1,h2,_⟩:=dd;exact⟨ob,h1,h2.2.1⟩
section
variable {X:Cx}{pq:aV}{σ:St}{H:Hp}{s:Shared}{a:Addr}{y d:V}{u r:Value}{o:Option V}{A:Around}{E:di}
def OY{Q:di}(hu:A.units+1<cLine)(I:Inv X pq σ H s)(g:IK H a y o)(ry:RelV y u)(rd:RelV d r)(h:∀w' s',Inv X pq σ H s'->RelV (o.getD d) w'->Q w' s'):
 wpAny (model X.prog X.w) A (call (.builtin "dict.get") [.ref a,u,r]) Q E s:=by
 rcases g with⟨kvs,k,e,ey,l⟩|⟨kvs,k,b,e,ey,eb,l⟩
 ·subst ey;obtain⟨z,hd,vs,rel,dd⟩:=AB I.hok e;refine call_meetsIn adj dd.typeIs PySem.F.entry_dict_get (PySem.F.args_dict_get_3 _ _ _) (meets_dict_get_default (cX X.prog X.w) a (EB ry) hd r) ⟨_,dd.mapOf,h _ _ (I.tok _) ?_⟩;rw[l];exact(rel.val k).getD rd
 ·subst ey;cases(show u=Value.ref b from ry)
  obtain⟨z,hd,xs,rel,dd⟩:=AD I.hok e;refine call_meetsIn adj dd.typeIs PySem.F.entry_dict_get (PySem.F.args_dict_get_3 _ _ _) (meetsH_dict_get_default (tupleKind (cX X.prog X.w)) a b hd r) ⟨tupleKind_room_in1 hu,k,xs,qh I.hok eb,dd,h _ _ (I.tok _) ?_⟩;rw[l];exact(rel.val k).getD rd
end
def OZ(td ty tx:TE):TE:=λσ H Q=>td σ H λx H1=>∃a,x = .ref a/\Vz H1 a/\ty σ H1 λy H2=>tx σ H2 λz H3=>∃o,IK H3 a y o/\Q (o.getD z) H3
section
variable {X:Cx}{o e f:Expr}{apos cpos:Pos}{td ty tx:TE}
def IQ(hu:X.A.units+1<cLine)(ho:PE X o td)(he:PE X e ty)(hf:PE X f tx)(m:M2 X o "get" apos e f cpos):PE X (.Call (.Attribute o "get" apos) [e,f] [] cpos) (OZ td ty tx):=by
 intro pq s σ H Q I h;refine wpAny_Call_method m.base m.few m.line PySem.F.plainAttrs_dict adj PySem.F.type_dict_get (cW (ho pq s σ H _ I h) λu s1 ⟨x,H1,I1,rx,a,ex,d,q1⟩=>?_)
 subst ex;obtain rfl:u=Value.ref a:=rx;obtain⟨t1,t2,_⟩:=IP I1 d;refine⟨t1,t2,?_⟩;rw[m.trees];refine Calls.callWith_builtin rfl (Calls.evalArgs_plain (Calls.spliced_cons (cW (he pq s1 σ H1 _ I1 q1) λiv s2 ⟨y,H2,I2,ry,q2⟩ =>
  Calls.spliced_cons (cW (hf pq s2 σ H2 _ I2 q2) λfv s3 ⟨z,H3,I3,rz,ov,g,q3⟩=>Calls.spliced_nil ?_))))
 exact OY hu I3 g ry rz λw' s4 I4 rw'=>⟨_,H3,I4,rw',q3⟩
end
section
variable {κ:Type}[DecidableEq κ]
def IS{kvs:List (κ×V)}{k:κ}(h:dM kvs k=none): ¬ k∈kvs.map (·.1):=by
 intro m;obtain⟨p,hp,e⟩:=aaH.mp m;have q:(kvs.any λkv=>decide (kv.1=k))=true:=adG.mpr ⟨p,hp,cF e⟩
 rw[g8,h]at q;exact absurd q (by simp)
def Ma{kvs:List (κ×V)}{k:κ}{v:V}(h:dM kvs k=some v):k∈kvs.map (·.1):=by
 have q:(kvs.any λkv=>decide (kv.1=k))=true:=by
  rw[g8,h]
  all_goals rfl
 obtain⟨p,hp,e⟩:=adG.mp q;exact aaH.mpr ⟨p,hp,jB e⟩
def EC:∀{l:List κ} {k:κ},l.Nodup->¬ k∈l->(l++[k]).Nodup
 | [],k,_,_=>by simp
 | a::r,k,h,hk=>by
   obtain⟨h1,h2⟩:=aa6.mp h;show(a::(r++[k])).Nodup;refine aa6.mpr ⟨λm=>?_,EC h2 λm=>hk (aas.mpr (Or.inr m))⟩
   rcases aaL.mp m with q|q
   ·exact h1 q
   ·exact hk (aas.mpr (Or.inl (aaA.mp q).symm))
def Mb{kvs:List (κ×V)}{k:κ}(v:V)(hn:(kvs.map (·.1)).Nodup)(h:dM kvs k=none):((putK kvs k v).map (·.1)).Nodup:=by
 rw[AA v h,aat];exact EC hn (IS h)
def xC{p:κ×V}{r:List (κ×V)}{k:κ}(e:p.1=k):dc (p::r) k=dc r k:=by
 unfold dc;rw[aaJ,aab (by simp[e])]
def xD{p:κ×V}{r:List (κ×V)}{k:κ}(e : ¬ p.1=k):dc (p::r) k=p::dc r k:=by
 unfold dc;rw[aaJ,aad (by simp[e])]
def xE{kvs:List (κ×V)}{k:κ}{p:κ×V}(h:p∈dc kvs k):p∈kvs:=(aaC.mp h).1
def uf:∀{kvs:List (κ×V)} {k:κ},(kvs.map (·.1)).Nodup->((dc kvs k).map (·.1)).Nodup
 | [],_,_=>ac4
 | p::r,k,h=>by
   have h:(p.1::r.map (·.1)).Nodup:=h;obtain⟨h1,h2⟩:=aa6.mp h
   by_cases e:p.1=k
   ·rw[xC e];exact uf h2
   ·rw[xD e];show(p.1::(dc r k).map (·.1)).Nodup;refine aa6.mpr ⟨λm=>h1 ?_,uf h2⟩
    obtain⟨q,hq,eq⟩:=aaH.mp m;exact aaH.mpr ⟨q,xE hq,eq⟩
end
def IT{X:Cx}:kG X (binaryOp .FloorDiv) (rI (λ_ j=>j≠0/\j.natAbs<2^1000) λi j=>.int (i.fdiv j)):=Ln λi j _ _ _ _ _ hc q=>by
 refine floordiv_int hc.1 q (.inl ?_);have h0:j.natAbs≠0:=by have:=hc.1;lia
 have h:j.natAbs.log2<1000:=(Nat.log2_lt h0).mpr hc.2;exact PyProof.noPylong_of_log2 (by lia)
def C2{x d q:Int}(hd:d≠0)(h:x=d*q):x.fdiv d=q:=by
 rw[h,Int.fdiv_eq_ediv_of_dvd ⟨q,rfl⟩];exact ac0 q hd
end L2
namespace Ring
open PySem L2
def ent(rs:List (List Int))(i j:Nat):Int:=(rs.getD i []).getD j 0
structure Tab(n:Nat)(rs:List (List Int)):Prop where
 len:rs.length=n
 row:∀r∈rs,r.length=n
def ED(H:Hp)(x:V)(r:List Int):Prop:=∃b,x = .ref b/\H b=some (.lst (cE r))
def TabAt(H:Hp)(t:Addr)(rs:List (List Int)):Prop:=∃ys,H t=some (.lst ys)/\Paired (ED H) ys rs
def kj(l:List Int):(cE l).length=l.length:=by unfold cE;rw[aac]
def C3(l:List Int)(k:Int):cE (l++[k])=cE l++[.int k]:=by unfold cE;rw[aat];rfl
def ug{l:List Int}{i:Nat}{x:V}(h:(cE l)[i]?=some x):i<l.length/\x = .int (l.getD i 0):=by
 unfold cE at h;rw[aan]at h;obtain⟨k,e,q⟩:=wM.mp h;have hi:i<l.length:=(jf.mp e).1;refine⟨hi,?_⟩;rw[aaa,e];exact q.symm
def kW{α β:Type}{F:α->β->Prop}{x:α}{y:β}(h:F x y):∀{l:List α} {r:List β} (i:Nat),Paired F l r->Paired F (l.set i x) (r.set i y)
 | _,_,_,.nil=>.nil
 | _,_,0,.cons _ t=>.cons h t
 | _,_,i+1,.cons a t=>.cons a (kW h i t)
def C4{rs:List (List Int)}{i:Nat}(h:i<rs.length):rs[i]?=some (rs.getD i []):=by
 rw[aaa];simp[h]
def o6{rs:List (List Int)}{a:Nat}(ha:a<rs.length)(r:List Int)(i j:Nat):ent (rs.set a r) i j=if i=a then r.getD j 0 else ent rs i j:=by
 unfold ent
 by_cases h:i=a
 ·subst h;rw[aad rfl,aaa (l:=rs.set i r),acC ha];rfl
 ·rw[aab h,aaa (l:=rs.set a r),acP (aa2 h),<-aaa]
def Tab.set{n:Nat}{rs:List (List Int)}(T:Tab n rs)(a:Nat){r:List Int}(h:r.length=n):Tab n (rs.set a r):=by
 refine⟨by rw[acw,T.len],λx hx=>?_⟩
 rcases List.mem_or_eq_of_mem_set hx with z|z
 ·exact T.row x z
 ·rw[z,h]
def Tab.AF{n:Nat}{rs:List (List Int)}(T:Tab n rs){i:Nat}(h:i<n):(rs.getD i []).length=n :=
 T.row _ (iq (C4 (by rw[T.len];exact h)))
def TabAt.get{H:Hp}{ys:List V}{rs:List (List Int)}(pr:Paired (ED H) ys rs){n i:Nat}(T:Tab n rs)(h:i<n):∃b,ys[i]?=some (.ref b)/\H b=some (.lst (cE (rs.getD i []))):=by
 have hy:i<ys.length:=by rw[pr.length,T.len];exact h
 obtain⟨r,hr,b,e,hb⟩:=Paired.nX pr (i:=i) (x:=ys[i]) (by simp[hy])
 rw[C4 (by rw[T.len];exact h)]at hr
 cases hr;exact⟨b,by rw[<-e];simp[hy],hb⟩
def kX(R:Addr)(H:Hp)(x:V)(r:List Int):Prop:=∃b,x = .ref b/\b≠R/\H b=some (.lst (cE r))
def kX.same{R:Addr}{H H' : Hp}(s:aq H H'){x:V}{r:List Int}(h:kX R H x r):kX R H' x r:=by
 obtain⟨b,e,n,h⟩:=h;exact⟨b,e,n,s _ _ h⟩
def kX.put{R:Addr}{H:Hp}{o:HO}{x:V}{r:List Int}(h:kX R H x r):kX R (upd H R o) x r:=by
 obtain⟨b,e,n,h⟩:=h;exact⟨b,e,n,by rw[ak n];exact h⟩
def kX.is{R:Addr}{H:Hp}{x:V}{r:List Int}(h:kX R H x r):ED H x r:=by
 obtain⟨b,e,n,h⟩:=h;exact⟨b,e,h⟩
def kX.get{R:Addr}{H:Hp}{ys:List V}{rs:List (List Int)}(pr:Paired (kX R H) ys rs){n i:Nat}(T:Tab n rs)(h:i<n):∃b,ys[i]?=some (.ref b)/\b≠R/\H b=some (.lst (cE (rs.getD i []))):=by
 have hy:i<ys.length:=by rw[pr.length,T.len];exact h
 obtain⟨r,hr,b,e,nb,hb⟩:=Paired.nX pr (i:=i) (x:=ys[i]) (by simp[hy])
 rw[C4 (by rw[T.len];exact h)]at hr
 cases hr;exact⟨b,by rw[<-e];simp[hy],nb,hb⟩
def rH(n:Nat)(f:Nat->Int):List Int:=(List.range n).map f
def qi(n:Nat)(f:Nat->Int):(rH n f).length=n:=by unfold rH;rw[aac,aay]
def FZ{n j:Nat}(f:Nat->Int)(h:j<n):(rH n f).getD j 0=f j:=by
 unfold rH;rw[aaa,aan,acW h];rfl
def AG(f:Nat->Int)(H:Hp)(D:Addr)(i:Nat)(acc:List V)(H2:Hp):Prop:=aq H H2/\H2 D=some (.lst acc)/\acc=cE (rH i f)
def AG.start{f:Nat->Int}{H:Hp}{D:Addr}(hD:H D=none):AG f H D 0 [] (upd H D (.lst [])):=⟨aq.new hD,ae,rfl⟩
def AG.len{f:Nat->Int}{H H2:Hp}{D:Addr}{i:Nat}{acc:List V}(p:AG f H D i acc H2):H2 D=some (.lst acc)/\acc.length<=i:=by
 refine⟨p.2.1,?_⟩;rw[p.2.2,kj,qi];exact aae _
def AG.next{f:Nat->Int}{H H2 H3:Hp}{D:Addr}{i:Nat}{acc:List V}{v:V}(p:AG f H D i acc H2)(hD:H D=none)(s:aq H2 H3)(hv:v = .int (f i)):H3 D=some (.lst acc)/\AG f H D (i+1) (acc++[v]) (upd H3 D (.lst (acc++[v]))):=by
 refine⟨s _ _ p.2.1,(p.1.trans s).put hD,ae,?_⟩;rw[hv,p.2.2];unfold rH;rw[abB,aat];show _=cE (_++[f i]);rw[C3]
def l7(D:Addr)(H0 H:Hp)(x:V)(r:List Int):Prop:=∃b,x = .ref b/\b≠D/\H0 b=none/\H b=some (.lst (cE r))
def l7.same{D:Addr}{H0 H H' : Hp}(s:aq H H'){x:V}{r:List Int}(h:l7 D H0 H x r):l7 D H0 H' x r:=by
 obtain⟨b,e,n,z,h⟩:=h;exact⟨b,e,n,z,s _ _ h⟩
def l7.put{D:Addr}{H0 H:Hp}{o:HO}{x:V}{r:List Int}(h:l7 D H0 H x r):l7 D H0 (upd H D o) x r:=by
 obtain⟨b,e,n,z,h⟩:=h;exact⟨b,e,n,z,by rw[ak n];exact h⟩
def l7.is{D:Addr}{H0 H:Hp}{x:V}{r:List Int}(h:l7 D H0 H x r):ED H x r:=by
 obtain⟨b,e,_,_,h⟩:=h;exact⟨b,e,h⟩
end Ring
namespace L2
open PySem PySem.Spec PyProof.Rows
def IU(lo:Int)(n:Nat):It:=⟨λi _=>i<n,λi H x H'=>H' = H/\x = .int (lo+(i:Nat)*2),λi _=>n<=i⟩
def AH{P:Program}{w:World}{K:bM}{tg:Expr}(I0:Addr)(lo:Int)(n:Nat):Turn P w K tg (IU lo n) [I0] I0 (λi h=>IsRangeIter h I0 (lo+(i:Nat)*2) ((n:Int)-(i:Nat)) 2):=by
 have one:∀{b:Addr},b∈[I0]->b=I0:=λhb=>by simpa using hb
 refine⟨by simp,λi h st b hb=>?_,λi h h' st k=>k I0 (by simp) _ st,?_,?_,λ_ _ _ _ _ st h=>wpAny_pyIter_rangeiter st h⟩
 ·cases one hb;exact⟨_,st,λv z=>nomatch (show Data.fields _=Data.cell v from z)⟩
 ·rintro X rfl rfl rfl hc i pq s σ H E I hf st hg;have f:=hf I0 (by simp)
  refine(Walks.range (prog:=X.prog) (w:=X.w) (I.ok.hd hc) I0 lo 2 n).item i s _ _ hg st λv h' tk ⟨t,hv⟩ st' kk=>?_
  subst hv;exact⟨_,rfl,D8 (s:={ s with heap:=h',toks:=tk}) (n:="range_iterator") st' rfl rfl (by decide) ⟨.int (lo+(i:Nat)*2),H,I.turned (λb o hb e=>kk b o (by simpa using hb) e) f.1 f.2.1 f.2.2.2.1 f.2.2.2.2.1 f.2.2.2.2.2,⟨t,rfl⟩,⟨rfl,rfl⟩,st',λb hb=>(hf b hb).1⟩⟩
 ·rintro X rfl rfl rfl hc i pq s σ H E I hf st hg;have f:=hf I0 (by simp)
  have hg:n<=i:=hg;exact wpAny_pyNext_range_end (I.ok.hd hc) st (by lia) λh' eb=>⟨rfl,I.turned (t':=s.toks) (λb o hb e=>eb b o hb e) f.1 f.2.1 f.2.2.2.1 f.2.2.2.2.1 f.2.2.2.2.2⟩
section
variable {X:Cx}{tg:Expr}
def F0{pq:aV}{σ:St}{H:Hp}{s:Shared}{R:It->Hp->Prop}{E:di}{i j:Int}{r:Addr}{t u v:Tok}(I:Inv X pq σ H s)(hr:IsRange s.heap r i j 2 t u v)(q1:0<=i)(q2:i<1073741824)(q3:0<=j)(q4:j<1073741824)
 (q:R (IU i ((j-i+1)/2).toNat) H):wpAny (model X.prog X.w) X.A (pyIter (.ref r)) (UL X pq σ tg R) E s:=by
 have hsz:Builtin.Range.rangeSize i j 2=(((j-i+1)/2).toNat:Int):=by
  unfold Builtin.Range.rangeSize;rw[aad (by decide)]
  split<;>lia
 refine wpAny_pyIter_range hr ?_ ?_
 ·unfold Builtin.Range.small;rw[hsz];simp only[Builtin.Range.rangeFitsLong,aaI,Bool.or_eq_true,decide_eq_true_eq,beq_iff_eq,show(2:Int) > 0 by decide,if_true]
  lia
 refine⟨_,[s.heap.objs.size],_,_,H,rfl,I.kept (t':=s.toks) λb o e=>aai _ e,AH _ i ((j-i+1)/2).toNat,?_,λb hb=>?_,q⟩
 ·show IsRangeIter _ _ (i+((0:Nat):Int)*2) (((((j-i+1)/2).toNat:Nat):Int)-((0:Nat):Int)) 2;rw[<-hsz,show i+((0:Nat):Int)*2=i by simp,show Builtin.Range.rangeSize i j 2-((0:Nat):Int)=Builtin.Range.rangeSize i j 2 by simp]
  exact aaB _ rfl
 ·have e:b=s.heap.objs.size:=by simpa using hb
  subst e;exact I.zW (aae _) (I.hok.fresh (aae _))
def R8(ta:TA):TI:=λσ H R=>ta σ H λvs H1=>∃i j:Int,vs=[.int i,.int j,.int 2]/\(0<=i/\i<1073741824/\0<=j/\j<1073741824)/\R (IU i ((j-i+1)/2).toNat) H1
def xF{a b c:Expr}{ta:TA}{p pos:Pos}(hg:Gl X "range")(hm:X.mg "range"=none)(ha:PA X [a,b,c] ta)(hs:starEach [a,b,c] X.env=[(false,eval a X.env),(false,eval b X.env),(false,eval c X.env)]:=by rfl)(hs2:starEach [b,c] X.env=[(false,eval b X.env),(false,eval c X.env)]:=by rfl):
 PI X tg (.Call (.Name "range" p) [a,b,c] [] pos) (R8 ta):=by
 intro pq s σ H R I h;refine Call_ (jD I hg hm boot_range (abp (cW (ha pos pq s σ H _ I h) λus s1 ⟨vs,H1,I1,r1,q1⟩=>?_) (by rw[hs,hs2]) (by rw[hs2];rfl)))
 obtain⟨i,j,e,⟨q1,q2,q3,q4⟩,q⟩:=q1;subst e;cases r1 with
 | cons r rr =>
   cases rr with
   | cons r' rr =>
     cases rr with
     | cons r'' rr =>
       cases rr;obtain⟨t,rfl⟩:=r;obtain⟨t',rfl⟩:=r';obtain⟨t'',rfl⟩:=r'';exact call_range_3 (by decide) (F0 (I1.kept λb o e=>aai _ e) (IsRange.new ..) q1 q2 q3 q4 q) (.inl (PyProof.noPylong_small (by lia)))
def VA(K:bM)(hc:X.calm=true)(hK:X.K=K:=by rfl):gw X (.builtin "max") (λxs H Q=>∃(a:Addr) (i j:Int),xs=[.ref a]/\bg K H a [.int i,.int j]/\∀z,i<=z->j<=z->(z=i\/z=j)->Q (.int z) H):=by
 subst hK;intro pq s σ H xs us Q I r h;obtain⟨a,i,j,rfl,ha,q⟩:=h;obtain⟨u,rfl,rx⟩:=vals1 r;cases rx;obtain⟨its,rv,p,hz⟩:=I.tuple ha;obtain⟨t,t',rfl⟩:∃t t',its=[.int i t,.int j t']:=by
  cases rv with
  | cons r rr =>
    cases rr with
    | cons r' rr =>
      cases rr;obtain⟨t,rfl⟩:=r;obtain⟨t',rfl⟩:=r';exact⟨t,t',rfl⟩
 have hT:s.heap.IsTuple a (intItems #[(i,t),(j,t')]):=by
  rw[show intItems #[(i,t),(j,t')] = #[.int i t,.int j t'] by simp[intItems]]
  exact p
 have hlt:a<s.heap.objs.size:=by obtain⟨_,e,_⟩:=hT;exact aaq e
 have W:=Walks.tuple (prog:=X.prog) (w:=X.w) (A:=X.A.in1) (I.ok.hd hc) s.heap.objs.size a (aaK hlt) (intItems #[(i,t),(j,t')]);refine call_max_walk (wpAny_pyIter_tuple hT ⟨_,_,_,_,_,_,_,rfl,W,⟨⟨_,aaB _ rfl,rfl,rfl⟩,hT.push _⟩,λc hc=>?_,by simp[intItems],CmpOf.ints_gt (numAt #[(i,t),(j,t')]) (λ_ _=>intItems_at),λv h' tk hP hk=>?_⟩)
 ·show c<(s.heap.push _).objs.size;rw[adx];simp only[aas,ab7,or_false]at hc;rcases hc with rfl|rfl
  ·exact acj _
  ·exact abI hlt
 ·have kept:∀c o,s.heap.get? c=some o->h'.get? c=some o:=λc o e=>hk c o (λhm=>by have z:=aaq e;rw[aaA.mp hm]at z;exact abr _ z) (aai _ e)
  rw[show(intItems #[(i,t),(j,t')]).size-1=1 by simp[intItems]]at hP
  by_cases hb:j > i
  ·rw[show argBest (λx y=>decide (numAt #[(i,t),(j,t')] x > numAt #[(i,t),(j,t')] y)) 1=1 by simp[argBest,numAt,hb]]at hP
   have e:v = .int j t':=by simpa[intItems]using hP.symm
   subst e;exact⟨.int j,H,I.kept kept,⟨_,rfl⟩,q j (by lia) (by lia) (.inr rfl)⟩
  ·rw[show argBest (λx y=>decide (numAt #[(i,t),(j,t')] x > numAt #[(i,t),(j,t')] y)) 1=0 by simp[argBest,numAt,hb]]at hP
   have e:v = .int i t:=by simpa[intItems]using hP.symm
   subst e;exact⟨.int i,H,I.kept kept,⟨_,rfl⟩,q i (by lia) (by lia) (.inl rfl)⟩
end
section
variable {D:Addr}{g:TG}{tt:TT}{te:TE}{n:Nat}{fr:St}{Q:Hp->Prop}{H1:Hp}
def AI{lo:Int}{m:Nat}(Pv:Nat->List V->Hp->Prop)(h0:Pv 0 [] H1)(hl:∀i acc H,i<=m->Pv i acc H->H D=some (.lst acc)/\acc.length<=i)(hz:m<=sizeLine)
 (hs:∀i acc H,i<m->Pv i acc H->g (.int (lo+(i:Nat)*2)) (List.replicate n none++fr) H λσ2 H2=>σ2.drop n=fr/\tt σ2 H2 λb H3 =>
  if b=true then te σ2 H3 λv H4=>H4 D=some (.lst acc)/\Pv (i+1) (acc++[v]) (upd H4 D (.lst (acc++[v]))) else Pv (i+1) acc H3)
 (hd:∀acc H,Pv m acc H->Q H):eW (IU lo m) g tt te n fr D Q H1:=by
 refine⟨λi k acc H=>k=m-i/\i<=m/\Pv i acc H,⟨m,by simp,aaN _,h0⟩,?_⟩
 rintro i k acc H ⟨rfl,hi,p⟩;obtain⟨hD,ha⟩:=hl i acc H hi p;rcases adH i m with hlt|hge
 ·refine⟨hD,.inr ⟨hlt,by lia,Pv (i+1),λacc' H' p'=>⟨m-(i+1),by lia,rfl,hlt,p'⟩,?_⟩⟩
  rintro x H' ⟨rfl,rfl⟩;exact hs i acc _ hlt p
 ·obtain rfl:i=m:=Nat.le_antisymm hi hge;exact⟨hD,.inl ⟨aae _,hd acc H p⟩⟩
end
def F1{K:bM}{a:Addr}{xs:List V}{g:TG}{tb:TS}{D:Ends}{σ:St}{H:Hp}(Pv:Nat->St->Hp->Prop)(h0:Pv 0 σ H)(hl:∀i σ H,i<=xs.length->Pv i σ H->bg K H a xs)
 (hs:∀i x T σ H,xs[i]?=some x->Pv i σ H->H T=none->g (.ref T) σ (upd H T (.tup [.int (i:Int),x])) λσ2 H2=>tb { D with nx:=Pv (i+1),ct:=Pv (i+1),bk:=D.nx} σ2 H2) (hd:∀σ H,Pv xs.length σ H->D.nx σ H) :
 ∃W:Nat->Nat->St->Hp->Prop,(∃m,W 0 m σ H)/\∀i m σ H,W i m σ H->
   ((FO K a).stop i H/\D.nx σ H)\/((FO K a).go i H/\∃N:St->Hp->Prop,(∀σ' H',N σ' H'->∃m',m'<m/\W (i+1) m' σ' H')/\∀x H',(FO K a).KZ i H x H'->g x σ H' λσ2 H2=>tb { D with nx:=N,ct:=N,bk:=D.nx} σ2 H2):=by
 refine⟨λi m σ H=>m=xs.length-i/\i<=xs.length/\Pv i σ H,⟨xs.length,by simp,aaN _,h0⟩,?_⟩
 rintro i m σ H ⟨rfl,hi,p⟩;have q:=hl i σ H hi p
 by_cases hlt:i<xs.length
 ·refine .inr ⟨⟨xs,xs[i],q,by simp[hlt]⟩,Pv (i+1),λσ' H' p'=>⟨xs.length-(i+1),by lia,rfl,hlt,p'⟩,λv H' y=>?_⟩
  obtain⟨T,x,rfl,hT,rfl,y1⟩:=y;exact hs i x T σ _ (y1 xs q) p hT
 ·have e:i=xs.length:=by lia
  subst e;exact .inl ⟨⟨xs,q,rfl⟩,hd σ H p⟩
end L2
namespace Ring
open PySem L2
def oV:Option Int->V
 | none=>.dS
 | some i=>.int i
abbrev Pr:=Option Int×Option Int
def sel(q:Pr)(u:Bool):Option Int:=if u=true then q.2 else q.1
def Mc(R:List Pr)(i:Nat):Pr:=R.getD i (none,none)
def iY(H:Hp)(x:V)(q:Pr):Prop:=∃b,x = .ref b/\H b=some (.tup [oV q.1,oV q.2])
def RowW(H:Hp)(x:V)(R:List Pr):Prop:=∃b ys,x = .ref b/\H b=some (.tup ys)/\Paired (iY H) ys R
def l8(H:Hp)(b:Addr)(W:List (List Pr)):Prop:=∃ys,H b=some (.tup ys)/\Paired (RowW H) ys W
def iY.same{H H' : Hp}(s:aq H H'){x:V}{q:Pr}(h:iY H x q):iY H' x q:=let⟨b,e,z⟩:=h;⟨b,e,s _ _ z⟩
def RowW.same{H H' : Hp}(s:aq H H'){x:V}{R:List Pr}(h:RowW H x R):RowW H' x R:=let⟨b,ys,e,z,pr⟩:=h;⟨b,ys,e,s _ _ z,Paired.imp' (λ_ _ z=>z.same s) pr⟩
def l8.same{H H' : Hp}(s:aq H H'){b:Addr}{W:List (List Pr)}(h:l8 H b W):l8 H' b W:=let⟨ys,z,pr⟩:=h;⟨ys,s _ _ z,Paired.imp' (λ_ _ z=>z.same s) pr⟩
def iY.tups{H H' : Hp}(s:dJ H H'){x:V}{q:Pr}(h:iY H x q):iY H' x q:=let⟨b,e,z⟩:=h;⟨b,e,s _ _ z⟩
def RowW.tups{H H' : Hp}(s:dJ H H'){x:V}{R:List Pr}(h:RowW H x R):RowW H' x R:=let⟨b,ys,e,z,pr⟩:=h;⟨b,ys,e,s _ _ z,Paired.imp' (λ_ _ z=>z.tups s) pr⟩
end Ring
namespace L2
open PySem PySem.Spec PyProof.Rows
def Me{X:Cx}:kG X (binaryOp .LShift) (rI (λi j=>0<=j/\j<=1000000/\i.natAbs<2^1000) λi j=>.int (i*2^j.toNat)):=Ln λi j _ _ _ _ _ hc q=>by
 refine lshift_int hc.1 ?_ q;have hb:Builtin.Int.intBits i<=1000:=intBits_le hc.2.2;have:=hc.2.1
 lia
end L2
namespace RM
variable {N:Net}{m t0:Nat}
def Net.QA(N:Net)(t v:Nat):Nat:=if N.a t=v then N.b t else N.a t
def Net.qj(N:Net)(left v:Nat):List Nat:=(List.range N.n).filter λt=>left.testBit t&&(decide (N.a t=v) || decide (N.b t=v))
def dN{left v t:Nat}:t∈N.qj left v↔t<N.n/\left.testBit t=true/\(N.a t=v\/N.b t=v):=by
 unfold Net.qj;rw[aaC,aax,aaI,Bool.or_eq_true,decide_eq_true_eq,decide_eq_true_eq]
inductive Wk(N:Net)(m t0:Nat):List (Nat×Int)->Nat->Nat->Prop
 | start:Wk N m t0 [(t0,1)] (N.b t0) (m^^^2^t0)
 | next {acc:List (Nat×Int)} {v left t:Nat} (h:Wk N m t0 acc v left) (h0:left≠0) (ht:(N.qj left v)[0]?=some t):Wk N m t0 (acc++[(t,if N.a t=v then 1 else -1)]) (N.QA t v) (left^^^2^t)
def uh{t v:Nat}(h:N.a t=v\/N.b t=v):(N.a t=v/\N.b t=N.QA t v)\/(N.b t=v/\N.a t=N.QA t v):=by
 unfold Net.QA
 by_cases e:N.a t=v
 ·rw[aad e];exact .inl ⟨e,rfl⟩
 ·rw[aab e];rcases h with h|h
  ·exact absurd h e
  ·exact .inr ⟨h,rfl⟩
def IV{pre ks:List Nat}{v left:Nat}(h:Way N m pre v ks left)(hz:∀k,m.testBit k=true->k∈ks):left=0:=by
 apply aaS;intro k;rw[h.o5,abg];cases hb:m.testBit k with
 | false=>rfl
 | true=>rw[cF (hz k hb)];rfl
def mZ{pre ks:List Nat}{v left:Nat}(r:N.Ring m)(h:Way N m pre v ks left)(h0:left≠0):v∉pre:=λhv=>by
 obtain⟨i,hi⟩:=aa3 hv;obtain⟨q0,qe,_,qs⟩:=h.closes hi;rcases r.2.2 _ qs qe with z|z
 ·exact q0 z
 ·refine h0 (IV h λk hk=>?_)
  rw[<-z,Ring.kU]at hk;exact adp (jB hk)
def IW(hm:m<2^N.n)(r:N.Ring m)(hb:m.testBit t0=true){acc:List (Nat×Int)}{v left:Nat}(h:Wk N m t0 acc v left):∃pre,Way N m pre v (acc.map (·.1)) left/\pre[0]?=some (N.a t0):=by
 induction h with
 | start =>
   refine⟨[N.a t0],?_,rfl⟩;exact(Way.start hm r.2.1 hb).go (by simp) hb (.inl ⟨rfl,rfl⟩)
 | next h h0 ht ih =>
   obtain⟨pre,w,p0⟩:=ih;have hm2:=dN.mp (iq ht);refine⟨_,by rw[aat];exact w.go (mZ r w h0) hm2.2.1 (uh hm2.2.2),?_⟩
   rw[aaE (by have:=(jf.mp p0).1;exact this)]
   exact p0
def R9(hm:m<2^N.n)(r:N.Ring m)(hb:m.testBit t0=true){acc:List (Nat×Int)}{v left:Nat}(h:Wk N m t0 acc v left)(h0:left≠0):∃t,(N.qj left v)[0]?=some t:=by
 obtain⟨pre,w,_⟩:=IW hm r hb h;obtain⟨t,h1,h2⟩:=w.on (mZ r w h0);have ht:t<N.n:=bR w.L5 h1;have hmem:t∈N.qj left v:=dN.mpr ⟨ht,h1,h2⟩;cases e:N.qj left v with
 | nil=>rw[e]at hmem;cases hmem
 | cons x l=>exact⟨x,rfl⟩
def IX(hm:m<2^N.n)(r:N.Ring m)(hb:m.testBit t0=true){acc:List (Nat×Int)}{v left:Nat}(h:Wk N m t0 acc v left):left=0↔v=N.a t0:=by
 obtain⟨pre,w,p0⟩:=IW hm r hb h
 constructor
 ·intro z;apply aap;intro hne;have Vy:v<N.p:=w.Vx v (by simp)
  have hb0:=w.w.bd 0 (N.a t0) (by rw[aaE (jf.mp p0).1];exact p0) v
  rw[ady,eI (λe=>hne e.symm),cF rfl]at hb0
  have hx:m^^^Ring.orM (acc.map (·.1))=0:=by rw[<-w.sO];exact z
  have e:Ring.orM (acc.map (·.1))=m:=by
   have e2:m^^^(m^^^Ring.orM (acc.map (·.1)))=m^^^0:=by rw[hx]
   rw[<-abh,abD,abj,abE]at e2;exact e2
  rw[e,r.2.1 v Vy]at hb0;cases hb0
 ·intro z;apply aap;intro h0;exact mZ r w h0 (by rw[z];exact iq p0)
def AJ{left t n:Nat}(ht:t<n)(hb:left.testBit t=true):cnt (λj=>left.testBit j) n=cnt (λj=>(left^^^2^t).testBit j) n+1 :=
 tW (h:=t) hb ht λx _=>by
  rw[aam,aaw]
  by_cases e:x=t
  ·subst e;simp[hb]
  ·rw[eI e,eI (λz=>e z.symm)]
   simp
def yL(hm:m<2^N.n)(hb:m.testBit t0=true){acc:List (Nat×Int)}{v left:Nat}(h:Wk N m t0 acc v left):acc.length+cnt (λj=>left.testBit j) N.n=cnt (λj=>m.testBit j) N.n:=by
 induction h with
 | start =>
   have:=AJ (bR hm hb) hb;show 1+_=_
   lia
 | next h h0 ht ih =>
   have hm2:=dN.mp (iq ht);have:=AJ hm2.1 hm2.2.1;rw[aah,aaU]
   lia
variable {N:Net}{m t0:Nat}
def o7(hb:m.testBit t0=true){acc:List (Nat×Int)}{v left:Nat}(h:Wk N m t0 acc v left):∀k,left.testBit k=(m.testBit k && !decide (k∈acc.map (·.1))):=by
 induction h with
 | start =>
   intro k;rw[aam,aaw]
   by_cases e:t0=k
   ·subst e;simp[hb]
   ·have e' : ¬ k=t0:=λz=>e z.symm
    simp[e,e']
 | @next acc v left t h h0 ht ih =>
   intro k;have hm2:=dN.mp (iq ht);have hin:=hm2.2.1;rw[ih t]at hin;rw[aam,aaw,ih k,aat]
   by_cases e:t=k
   ·subst e;rw[hin];simp
   ·have e' : ¬ k=t:=λz=>e z.symm
    have e3:(k∈acc.map (·.1)++[(t,if N.a t=v then(1:Int) else -1)].map (·.1))↔k∈acc.map (·.1):=by simp[e']
    rw[show decide (k∈acc.map (·.1)++[(t,if N.a t=v then(1:Int) else -1)].map (·.1))=decide (k∈acc.map (·.1)) from aa9.mpr e3]
    simp[e]
def C5(hm:m<2^N.n)(hb:m.testBit t0=true){acc:List (Nat×Int)}{v left:Nat}(h:Wk N m t0 acc v left):left<2^N.n:=cL λk hk=>by
 rw[o7 hb h k,aaI]at hk;exact bR hm hk.1
def IY{left n:Nat}(hl:left<2^n):cnt (λj=>left.testBit j) n=0↔left=0:=by
 constructor
 ·intro h;apply aap;intro h0;obtain⟨j,hj⟩:=abx h0;have:=oZ (f:=λj=>left.testBit j) hj (bR hl hj)
  lia
 ·rintro rfl;rw[iX];refine(g7 λk _=>?_).trans (sM n)
  rw[aab (by rw[abg];simp)]
def Mf(hm:m<2^N.n)(hb:m.testBit t0=true){acc:List (Nat×Int)}{v left:Nat}(h:Wk N m t0 acc v left):acc.length=cnt (λj=>m.testBit j) N.n↔left=0:=by
 have:=yL hm hb h;rw[<-IY (C5 hm hb h)]
 lia
end RM
namespace Ring
open PySem L2
def IZ{H:Hp}{xs:List V}{p:Nat}{ts:List cC}{g:aA p ts}{k:Nat}(h3:Paired (TupAt H) xs ts)(hk:k<ts.length):∃c,xs[k]?=some (.ref c)/\H c=some (.tup [.int ((g.N.a k:Nat):Int),.int ((g.N.b k:Nat):Int),.int (aX ts k).2.2]):=by
 have hkx:k<xs.length:=by rw[h3.length];exact hk
 obtain⟨t,ht,c,hc,hct⟩:=Paired.nX h3 (i:=k) (x:=xs[k]) (by simp[hkx])
 have Sa:t=aX ts k:=by
  have z:=qf hk;rw[ht]at z;exact Option.some.inj z
 refine⟨c,by rw[<-hc];simp[hkx],?_⟩
 rw[hct,<-Es hk,<-Et hk,Sa];rfl
end Ring
namespace RM
variable {N:Net}{row ZT:Nat->Int}
def xG{m t0:Nat}(hm:m<2^N.n)(r:N.Ring m)(hb:m.testBit t0=true):∃acc v,Wk N m t0 acc v 0:=by
 have key:∀(k:Nat) (acc:List (Nat×Int)) (v left:Nat),Wk N m t0 acc v left->cnt (λj=>left.testBit j) N.n=k->∃acc v,Wk N m t0 acc v 0:=by
  intro k
  induction k with
  | zero =>
    intro acc v left h e;have hl:=yL hm hb h;rw[e]at hl;have h0:=(Mf hm hb h).mp hl;subst h0;exact⟨acc,v,h⟩
  | succ k ih =>
    intro acc v left h e
    by_cases h0:left=0
    ·subst h0;exact⟨acc,v,h⟩
    ·obtain⟨t,ht⟩:=R9 hm r hb h h0;have h':=Wk.next h h0 ht;have l1:=yL hm hb h;have l2:=yL hm hb h';rw[aah]at l2;refine ih _ _ _ h' ?_;have e1:[((t:Nat),(if N.a t=v then(1:Int) else -1))].length=1:=rfl
     lia
 exact key _ _ _ _ .start rfl
variable {N' : Net}
end RM
namespace L2
open PySem PySem.Spec PyProof.Rows PySem.W
def vM(n:Nat){α:Type}(R:α->Prop):KasT α->Prop
 | .ret a=>R a
 | .ask i j k=>i<n/\j<n/\∀b,vM n R (k b)
def vM.bind{n:Nat}{α β:Type}{R:α->Prop}{R' : β->Prop}{f:α->KasT β}:∀{t:KasT α},vM n R t->(∀a,R a->vM n R' (f a))->vM n R' (t.bind f)
 | .ret a,h,g=>by
   rw[KasT.bind.eq_1];exact g a h
 | .ask i j k,h,g=>by
   rw[KasT.bind.eq_2];exact⟨h.1,h.2.1,λb=>vM.bind (h.2.2 b) g⟩
def cT(n:Nat)(p:Array Nat):Prop:=p.toList.Perm (List.range n)
def cT.at{n:Nat}{p:Array Nat}(h:cT n p)(hn:0<n)(x:Nat):p.getD x 0<n:=by
 unfold Array.getD
 split
 ·rename_i hx
  have:p[x]∈p.toList:=by simp
  exact aax.mp (h.mem_iff.mp this)
 ·exact hn
def F2{n:Nat}{p:Array Nat}(h:cT n p)(i j:Nat):cT n (p.swapIfInBounds i j):=by
 unfold Array.swapIfInBounds
 split
 ·split
  ·exact(Array.perm_iff_toList_perm.mp (Array.swap_perm _ _)).trans h
  ·exact h
 ·exact h
def qk{n:Nat}(f g:Nat->Nat):∀(l:List Nat) {p:Array Nat},cT n p->cT n (l.foldl (λa k=>a.swapIfInBounds (f k) (g k)) p)
 | [],_,h=>h
 | k::l,_,h=>qk f g l (F2 h (f k) (g k))
def l9{n:Nat}{p:Array Nat}(h:cT n p)(i j:Nat):cT n (kas_rev p i j):=qk _ _ _ h
def Ja{n:Nat}{p:Array Nat}(h:cT n p)(i j:Nat):cT n (bubble p i j):=qk _ _ _ h
def C6{n:Nat}{p:Array Nat}(h:cT n p)(hn:0<n):∀f x,vM n (λ_=>True) (kas_asc p f x)
 | 0,x=>by
   rw[kas_asc.eq_1];trivial
 | f+1,x=>by
   rw[kas_asc.eq_2];refine⟨h.at hn _,h.at hn _,λb=>?_⟩
   cases b with
   | true=>trivial
   | false=>exact C6 h hn f (x+1)
def sQ{n:Nat}(hn:0<n):∀f {p:Array Nat} (x q:Nat),cT n p->vM n (λr:Array Nat×Nat×Nat=>cT n r.1) (kas_desc f p x q)
 | 0,p,x,q,h=>by
   rw[kas_desc.eq_1];exact h
 | f+1,p,x,q,h=>by
   rw[kas_desc.eq_2];refine⟨h.at hn _,h.at hn _,λb=>?_⟩
   cases b with
   | true =>
     show vM n _ (if q > 0 then _ else _)
     by_cases hq:q > 0
     ·rw[aad hq];exact sQ hn f _ _ (l9 h _ _)
     ·rw[aab hq];exact sQ hn f _ _ h
   | false =>
     refine⟨h.at hn _,h.at hn _,λb=>?_⟩
     cases b with
     | true=>exact h
     | false=>exact sQ hn f _ _ h
def EF{n:Nat}(hn:0<n){p:Array Nat}(h:cT n p)(x r:Nat):vM n (λr:Nat×Array Nat=>cT n r.2) (kas_tail3 x r p) :=
 vM.bind (C6 (l9 h _ _) hn _ _) λ_ _=>l9 h _ _
def EG{n:Nat}(hn:0<n){p:Array Nat}(h:cT n p)(x r:Nat):vM n (λr:Nat×Array Nat=>cT n r.2) (kas_descPart x r p):=by
 refine vM.bind (sQ hn _ _ _ h) λy hy=>?_
 by_cases hq:y.2.2 > 0
 ·rw[aad hq];exact EF hn (l9 hy _ _) _ _
 ·rw[aab hq];exact EF hn hy _ _
def Jb{n:Nat}(hn:0<n){p:Array Nat}(h:cT n p)(r:Nat):vM n (λr:Nat×Array Nat=>cT n r.2) (kas_count r p):=by
 refine vM.bind (C6 h hn _ _) λy _=>?_
 by_cases h1:(y==r)=true
 ·rw[aad h1];exact h
 ·rw[aab h1]
  by_cases h2:y > 1
  ·rw[aad h2];refine⟨h.at hn _,h.at hn _,λb=>?_⟩
   cases b with
   | true=>exact h
   | false=>exact EG hn (l9 h _ _) _ _
  ·rw[aab h2];exact EG hn h _ _
def um{n:Nat}(hn:0<n){p:Array Nat}(h:cT n p)(k:Nat):∀f x y,vM n (λ_=>True) (kas_place p k f x y)
 | 0,x,y=>by
   rw[kas_place.eq_1];trivial
 | f+1,x,y=>by
   rw[kas_place.eq_2]
   by_cases hx:x ≥ y
   ·rw[aad hx];trivial
   ·rw[aab hx];refine⟨h.at hn _,h.at hn _,λb=>?_⟩
    cases b with
    | true=>exact um hn h k f _ _
    | false=>exact um hn h k f _ _
def Jc{n:Nat}(hn:0<n):∀f {p:Array Nat} (x:Nat),cT n p->vM n (cT n) (kas_bin f p x)
 | 0,p,x,h=>by
   rw[kas_bin.eq_1];exact h
 | f+1,p,x,h=>by
   rw[kas_bin.eq_2];exact vM.bind (um hn h _ _ _ _) λl _=>Jc hn f _ (Ja h _ _)
def Mg{n:Nat}(hn:0<n):vM n (cT n) (kas_sort n):=by
 unfold kas_sort;have h0:cT n (List.range n).toArray:=by unfold cT;simp
 refine vM.bind (Jb hn h0 n) λr hr=>?_
 by_cases hx:r.1<n
 ·rw[aad hx];exact Jc hn _ _ hr
 ·rw[aab hx];exact hr
def NG(h:Heap)(v:Value):Prop:=∃(a:Addr) (o:Obj) (x y:Int) (t u:Tok) (k:Nat),v = .ref a/\h.get? a=some o/\o.cls = .type "tuple"/\o.data = .seq #[.int x t,.int y u] k
def F3{prog:Program}{w:World}{A:Around}{E:di}{s:Shared}{vs:List Value}{Q:SortKind->Shared->Prop}(hn:0<vs.length)(hv:∀v∈vs,NG s.heap v)(q:Q (tuples' true) s):wpAny (model prog w) A (keyKind' vs.toArray) Q E s:=by
 obtain⟨fs,hl,hf,hk⟩:∃fs:List Value,fs.length=vs.length/\(∀v∈fs,∃x t,v=Value.int x t)/\KatTups s.heap vs fs:=by
  clear q hn
  induction vs with
  | nil=>exact⟨[],rfl,λv hv=>(by cases hv),by rw[KatTups.eq_1];trivial⟩
  | cons v vs ih =>
    obtain⟨fs,h1,h2,h3⟩:=ih λv Jd=>hv v (nR _ Jd)
    obtain⟨a,o,x,y,t,u,k,e,ho,hc,hd⟩:=hv v aar;refine⟨.int x t::fs,by simp[h1],λv' Jd=>?_,?_⟩
    ·rcases aas.mp Jd with rfl|Jd
     ·exact⟨x,t,rfl⟩
     ·exact h2 v' Jd
    ·rw[KatTups.eq_2];exact⟨⟨a,o,_,k,e,ho,hc,hd,rfl⟩,h3⟩
 refine kat_kind (T:=.type "int") hk (by lia) (λv hv=>?_) (by decide) q
 obtain⟨x,t,rfl⟩:=hf v hv;intro A Q E s _ q;exact aag q
end L2
namespace RM
variable {N:Net}{row:Nat->Int}
def ko:∀{l L:List Nat},l.Nodup->(∀x∈l,x∈L)->l.length<=L.length
 | [],_,_,_=>aaN _
 | x::l,L,nd,h=>by
   have hx:=h x aar;have T7:=aa6.mp nd;have:=ko (L:=L.erase x) T7.2 λy hy=>(List.mem_erase_of_ne (λz:y=x=>T7.1 (by rw[<-z];exact hy))).mpr (h y (nR _ hy))
   rw[List.length_erase_of_mem hx]at this;have:=List.length_pos_of_mem hx;rw[abc]
   lia
def code(m:Nat):List Nat->Nat
 | []=>0
 | c::cs=>(if m.testBit c=true then 1 else 0)+2*code m cs
def yM(m:Nat):∀cs,code m cs<2^cs.length
 | []=>Nat.one_pos
 | c::cs=>by
   have:=yM m cs;unfold code;rw[abc,abT]
   split<;>lia
def code_inj{m q:Nat}:∀{cs},code m cs=code q cs->∀c∈cs,m.testBit c=q.testBit c
 | [],_,c,hc=>by cases hc
 | d::cs,h,c,hc=>by
   unfold code at h;have h1:m.testBit d=q.testBit d:=by
    cases hm:m.testBit d<;>cases hq:q.testBit d
    ·rfl
    ·rw[hm,hq,aab aal,aad rfl]at h;lia
    ·rw[hm,hq,aab aal,aad rfl]at h;lia
    ·rfl
   rcases aas.mp hc with rfl|hc
   ·exact h1
   ·rw[h1]at h;exact code_inj (by lia) c hc
def F4{l:List Nat}(nd:l.Nodup)(h:∀m∈l,m<2^N.n/\N.Ring m):l.length<2^N.ah.length:=by
 have inj:∀m q,m<2^N.n->q<2^N.n->N.bL m->N.bL q->code m N.ah=code q N.ah->m=q:=λm q hm hq em eq e=>kh hm hq em eq λc hc hf=>code_inj e c (aY.mpr ⟨hc,hf⟩)
 have VB:((0:Nat)::l.map λm=>code m N.ah).Nodup:=by
  refine aa6.mpr ⟨λz=>?_,?_⟩
  ·obtain⟨m,hm,e⟩:=aaH.mp z;obtain⟨h1,h2⟩:=h m hm;have e0:code 0 N.ah=0:=by
    have:∀cs,code 0 cs=0:=λcs=>by
     induction cs with
     | nil=>rfl
     | cons c cs ih =>
       unfold code;rw[abg,ih,aab aal]
    exact this _
   exact h2.1 (inj m 0 h1 (aa0 _) h2.2.1 bL.zero (by rw[e,e0]))
  ·refine adC _ (λa b (hab:a≠b/\a∈l/\b∈l)=>?_) ?_ (R:=λa b=>a≠b/\a∈l/\b∈l)
   ·obtain⟨h1,h2⟩:=h a hab.2.1;obtain⟨h3,h4⟩:=h b hab.2.2;exact λe=>hab.1 (inj a b h1 h3 h2.2.1 h4.2.1 e)
   ·exact abZ (λ{a b} ha hb hne=>⟨hne,ha,hb⟩) nd
 have:=ko (L:=List.range (2^N.ah.length)) VB λx hx=>by
  refine aax.mpr ?_;rcases aas.mp hx with rfl|hx
  ·exact aa0 _
  ·obtain⟨m,_,rfl⟩:=aaH.mp hx;exact yM _ _
 rw[abc,aac,aay]at this
 lia
variable {N:Net}{m t0:Nat}
inductive Goes(N:Net):Nat->List (Nat×Int)->Nat->List Nat->Prop
 | nil {u:Nat}:Goes N u [] u []
 | Mh {t v:Nat} {acc:List (Nat×Int)} {pV:List Nat} (h:Goes N (N.b t) acc v pV):Goes N (N.a t) ((t,1)::acc) v (N.a t::pV)
 | back {t v:Nat} {acc:List (Nat×Int)} {pV:List Nat} (h:Goes N (N.a t) acc v pV):Goes N (N.b t) ((t,-1)::acc) v (N.b t::pV)
def Goes.snoc{u v t v' : Nat}{y:Int}{acc:List (Nat×Int)}{pV:List Nat}(h:Goes N u acc v pV)(hj:(N.a t=v/\y=1/\v' = N.b t)\/(N.b t=v/\y = -1/\v' = N.a t)):Goes N u (acc++[(t,y)]) v' (pV++[v]):=by
 induction h with
 | nil =>
   rcases hj with⟨rfl,rfl,rfl⟩|⟨rfl,rfl,rfl⟩
   ·exact .Mh .nil
   ·exact .back .nil
 | Mh h ih=>exact .Mh (ih hj)
 | back h ih=>exact .back (ih hj)
def Mi(hm:m<2^N.n)(r:N.Ring m)(hb:m.testBit t0=true){acc:List (Nat×Int)}{v left:Nat}(h:Wk N m t0 acc v left):∃pre,Way N m pre v (acc.map (·.1)) left/\Goes N (N.a t0) acc v pre:=by
 induction h with
 | start =>
   refine⟨[N.a t0],?_,.Mh .nil⟩;exact(Way.start hm r.2.1 hb).go (by simp) hb (.inl ⟨rfl,rfl⟩)
 | @next acc v left t h h0 ht ih =>
   obtain⟨pre,w,p0⟩:=ih;have hm2:=dN.mp (iq ht);refine⟨_,by rw[aat];exact w.go (mZ r w h0) hm2.2.1 (uh hm2.2.2),p0.snoc ?_⟩
   unfold Net.QA
   by_cases e:N.a t=v
   ·exact .inl ⟨e,aad e,aad e⟩
   ·exact .inr ⟨hm2.2.2.resolve_left e,aab e,aab e⟩
def Je(hb:m.testBit t0=true){acc:List (Nat×Int)}{v left:Nat}(h:Wk N m t0 acc v left):(acc.map (·.1)).Nodup:=by
 induction h with
 | start=>simp
 | @next acc v left t h h0 ht ih =>
   have hm2:=dN.mp (iq ht);rw[aat];refine acI.mpr ⟨ih,by simp,λx hx y hy=>?_⟩
   have e:y=t:=by simpa using hy
   rw[e];rintro rfl;have:=hm2.2.1;rw[o7 hb h,cF hx,Bool.not_true,aci]at this;cases this
def Mj(hm:m<2^N.n)(r:N.Ring m)(hb:m.testBit t0=true){acc:List (Nat×Int)}{v:Nat}(h:Wk N m t0 acc v 0):(acc.map (·.1)).Perm ((List.range N.n).filter λk=>m.testBit k):=by
 refine(acU (Je hb h) (abM _ ab6)).mpr λk=>?_
 obtain⟨pre,w,_⟩:=Mi hm r hb h;rw[aaC,aax]
 constructor
 ·exact λz=>⟨bR hm (w.sub k z),w.sub k z⟩
 ·rintro⟨_,z⟩;have:=o7 hb h k;rw[abg,z,aa7]at this;cases e:decide (k∈acc.map (·.1)) with
  | true=>exact jB e
  | false=>rw[e]at this;cases this
variable {N:Net}
inductive Sp(B:List Nat):Nat->Prop
 | zero:Sp B 0
 | add {x b:Nat} (h:Sp B x) (hb:b∈B):Sp B (x^^^b)
section
variable {B C:List Nat}{x y b:Nat}
def Sp.mem(h:b∈B):Sp B b:=by
 have:=Sp.add .zero h;rw[abj]at this;exact this
def Sp.xor(h:Sp B x)(h' : Sp B y):Sp B (x^^^y):=by
 induction h' with
 | zero=>rw[abE];exact h
 | add _ hb ih=>rw[<-abh];exact .add ih hb
def Sp.mono(h:Sp B x)(hc:∀b∈B,Sp C b):Sp C x:=by
 induction h with
 | zero=>exact .zero
 | add _ hb ih=>exact ih.xor (hc _ hb)
def qm(x b:Nat):x^^^b^^^b=x:=by rw[abh,abD,abE]
def Sp.AK:Sp (b::B) x↔Sp B x\/Sp B (x^^^b):=by
 constructor
 ·intro h
  induction h with
  | zero=>exact .inl .zero
  | add h hc ih =>
    rename_i x c
    rcases aas.mp hc with e|e
    ·subst e;rcases ih with ih|ih
     ·exact .inr (by rw[qm];exact ih)
     ·exact .inl ih
    ·rcases ih with ih|ih
     ·exact .inl (.add ih e)
     ·exact .inr (by rw[abh,adI c,<-abh];exact .add ih e)
 ·rintro(h|h)
  ·exact h.mono λc hc=>.mem (nR _ hc)
  ·have h2:Sp (b::B) (x^^^b):=h.mono λc hc=>.mem (nR _ hc)
   have:=h2.add (b:=b) aar;rw[qm]at this;exact this
def Sp.lt{n:Nat}(h:Sp B x)(hz:∀b∈B,b<2^n):x<2^n:=by
 induction h with
 | zero=>exact aa0 n
 | add _ hb ih=>exact abb ih (hz _ hb)
end
open Ring (xorL xorL_cons maskOf)
variable {N:Net}
def gR{z:Nat}:N.bL (N.gq z N.ah 0)/\N.gq z N.ah 0<2^N.n:=mX λc hc=>(aY.mp hc).1
def m3:N.ah.Nodup:=abM _ ab6
def kY{z j d:Nat}(h:N.ah[j]?=some d):(N.gq z N.ah 0).testBit d=z.testBit j:=by
 rw[Ao m3 (λc hc=>(aY.mp hc).2) h,ack]
def o8{c:Nat}(hc:c<N.n)(hf:N.fK c=false):∃j:Nat,N.ah[j]?=some c:=aa3 (aY.mpr ⟨hc,hf⟩)
def Jf(z y:Nat):N.gq (z^^^y) N.ah 0=N.gq z N.ah 0^^^N.gq y N.ah 0:=by
 refine kh gR.2 (abb gR.2 gR.2) gR.1 (bL.xor gR.1 gR.1) λc hc hf=>?_
 obtain⟨j,hj⟩:=o8 hc hf;rw[kY hj,aam,aam,kY hj,kY hj]
def O0{m:Nat}(hm:m<2^N.n)(ev:N.bL m):∃z,z<2^N.ah.length/\N.gq z N.ah 0=m:=by
 refine⟨maskOf (λi=>m.testBit (N.ah.getD i 0)) N.ah.length,Ring.mask_lt _ _,kh gR.2 hm gR.1 ev λc hc hf=>?_⟩
 obtain⟨j,hj⟩:=o8 hc hf;rw[kY hj,Ring.mask_bit];have hl:=(jf.mp hj).1;rw[cF hl,aa7,aaa,hj];rfl
def Mk:N.gq 0 N.ah 0=0:=by
 have h:=Jf (N:=N) 0 0;rw[abD,abD]at h;exact h
def m4{c:Nat}(hc:c<N.n)(hf:N.fK c=false):N.Ring (N.ring c):=by
 refine⟨λz=>?_,kc hc,λq hq ev=>?_⟩
 ·have h:=l5 hf;rw[z]at h;simp at h
 ·have hqn:q<2^N.n:=cL λk hk=>bR (mW hc) (hq k hk)
  cases qc:q.testBit c with
  | true =>
    refine .inr (kh hqn (mW hc) ev (kc hc) λd hd hfd=>?_)
    rw[fB hf hfd]
    by_cases e:c=d
    ·subst e;simp[qc]
    ·rw[eI e];cases qd:q.testBit d with
     | false=>rfl
     | true =>
       have:=hq d qd;rw[fB hf hfd,eI e]at this;cases this
  | false =>
    refine .inl (fU (λk hk=>?_) ev)
    rcases kg (hq k hk) with e|e
    ·subst e;rw[qc]at hk;cases hk
    ·exact e
def lsum(L:Nat->Int)(f:Nat->Bool):Nat->Int
 | 0=>0
 | n+1=>lsum L f n+(if f n=true then L n else 0)
section
variable {L:Nat->Int}
def kZ{f g:Nat->Bool}:∀{n:Nat},(∀k,k<n->f k=g k)->lsum L f n=lsum L g n
 | 0,_=>rfl
 | n+1,h=>by
   unfold lsum;rw[kZ λk hk=>h k (by lia),h n (by lia)]
def kq{f:Nat->Bool}:∀{n:Nat},(∀k,k<n->f k=false)->lsum L f n=0
 | 0,_=>rfl
 | n+1,h=>by
   unfold lsum;rw[kq λk hk=>h k (by lia),h n (by lia)]
   simp
def AL{f:Nat->Bool}{a:Nat}:∀{n:Nat},a<n->(∀k,k<n->f k=decide (k=a))->lsum L f n=L a
 | 0,h,_=>by lia
 | n+1,ha,h=>by
   unfold lsum
   by_cases e:a=n
   ·subst e;rw[kq λk hk=>by rw[h k (by lia)];exact eI (by lia),h a (by lia),cF rfl]
    simp
   ·rw[AL (show a<n by lia) λk hk=>h k (by lia),h n (by lia),eI (by lia)]
    simp
def qo{f g:Nat->Bool}:∀{n:Nat},(∀k,k<n->0<=L k)->(∀k,k<n->f k=true->g k=true)->lsum L f n<=lsum L g n
 | 0,_,_=>abL _
 | n+1,hL,h=>by
   unfold lsum;have ih:=qo (n:=n) (λk hk=>hL k (by lia)) λk hk=>h k (by lia)
   have h0:=hL n (by lia)
   have hn:=h n (by lia)
   cases hf:f n with
   | false=>cases g n<;>simp<;>lia
   | true=>rw[hn hf];simp;lia
def AM{f g:Nat->Bool}:∀{n:Nat},(∀k,k<n->0<=L k)->lsum L (λk=>f k^^g k) n<=lsum L f n+lsum L g n
 | 0,_=>abL _
 | n+1,hL=>by
   unfold lsum;have ih:=AM (f:=f) (g:=g) (n:=n) λk hk=>hL k (by lia)
   have h0:=hL n (by lia)
   cases f n<;>cases g n<;>simp<;>lia
def uo{f g:Nat->Bool}:∀{n:Nat},(∀k,k<n->f k=true->g k=false)->lsum L (λk=>f k^^g k) n=lsum L f n+lsum L g n
 | 0,_=>rfl
 | n+1,h=>by
   unfold lsum;rw[uo (f:=f) (g:=g) (n:=n) λk hk=>h k (by lia)]
   have hn:=h n (by lia)
   cases hf:f n with
   | false=>cases g n<;>simp<;>lia
   | true=>rw[hn hf];simp;lia
def uq{k n:Nat}(h:k<n):lsum L (λj=>(2^k).testBit j) n=L k:=AL h λj _=>by
 rw[aaw];exact aa9.mpr eq_comm
end
def n8{m n k:Nat}(h:m<2^n)(hb:m.testBit k=true):k<n:=by
 apply aap;intro hk;rw[aaR (aaj h (aaM (by decide) (by lia)))]at hb
 cases hb
def cd(x:Nat)(s:Bool):Nat:=2*x+s.toNat
def Jn(N:Net)(k v w:Nat):Prop:=(N.a k=v/\N.b k=w)\/(N.b k=v/\N.a k=w)
def Jn.lt{N:Net}{k v w:Nat}(hk:k<N.n)(h:Jn N k v w):w<N.p:=by
 rcases h with⟨_,rfl⟩|⟨_,rfl⟩
 ·exact N.bl k hk
 ·exact N.al k hk
inductive Wl(N:Net)(L:Nat->Int)(m u:Nat):List Nat->Nat->Bool->Int->Nat->Prop
 | nil:Wl N L m u [] u false 0 0
 | go {pre:List Nat} {v w k e:Nat} {s:Bool} {z:Int} (h:Wl N L m u pre v s z e) (hk:k<N.n) (hj:Jn N k v w):Wl N L m u (pre++[cd v s]) w (s^^m.testBit k) (z+L k) (e^^^2^k)
def Wy(N:Net)(L:Nat->Int)(m u x:Nat)(s:Bool)(z:Int):Prop:=∃pre e,Wl N L m u pre x s z e
section
variable {N:Net}{L:Nat->Int}{m u:Nat}
def o9(hL:∀k,k<N.n->0<=L k)(hu:u<N.p){pre:List Nat}{v e:Nat}{s:Bool}{z:Int}(h:Wl N L m u pre v s z e):
 v<N.p/\e<2^N.n/\(∀x,N.bd e x=(decide (u=x)^^decide (v=x)))/\N.par e m=s/\lsum L (λk=>e.testBit k) N.n<=z/\0<=z:=by
 induction h with
 | nil =>
   refine⟨hu,aa0 _,λx=>?_,ki m,?_,abL _⟩
   ·rw[kO];cases decide (u=x)<;>rfl
   ·rw[kq λk _=>abg k]
    exact abL _
 | @go pre v w k e s z h hk hj ih =>
   obtain⟨i1,i2,i3,i4,i5,i6⟩:=ih;have h0:=hL k hk;refine⟨hj.lt hk,abb i2 (ab0 (by decide) hk),λx=>?_,?_,?_,by lia⟩
   ·rw[eR,i3,jF hk];unfold Net.inc;rcases hj with⟨rfl,rfl⟩|⟨rfl,rfl⟩
    ·cases decide (u=x)<;>cases decide (N.a k=x)<;>cases decide (N.b k=x)<;>rfl
    ·cases decide (u=x)<;>cases decide (N.a k=x)<;>cases decide (N.b k=x)<;>rfl
   ·rw[kT,i4,yJ hk]
   ·have:=AM (L:=L) (f:=λj=>e.testBit j) (g:=λj=>(2^k).testBit j) hL
    rw[uq hk]at this;rw[kZ (g:=λj=>e.testBit j^^(2^k).testBit j) λj _=>aam ..]
    lia
def Jg(N:Net)(L:Nat->Int)(m u x:Nat)(s:Bool):Option Int->Prop
 | none=>∀z,¬ Wy N L m u x s z
 | some d=>Wy N L m u x s d/\∀z,Wy N L m u x s z->d<=z
def pe(hL:∀k,k<N.n->0<=L k)(m:Nat){r:Nat}(hr:N.Ring r)(hm:r<2^N.n):∃x,x<N.p/\Wy N L m x x (N.par r m) (lsum L (λk=>r.testBit k) N.n):=by
 obtain⟨t0,hb⟩:∃t0,r.testBit t0=true:=by
  apply aap;intro h;exact hr.1 (aaS λi=>by
   rw[abg];cases e:r.testBit i with
   | false=>rfl
   | true=>exact absurd ⟨i,e⟩ h)
 have T8:t0<N.n:=n8 hm hb;obtain⟨acc,v,w⟩:=xG hm hr hb;have key:∀{acc v left},Wk N r t0 acc v left->(∀k,left.testBit k=true->r.testBit k=true)/\∃pre s,Wl N L m (N.a t0) pre v s (lsum L (λk=>(r^^^left).testBit k) N.n) (r^^^left):=by
  intro acc v left w
  induction w with
  | start =>
    have e:r^^^(r^^^2^t0)=2^t0:=by rw[<-abh,abD,abj]
    refine⟨λk hk=>?_,[]++[cd (N.a t0) false],false^^m.testBit t0,?_⟩
    ·rw[aam,aaw]at hk
     by_cases e:t0=k
     ·rw[<-e];exact hb
     ·rw[eI e,aby]at hk;exact hk
    ·rw[e,uq T8];have:=Wl.go (m:=m) (L:=L) (.nil (u:=N.a t0)) T8 (.inl ⟨rfl,rfl⟩)
     rwa [abl,abj]at this
  | @next acc v left t w h0 ht ih =>
    obtain⟨sub,pre,s,wl⟩:=ih;have hm2:=dN.mp (iq ht);have htr:=sub t hm2.2.1;have K2:=n8 hm htr;refine⟨λk hk=>?_,pre++[cd v s],s^^m.testBit t,?_⟩
    ·rw[aam,aaw]at hk
     by_cases e:t=k
     ·rw[<-e];exact htr
     ·rw[eI e,aby]at hk;exact sub k hk
    ·have e:r^^^(left^^^2^t)=r^^^left^^^2^t:=by rw[abh]
     have hs:lsum L (λk=>(r^^^left^^^2^t).testBit k) N.n=lsum L (λk=>(r^^^left).testBit k) N.n+L t:=by
      rw[kZ (g:=λj=>(r^^^left).testBit j^^(2^t).testBit j) λj _=>aam ..,uo,uq K2]
      intro k _ hk;rw[aaw];refine eI λe=>?_
      subst e;rw[aam,htr,hm2.2.1]at hk;cases hk
     rw[e,hs];exact wl.go K2 (uh hm2.2.2)
 obtain⟨_,pre,s,wl⟩:=key w;rw[abE]at wl;have f:=o9 hL (N.al t0 T8) wl;have hv:N.a t0=v:=by
  have:=f.2.2.1 v;rw[hr.2.1 v f.1,cF (rfl:v=v)]at this;cases h:decide (N.a t0=v) with
  | true=>exact jB h
  | false=>rw[h]at this;cases this
 refine⟨N.a t0,N.al t0 T8,pre,r,?_⟩;have hs:=f.2.2.2.1;rw[hs];rw[<-hv]at wl;exact wl
def C7{m:Nat}:∀(c e:Nat),cnt (λk=>e.testBit k) N.n=c->e<2^N.n->N.bL e->N.par e m=true->∃r,N.Ring r/\(∀k,r.testBit k=true->e.testBit k=true)/\N.par r m=true:=by
 intro c
 induction c using Nat.strongRecOn with
 | _ c ih =>
   intro e hc he ev hp
   by_cases hr:N.Ring e
   ·exact⟨e,hr,λ_ h=>h,hp⟩
   have h0:e≠0:=λz=>by rw[z,ki]at hp;cases hp
   obtain⟨q,hq,QB,q0,qe⟩:∃q,(∀k,q.testBit k=true->e.testBit k=true)/\N.bL q/\q≠0/\q≠e:=by
    apply aap;intro h;refine hr ⟨h0,ev,λq hq QB=>?_⟩
    apply aap;intro h2;exact h ⟨q,hq,QB,λz=>h2 (.inl z),λz=>h2 (.inr z)⟩
   have small:∀q,(∀k,q.testBit k=true->e.testBit k=true)->q≠e->cnt (λk=>q.testBit k) N.n<c:=by
    intro q hq qe;have h1:=CS (f:=λk=>q.testBit k) (g:=λk=>e.testBit k) (n:=N.n) λk _ h=>hq k h
    have h2:cnt (λk=>q.testBit k) N.n≠cnt (λk=>e.testBit k) N.n:=λh=>qe (aaS λk=>by
     by_cases hk:k<N.n
     ·have:=As (f:=λk=>q.testBit k) (g:=λk=>e.testBit k) (λk _ h=>hq k h) h k hk
      cases h3:e.testBit k with
      | true=>exact this h3
      | false=>cases h4:q.testBit k with
        | false=>rfl
        | true=>rw[hq k h4]at h3;cases h3
     ·cases h3:e.testBit k with
      | true=>exact absurd (n8 he h3) hk
      | false=>cases h4:q.testBit k with
        | false=>rfl
        | true=>rw[hq k h4]at h3;cases h3)
    lia
   have lt:∀q,(∀k,q.testBit k=true->e.testBit k=true)->q<2^N.n:=λq hq=>cL λk hk=>n8 he (hq k hk)
   have hq2:∀k,(e^^^q).testBit k=true->e.testBit k=true:=λk hk=>by
    rw[aam]at hk;cases h3:e.testBit k with
    | true=>rfl
    | false =>
      cases h4:q.testBit k with
      | false=>rw[h3,h4]at hk;cases hk
      | true=>rw[hq k h4]at h3;cases h3
   have fin:∀q,(∀k,q.testBit k=true->e.testBit k=true)->q≠e->N.bL q->N.par q m=true->∃r,N.Ring r/\(∀k,r.testBit k=true->e.testBit k=true)/\N.par r m=true:=by
    intro q hq qe QB hpq;obtain⟨r,h1,h2,h3⟩:=ih _ (small q hq qe) q rfl (lt q hq) QB hpq;exact⟨r,h1,λk hk=>hq k (h2 k hk),h3⟩
   cases hpq:N.par q m with
   | true=>exact fin q hq qe QB hpq
   | false =>
     refine fin (e^^^q) hq2 (λz=>q0 ?_) (bL.xor ev QB) (by rw[kT,hp,hpq];rfl)
     have:e^^^(e^^^q)=e^^^e:=by rw[z]
     rwa [<-abh,abD,abj]at this
end
end RM
namespace Ring
open PySem L2
def aQ(ts:List cC)(k:Nat):Int:=(aX ts k).2.2
def xH(ts:List cC)(f:Nat->Bool):∀n,FH ts f n=RM.lsum (aQ ts) f n
 | 0=>rfl
 | n+1=>by
   show FH ts f n+_=RM.lsum (aQ ts) f n+_;rw[xH ts f n];rfl
def C8{ts:List cC}{m:Nat}(hm:m<2^ts.length):lenOf ts m=RM.lsum (aQ ts) (λk=>m.testBit k) ts.length:=by
 rw[FI hm,xH]
def xJ{p:Nat}{ts:List cC}(g:aA p ts):∀k,k<g.N.n->0<=aQ ts k:=λk hk=>by
 have:=(g.nY _ (dZ hk)).l0;unfold aQ
 lia
structure C9(H0:Hp)(D:Addr)(es:List Addr)(F:Nat->Bool->Option Int)(H:Hp):Prop where
 same:aq H0 H
 nd:es.Nodup
 ne:D∉es
 fr:∀b∈es,H0 b=none
 Dn:H0 D=none
 lst:H D=some (.lst (es.map V.ref))
 at_:∀i b,es[i]?=some b->H b=some (.lst [oV (F i false),oV (F i true)])
def C9.go{H0 H H' : Hp}{D:Addr}{es:List Addr}{F:Nat->Bool->Option Int}(h:C9 H0 D es F H)(s:aq H H'):C9 H0 D es F H' :=
 ⟨h.same.trans s,h.nd,h.ne,h.fr,h.Dn,s _ _ h.lst,λi b e=>s _ _ (h.at_ i b e)⟩
def C9.off{H0 H:Hp}{D L:Addr}{es:List Addr}{F:Nat->Bool->Option Int}(h:C9 H0 D es F H)(hL:H L=none):L∉es:=λz=>by
 obtain⟨j,hj⟩:=aa3 z;have:=h.at_ j L hj;rw[hL]at this;cases this
def AN(H0:Hp)(D:Addr)(i:Nat)(acc:List V)(H:Hp):Prop:=∃es,acc=es.map V.ref/\es.length=i/\C9 H0 D es (λ_ _=>none) H
def AN.start{H0:Hp}{D:Addr}(hD:H0 D=none):AN H0 D 0 [] (upd H0 D (.lst [])) :=
 ⟨[],rfl,rfl,aq.new hD,ac4,ab7,λ_ h=>(ab7 h).elim,hD,ae,λi b e=>by cases e⟩
def AN.len{H0 H:Hp}{D:Addr}{i:Nat}{acc:List V}(h:AN H0 D i acc H):H D=some (.lst acc)/\acc.length<=i:=by
 obtain⟨es,rfl,e,r⟩:=h;exact⟨r.lst,by rw[aac];lia⟩
def AN.next{H0 H:Hp}{D b:Addr}{i:Nat}{acc:List V}(h:AN H0 D i acc H)(hb:H b=none):upd H b (.lst [.dS,.dS]) D=some (.lst acc)/\AN H0 D (i+1) (acc++[.ref b]) (upd (upd H b (.lst [.dS,.dS])) D (.lst (acc++[.ref b]))):=by
 obtain⟨es,rfl,e,r⟩:=h;have O1:D≠b:=λz=>by
  have:=r.lst;rw[z,hb]at this;cases this
 have hbn:b∉es:=r.off hb;have hb0:H0 b=none:=r.same.free hb;refine⟨by rw[ak O1];exact r.lst,es++[b],by simp,by simp[e],(r.same.put hb0).put r.Dn,?_,?_,λc hc=>?_,r.Dn,by rw[ae];simp,λj c hc=>?_⟩
 ·exact acI.mpr ⟨r.nd,by simp,λx hx y hy=>by rw[aaA.mp hy];exact λz=>hbn (z▸hx)⟩
 ·intro hm;rcases aaL.mp hm with z|z
  ·exact r.ne z
  ·exact O1 (aaA.mp z)
 ·rcases aaL.mp hc with z|z
  ·exact r.fr c z
  ·rw[aaA.mp z];exact hb0
 ·have VC:c≠D:=λz=>by
   subst z;rcases aaL.mp (iq hc) with z|z
   ·exact r.ne z
   ·exact O1 (aaA.mp z)
  rw[ak VC]
  by_cases ec:c=b
  ·rw[ec,ae];rfl
  ·rw[ak ec]
   by_cases hj:j<es.length
   ·rw[aaE hj]at hc;exact r.at_ j c hc
   ·rw[aaO (by lia)]at hc
    have:=iq hc;exact absurd (aaA.mp this) ec
def lN(F:Nat->Bool->Option Int)(p:Nat):List Pr:=(List.range p).map λi=>(F i false,F i true)
def O2{F:Nat->Bool->Option Int}{p x:Nat}(h:x<p)(s:Bool):sel (Mc (lN F p) x) s=F x s:=by
 unfold Mc lN;rw[aaa,aan,acW h];cases s<;>rfl
def Jh(F:Nat->Bool->Option Int)(i:Nat):lN F (i+1)=lN F i++[(F i false,F i true)]:=by
 unfold lN;rw[abB,aat];rfl
def EH(F:Nat->Bool->Option Int)(i:Nat):(lN F i).length=i:=by
 unfold lN;rw[aac,aay]
variable {p:Nat}{ts:List cC}{g:aA p ts}{m:Nat}{W:List (List Pr)}
def Sb(p:Nat)(ts:List cC)(g:aA p ts)(m:Nat)(W:List (List Pr)):Prop:=∀i,i<p->∀x s,x<p->RM.Jg g.N (aQ ts) m i x s (sel (Mc (W.getD i []) x) s)
end Ring
namespace RM
open Ring (maskOf mask_bit mask_lt)
def fD{a b:Nat}(h:a^^^b=0):a=b:=by
 have:=abf (λy=>y^^^b) h
 simp only[abj]at this
 rwa [abh,abD,abE]at this
def comb:List Nat->Nat->Nat
 | [],_=>0
 | b::B,z=>(if z.testBit 0=true then b else 0)^^^comb B (z/2)
def Ji(a b c d:Nat):(a^^^b)^^^(c^^^d)=(a^^^c)^^^(b^^^d):=aaS λi=>by
 simp only[aam];cases a.testBit i<;>cases b.testBit i<;>cases c.testBit i<;>cases d.testBit i<;>rfl
def Jj(z y:Nat):(z^^^y)/2=z/2^^^y/2:=aaS λi=>by
 rw[aam,<-acm,<-acm,<-acm,aam]
def pg:∀(B:List Nat) (z y:Nat),comb B (z^^^y)=comb B z^^^comb B y
 | [],_,_=>by simp[comb]
 | b::B,z,y=>by
   unfold comb;rw[Jj,pg B,aam,Ji]
   congr 1
   cases z.testBit 0<;>cases y.testBit 0<;>simp
def qp:∀(B:List Nat),comb B 0=0
 | []=>rfl
 | b::B=>by
   unfold comb;rw[abg,show 0/2=0 from rfl,qp B]
   simp
def Jk(i:Nat):2^(i+1)/2=2^i:=by
 rw[abT,Nat.mul_div_cancel _ (by decide)]
def AO:∀{B:List Nat} {i b:Nat},B[i]?=some b->comb B (2^i)=b
 | [],i,b,h=>by simp at h
 | b'::B,0,b,h=>by
   have:b' = b:=by simpa using h
   subst this;unfold comb;rw[show(2^0:Nat).testBit 0=true from rfl,aad rfl,show(2^0:Nat)/2=0 from rfl,qp,abE]
 | b'::B,i+1,b,h=>by
   unfold comb;have h0:(2^(i+1)).testBit 0=false:=by rw[aaw];simp
   rw[h0,aab (by decide),abj,Jk]
   exact AO (B:=B) h
def m5:∀(B:List Nat) (b z:Nat),comb (B++[b]) z=comb B z^^^(if z.testBit B.length=true then b else 0)
 | [],b,z=>by
   show(if z.testBit 0=true then b else 0)^^^0=0^^^_
   rw[abE,abj];rfl
 | b'::B,b,z=>by
   show(if z.testBit 0=true then b' else 0)^^^comb (B++[b]) (z/2)=((if z.testBit 0=true then b' else 0)^^^comb B (z/2))^^^_
   rw[m5 B b (z/2),abh,<-acm];rfl
def xK:∀(B:List Nat) {z:Nat},(∀i,i<B.length->z.testBit i=false)->comb B z=0
 | [],_,_=>rfl
 | b::B,z,h=>by
   unfold comb;rw[h 0 (by simp),aab (by decide),abj]
   exact xK B λi hi=>by rw[<-acm];exact h (i+1) (by simp;lia)
def sR(B:List Nat):∀z,Sp B (comb B z):=by
 induction B with
 | nil=>intro z;exact .zero
 | cons b B ih =>
   intro z;have h:Sp (b::B) (comb B (z/2)):=(ih (z/2)).mono λc hc=>.mem (nR _ hc)
   unfold comb;rw[adI]
   by_cases e:z.testBit 0=true
   ·rw[aad e];exact h.add aar
   ·rw[aab e,abE];exact h
def sS{B:List Nat}{x:Nat}(h:Sp B x):∃z,z<2^B.length/\comb B z=x:=by
 induction h with
 | zero=>exact⟨0,aa0 _,qp B⟩
 | add h hb ih =>
   obtain⟨z,hz,e⟩:=ih;obtain⟨i,hi⟩:=aa3 hb;have Qy:=(jf.mp hi).1;exact⟨z^^^2^i,abb hz (ab0 (by decide) Qy),by rw[pg,e,AO hi]⟩
def AQ(B:List Nat):Prop:=∀z,z<2^B.length->comb B z=0->z=0
def Ml(B:List Nat):Prop:=∀i b,B[i]?=some b->¬ Sp (B.take i) b
def AR{B:List Nat}{b:Nat}:AQ (B++[b])↔AQ B/\¬ Sp B b:=by
 have hl:(B++[b]).length=B.length+1:=by simp
 constructor
 ·intro h;refine⟨λz hz e=>h z ?_ ?_,λhs=>?_⟩
  ·rw[hl,abT];lia
  ·rw[m5,e,aaR hz];simp
  ·obtain⟨y,hy,e⟩:=sS hs;have hlt:2^B.length<2^(B.length+1):=ab0 (by decide) (by lia)
   have:=h (y^^^2^B.length) (by rw[hl];exact abb (by lia) hlt) (by
    have h1:(y^^^2^B.length).testBit B.length=true:=by
     rw[aam,aaR hy,ac1];rfl
    have h2:comb B (2^B.length)=0:=xK B λi hi=>by
     rw[aaw];exact eI (by lia)
    rw[m5,h1,aad rfl,pg,h2,e,abE,abD])
   have h3:(y^^^2^B.length).testBit B.length=false:=by rw[this,abg]
   rw[aam,aaR hy,ac1]at h3;cases h3
 ·rintro⟨h,hs⟩ z hz e;rw[m5]at e
  by_cases hb:z.testBit B.length=true
  ·rw[aad hb]at e;have e2:comb B z=b:=by
    have:=abf (λy=>y^^^b) e
    simp only[qm,abj]at this;exact this
   exact absurd (e2▸sR B z) hs
  ·rw[aab hb,abE]at e;refine h z ?_ e;refine cL λk hk=>?_
   have:=bR hz hk;rw[hl]at this;have:k≠B.length:=λe=>hb (e▸hk)
   lia
def F5{B:List Nat}{b:Nat}:Ml (B++[b])↔Ml B/\¬ Sp B b:=by
 constructor
 ·intro h;refine⟨λi c hc=>?_,?_⟩
  ·have hi:=(jf.mp hc).1;have:=h i c (by rw[aaE hi];exact hc)
   rwa [adu (aaW hi)]at this
  ·have:=h B.length b (by simp)
   rwa [List.take_left' rfl]at this
 ·rintro⟨h,hs⟩ i c hc
  by_cases hi:i<B.length
  ·rw[aaE hi]at hc;rw[adu (aaW hi)];exact h i c hc
  ·have hl:=(jf.mp hc).1;have e:i=B.length:=by simp at hl;lia
   subst e;rw[aaO (aae _),adq]at hc;have:b=c:=by simpa using hc
   subst this;rw[List.take_left' rfl];exact hs
def take_snoc{B:List Nat}{i b:Nat}(h:B[i]?=some b):B.take (i+1)=B.take i++[b]:=by
 rw[aaZ,h];rfl
def EI(B:List Nat):AQ B↔Ml B:=by
 have key:∀n,n<=B.length->(AQ (B.take n)↔Ml (B.take n)):=by
  intro n
  induction n with
  | zero=>exact λ_=>⟨λ_ i b h=>by simp at h,λ_ z hz _=>by simp at hz;exact hz⟩
  | succ n ih =>
    intro hn;have hb:B[n]?=some B[n]:=aaf hn;rw[take_snoc hb,AR,F5,ih (by lia)]
 have:=key B.length (aae _)
 rwa [aa5]at this
def AS(B:List Nat)(h:AQ B){z y:Nat}(hz:z<2^B.length)(hy:y<2^B.length)(e:comb B z=comb B y):z=y:=by
 have:=h (z^^^y) (abb hz hy) (by rw[pg,e,abD])
 exact fD this
section
variable {N:Net}
def qq{B:List Nat}(h:∀b∈B,N.bL b/\b<2^N.n)(z:Nat):N.bL (comb B z)/\comb B z<2^N.n:=by
 have hs:=sR B z;refine⟨?_,hs.lt λb hb=>(h b hb).2⟩
 generalize comb B z=x at hs
 induction hs with
 | zero=>exact bL.zero
 | add _ hb ih=>exact bL.xor ih (h _ hb).1
def yN{f:Nat->Nat}{a b:Nat}(hf:∀z,z<2^a->f z<2^b)(inj:∀z y,z<2^a->y<2^a->f z=f y->z=y):a<=b:=by
 have nd:((List.range (2^a)).map f).Nodup:=by
  refine acJ.mpr ?_;refine abZ (λ{z y} hz hy hne e=>?_) ab6
  exact hne (inj z y (aax.mp hz) (aax.mp hy) e)
 have:=IB nd λx hx=>by
  obtain⟨z,hz,rfl⟩:=aaH.mp hx;exact hf z (aax.mp hz)
 rw[aac,aay]at this;exact(Nat.pow_le_pow_iff_right (by decide)).mp this
def meets(ks:List Nat)(m:Nat):Nat:=maskOf (λi=>m.testBit (ks.getD i 0)) ks.length
def AU(ks:List Nat)(m:Nat):meets ks m<2^ks.length:=mask_lt _ _
def xM{ks:List Nat}{m i k:Nat}(h:ks[i]?=some k):(meets ks m).testBit i=m.testBit k:=by
 unfold meets;rw[mask_bit,aaa,h,cF (jf.mp h).1];rfl
def O3{B:List Nat}(hi:AQ B)(h:∀b∈B,N.bL b/\b<2^N.n):B.length<=N.ah.length:=by
 refine yN (f:=λz=>meets N.ah (comb B z)) (λz _=>AU _ _) λz y hz hy e=>AS B hi hz hy ?_
 have h1:=qq h z;have h2:=qq h y;refine fD (fU (N:=N) (λk hk=>?_) (bL.xor h1.1 h2.1))
 have hkn:=bR (abb h1.2 h2.2) hk;refine⟨hkn,?_⟩;cases hf:N.fK k with
 | true=>rfl
 | false =>
   obtain⟨j,hj⟩:=aa3 (aY.mpr ⟨hkn,hf⟩);have e:meets N.ah (comb B z)=meets N.ah (comb B y):=e;have:=abf (λx=>x.testBit j) e
   simp only[xM hj]at this;rw[aam,this,Bool.xor_self]at hk;cases hk
def Mm{ks:List Nat}(h:∀m,m<2^N.n->N.bL m->(∀k∈ks,m.testBit k=false)->m=0):N.ah.length<=ks.length:=by
 refine yN (f:=λz=>meets ks (N.gq z N.ah 0)) (λz _=>AU _ _) λz y hz hy e=>?_
 have h1:=mX (N:=N) (number:=z) (l:=N.ah) (i:=0) λc hc=>(aY.mp hc).1
 have h2:=mX (N:=N) (number:=y) (l:=N.ah) (i:=0) λc hc=>(aY.mp hc).1
 have e0:N.gq z N.ah 0=N.gq y N.ah 0:=fD (h _ (abb h1.2 h2.2) (bL.xor h1.1 h2.1) λk hk=>by
  obtain⟨j,hj⟩:=aa3 hk;have e:meets ks (N.gq z N.ah 0)=meets ks (N.gq y N.ah 0):=e;have:=abf (λx=>x.testBit j) e
  simp only[xM hj]at this;rw[aam,this,Bool.xor_self])
 refine aaS λj=>?_
 by_cases hj:j<N.ah.length
 ·have hc:N.ah[j]?=some N.ah[j]:=aaf hj;rw[<-kY hc,<-kY hc,e0]
 ·rw[aaR (aaj hz (aaM (by decide) (by lia))),aaR (aaj hy (aaM (by decide) (by lia)))]
structure Base(N:Net)(rs:List Nat):Prop where
 len:rs.length=N.ah.length
 ring:∀r∈rs,N.Ring r/\r<2^N.n
 ind:AQ rs
end
end RM
namespace Ring
open PySem L2
def take3{α:Type}{l:List α}{i:Nat}{q:α}(h:l[i]?=some q):l.take (i+1)=l.take i++[q]:=by
 rw[aaZ,h];rfl
end Ring
namespace L2
open PySem PySem.Spec PyProof.Rows
def De{K:bM}{a:Addr}{xs:List V}{g:TG}{tt:TT}{te:TE}{n:Nat}{fr:St}{D:Addr}{Q:Hp->Prop}{H1:Hp}(Pv:Nat->List V->Hp->Prop)(h0:Pv 0 [] H1)(hl:∀i acc H,i<=xs.length->Pv i acc H->aL K H a xs/\H D=some (.lst acc)/\acc.length<=i)(hz:xs.length<=sizeLine)
 (hs:∀i x T acc H,xs[i]?=some x->Pv i acc H->H T=none->g (.ref T) (List.replicate n none++fr) (upd H T (.tup [.int (i:Int),x])) λσ2 H2=>σ2.drop n=fr/\tt σ2 H2 λb H3 =>
  if b=true then te σ2 H3 λv H4=>H4 D=some (.lst acc)/\Pv (i+1) (acc++[v]) (upd H4 D (.lst (acc++[v]))) else Pv (i+1) acc H3)
 (hd:∀acc H,Pv xs.length acc H->Q H):eW (Vk K a) g tt te n fr D Q H1:=by
 refine⟨λi m acc H=>m=xs.length-i/\i<=xs.length/\Pv i acc H,⟨xs.length,by simp,aaN _,h0⟩,?_⟩
 rintro i m acc H ⟨rfl,hi,p⟩;obtain⟨q,hD,ha⟩:=hl i acc H hi p;refine⟨hD,?_⟩
 by_cases hlt:i<xs.length
 ·refine .inr ⟨⟨xs,xs[i],q,by simp[hlt]⟩,by lia,Pv (i+1),λacc' H' p'=>⟨xs.length-(i+1),by lia,rfl,hlt,p'⟩,λv H' y=>?_⟩
  obtain⟨T,x,rfl,hT,rfl,y⟩:=y;exact hs i x T acc _ (y xs q) p hT
 ·have e:i=xs.length:=by lia
  subst e;exact .inl ⟨⟨xs,q,aae _⟩,hd acc H p⟩
end L2
namespace RM
variable {N:Net}{S:Nat->Bool}
def kr{b:Nat}{B:List Nat}:AQ (b::B)↔AQ B/\¬ Sp B b:=by
 have dbl:∀z,(2*z).testBit 0=false:=λz=>by rw[adJ];exact eI (by lia)
 have VD:∀z,(2*z+1).testBit 0=true:=λz=>by rw[adJ];exact cF (by lia)
 constructor
 ·intro h;refine⟨λz hz e=>?_,λhs=>?_⟩
  ·have:=h (2*z) (by rw[abc,abT];lia) (by
    unfold comb;rw[dbl,aab (by decide),abj,show 2*z/2=z by lia]
    exact e)
   lia
  ·obtain⟨y,hy,e⟩:=sS hs;have:=h (2*y+1) (by rw[abc,abT];lia) (by
    unfold comb;rw[VD,aad rfl,show(2*y+1)/2=y by lia,e,abD])
   lia
 ·rintro⟨h,hs⟩ z hz e;unfold comb at e;rw[abc,abT]at hz
  by_cases hb:z.testBit 0=true
  ·rw[aad hb]at e;have e2:=fD e;exact absurd (e2▸sR B (z/2)) hs
  ·rw[aab hb,abj]at e;have h0:=h (z/2) (by lia) e
   rw[adJ,decide_eq_true_iff]at hb
   lia
def Mn{B C:List Nat}(h:B.Perm C)(x:Nat):Sp B x↔Sp C x :=
 ⟨λz=>z.mono λb hb=>.mem (h.mem_iff.mp hb),λz=>z.mono λb hb=>.mem (h.mem_iff.mpr hb)⟩
def Jl{B C:List Nat}(h:B.Perm C):AQ B↔AQ C:=by
 induction h with
 | nil=>exact Iff.rfl
 | cons x h ih=>rw[kr,kr,ih,Mn h]
 | swap x y l =>
   rw[kr,kr,kr,kr,Sp.AK,Sp.AK,adI y x]
   constructor
   ·rintro⟨⟨h1,h2⟩,h3⟩;exact⟨⟨h1,λz=>h3 (.inl z)⟩,λz=>z.elim h2 λz=>h3 (.inr z)⟩
   ·rintro⟨⟨h1,h2⟩,h3⟩;exact⟨⟨h1,λz=>h3 (.inl z)⟩,λz=>z.elim h2 λz=>h3 (.inr z)⟩
 | trans _ _ i1 i2=>exact i1.trans i2
def Base.perm{N:Net}{rs rs' : List Nat}(b:Base N rs)(h:rs'.Perm rs):Base N rs' :=
 ⟨by rw[h.length_eq];exact b.len,λr hr=>b.ring r (h.mem_iff.mp hr),(Jl h).mpr b.ind⟩
end RM
namespace L2
open PySem PySem.Spec PyProof.Rows
def eT(q:Str)(pos:Pos):Array Value:=#[.str q 0,rawInt pos.line,rawInt pos.col]
def nG(pos:Pos)(c:Addr):Array Value:=#[rawInt pos.line,rawInt pos.col,.ref c]
def fC(H:Hp)(P c:Addr)(oc:Obj)(q:Str)(pos:Pos):Hp:=upd (upd H c (.lQ oc (.own P))) P (.jC (eT q pos++nG pos c))
def given(H:Hp)(P c:Addr)(q:Str)(pos:Pos):Hp:=upd (upd H c (.own P)) P (.jC (eT q pos))
def CodeObj(oc:Obj)(q:Str):Prop:=∃vs t,oc.data = .fields vs/\vs[1]?=some (.str q t)
def CodeObj.rec{h:Heap}{c:Addr}{oc:Obj}{q:Str}(x:CodeObj oc q)(e:h.get? c=some oc):h.CodeRec (.ref c) q :=
 let⟨vs,t,e1,e2⟩:=x
 ⟨c,oc,vs,t,rfl,e,e1,e2⟩
def O4{P:Program}{w:World}{H:Hp}{h:Heap}{a:Addr}{q:Str}{pos:Pos}(x:bI P w H h a (.jC (eT q pos))):
 h.get? a=some (PySem.W.tabObj #[])\/∃c oc,h.get? a=some (PySem.W.tabObj (nG pos c))/\H c=some (.own a)/\h.get? c=some oc/\CodeObj oc q:=by
 obtain⟨ps,e,f⟩:=x;rcases f with⟨_,f|⟨c,e1,e2,c',oc,vs,tq,hc,ho,hd,hv⟩⟩|⟨q',l,k,f,z⟩
 ·subst f;exact .inl e
 ·cases hc;subst e1;exact .inr ⟨c,oc,e,e2,ho,vs,tq,hd,hv⟩
 ·have:=abf Array.size f;rw[Array.size_append,z]at this;exact absurd this (by simp[eT])
def Jm{P:Program}{w:World}{H:Hp}{h:Heap}{a c:Addr}{q:Str}{pos:Pos}(x:bI P w H h a (.jC (eT q pos++nG pos c))):h.get? a=some (PySem.W.tabObj (nG pos c)):=by
 obtain⟨ps,e,f⟩:=x;rcases f with⟨f,_⟩|⟨q',l,k,f,z⟩
 ·rw[Array.size_append]at f;exact absurd f (by simp[eT,nG])
 ·have e2:=abf (λa=>a.toList.drop 3) f
  simp only[Array.toList_append,eT,nG,List.cons_append,List.nil_append,List.drop_succ_cons,ady]at e2;have e3:ps=nG pos c:=by
   apply Array.toList_inj.mp;exact e2.symm
  rw[<-e3];exact e
abbrev AV(X:Cx)(params:Arguments)(body:Expr)(scope:Scope)(c:Addr)(ctv:Value):FuncData :=
 PySem.W.kla_fn "<lambda>" (X.env.qual ++ "<lambda>") params body scope (cP X.env.cells scope.names []) ((X.mg "__name__").getD .none) (.ref c) ctv
abbrev dF(X:Cx)(params:Arguments)(body:Expr)(scope:Scope)(c:Addr)(ctv:Value):Obj :=
 { cls:=.type "function",data:=.func (AV X params body scope c ctv)}
section
variable {X:Cx}{pq:aV}{σ:St}{H H2:Hp}{s:Shared}{params:Arguments}{body:Expr}{scope:Scope}{pos:Pos}{own fq:List Str}{js:List Nat}{c P:Addr}
def AW{Q:di}{E:di}
 (I:Inv X pq σ H s) (T:c9 X scope own fq js) (hcode:X.env.code = .ref c) (hK:PySem.W.codeHdIn X.K c P=true) (hP:H P=some (.jC (eT (X.env.qual ++ "<lambda>") pos)))
 (hdef:defaultsOf params X.env=([],[]))
 (h:∀f c' oc ctv s',(H c' = none\/H c' = some (.own P))->c'≠P->CodeObj oc (X.env.qual ++ "<lambda>")->Inv X ((f,dF X params body scope c' ctv)::pq) σ (fC H P c' oc (X.env.qual ++ "<lambda>") pos) s'->Q (.ref f) s') :
 wpAny (model X.prog X.w) X.A (eval (.Lambda params body scope pos) X.env) Q E s:=by
 have ZU:=O4 (show bI X.prog X.w H s.heap P (.jC (eT (X.env.qual ++ "<lambda>") pos)) from I.hok P _ hP)
 have C:PySem.W.CodeHd s.heap c P:=PySem.W.codeHd_of_K I.N8 hK;have hg:=I.mod.glob.keeps I.bk;have Xn:∀b o,X.base.get? b=some o->b≠P:=λb o q z=>by
  have:=(I.bs b o q).2;rw[z,hP]at this;cases this
 have hgP:mainGlobals≠P:=by
  obtain⟨o,es,ep,q,_⟩:=I.mod.glob;exact Xn _ o q
 have hb:s.heap.BuiltinsAt X.mg P:=by
  obtain⟨bm,ob,b1,b2,b3,b4,b5,b6⟩:=I.mod.bmain;refine⟨bm,ob,b1,b2,λz=>?_,Xn _ _ b3,I.bk _ _ b3,b4,b5,b6⟩
  obtain⟨o,es,ep,q,hd,_⟩:=I.mod.glob;rw[z,q]at b3;cases b3;rw[hd]at b6;cases b6
 have hcl:=nW (gz I T);have fin:∀(f c' : Addr) (oc:Obj) (ctv:Value) (h2:Heap) (tk:Nat),(H c' = none\/H c' = some (.own P))->c'≠P->(H c' = none->s.heap.objs.size<=c')->CodeObj oc (X.env.qual ++ "<lambda>")->(∀b o,b≠P->s.heap.get? b=some o->h2.get? b=some o)->
  h2.get? P=some (PySem.W.tabObj (nG pos c'))->h2.get? c' = some oc->s.heap.objs.size<=f->f≠c'->h2.get? f=some (dF X params body scope c' ctv)->
  Inv X ((f,dF X params body scope c' ctv)::pq) σ (fC H P c' oc (X.env.qual ++ "<lambda>") pos) { s with heap:=h2,toks:=tk}:=by
  intro f c' oc ctv h2 tk hc AX hnew hoc hx T9 hct hf hfc ZV;have nP:∀b,H b=none->b≠P:=λb n z=>by rw[z,hP]at n;cases n
  have Mp:∀b u,H b=some u->(∀y,u≠.own y)->(∀qs,u≠.jC qs)->fC H P c' oc (X.env.qual ++ "<lambda>") pos b=some u:=λb u e n1 n2=>by
   unfold fC;rw[ak (λz=>by rw[z,hP]at e;exact n2 _ (Option.some.inj e).symm),ak (λz=>by
    rw[z]at e;rcases hc with q|q
    ·rw[q]at e;cases e
    ·rw[q]at e;exact n1 _ (Option.some.inj e).symm)]
   exact e
  have O5:∀b,H b=none->(b<s.heap.objs.size\/b≠c')->fC H P c' oc (X.env.qual ++ "<lambda>") pos b=none:=λb n hb=>by
   unfold fC;rw[ak (nP b n),ak (λz=>by
    rcases hb with q|q
    ·rw[z]at q n;exact absurd (hnew n) (Nat.not_le.mpr q)
    ·exact q z)]
   exact n
  have un:Un X.fs [] H (fC H P c' oc (X.env.qual ++ "<lambda>") pos) s.heap h2:=by
   refine⟨λb o q n _ _=>hx b o (nP b n) q,λb o q n _ _=>⟨o.slots,hx b o (nP b n) q⟩,λb o q n _=>O5 b n (.inl (aaq q)),λb o q _=>?_,λb xs q=>Mp b _ q (by intro y z;cases z) (by intro y z;cases z),λb o u q=>Mp b _ q (by intro y z;cases z) (by intro y z;cases z),λb ps q=>?_⟩
   ·by_cases hb:b=P
    ·exact⟨_,by rw[hb];exact T9⟩
    ·exact⟨o,hx b o hb q⟩
   ·by_cases hb:b=P
    ·subst hb;rw[hP]at q;cases q;exact⟨nG pos c',ae⟩
    ·refine⟨#[],?_⟩;unfold fC;rw[ak hb,ak (λz=>by
      rw[z]at q;rcases hc with r|r<;>(rw[r]at q;cases q)),q]
     simp
  have hok:mQ X.prog X.w (fC H P c' oc (X.env.qual ++ "<lambda>") pos) h2:=λb u q=>by
   by_cases F6:b=P
   ·subst F6;unfold fC at q;rw[ae]at q;cases q;exact⟨_,T9,.inr ⟨_,_,_,rfl,rfl⟩⟩
   ·by_cases hbc:b=c'
    ·subst hbc;unfold fC at q;rw[ak F6,ae]at q;cases q;exact⟨hct,oc,hct⟩
    ·have q' : H b=some u:=by
      unfold fC at q;rw[ak F6,ak hbc]at q;exact q
     have ow:∀d,H d=some (.own b)->d≠P/\d≠c':=λd qd=>⟨aU qd hP (by intro z;cases z),λz=>by
      rw[z]at qd;rcases hc with r|r
      ·rw[r]at qd;cases qd
      ·rw[r]at qd;cases qd;exact F6 rfl⟩
     refine(I.hok b u q').stay (λd v hd qd=>hx d v ?_ qd) (λd qd=>?_) λd xs qd=>Mp d _ qd (by intro y z;cases z) (by intro y z;cases z)
     ·rcases hd with rfl|hd
      ·exact F6
      ·exact(ow d hd).1
     ·unfold fC;rw[ak (ow d qd).1,ak (ow d qd).2];exact qd
  have J:=I.un (t':=tk) un hok;have ZW:H f=none:=I.hok.fresh hf;refine J.fM λp hp=>?_
  rcases aas.mp hp with rfl|hp
  ·exact⟨ZV,O5 _ ZW (.inr hfc),abS (aaj I.lt hf),I.Q4 hf,λv z=>by cases z⟩
  ·exact J.pin p (iB _ hp)
 refine PySem.W.kla_eval hdef ?_;rcases ZU with e|⟨c',oc,e,ho,hct,hoc⟩
 ·refine PySem.W.kla_makeFunction (mg:=X.mg) hcl I.ok.glob hg hcode C e trivial rfl hgP hb λc' ctv h' tk hx hge hlt hrec htb=>?_
  obtain⟨c2,oc,vs,t,e2,hct,hd,hv⟩:=hrec;cases e2;have hf:s.heap.objs.size<=h'.objs.size:=aaD hge (aaW hlt);have AX:c'≠P:=abS (aaj (aaq e) hge);exact h _ c' oc ctv _ (.inl (I.hok.fresh hge)) AX ⟨vs,t,hd,hv⟩ (fin _ c' oc ctv _ tk (.inl (I.hok.fresh hge)) AX (λ_=>hge) ⟨vs,t,hd,hv⟩ (λb o hb q=>aai _ (hx b o hb q)) (aai _ htb) (aai _ hct) hf (abS hlt) (aaB _ rfl))
 ·have hf:codeAmong pos (nG pos c').toList=some (.ref c'):=codeAmong_snoc [] trivial rfl;have tr:TriplesOk (nG pos c').toList:=TriplesOk_snoc pos.line pos.col (.ref c') [] trivial;refine PySem.W.kla_makeFunctionHit (mg:=X.mg) hcl I.ok.glob hg hcode C e tr hf hb λctv h' tk hk hsz=>?_
  have AX:c'≠P:=aU ho hP (by intro z;cases z)
  have hk' : ∀b o,s.heap.get? b=some o->(h'.push (dF X params body scope c' ctv)).get? b=some o:=λb o q=>aai _ (hk b o q)
  exact h _ c' oc ctv _ (.inr ho) AX hoc (fin _ c' oc ctv _ tk (.inr ho) AX (λz=>by rw[ho]at z;cases z) hoc (λb o _ q=>hk' b o q) (hk' _ _ e) (hk' _ _ hct) hsz (abS (aaj (aaq hct) hsz)) (aaB _ rfl))
def AY{ur:aV}{σ0:St}{s0:Shared}{q:Str}{oc:Obj}(I0:Inv X ur σ0 H s0)(hP:H P=some (.jC (eT q pos)))(hc:H c=none\/H c=some (.own P))(AX:c≠P)(hoc:CodeObj oc q)
 (I:Inv X pq σ H2 s) (e1:H2 P=some (.jC (eT q pos++nG pos c))) (e2:H2 c=some (.lQ oc (.own P))):Inv X pq σ (given H2 P c q pos) s:=by
 have T9:=Jm (show bI X.prog X.w H2 s.heap P (.jC (eT q pos++nG pos c)) from I.hok P _ e1)
 obtain⟨hct,_⟩:=(show bI X.prog X.w H2 s.heap c (.lQ oc (.own P)) from I.hok c _ e2)
 have O5:∀b,H2 b=none->given H2 P c q pos b=none:=λb n=>by
  unfold given;rw[ak (λz=>by rw[z,e1]at n;cases n),ak (λz=>by rw[z,e2]at n;cases n)]
  exact n
 have Mp:∀b u,b≠P->b≠c->H2 b=some u->given H2 P c q pos b=some u:=λb u n1 n2 e=>by
  unfold given;rw[ak n1,ak n2];exact e
 refine⟨I.ok,I.os,I.bare,⟨I.base.keep,I.base.slot,λb o z n hx=>O5 b (I.base.free b o z n hx),I.base.there,λb xs z=>?_,λb o u z=>?_,λb ps z=>?_⟩,I.loc,I.cell,O5 _ I.free,λx c' z=>O5 _ (I.eU x c' z),λp hp=>?_,λb u z=>?_,I.len⟩
 ·have r:=I.base.tups b xs z;exact Mp b _ (aU r e1 (by intro z;cases z)) (aU r e2 (by intro z;cases z)) r
 ·have r:=I.base.kJ b o u z;refine Mp b _ (aU r e1 (by intro z;cases z)) (λy=>?_) r
  have r0:=I0.base.kJ b o u z;rw[y]at r0;rcases hc with hc|hc<;>(rw[hc]at r0;cases r0)
 ·by_cases hb:b=P
  ·subst hb;obtain⟨more,r0⟩:=I0.base.lR b ps z;rw[hP]at r0;exact⟨more,by unfold given;rw[ae];exact r0⟩
  ·obtain⟨more,r⟩:=I.base.lR b ps z;exact⟨more,Mp b _ hb (aU r e2 (by intro z;cases z)) r⟩
 ·obtain⟨a1,a2,a3⟩:=I.pin p hp;exact⟨a1,O5 _ a2,a3⟩
 ·by_cases F6:b=P
  ·subst F6;unfold given at z;rw[ae]at z;cases z;refine⟨_,T9,.inl ⟨rfl,.inr ⟨c,rfl,?_,hoc.rec hct⟩⟩⟩;unfold given;rw[ak AX,ae]
  ·by_cases hbc:b=c
   ·subst hbc;unfold given at z;rw[ak F6,ae]at z;cases z;exact⟨oc,hct⟩
   ·have z' : H2 b=some u:=by
     unfold given at z;rw[ak F6,ak hbc]at z;exact z
    refine(I.hok b u z').stay (λ_ _ _ r=>r) (λd r=>Mp d _ (aU r e1 (by intro z;cases z)) (aU r e2 (by intro z;cases z)) r) λd xs r=>Mp d _ (aU r e1 (by intro z;cases z)) (aU r e2 (by intro z;cases z)) r
def AZ{q:Str}{oc:Obj}(hP:H P=some (.jC (eT q pos)))(hc:H c=none\/H c=some (.own P))(AX:c≠P)(S:aq (fC H P c oc q pos) H2):aq H (given H2 P c q pos):=λb u e=>by
 unfold given
 by_cases F6:b=P
 ·subst F6;rw[ae,<-hP];exact e
 ·rw[ak F6]
  by_cases hbc:b=c
  ·subst hbc;rw[ae];rcases hc with hc|hc
   ·rw[hc]at e;cases e
   ·rw[<-hc];exact e
  ·rw[ak hbc];refine S b u ?_;unfold fC;rw[ak F6,ak hbc];exact e
def sU{q:Str}{oc:Obj}{b:Addr}{u:HO}(hP:H P=some (.jC (eT q pos)))(hc:H c=none\/H c=some (.own P))(e:H b=some u)(n1:∀y,u≠.own y)(n2:∀qs,u≠.jC qs):fC H P c oc q pos b=some u:=by
 unfold fC;rw[ak (λz=>by rw[z,hP]at e;exact n2 _ (Option.some.inj e).symm),ak (λz=>by
  rw[z]at e;rcases hc with q|q
  ·rw[q]at e;cases e
  ·rw[q]at e;exact n1 _ (Option.some.inj e).symm)]
 exact e
def uv(X:Cx)(N:List Str)(scope:Scope)(f c:Addr)(A:Around)(s:Shared)(H:Hp):Cx where
 prog:=X.prog
 w:=X.w
 K:=X.K
 mg:=X.mg
 base:=X.base
 A:=A.deeper (PySem.W.envX (X.env.qual ++ "<lambda>") scope s.heap.objs.size f (.ref c) (cP X.env.cells scope.names []))
 N:=N
 s₀:=s
 H₀:=H
 env:=PySem.W.envX (X.env.qual ++ "<lambda>") scope s.heap.objs.size f (.ref c) (cP X.env.cells scope.names [])
 outer:=X.stack
 stack:=PySem.W.envX (X.env.qual ++ "<lambda>") scope s.heap.objs.size f (.ref c) (cP X.env.cells scope.names [])::X.stack
 ex:=[]
 fn:=λ_=>false
 calm:=X.calm
 pn:=[]
 xe:=λ_ _=>False
def Mq{f:Addr}{A:Around}{x:Str}{v:V}{u:Value}{h1:Heap}{t1:Nat}(I:Inv X pq σ H s)(T:c9 X scope [x] fq js)(hx:scope.names.lookup x=some .local)
 (hfr:A.frames=some X.stack) (hh:A.handled=X.A.handled) (r:RelV v u) (old:∀b o,s.heap.get? b=some o->h1.get? b=some o) (hn:h1.Ns s.heap.objs.size (λy=>[(x,u)].reverse.lookup y)) :
 Inv (uv X ([x]++fq) scope f c A s H) [] (some v::eN σ js) H { s with heap:=h1,toks:=t1}:=by
 have cells:∀x c,(cP X.env.cells scope.names []).lookup x=some c->X.env.cells.lookup x=some c:=λx c h=>by
  rcases ji h with q|⟨q1,q2⟩
  ·cases q
  ·obtain⟨c',hc'⟩:=gz I T x .free q1 rfl;rw[hc']at q2;rw[hc'];exact abf some q2
 refine⟨⟨I.ok.mod,T.kind,rfl,rfl,aae _,λx y c a b=>I.ok.inj x y c (cells x c a) (cells y c b),λy hy=>?_,λx c z _=>(nomatch z),λhc=>hh.trans (I.ok.hd hc),Around.frames_deeper hfr,.inr ⟨rfl,rfl⟩,λb hb=>absurd (show b∈([]:List Addr) from hb) (by simp),
  λb o e=>I.bs b o e,aaD I.ok.Nh I.sz,λb o _ hb=>absurd (show b∈([]:List Addr) from hb) (by simp),λb hb=>absurd (show b∈([]:List Addr) from hb) (by simp),I.stack,I.ye⟩,
  rfl,I.bare,Un.kept old,⟨_,hn,λi y v' e1 e2 e3=>?_⟩,λy c e=>?_,I.hok.fresh (aae _),λy c e=>I.eU y c (cells y c e),λp hp=>absurd (show p∈([]:aV) from hp) (by simp),I.hok.kept old,?_⟩
 ·have hy:scope.names.lookup y=some .cell\/scope.names.lookup y=some .free:=hy;rcases hy with hy|hy
  ·exact absurd rfl (T.yr _ (abk hy))
  ·exact iU (.inl (abk hy))
 ·replace e1:([x]++fq)[i]?=some y:=e1
  cases i with
  | zero =>
    have e1:x=y:=by simpa using e1
    have e2:v=v':=by simpa using e2
    subst e1 e2;exact⟨u,r,.inl ⟨hx,by simp⟩⟩
  | succ i =>
    have e1:fq[i]?=some y:=by simpa using e1
    have e2:(eN σ js)[i]?=some (some v'):=by simpa using e2
    obtain⟨j,hj,hσ⟩:=tO e2;have hN:X.N[j]?=some y:=by
     have q:=abf (λl=>l[i]?) T.at_
     simp only[aan,hj,e1,ab9]at q;exact Option.some.inj q
    have hfx:=T.fr y (iq e1);have hm:=abk hfx;have hk:=T.free (y,.free) hm rfl;obtain⟨m0,hn0,El⟩:=I.loc;obtain⟨u',r',l⟩:=El j y v' hN hσ (by rcases hk with k|k;exact .inr (.inl k);exact .inr (.inr k))
    refine⟨u',r',.inr ⟨.inr hfx,?_⟩⟩;rcases l with⟨xg,_⟩|⟨_,c1,hc,hcell⟩
    ·have xg:X.env.scope.names.lookup y=some .local:=xg;rcases hk with k|k<;>(rw[xg]at k;cases k)
    ·obtain⟨c',hc'⟩:=iU (cells:=X.env.cells) (names:=scope.names) (cs:=[]) (x:=y) (.inl hm);have q:=cells y c' hc';rw[hc]at q;cases q;exact⟨c1,hc',hcell.keeps old⟩
 ·obtain⟨v',q⟩:=I.cell y c (cells y c e);exact⟨v',q.keeps old⟩
 ·show _=([x]++fq).length;have q:=abf List.length T.at_;rw[aac,aac]at q;simp only[abc,aah,acv];unfold eN;rw[aac]
  lia
def A3{f:Addr}{ctv:Value}{A:Around}{te:TE}{x:Str}{v:V}{u:Value}{Q:VK}{E:di}(I:Inv X pq σ H s)(T:c9 X scope [x] fq js)(hx:scope.names.lookup x=some .local)
 (hfr:A.frames=some X.stack) (hh:A.handled=X.A.handled) (hroom:A.depth<recursionLimit) (hp:(f,dF X params body scope c ctv)∈pq) (hcd:s.heap.CodeRec (.ref c) (X.env.qual ++ "<lambda>"))
 (hb:bindArgs (AV X params body scope c ctv) ⟨[u],[]⟩=pure [(x,u)]) (hco:scope.isCoroutine=false) (hgen:scope.isGenerator=false)
 (he:PE (uv X ([x]++fq) scope f c A s H) body te) (r:RelV v u) (h:te (some v::eN σ js) H Q) :
 wpAny (model X.prog X.w) A (call (.ref f) [u]) (λu' s'=>∃v' H',Inv X pq σ H' s'/\RelV v' u'/\Q v' H') E s:=by
 have hf:=I.pin _ (iB _ hp);refine wpAny_call (PySem.W.kla_callFunE hroom hf.1 rfl hco hgen rfl hcd ?_);rw[hb];refine aag (wpAny_newFunctionEnv (λy hy=>T.yr y hy) (by intro y hy;have:=aaA.mp hy;subst this;exact hx) (λh₁ hns Sd=>⟨I.nolimit.fresh _ Sd,?_⟩) T.kind)
 show codeAny _ _ (.expr body (PySem.W.envX (X.env.qual ++ "<lambda>") scope s.heap.objs.size f (.ref c) (cP X.env.cells scope.names []))) _ _;have old:∀b o,s.heap.get? b=some o->h₁.get? b=some o:=λb o e=>Sd.extBut b o (aaK (aaq e)) (aai _ e)
 have J:=Mq (f:=f) (c:=c) (A:=A) (t1:=s.toks+[(x,u)].length) I T hx hfr hh r old hns;refine PySem.W.kla_codeExpr (aaP (he [] _ _ H Q J h) (λu' s' hq=>?_) λ_ _ z=>z.elim)
 obtain⟨v',H',J',r',q'⟩:=hq;exact⟨v',H',I.Hx (ch:=[]) J'.os J'.base J'.hok J'.bare (λb z=>absurd z (by simp)),r',q'⟩
end
end L2
namespace HT
def fX:∀a:List Int,lexLt a a=false
 | []=>rfl
 | x::xs=>by rw[gy,aad rfl];exact fX xs
def rJ:∀{a b c:List Int},lexLt a b=true->lexLt b c=true->lexLt a c=true
 | [],[],_,h,_=>by rw[nH]at h;cases h
 | [],_::_,[],_,h=>by rw[fP]at h;cases h
 | [],_::_,_::_,_,_=>rfl
 | _::_,[],_,h,_=>by rw[fP]at h;cases h
 | _::_,_::_,[],_,h=>by rw[fP]at h;cases h
 | x::xs,y::ys,z::zs,h1,h2=>by
   rw[gy]at h1 h2 ⊢
   by_cases e1:x=y
   ·rw[aad e1]at h1
    by_cases e2:y=z
    ·rw[aad e2]at h2;rw[aad (e1.trans e2)];exact rJ h1 h2
    ·rw[aab e2]at h2;rw[aab (λq=>e2 (e1.symm.trans q)),e1]
     exact h2
   ·rw[aab e1]at h1;have h1:=jB h1
    by_cases e2:y=z
    ·subst e2;rw[aab e1];exact cF h1
    ·rw[aab e2]at h2;have h2:=jB h2;rw[aab (by lia)]
     exact cF (by lia)
def uw{a b c:List Int}(h1:lexLt c b=false)(h2:lexLt a b=true):lexLt c a=false:=by
 cases q:lexLt c a with
 | false=>rfl
 | true=>rw[rJ q h2]at h1;cases h1
end HT
namespace L2
open PySem PySem.Spec PyProof.Rows
def Ua(h:Heap)(a:Addr)(es:Array DictEntry)(ep:Nat):Prop:=∃o,h.get? a=some o/\o.ExactDict/\o.data = .dict es ep
def Ub(o:Obj)(a:Addr)(i n ep:Nat):Prop:=o.cls = .type "dict_keyiterator"/\o.data = .fields #[.ref a,.int i 0,.int n 0,.int ep 0]
section
variable {P:Program}{w:World}{A:Around}{E:di}{s:Shared}{a it:Addr}{es:Array DictEntry}{ep i:Nat}{oi:Obj}
def Jo{Q:di}(hs:(a==sysModules)=false)(g:Ua s.heap a es ep)
 (q:Q (.ref s.heap.objs.size) { s with heap:=s.heap.push { cls:=.type "dict_keyiterator",data:=.fields #[.ref a,.int 0 0,.int es.size 0,.int ep 0]}}):wpAny (model P w) A (pyIter (.ref a)) Q E s:=by
 obtain⟨o,ho,hc,hd⟩:=g;have hT:s.TypeIs (.ref a) "dict":=⟨o,ho,hc.1⟩;refine wpAny_pyIter_slot hT PySem.F.slot_dict_iter (wpAny_call_entry PySem.F.slot_dict_iter hT PySem.F.entry_dict_iter ?_ (PySem.F.args_dict_iter_1 _));unfold Builtin.«dict.__iter__» Builtin.Dict.dictSlotNone;refine aS (aS (wpAny_notOrdered_dict hT ?_));show wpAny _ _ (pure (Value.ref a)) _ _ s;refine aag ?_;show wpAny _ _ (Builtin.Dict.showsAll a >>= _) _ _ s;unfold Builtin.Dict.showsAll;rw[hs];refine aS (aag (aS (wpAny_dictEntries ho hd (aS (wpAny_dictEpoch ho hd ?_)))));exact aS (wpAny_newObj_type (aag ⟨_,rfl,"dict_keyiterator",_,⟨_,aaB _ rfl,rfl⟩,acg.lookup,q⟩))
def ux{Q:Option Value->Shared->Prop}(hi:s.heap.get? it=some oi)(g:Ub oi a i es.size ep)(gd:Ua s.heap a es ep)
 (q:match (es[i]?:Option DictEntry) with
  | some e=>∀h' oi',h'.get? it=some oi'->Ub oi' a (i+1) es.size ep->Heap.SameBut it s.heap h'->Q (some e.key) { s with heap:=h'}
  | none=>A.handled=none/\∀h',Heap.ExtBut it s.heap h'->Q none { s with heap:=h'}):wpAny (model P w) A (pyNext (.ref it)) Q E s:=by
 obtain⟨hc,hd⟩:=g;obtain⟨o,ho,hx,Xo⟩:=gd;have hT:s.TypeIs (.ref it) "dict_keyiterator":=⟨oi,hi,hc⟩;unfold pyNext;refine aS (wpAny_attempt (wpAny_callSpecial?_slot (name:=Str.ofString "__next__") hT acg (wpAny_call_entry acg hT PySem.F.entry_dict_keyiterator_next ?_ (PySem.F.args_dict_keyiterator_next_1 _))));refine aS (aag (aS (aS ?_)))
 first | refine aS (wpAny_typeNameOfWhole_keyiter hT (aag ?_)) | refine aS (wpAny_typeNameOf_keyiter hT (aag ?_))
 refine aS (wpAny_fieldsOf hi hd ?_);have hown:Builtin.Dict_items.ownsTuple "dict_keyiterator"=false:=by decide
 simp only[hown,abv,if_false];show wpAny _ _ (if(Value.ref a==Value.none)=true then _ else _) _ _ s
 rw[aab (show ¬((Value.ref a==Value.none)=true) from aal)]
 refine aS (aag (aS (wpAny_dictEntries ho Xo ?_)));rw[aab (by simp)]
 refine aS (aag (aS (wpAny_dictEpoch ho Xo ?_)));rw[aab (by simp)]
 refine aag ?_;simp only[show ¬((i:Int)<0) from by lia,if_false,aau]
 cases hei:(es[i]?:Option DictEntry) with
 | some e =>
   rw[hei]at q;refine aS ?_
   first | refine aS (wpAny_typeNameOfWhole_keyiter hT (aag ?_)) | refine aS (wpAny_typeNameOf_keyiter hT (aag ?_))
   refine aS (wpAny_isOneOf_keyiter hT ?_);show wpAny _ _ (setField (.ref it) 1 (rawInt ((i:Int)+1)) >>= _) _ _ s;refine aS (wpAny_setField hi hd (by simp) ?_)
   have d1:=acz hd (·.setIfInBounds 1 (rawInt ((i:Int)+1)));have g1:=abX (Obj.mapFields (·.setIfInBounds 1 (rawInt ((i:Int)+1)))) hi (acK d1);have c1:(Obj.mapFields (·.setIfInBounds 1 (rawInt ((i:Int)+1))) oi).cls = .type "dict_keyiterator":=(Obj.cls_mapFields ..).trans hc;refine aS (aaX ?_);refine aS (wpAny_isOneOf_keyiter (s:={ s with heap:=s.heap.update it (Obj.mapFields (·.setIfInBounds 1 (rawInt ((i:Int)+1))))}) ⟨_,g1,c1⟩ ?_)
   show wpAny _ _ (pure e.key) _ _ _;exact aag (aag ⟨_,rfl,aag (q _ _ g1 ⟨c1,by rw[d1];simp[rawInt]⟩ (aa1 ..))⟩)
 | none =>
   rw[hei]at q;obtain⟨hh,q⟩:=q;refine aS ?_
   first | refine aS (wpAny_typeNameOfWhole_keyiter hT (aag ?_)) | refine aS (wpAny_typeNameOf_keyiter hT (aag ?_))
   show wpAny _ _ (setField (.ref it) 0 .none >>= _) _ _ s;refine aS (wpAny_setField hi hd (by simp) ?_)
   show wpAny _ _ (newExc (.type "StopIteration") [] >>= _) _ _ _;refine aS ?_;simp only[newExc,newTuple];refine aS (wpAny_newObj_type (aS (m:=firstArgMember _ _) (wpAny_of_eq (a:=Value.none) (by first | rfl | (simp only[firstArgMember];rfl)) (wpAny_newObj_type ?_ (by size_fits)))) (by size_fits))
   simp only[raiseNew];refine aS (wpAny_handled ?_);rw[show A.in1.handled=none from hh]
   refine aS (aag (wpAny_throw ?_));refine aS (wpAny_isInstance (T:="StopIteration") (b:=true) ⟨_,aaB _ rfl,rfl⟩ isSubtype_stop (aag ?_));exact q _ (((aa1 ..).extBut.push _).push _)
end
section
variable {X:Cx}{pq:aV}{σ:St}{H H2:Hp}{s:Shared}
def Inv.Mr{a:Addr}{kvs:List (List Key×V)}{ob:Obj}(I:Inv X pq σ H s)(e:H a=some (.dT kvs))(ho:s.heap.get? a=some ob):Inv X pq σ (upd H a (.lQ ob (.dT kvs))) s:=by
 have ne:∀b,H b=none->b≠a:=λb h z=>by rw[z,e]at h;cases h
 refine⟨I.ok,I.os,I.bare,⟨I.base.keep,I.base.slot,λb o q n hx=>?_,I.base.there,λb xs q=>?_,λb o u q=>?_,λb ps q=>?_⟩,I.loc,I.cell,?_,λx c q=>?_,λp hp=>?_,λb u q=>?_,I.len⟩
 ·have z:=I.base.free b o q n hx;rw[ak (ne b z)];exact z
 ·have z:=I.base.tups b xs q;rw[ak (aU z e (by intro z;cases z))]
  exact z
 ·have z:=I.base.kJ b o u q;rw[ak (aU z e (by intro z;cases z))]
  exact z
 ·obtain⟨more,z⟩:=I.base.lR b ps q;exact⟨more,by rw[ak (aU z e (by intro z;cases z))];exact z⟩
 ·rw[ak (ne _ I.free)];exact I.free
 ·rw[ak (ne _ (I.eU x c q))];exact I.eU x c q
 ·obtain⟨a1,a2,a3⟩:=I.pin p hp;exact⟨a1,by rw[ak (ne _ a2)];exact a2,a3⟩
 ·by_cases hb:b=a
  ·subst hb;rw[ae]at q;cases q;exact⟨ho,(I.hok b _ e).stay (λ_ _ _ q=>q) (λc q=>by rw[ak (aU q e (by intro z;cases z))];exact q) λc xs q=>by rw[ak (aU q e (by intro z;cases z))];exact q⟩
  ·rw[ak hb]at q;exact(I.hok b u q).stay (λ_ _ _ q=>q) (λc q=>by rw[ak (aU q e (by intro z;cases z))];exact q) λc xs q=>by rw[ak (aU q e (by intro z;cases z))];exact q
def Inv.Se{ur:aV}{σ0:St}{s0:Shared}{a:Addr}{kvs:List (List Key×V)}{ob:Obj}(I0:Inv X ur σ0 H s0)(e0:H a=some (.dT kvs))(I:Inv X pq σ H2 s)(e:H2 a=some (.lQ ob (.dT kvs))):
 Inv X pq σ (upd H2 a (.dT kvs)) s:=by
 have ne:∀b,H2 b=none->b≠a:=λb h z=>by rw[z,e]at h;cases h
 obtain⟨ho,hd⟩:=(show bI X.prog X.w H2 s.heap a (.lQ ob (.dT kvs)) from I.hok a _ e)
 refine⟨I.ok,I.os,I.bare,⟨I.base.keep,I.base.slot,λb o q n hx=>?_,I.base.there,λb xs q=>?_,λb o u q=>?_,λb ps q=>?_⟩,I.loc,I.cell,?_,λx c q=>?_,λp hp=>?_,λb u q=>?_,I.len⟩
 ·have z:=I.base.free b o q n hx;rw[ak (ne b z)];exact z
 ·have z:=I.base.tups b xs q;rw[ak (aU z e (by intro z;cases z))]
  exact z
 ·have z:=I.base.kJ b o u q;rw[ak (λy=>by
   have z0:=I0.base.kJ b o u q;rw[y,e0]at z0;cases z0)]
  exact z
 ·obtain⟨more,z⟩:=I.base.lR b ps q;exact⟨more,by rw[ak (aU z e (by intro z;cases z))];exact z⟩
 ·rw[ak (ne _ I.free)];exact I.free
 ·rw[ak (ne _ (I.eU x c q))];exact I.eU x c q
 ·obtain⟨a1,a2,a3⟩:=I.pin p hp;exact⟨a1,by rw[ak (ne _ a2)];exact a2,a3⟩
 ·by_cases hb:b=a
  ·subst hb;rw[ae]at q;cases q;exact hd.stay (λ_ _ _ q=>q) (λc q=>by rw[ak (aU q e (by intro z;cases z))];exact q) λc xs q=>by rw[ak (aU q e (by intro z;cases z))];exact q
  ·rw[ak hb]at q;exact(I.hok b u q).stay (λ_ _ _ q=>q) (λc q=>by rw[ak (aU q e (by intro z;cases z))];exact q) λc xs q=>by rw[ak (aU q e (by intro z;cases z))];exact q
def Df(X:Cx)(b:Addr):Prop:=X.s₀.heap.objs.size<=b/\b≠X.env.locals/\b∉X.fs/\(∀x c,X.env.cells.lookup x=some c->c≠b)/\∀p∈X.pn,p.1≠b
def Inv.Jp(I:Inv X pq σ H s){b:Addr}(hb:s.heap.objs.size<=b):Df X b :=
 let⟨_,f1,f2,_,f4,f5⟩:=I.zW hb (I.hok.fresh hb)
 ⟨aaD I.sz hb,f1,f2,f4,λp hp=>f5 p (acO _ hp)⟩
def Inv.jm{pa pb:aV}{b:Addr}{o:Obj}{h' : Heap}{t' : Nat}(I:Inv X pa σ H s)(hb:Df X b)(hin:(b,o)∈pa)(k:∀c u,c≠b->s.heap.get? c=some u->h'.get? c=some u)
 (hp:∀p∈pb,(p.1=b/\h'.get? b=some p.2/\∀v,p.2.data≠.cell v)\/(p∈pa/\p.1≠b)):Inv X pb σ H { s with heap:=h',toks:=t'}:=by
 obtain⟨b1,b2,b3,b4,b5⟩:=hb;have n:=(I.pin (b,o) (iB _ hin)).2.1;have J:=(I.fM (TL:=pa.filter λp=>decide (p.1≠b)) λp hp=>I.pin p (iB _ (aaC.mp hp).1)).turned (t':=t') k n b2 (.inr b1) b4 (λp hp=>by
  rcases aaL.mp hp with hp|hp
  ·exact b5 p hp
  ·exact jB (aaC.mp hp).2)
 refine J.fM λp h=>?_
 rcases hp p h with⟨e,g,d⟩|⟨m,ne⟩
 ·refine⟨by rw[e];exact g,by rw[e];exact n,by rw[e];exact b2,by rw[e];exact b3,d⟩
 ·exact J.pin p (iB _ (aaC.mpr ⟨m,cF ne⟩))
end
section
variable {X:Cx}{pq:aV}{σ:St}{H2:Hp}{params:Arguments}{body:Expr}{scope:Scope}{fq:List Str}{js:List Nat}{x:Str}{te:TE}{f c a It S:Addr}{oc ob:Obj}{ctv:Value}{q:Str}{kvs:List (List Key×V)}
 {es:Array DictEntry} {ep:Nat} {ka:Nat->Addr} {ks:Nat->List Int} {PZ:Addr} {R:Result->Shared->Prop}
structure Dg(X:Cx)(σ:St)(H2:Hp)(params:Arguments)(body:Expr)(scope:Scope)(fq:List Str)(js:List Nat)(x:Str)(te:TE)(f c a It S:Addr)(oc ob:Obj)(ctv:Value)(kvs:List (List Key×V))(es:Array DictEntry)(ep:Nat)(ka:Nat->Addr)(ks:Nat->List Int)(PZ:Addr):Prop where
 T:c9 X scope [x] fq js
 hx:scope.names.lookup x=some .local
 hh:X.A.handled=none
 dp:X.A.in1.depth<recursionLimit
 un:X.A.in1.units<cLine
 hb:∀u,bindArgs (AV X params body scope c ctv) ⟨[u],[]⟩=pure [(x,u)]
 co:scope.isCoroutine=false
 gen:scope.isGenerator=false
 he:∀s H,PE (uv X ([x]++fq) scope f c X.A.in1 s H) body te
 code:CodeObj oc (X.env.qual ++ "<lambda>")
 hc:H2 c=some (.lQ oc (.own PZ))
 ha:H2 a=some (.lQ ob (.dT kvs))
 hob:ob.ExactDict/\ob.data = .dict es ep
 key:∀(i:Nat) (e:DictEntry),(es[i]?:Option DictEntry)=some e->e.key = .ref (ka i)
 turn:∀i H3,i<es.size->aq H2 H3->te (some (.ref (ka i))::eN σ js) H3 λv H4=>aq H3 H4/\∃d,v = .ref d/\bg X.K H4 d ((ks i).map V.int)
 oS:Df X S
 oI:Df X It
 SI:S≠It
 fS:f≠S
 fI:f≠It
def A4{pa:aV}{s:Shared}{H3:Hp}{i:Nat}{E:di}(F:Dg X σ H2 params body scope fq js x te f c a It S oc ob ctv kvs es ep ka ks PZ)(hi:i<es.size)(hs:aq H2 H3)(I:Inv X pa σ H3 s)
 (hf:(f,dF X params body scope c ctv)∈pa) :
 wpAny (model X.prog X.w) X.A.in1 (call (.ref f) [.ref (ka i)]) (λu s'=>∃d H4,u = .ref d/\Inv X pa σ H4 s'/\aq H2 H4/\aq H3 H4/\bg X.K H4 d ((ks i).map V.int)) E s:=by
 obtain⟨hct,_⟩:=(show bI X.prog X.w H3 s.heap c (.lQ oc (.own PZ)) from I.hok c _ (hs _ _ F.hc))
 refine aaP (A3 (v:=.ref (ka i)) I F.T F.hx I.ok.frames rfl F.dp hf (F.code.rec hct) (F.hb _) F.co F.gen (F.he s H3) rfl (F.turn i H3 hi hs)) (λu s' ⟨v,H4,J,r,q1,d,e,q2⟩=>?_) λ_ _ z=>z
 subst e;cases r;exact⟨d,H4,rfl,J,λb o z=>q1 _ _ (hs _ _ z),q1,q2⟩
def Jq{pa:aV}{s:Shared}{H3:Hp}{d d' : Addr}{ns ms:List Int}{A:Around}{E:di}{Q:di}(I:Inv X pa σ H3 s)(h1:bg X.K H3 d (ns.map V.int))(h2:bg X.K H3 d' (ms.map V.int))(hu:A.units<cLine)
 (q:Q (.bool (HT.lexLt ns ms)) s):wpAny (model X.prog X.w) A (richCompare .Lt (.ref d) (.ref d')) Q E s:=by
 obtain⟨its,r1,p1,_⟩:=I.tuple h1;obtain⟨its2,r2,p2,_⟩:=I.tuple h2;exact(HT.CA p1 p2 (intsAre_of r1) (intsAre_of r2) hu q:wpAny (model X.prog X.w) A (compareOp .Lt (.ref d) (.ref d')) Q E s)
abbrev m6(pq:aV)(S It f:Addr)(oS oI lo:Obj):aV:=(S,oS)::(It,oI)::(f,lo)::pq
def Jr(F:Dg X σ H2 params body scope fq js x te f c a It S oc ob ctv kvs es ep ka ks PZ)(pI:∀p∈pq,p.1≠It)(pS:∀p∈pq,p.1≠S)
 (hR:∀i s' H3,i<es.size->(∀j,j<es.size->HT.lexLt (ks j) (ks i)=false)->aq H2 H3->Inv X pq σ H3 s'->R (.ok (.ret (.ref (ka i)))) s') :
 ∀(r j i:Nat) (s:Shared) (H3:Hp) (d:Addr) (n:Nat) (oI:Obj),es.size-j=r->j<=es.size->i<j->aq H2 H3->Inv X (m6 pq S It f (seqObj "list" #[.ref (ka i),.ref d] n) oI (dF X params body scope c ctv)) σ H3 s->Ub oI a j es.size ep->
  bg X.K H3 d ((ks i).map V.int)->(∀j',j'<j->HT.lexLt (ks j') (ks i)=false)->codeAny (model X.prog X.w) X.A (.builtin "min.loop" ⟨[.ref It,.ref f,.ref S],[]⟩) R s:=by
 have hname:(toString "min" ++ toString ".loop":String)="min.loop":=by decide
 intro r
 induction r with
 | zero =>
   intro j i s H3 d n oI hr hj hij hs I hk hd pA;have Co:j=es.size:=by lia
   have uy:=I.pin (S,_) (iB _ (.head _));have Js:=I.pin (It,oI) (iB _ (.tail _ (.head _)));obtain⟨hob,_⟩:=(show bI X.prog X.w H3 s.heap a (.lQ ob (.dT kvs)) from I.hok a _ (hs _ _ F.ha))
   refine codeAny_builtin abV ?_;rw[Around.under_plainId aaY _];show wpAny _ X.A.in1 (seqItems? (.ref S) >>= _) _ _ _;refine aS (wpAny_seqItems uy.1 rfl ?_);show wpAny _ X.A.in1 (tryCatch (pyNext (.ref It)) _ >>= _) _ _ _;refine aS (abN (ux Js.1 hk ⟨ob,hob,F.hob⟩ ?_));rw[Co,Array.getElem?_eq_none (aae _)];refine⟨F.hh,λh' eb=>?_⟩
   have I1:=I.jm (t':=s.toks) (h':=h') (pb:=(S,seqObj "list" #[.ref (ka i),.ref d] n)::pq) F.oI (List.Mem.tail _ (.head _)) (λb u hb e=>eb b u hb e) (λp hp=>by
    rcases aas.mp hp with rfl|hp
    ·exact .inr ⟨.head _,F.SI⟩
    ·exact .inr ⟨.tail _ (.tail _ (.tail _ hp)),pI p hp⟩)
   have Jt:=I1.pin (S,_) (iB _ (.head _));show wpAny _ X.A.in1 (updateSeq S (λ_=>#[]) >>= _) _ _ _
   refine aS (wpAny_updateSeq Jt.1 rfl (aS (wpAny_letGo (aag ?_))));have s1:=aa1 h' S (Obj.mapSeq λ_=>(#[]:Array Value))
   exact hR i _ H3 (by lia) (λj' hj'=>pA j' (by lia)) hs (I1.jm (t':=s.toks) (pb:=pq) F.oS (.head _) (λb u hb e=>(s1.2 b hb).trans e) λp hp=>.inr ⟨.tail _ hp,pS p hp⟩)
 | succ r ih =>
   intro j i s H3 d n oI hr hj hij hs I hk hd pA;have Co:j<es.size:=by lia
   have uy:=I.pin (S,_) (iB _ (.head _));have Js:=I.pin (It,oI) (iB _ (.tail _ (.head _)));obtain⟨hob,_⟩:=(show bI X.prog X.w H3 s.heap a (.lQ ob (.dT kvs)) from I.hok a _ (hs _ _ F.ha))
   refine codeAny_builtin abV ?_;rw[Around.under_plainId aaY _];show wpAny _ X.A.in1 (seqItems? (.ref S) >>= _) _ _ _;refine aS (wpAny_seqItems uy.1 rfl ?_);show wpAny _ X.A.in1 (tryCatch (pyNext (.ref It)) _ >>= _) _ _ _;refine aS (abN (ux Js.1 hk ⟨ob,hob,F.hob⟩ ?_));have hget:(es[j]?:Option DictEntry)=some es[j]:=Array.getElem?_eq_getElem Co;rw[hget];intro h' Hq VE hk' sb;have I1:=I.jm (t':=s.toks) (h':=h') (pb:=m6 pq S It f (seqObj "list" #[.ref (ka i),.ref d] n) Hq (dF X params body scope c ctv)) F.oI (List.Mem.tail _ (.head _)) (λb u hb e=>(sb.2 b hb).trans e) (λp hp=>by
    rcases aas.mp hp with rfl|hp
    ·exact .inr ⟨.head _,F.SI⟩
    ·rcases aas.mp hp with rfl|hp
     ·exact .inl ⟨rfl,VE,λv z=>by rw[hk'.2]at z;cases z⟩
     ·rcases aas.mp hp with rfl|hp
      ·exact .inr ⟨.tail _ (.tail _ (.head _)),F.fI⟩
      ·exact .inr ⟨.tail _ (.tail _ (.tail _ hp)),pI p hp⟩)
   rw[F.key j _ hget];show wpAny _ X.A.in1 (tryCatch (holding [.ref (ka j)] (call (.ref f) [.ref (ka j)])) _ >>= _) _ _ _;refine aS (abN (aaX (aaP (A4 F Co hs I1 (List.Mem.tail _ (.tail _ (.head _)))) (λu s2 hu=>?_) λ_ _ z=>z)))
   obtain⟨d2,H4,rfl,I2,Ik,ZX,hd2⟩:=hu;have hdo:bg X.K H4 d ((ks i).map V.int):=ZX.ZA hd;show wpAny _ X.A.in1 (tryCatch (holding [.ref (ka j),.ref d2] (richCompare .Lt (.ref d2) (.ref d) >>= _)) _ >>= _) _ _ _;refine aS (abN (aaX (aS (Jq I2 hd2 hdo F.un ?_))));refine aS (aaX (wpAny_truthy_bool (aS (wpAny_letGo (aag ?_)))));have mh:=I2.pin (S,_) (iB _ (.head _));cases hl:HT.lexLt (ks j) (ks i) with
   | true =>
     have s1:=aa1 s2.heap S (Obj.mapSeq λ_=>(#[.ref (ka j),.ref d2]:Array Value))
     obtain⟨n2,hn2⟩:∃n2,(s2.heap.update S (Obj.mapSeq λ_=>(#[.ref (ka j),.ref d2]:Array Value))).get? S=some (seqObj "list" #[.ref (ka j),.ref d2] n2):=⟨_,get?_update_seq mh.1 λ_=>#[.ref (ka j),.ref d2]⟩
     simp only[if_true];refine aS (wpAny_updateSeq mh.1 rfl (aS (wpAny_letGo ?_)));rw[hname];have I3:=I2.jm (t':=s2.toks) (pb:=m6 pq S It f (seqObj "list" #[.ref (ka j),.ref d2] n2) Hq (dF X params body scope c ctv)) F.oS (.head _) (λb u hb e=>(s1.2 b hb).trans e) (λp hp=>by
      rcases aas.mp hp with rfl|hp
      ·exact .inl ⟨rfl,hn2,λv z=>by cases z⟩
      ·rcases aas.mp hp with rfl|hp
       ·exact .inr ⟨.tail _ (.head _),F.SI.symm⟩
       ·rcases aas.mp hp with rfl|hp
        ·exact .inr ⟨.tail _ (.tail _ (.head _)),F.fS⟩
        ·exact .inr ⟨.tail _ (.tail _ (.tail _ hp)),pS p hp⟩)
     refine aag ⟨plainId_quiet aaY _,ih (j+1) j _ H4 d2 n2 Hq (by lia) (by lia) (by lia) Ik I3 hk' hd2 λj' hj'=>?_⟩
     by_cases e:j' = j
     ·rw[e];exact HT.fX _
     ·exact HT.uw (pA j' (by lia)) hl
   | false =>
     simp only[abv,if_false];refine aS (wpAny_letGo ?_);rw[hname];refine aag ⟨plainId_quiet aaY _,ih (j+1) i _ H4 d n Hq (by lia) (by lia) (by lia) Ik I2 hk' hdo λj' hj'=>?_⟩
     by_cases e:j' = j
     ·rw[e];exact hl
     ·exact pA j' (by lia)
end
def boot_min:bootBuiltins "min"=some (.builtin "min"):=by kernel_rfl
def Sf(K:bM)(P:Addr)(q:Str)(lp:Pos)(ta:TA)(te:TE)(js:List Nat):TE:=λσ H Q=>ta σ H λvs H1=>∃a kvs,∃ks:Nat->List Int,vs=[.ref a]/\H1 a=some (.dT kvs)/\0<kvs.length/\H1 P=some (.jC (eT q lp))/\
 (∀ob H3,(∀b u,H1 b=some u->b≠a->(∀y,u≠.own y)->(∀qs,u≠.jC qs)->H3 b=some u)->H3 a=some (.lQ ob (.dT kvs))->
  ∀(i:Nat) kv b,kvs[i]?=some kv->H3 b=some (.tup (kv.1.map kV))->te (some (.ref b)::eN σ js) H3 λv H4=>aq H3 H4/\∃d,v = .ref d/\bg K H4 d ((ks i).map V.int))/\
 ∀(i:Nat) kv b H4,kvs[i]?=some kv->(∀j,j<kvs.length->HT.lexLt (ks j) (ks i)=false)->aq H1 H4->H4 b=some (.tup (kv.1.map kV))->Q (.ref b) H4
def qt{α β:Type}{R:α->β->Prop}:∀{l₁:List α} {l₂:List β},Paired R l₁ l₂->∀{i:Nat} {a:α} {b:β},l₁[i]?=some a->l₂[i]?=some b->R a b
 | _,_,.nil,i,_,_,h,_=>by simp at h
 | _,_,.cons r t,0,_,_,h1,h2=>by
   simp at h1 h2;subst h1 h2;exact r
 | _,_,.cons r t,i+1,_,_,h1,h2=>qt t (by simpa using h1) (by simpa using h2)
section
variable {X:Cx}{params:Arguments}{body e:Expr}{scope:Scope}{lp p pos kp:Pos}{fq:List Str}{js:List Nat}{x:Str}{ta:TA}{te:TE}{c0 P:Addr}{k:Nat}
def Ms(hr:eK (k+2) X.A)(T:c9 X scope [x] fq js)(hx:scope.names.lookup x=some .local)(hg:Gl X "min")(hm:X.mg "min"=none)(hcode:X.env.code = .ref c0)(hK:PySem.W.codeHdIn X.K c0 P=true)(ha:PA X [e] ta)
 (he:∀f c s H,eK k (uv X ([x]++fq) scope f c X.A.in1 s H).A->PE (uv X ([x]++fq) scope f c X.A.in1 s H) body te)
 (hb:∀c ctv u,bindArgs (AV X params body scope c ctv) ⟨[u],[]⟩=pure [(x,u)]:=by intro _ _ _;rfl) (hco:scope.isCoroutine=false:=by rfl) (hgen:scope.isGenerator=false:=by rfl)
 (hdef:defaultsOf params X.env=([],[]):=by rfl)
 (hs:backTo pos (starEach [e] X.env)=(false,eval e X.env)::backTo pos (starEach [] X.env):=by rfl) (hs2:(backTo pos (starEach [e] X.env)).any (·.1)=false:=by rfl) :
 PE X (.Call (.Name "min" p) [e] [⟨some (Str.ofString "key"),.Lambda params body scope lp,kp⟩] pos) (Sf X.K P (X.env.qual ++ "<lambda>") lp ta te js):=by
 intro pq s σ H Q I h;refine wpAny_Call_Name_kw (jD I hg hm boot_min (callWith_kw (cW (ha pos pq s σ H _ I h) λus s1 hq=>?_) hs hs2 rfl rfl))
 obtain⟨vs,H1,I1,r1,a,kvs,ks,rfl,hda,hne,hP,hturn,O6⟩:=hq;obtain⟨u,rfl,rx⟩:=vals1 r1;cases rx;refine kws_cons (AW I1 T hcode hK hP hdef λf c oc ctv s2 hc AX hoc J=>kws_nil ?_)
 show wpAny _ X.A (call (.builtin "min") [.ref a] [(Str.ofString "key",.ref f)]) _ _ s2;have hname:(toString "min" ++ toString ".loop":String)="min.loop":=by decide
 have hla:=sU (oc:=oc) hP hc hda (by intro y z;cases z) (by intro y z;cases z)
 obtain⟨hz,hsys,xs,pr,ob,es,ep,hgo,hex,hdat,hes,hnd⟩:=(show bI X.prog X.w (fC H1 P c oc (X.env.qual ++ "<lambda>") lp) s2.heap a (.dT kvs) from J.hok a _ hla)
 have J2:=J.Mr hla hgo;have hsz:es.size=kvs.length:=by
  have:=abf List.length hes;rw[aac,<-pr.length]at this
  simpa using this
 have hxs:xs.length=kvs.length:=pr.length.symm;have hka:∀i,i<kvs.length->∃kv y,kvs[i]?=some kv/\xs[i]?=some y/\fC H1 P c oc (X.env.qual ++ "<lambda>") lp y.2.1=some (.tup (kv.1.map kV)):=λi hi=>by
  have e1:kvs[i]?=some kvs[i]:=aaf hi;have e2:xs[i]?=some (xs[i]'(by lia)):=aaf _
  exact⟨_,_,e1,e2,(qt pr e1 e2).2.1⟩
 have O7:fC H1 P c oc (X.env.qual ++ "<lambda>") lp P=some (.jC (eT (X.env.qual ++ "<lambda>") lp++nG lp c)):=ae;have Mt:fC H1 P c oc (X.env.qual ++ "<lambda>") lp c=some (.lQ oc (.own P)):=by unfold fC;rw[ak AX,ae]
 have ca:c≠a:=aU Mt hla (by intro z;cases z)
 have pa:P≠a:=aU O7 hla (by intro z;cases z)
 generalize LI:upd (fC H1 P c oc (X.env.qual ++ "<lambda>") lp) a (.lQ ob (.dT kvs))=H2 at J2;have at2:∀b u,b≠a->fC H1 P c oc (X.env.qual ++ "<lambda>") lp b=some u->H2 b=some u:=λb u n e=>by rw[<-LI,ak n];exact e
 have a2:H2 a=some (.lQ ob (.dT kvs)):=by rw[<-LI,ae]
 let ka:Nat->Addr:=λi=>((xs[i]?).map (·.2.1)).getD 0
 have O8:∀{i:Nat} {y:List Key×Addr×Value},xs[i]?=some y->ka i=y.2.1:=λ{i y} e=>by show((xs[i]?).map (·.2.1)).getD 0=_;rw[e];rfl
 refine kmk_tree PySem.F.kind_min PySem.F.plain_min PySem.F.entry_min (kmk_min_key _ _) ?_;show wpAny _ X.A.in1 (Builtin.Builtins.bindParams "min" ["key","default"] 0 ⟨[],[(Str.ofString "key",.ref f)]⟩ >>= _) _ _ s2;refine aS (wpAny_of_eq (show Builtin.Builtins.bindParams "min" ["key","default"] 0 ⟨[],[(Str.ofString "key",.ref f)]⟩=pure [some (.ref f),none] from rfl) ?_)
 refine aS (aag (aS (Jo hsys ⟨ob,hgo,hex,hdat⟩ (aS (wpAny_newList ?_ (aaN _))))));rw[hname];refine aag ⟨plainId_quiet aaY _,?_⟩;generalize O9:({ cls:=.type "dict_keyiterator",data:=.fields #[.ref a,.int 0 0,.int es.size 0,.int ep 0]}:Obj)=oI;have Xp:Ub oI a 0 es.size ep:=by rw[<-O9];exact⟨rfl,rfl⟩
 have hS:(s2.heap.push oI).objs.size=s2.heap.objs.size+1:=size_push' ..;have hk2:∀b o,s2.heap.get? b=some o->((s2.heap.push oI).push (seqObj "list" #[] 0)).get? b=some o:=λb o e=>aai _ (aai _ e)
 have gI:((s2.heap.push oI).push (seqObj "list" #[] 0)).get? s2.heap.objs.size=some oI:=aai _ (aaB _ (by rw[<-O9];rfl))
 have gS:((s2.heap.push oI).push (seqObj "list" #[] 0)).get? (s2.heap.push oI).objs.size=some (seqObj "list" #[] 0):=aaB _ rfl;have Mu:∀p∈(f,dF X params body scope c ctv)::pq,p.1<s2.heap.objs.size:=λp hp=>aaq (J2.pin p (iB _ hp)).1
 have NH:=J2.Jp (aae s2.heap.objs.size);have oS:=J2.Jp (b:=(s2.heap.push oI).objs.size) (by rw[hS];exact abA _)
 have F:Dg X σ H2 params body scope fq js x te f c a s2.heap.objs.size (s2.heap.push oI).objs.size oc ob ctv kvs es ep ka ks P:=by
  refine⟨T,hx,hr.hd,(hr.in1).depth,(hr.in1).Cz,λu=>hb c ctv u,hco,hgen,λs H=>he f c s H ((hr.in1).deeper _),hoc,at2 c _ ca Mt,a2,⟨hex,hdat⟩,λi e hi=>?_,λi H3 hi Cp=>?_,oS,NH,by rw[hS];exact adg _,?_,aaK (Mu _ (.head _))⟩
  ·have hi' : i<kvs.length:=by rw[<-hsz];exact(abW.mp hi).1
   obtain⟨kv,y,e1,e2,_⟩:=hka i hi';have e3:=abf (λl=>l[i]?) hes
   simp only[aan,e2,ab9,Array.getElem?_toList]at e3;rw[hi]at e3;have e4:=Option.some.inj e3;rw[e4,O8 e2];rfl
  ·obtain⟨kv,y,e1,e2,e3⟩:=hka i (by lia)
   refine hturn ob H3 (λb u eb nb n1 n2=>Cp _ _ (at2 b u nb (sU hP hc eb n1 n2))) (Cp _ _ a2) i kv (ka i) e1 ?_
   rw[O8 e2];exact Cp _ _ (at2 _ _ (aU e3 hla (by intro z;cases z)) e3)
  ·rw[hS];exact aaK (abI (Mu _ (.head _)))
 have pI:∀p∈pq,p.1≠s2.heap.objs.size:=λp hp=>aaK (Mu p (.tail _ hp))
 have pS:∀p∈pq,p.1≠(s2.heap.push oI).objs.size:=λp hp=>by rw[hS];exact aaK (abI (Mu p (.tail _ hp)))
 have J3:Inv X (m6 pq (s2.heap.push oI).objs.size s2.heap.objs.size f (seqObj "list" #[] 0) oI (dF X params body scope c ctv)) σ H2 { s2 with heap:=(s2.heap.push oI).push (seqObj "list" #[] 0)}:=by
  have K:=J2.kept (t':=s2.toks) hk2;refine K.fM λp hp=>?_
  rcases aas.mp hp with rfl|hp
  ·exact⟨gS,J2.hok.fresh (by rw[hS];exact abA _),oS.2.1,oS.2.2.1,λv z=>by cases z⟩
  ·rcases aas.mp hp with rfl|hp
   ·exact⟨gI,J2.hok.fresh (aae _),NH.2.1,NH.2.2.1,λv z=>by rw[Xp.2]at z;cases z⟩
   ·exact K.pin p (iB _ hp)
 have h0:0<es.size:=by lia
 have hget:(es[0]?:Option DictEntry)=some es[0]:=Array.getElem?_eq_getElem h0;have uy:=J3.pin ((s2.heap.push oI).objs.size,seqObj "list" #[] 0) (iB _ (.head _));have Js:=J3.pin (s2.heap.objs.size,oI) (iB _ (.tail _ (.head _)));refine codeAny_builtin abV ?_;rw[Around.under_plainId aaY _];show wpAny _ X.A.in1 (seqItems? (.ref _) >>= _) _ _ _;refine aS (wpAny_seqItems uy.1 rfl ?_);show wpAny _ X.A.in1 (tryCatch (pyNext (.ref s2.heap.objs.size)) _ >>= _) _ _ _;refine aS (abN (ux Js.1 Xp ⟨ob,hk2 _ _ hgo,hex,hdat⟩ ?_));rw[hget];intro h' Hq VE hk' sb;have I4:=J3.jm (t':=s2.toks) (h':=h') (pb:=m6 pq (s2.heap.push oI).objs.size s2.heap.objs.size f (seqObj "list" #[] 0) Hq (dF X params body scope c ctv)) F.oI (List.Mem.tail _ (.head _)) (λb u hb e=>(sb.2 b hb).trans e) (λp hp=>by
  rcases aas.mp hp with rfl|hp
  ·exact .inr ⟨.head _,F.SI⟩
  ·rcases aas.mp hp with rfl|hp
   ·exact .inl ⟨rfl,VE,λv z=>by rw[hk'.2]at z;cases z⟩
   ·rcases aas.mp hp with rfl|hp
    ·exact .inr ⟨.tail _ (.tail _ (.head _)),F.fI⟩
    ·exact .inr ⟨.tail _ (.tail _ (.tail _ hp)),pI p hp⟩)
 rw[F.key 0 _ hget];show wpAny _ X.A.in1 (tryCatch (holding [.ref (ka 0)] (call (.ref f) [.ref (ka 0)])) _ >>= _) _ _ _;refine aS (abN (aaX (aaP (A4 F h0 (aq.refl _) I4 (List.Mem.tail _ (.tail _ (.head _)))) (λu s3 hu=>?_) λ_ _ z=>z)))
 obtain⟨d2,H4,rfl,I5,Ik,_,hd2⟩:=hu;have mh:=I5.pin ((s2.heap.push oI).objs.size,_) (iB _ (.head _));have s1':=aa1 s3.heap (s2.heap.push oI).objs.size (Obj.mapSeq λ_=>(#[.ref (ka 0),.ref d2]:Array Value))
 obtain⟨n2,hn2⟩:∃n2,(s3.heap.update (s2.heap.push oI).objs.size (Obj.mapSeq λ_=>(#[.ref (ka 0),.ref d2]:Array Value))).get? (s2.heap.push oI).objs.size=some (seqObj "list" #[.ref (ka 0),.ref d2] n2):=⟨_,get?_update_seq mh.1 λ_=>#[.ref (ka 0),.ref d2]⟩
 show wpAny _ X.A.in1 (updateSeq (s2.heap.push oI).objs.size (λ_=>#[.ref (ka 0),.ref d2]) >>= _) _ _ _
 refine aS (wpAny_updateSeq mh.1 rfl ?_);rw[hname];have I6:=I5.jm (t':=s3.toks) (pb:=m6 pq (s2.heap.push oI).objs.size s2.heap.objs.size f (seqObj "list" #[.ref (ka 0),.ref d2] n2) Hq (dF X params body scope c ctv)) F.oS (.head _) (λb u hb e=>(s1'.2 b hb).trans e) (λp hp=>by
  rcases aas.mp hp with rfl|hp
  ·exact .inl ⟨rfl,hn2,λv z=>by cases z⟩
  ·rcases aas.mp hp with rfl|hp
   ·exact .inr ⟨.tail _ (.head _),F.SI.symm⟩
   ·rcases aas.mp hp with rfl|hp
    ·exact .inr ⟨.tail _ (.tail _ (.head _)),F.fS⟩
    ·exact .inr ⟨.tail _ (.tail _ (.tail _ hp)),pS p hp⟩)
 refine aag ⟨plainId_quiet aaY _,Jr F pI pS (λi s' H3 hi best Cp I7=>?_) _ 1 0 _ H4 d2 n2 Hq rfl h0 (acj _) Ik I6 hk' hd2 λj hj=>?_⟩
 ·obtain⟨kv,y,e1,e2,e3⟩:=hka i (by lia)
  have i3:=Cp _ _ a2;have I8:=Inv.Se J hla I7 i3;have p3:upd H3 a (.dT kvs) P=some (.jC (eT (X.env.qual ++ "<lambda>") lp++nG lp c)):=by rw[ak pa];exact Cp _ _ (at2 _ _ pa O7)
  have c3:upd H3 a (.dT kvs) c=some (.lQ oc (.own P)):=by rw[ak ca];exact Cp _ _ (at2 _ _ ca Mt)
  have I9:=AY I1 hP hc AX hoc I8 p3 c3;have ya:y.2.1≠a:=aU e3 hla (by intro z;cases z)
  have y3:upd H3 a (.dT kvs) y.2.1=some (.tup (kv.1.map kV)):=by rw[ak ya];exact Cp _ _ (at2 _ _ ya e3)
  refine⟨.ref (ka i),_,I9,rfl,O6 i kv (ka i) _ e1 (λj hj=>best j (by lia)) (AZ hP hc AX (oc:=oc) λb u eb=>?_) ?_⟩
  ·by_cases hb:b=a
   ·subst hb;rw[hla]at eb;rw[ae];exact eb
   ·rw[ak hb];exact Cp _ _ (at2 _ _ hb eb)
  ·rw[O8 e2];unfold given;rw[ak (aU y3 p3 (by intro z;cases z)),ak (aU y3 c3 (by intro z;cases z))]
   exact y3
 ·have e:j=0:=by lia
  rw[e];exact HT.fX _
end
section
variable {P:Program}{w:World}{A:Around}{E:di}{s:Shared}{a:Addr}{es:Array DictEntry}{ep:Nat}
def Pa(hd:(a==sysModules)=false):MeetsIn P w (Builtin.«dict.__len__» ⟨[.ref a],[]⟩) (λ_ R s=>∃es ep,Ua s.heap a es ep/\R (.ok (.ret (.int es.size s.toks))) { s with toks:=s.toks+1}) :=
 .of_wp λA R s ⟨es,ep,⟨o,ho,_,hdat⟩,h⟩=>by
  show wpAny _ _ (dictSize a >>= _) _ _ s;unfold dictSize;refine aS (aS (wpAny_dictEntries ho hdat (aag ?_)));show wpAny _ _ (Builtin.Dict.pendingCount a >>= _) _ _ s;refine aS (wpAny_pendingCount_other hd (wpAny_ret_mkInt ?_));rw[Nat.add_zero];exact h
def F8{Q:di}(hd:(a==sysModules)=false)(g:Ua s.heap a es ep)(hfit:(es.size:Int)<2^63)(h:Q (.int es.size (s.toks+1)) { s with toks:=s.toks+1+1}):
 wpAny (model P w) A (call (.builtin "len") [.ref a]) Q E s:=by
 have hT:s.TypeIs (.ref a) "dict":=let⟨o,ho,hc,_⟩:=g;⟨o,ho,hc.1⟩;refine Calls.call_function_entry kind_len plain_len entry_len (args_len1 _) ?_;unfold Builtin.«len»;refine aS (m:=oneArg "len" _) (aag ?_);refine aS (m:=callSpecial? (.ref a) (Str.ofString "__len__")) (wpAny_callSpecial?_slot (name:=Str.ofString "__len__") hT PySem.F.slot_dict_len
  (call_meetsIn PySem.F.slot_dict_len hT PySem.F.entry_dict_len (PySem.F.args_dict_len_1 _) (Pa hd) ⟨es,ep,g,?_⟩))
 show wpAny _ _ _ _ _ { s with toks:=s.toks+1}
 refine aS (aaX (aag (aS (wpAny_letGo ?_))));show wpAny _ _ (if((es.size:Nat):Int)<0 then _ else _) _ _ _
 rw[aab (by lia)]
 show wpAny _ _ (if((es.size:Nat):Int) ≥ 2^63 then _ else _) _ _ _
 rw[aab (by lia)]
 exact aS (wpAny_mkInt (aag ⟨_,rfl,h⟩))
end
def erase_filter{K α:Type}[DecidableEq K]{k:K}{p:α}:∀{xs:List (K×α)} {j:Nat},(xs.map (·.1)).Nodup->xs[j]?=some (k,p)->xs.eraseIdx j=xs.filter λx=>decide (x.1≠k)
 | [],j,_,h=>by simp at h
 | x::r,0,nd,h=>by
   simp at h;subst h;rw[aaT,aa6]at nd;rw[List.eraseIdx_cons_zero,aaJ,aab (by simp)]
   refine(List.filter_eq_self.mpr λy hy=>?_).symm
   have z:y.1≠k:=λz=>nd.1 (aaH.mpr ⟨y,hy,z⟩)
   simp[z]
 | x::r,j+1,nd,h=>by
   rw[aaT,aa6]at nd;have h:r[j]?=some (k,p):=by simpa using h
   have hx:x.1≠k:=λz=>nd.1 (by rw[z];exact acq (f:=(·.1)) (iq h))
   rw[ac6,aaJ,aad (cF hx),erase_filter nd.2 h]
def nM{α β:Type}(f:α->β):∀(l:List α) (i:Nat),(l.map f).eraseIdx i=(l.eraseIdx i).map f
 | [],_=>rfl
 | _::_,0=>rfl
 | x::r,i+1=>by rw[aaT,ac6,ac6,aaT,nM f r i]
def KT.drop{H:Hp}{kvs:List (List Key×V)}{xs:List (List Key×Addr×Value)}(r:KT H kvs xs)(k:List Key):KT H (dc kvs k) (xs.filter λx=>decide (x.1≠k)):=by
 unfold dc
 induction r with
 | nil=>exact .nil
 | @cons p q ps qs h t ih =>
   rw[aaJ,aaJ]
   by_cases e:p.1=k
   ·rw[aab (by simp[e]),aab (by simp[h.1.symm.trans e])];exact ih
   ·have e' : ¬ q.1=k:=λz=>e (h.1.trans z)
    rw[aad (by simp[e]),aad (by simp[e'])];exact .cons h ih
section
variable {P:Program}{w:World}{A:Around}{E:di}{s:Shared}{K:Type}[DecidableEq K]{knd:HeapKind P w K}{d b:Addr}{xs:List (K×Addr×Value)}{k:K}{j:Nat}{p:Addr×Value}
def Pb{Q:Option DictEntry->Shared->Prop}(hu:knd.room A)(hkey:knd.is s.heap k b)(hm:s.heap.DictOfH knd d xs)(hj:xs[j]?=some (k,p))(hsz:xs.length<=sizeLine)
 (h:∀e h' o' es' Ff,e.val=p.2->h'.get? d=some o'->o'.ExactDict->o'.data = .dict es' Ff->es'.toList=(xs.eraseIdx j).map (entryOfKey knd)->Heap.SameBut d s.heap h'->Q (some e) { s with heap:=h',toks:=s.toks+knd.draws k}) :
 wpAny (model P w) A (Builtin.Dict.takeOut d (.ref b)) Q E s:=by
 obtain⟨o,es,ep,ho,hc,hd,he,his,hn⟩:=hm;unfold Builtin.Dict.takeOut
 try with_reducible refine aaX ?_
 refine aS (knd.pyHash hu hkey (aS (wpAny_dictFind_heap (s:={ s with toks:=s.toks+knd.draws k}) hu hkey ho hd he his hn (λhno=>absurd hj (hno j p)) λj' p' hj'=>?_)))
 have ZY:j' = j:=idxH_unique hn hj' hj;subst ZY;refine aS (wpAny_dictEntries (s:={ s with toks:=s.toks+knd.draws k}) ho hd ?_)
 rw[entry_at he j',hj];refine aS (wpAny_updateDictKeys (hz:=by have e:=size_of_entries he;lia) (s:={ s with toks:=s.toks+knd.draws k}) ho hd (aag (h _ _ _ _ (ep+1) rfl (abX _ ho (Obj.isFreed_of_dict (Obj.data_mapDictKeys hd _))) (hc.mapDictKeys _) (Obj.data_mapDictKeys hd _) ?_ (aa1 ..))))
 rw[<-nM,<-he];obtain⟨l⟩:=es;simp
def Sg{Q:di}(hu:knd.room A.in1)(hkey:knd.is s.heap k b)(hm:s.heap.DictOfH knd d xs)(hj:xs[j]?=some (k,p))(hsz:xs.length<=sizeLine)
 (h:∀h' o' es' Ff,h'.get? d=some o'->o'.ExactDict->o'.data = .dict es' Ff->es'.toList=(xs.eraseIdx j).map (entryOfKey knd)->Heap.SameBut d s.heap h'->Q p.2 { s with heap:=h',toks:=s.toks+knd.draws k}) :
 wpAny (model P w) A (call (.builtin "dict.pop") [.ref d,.ref b]) Q E s:=by
 have hT:=hm.typeIs;refine wpAny_call_entry PySem.F.slot_dict_pop hT PySem.F.entry_dict_pop ?_ (PySem.F.args_dict_pop_2 _ _);unfold Builtin.«dict.pop» Builtin.Dict.keyAndDefault;refine aS (aS (wpAny_notOrdered_dict hT ?_));show wpAny _ _ (pure (d,Value.ref b,(none:Option Value))) _ _ s;refine aag ?_;obtain⟨o,es,ep,ho,hc,hd,he,his,hn⟩:=id hm;have hne:es.isEmpty=false:=by
  have e:=size_of_entries he;have hl:=(jf.mp hj).1;rw[Array.isEmpty_eq_false_iff_exists_mem];exact⟨es[j]'(by lia),Array.getElem_mem _⟩
 have hkp:(keyPart (Value.ref b)).isSome=false:=rfl;simp only[hkp,abv,if_false];refine aS (wpAny_dictEntries ho hd (aS (aag ?_)));rw[hne];simp only[abv,if_false];refine aS (Pb hu hkey hm hj hsz λe h' o' es' Ff e1 e2 e3 e4 e5 e6=>?_)
 simp only[Option.isNone_some,abv,if_false];refine aS (wpAny_letGo (aag ⟨e.val,rfl,?_⟩));rw[e1];exact h h' o' es' Ff e2 e3 e4 e5 e6
end
section
variable {X:Cx}{pq:aV}{σ:St}{H:Hp}{s:Shared}
def VF:gw X (.builtin "len") (λxs H Q=>∃a kvs,xs=[.ref a]/\Rd H a (.dT kvs)/\Q (.int kvs.length) H):=by
 intro pq s σ H xs us Q I r h;obtain⟨a,kvs,rfl,e,q⟩:=h;obtain⟨u,rfl,rx⟩:=vals1 r;cases rx;obtain⟨z,hsys,ys,pr,ob,es,ep,hgo,hex,hdat,hes,hnd⟩:=(show bI X.prog X.w H s.heap a (.dT kvs) from e.ok I.hok)
 have hsz:es.size=kvs.length:=by
  have:=abf List.length hes;rw[aac,<-pr.length]at this
  simpa using this
 refine F8 hsys ⟨ob,hgo,hex,hdat⟩ (by rw[hsz];rw[sizeLine_eq]at z;lia) ?_
 rw[hsz];exact⟨.int kvs.length,H,I.tok _,⟨_,rfl⟩,q⟩
def Pc(td ty:TE):TE:=λσ H Q=>td σ H λx H1=>∃a,x = .ref a/\Vz H1 a/\ty σ H1 λy H2=>∃kvs k b v,H2 a=some (.dT kvs)/\y = .ref b/\H2 b=some (.tup (k.map kV))/\dM kvs k=some v/\Q v (upd H2 a (.dT (dc kvs k)))
def Pd{A:Around}{E:di}{a b:Addr}{kvs:List (List Key×V)}{k:List Key}{v:V}{Q:di}(hu:A.units+1<cLine)(I:Inv X pq σ H s)(e:H a=some (.dT kvs))(eb:H b=some (.tup (k.map kV)))(l:dM kvs k=some v)
 (h:∀w' s',Inv X pq σ (upd H a (.dT (dc kvs k))) s'->RelV v w'->Q w' s'):wpAny (model X.prog X.w) A (call (.builtin "dict.pop") [.ref a,.ref b]) Q E s:=by
 obtain⟨z,hd,xs,rel,dd⟩:=IJ I.hok e;have hv:=rel.val k;rw[l]at hv;obtain⟨w',hw,rw'⟩:=pW.some_of hv;obtain⟨p,Xq,Qt⟩:=wM.mp hw;obtain⟨j,hj⟩:∃j,xs[j]?=some (k,p):=by
  unfold atKey at Xq;obtain⟨y,Xr,VG⟩:=wM.mp Xq;have hk:=List.find?_some Xr;have hm:=List.mem_of_find?_eq_some Xr;obtain⟨j,hj⟩:=aa3 hm;have hk' : y.1=k:=jB hk;exact⟨j,by rw[hj,<-hk',<-VG]⟩
 have hnd:(xs.map (·.1)).Nodup:=let⟨_,_,_,_,_,_,_,_,hn⟩:=dd;hn;refine Sg (tupleKind_room_in1 hu) (qh I.hok eb) dd hj (by rw[<-rel.length];exact z) λh' o' es' Ff g1 g2 g3 g4 sb=>?_
 rw[Qt];refine h w' _ ?_ rw';have hne:∀b ys,H b=some (.tup ys)->upd H a (.dT (dc kvs k)) b=some (.tup ys):=λb ys q=>by rw[ak (aU q e (by intro z;cases z))];exact q
 rw[erase_filter hnd hj]at g4;refine sP I (by rw[e];exact True.intro) sb ⟨o',g1⟩ ⟨aaD (II kvs k) z,hd,_,(rel.drop k).keeps hne,o',es',Ff,g1,g2,g3,g4,?_⟩
 exact hnd.sublist (List.filter_sublist.map _)
variable {o e:Expr}{apos cpos:Pos}{td ty:TE}
def Ju(hu:X.A.units+1<cLine)(ho:PE X o td)(he:PE X e ty)(m:M1 X o "pop" apos e cpos):PE X (.Call (.Attribute o "pop" apos) [e] [] cpos) (Pc td ty):=by
 intro pq s σ H Q I h;refine wpAny_Call_method m.base m.few m.line PySem.F.plainAttrs_dict PySem.F.slot_dict_pop PySem.F.type_dict_pop (cW (ho pq s σ H _ I h) λu s1 ⟨x,H1,I1,rx,a,ex,d,q1⟩=>?_)
 subst ex;obtain rfl:u=Value.ref a:=rx;obtain⟨t1,t2,_⟩:=IP I1 d;refine⟨t1,t2,?_⟩;rw[m.trees];refine Calls.callWith_builtin rfl (Calls.evalArgs_plain (Calls.spliced_cons (cW (he pq s1 σ H1 _ I1 q1) λiv s2 ⟨y,H2,I2,ry,kvs,k,b,v,ea,ey,eb,l,q2⟩=>Calls.spliced_nil ?_)))
 subst ey;obtain rfl:iv=Value.ref b:=ry;exact Pd hu I2 ea eb l λw' s3 I3 rw'=>⟨v,_,I3,rw',q2⟩
def Pe(tk tv:TE):TE:=λσ H Q=>∀p,H p=none->tk σ (upd H p (.dT [])) λy H1=>tv σ H1 λv H2=>∃b k,y = .ref b/\H2 b=some (.tup (k.map kV))/\H2 p=some (.dT [])/\Q (.ref p) (upd H2 p (.dT [(k,v)]))
end
section
variable {X:Cx}{k v:Expr}{pos:Pos}{tk tv:TE}
def Jv(hu:X.A.units+1<cLine)(hk:PE X k tk)(hv:PE X v tv):PE X (.Dict [some k] [v] pos) (Pe tk tv):=by
 intro pq s σ H Q I q;have hn:=I.hok.fresh (aae s.heap.objs.size);have I1:=I.laid (a:=s.heap.objs.size) (o:=.dT []) (h':=s.heap.push { cls:=.type "dict",data:=.dict #[]}) (t':=s.toks) (λ_ _ q=>aai _ q) (aae _) (IM s.heap I.big)
 rw[arm_eval_Dict,zip_pairTrees [some k] [v] X.env pos rfl rfl,dictDisplay_pairs (pairTrees [some k] [v] X.env pos) (by intro z;cases z) (show 1<17 by decide)]
 refine aS (wpAny_standAt (aS ?_));unfold subDict;refine aS (wpAny_alloc (aS (aaX ?_)));rw[aad (show(pairTrees [some k] [v] X.env pos).length<=15 from(show 1<=15 by decide))]
 refine aS (pairTrees_cons_walk (cW (hk pq _ σ _ _ I1 (q _ hn)) λu s1 ⟨y,H1,I2,ry,q1⟩=>cW (hv pq s1 σ H1 _ I2 q1) λu2 s2 ⟨vv,H2,I3,rv,b,ks,ey,eb,ep,q2⟩=>pairTrees_nil_walk ?_))
 subst ey;obtain rfl:u=Value.ref b:=ry;obtain⟨z,hd,xs,rel,dd⟩:=IJ I3.hok ep;cases rel;refine aaX (aS ?_);rw[List.forIn_cons];refine aS (aS (wpAny_dictSet_heap (hsz:=aaN _) (show X.A.units<cLine from Nat.lt_of_succ_lt hu) (qh I3.hok eb) dd λh' Qz hs=>aag ?_))
 show wpAny _ _ (forIn [] PUnit.unit _) _ _ _;rw[List.forIn_nil];refine aag (aag (aag (aag ?_)));obtain⟨o',es',Ff,g1,g2,g3,g4,g5,g6⟩:=Qz;have hb:upd H2 s.heap.objs.size (.dT [(ks,vv)]) b=some (.tup (ks.map kV)):=by
  rw[ak (aU eb ep (by intro z;cases z))]
  exact eb
 have new:bI X.prog X.w (upd H2 s.heap.objs.size (.dT [(ks,vv)])) h' s.heap.objs.size (.dT [(ks,vv)]):=⟨(show 1<=sizeLine by decide),hd,[(ks,b,u2)],.cons ⟨rfl,hb,rv⟩ .nil,o',es',Ff,g1,g2,g3,g4,g6⟩
 exact⟨.ref s.heap.objs.size,_,sP I3 (by rw[ep];exact True.intro) hs ⟨o',g1⟩ new,rfl,q2⟩
end
end L2
namespace HT
open PySem PyProof.Rows
def Mv(a b c d:Int):Bool:=if a=c then(if b=d then true else decide (b<=d)) else decide (a<=c)
def yO(a b c d:Int):Mv a b c d=true↔a<c\/(a=c/\b<=d):=by
 unfold Mv
 by_cases h:a=c
 ·rw[aad h]
  by_cases h2:b=d
  ·rw[aad h2];simp[h,h2]
  ·rw[aab h2];simp only[decide_eq_true_eq];lia
 ·rw[aab h];simp only[decide_eq_true_eq];lia
def Jw(A:Around)(s:Shared)(a:Int)(t:Tok)(c:Int)(u:Tok)(prog:Program)(w:World)(E:di)(Q:di)(h:Q (.bool (decide (a<=c))) s):
 wpAny (model prog w) A (richCompare .LtE (.int a t) (.int c u)) Q E s :=
 (PyProof.Rows.le_int h:wpAny (model prog w) A (compareOp .LtE (.int a t) (.int c u)) Q E s)
section
open PySem.SeqAt
open PySem.AutoSeq1 (wpAny_loadPart')
open PySem.MeetsSeq PySem.MeetsSeq2 PySem.MeetsSeq3
def F9(l b:Addr)(items items2:Array Value)(n n2:Nat)(dd dd2:Option Addr)(sl sl2:Array (Option Value))(x1 y1 x2 y2:Int)(t1 u1 t2 u2:Tok)(hi:items.toList=[.int x1 t1,.int y1 u1])(hj:items2.toList=[.int x2 t2,.int y2 u2]):
 Meets (Builtin.«tuple.__le__» ⟨[.ref l,.ref b],[]⟩)
  (λ_ R s=>s.heap.get? l=some { cls:=.type "tuple",dict:=dd,data:=.seq items n,slots:=sl}/\s.heap.get? b=some { cls:=.type "tuple",dict:=dd2,data:=.seq items2 n2,slots:=sl2}/\
   R (.ok (.ret (.bool (Mv x1 y1 x2 y2)))) s) :=
 .of_wp λprog w A R s h=>by
  obtain⟨hp,g,d,tk,os⟩:=s;obtain⟨hl,hb,h⟩:=h;have f2:=AutoSeq1.sub_tuple_tuple;have z1:items.size=2:=by rw[<-ab4,hi];rfl
  have z2:items2.size=2:=by rw[<-ab4,hj];rfl
  wp_walk using wpAny_loadPart' hl,wpAny_loadPart' hb,wpAny_forIn_list _ (λrest b s'=>b.1=none/\s' = ⟨hp,g,d,tk,os⟩/\
   ((rest=[((Value.int x1 t1:Value),(Value.int x2 t2:Value)),(.int y1 u1,.int y2 u2)]/\R (.ok (.ret (.bool (Mv x1 y1 x2 y2)))) ⟨hp,g,d,tk,os⟩)\/
    (rest=[((Value.int y1 u1:Value),(Value.int y2 u2:Value))]/\R (.ok (.ret (.bool (if y1=y2 then true else decide (y1<=y2))))) ⟨hp,g,d,tk,os⟩)\/(rest=[]/\R (.ok (.ret (.bool true))) ⟨hp,g,d,tk,os⟩))) _
  case turn =>
   rintro⟨y,x⟩ rest b s' ⟨hb',rfl,hh⟩;obtain⟨a,c,t,u,vv,hy,hx,hR,hN⟩:∃(a c:Int) (t u:Tok) (vv:Bool),y = .int a t/\x = .int c u/\R (.ok (.ret (.bool (if a=c then vv else decide (a<=c))))) ⟨hp,g,d,tk,os⟩/\
    (R (.ok (.ret (.bool vv))) ⟨hp,g,d,tk,os⟩->(rest=[((Value.int y1 u1:Value),(Value.int y2 u2:Value))]/\R (.ok (.ret (.bool (if y1=y2 then true else decide (y1<=y2))))) ⟨hp,g,d,tk,os⟩)\/(rest=[]/\R (.ok (.ret (.bool true))) ⟨hp,g,d,tk,os⟩)):=by
    rcases hh with⟨hz,hR⟩|⟨hz,hR⟩|⟨hz,_⟩
    ·injection hz with ha hr
     obtain⟨hy,hx⟩:=Prod.mk.inj ha;exact⟨x1,x2,t1,t2,_,hy,hx,hR,λVH=>.inl ⟨hr,VH⟩⟩
    ·injection hz with ha hr
     obtain⟨hy,hx⟩:=Prod.mk.inj ha;exact⟨y1,y2,u1,u2,true,hy,hx,hR,λVH=>.inr ⟨hr,VH⟩⟩
    ·cases hz
   subst hy hx;obtain⟨e,he,HN⟩:=z5 A.in1 ⟨hp,g,d,tk,os⟩ a t c u;refine wpAny_bind (he prog w _ _ ?_);cases e with
   | true =>
     rw[aad (HN.mp rfl)]at hR
     wp_walk
     exact⟨rfl,rfl,.inr (hN hR)⟩
   | false =>
     rw[aab (λq=>absurd (HN.mpr q) aal)]at hR
     have Ls:=Jw A.in1 ⟨hp,g,d,tk,os⟩ a t c u prog w
     wp_walk using Ls
     exact⟨_,rfl,by simpa using hR⟩
  case fin =>
   rintro⟨b1,b2⟩ s' ⟨hb',rfl,hh⟩;simp only at hb';subst hb';rcases hh with⟨hz,_⟩|⟨hz,_⟩|⟨_,hR⟩
   ·cases hz
   ·cases hz
   ·wp_walk
    refine⟨_,rfl,?_⟩
    simpa[Builtin.Tuple.tupleCompareSizes,z1,z2]using hR
  case h =>
   refine⟨rfl,rfl,.inl ⟨?_,h⟩⟩;rw[hi,hj];rfl
end
section
variable {prog:Program}{w:World}{A:Around}{E:di}{s:Shared}
def Jx{l b:Addr}{items items2:Array Value}{x1 y1 x2 y2:Int}{Q:di}(hl:IsTup s.heap l items)(hb:IsTup s.heap b items2)(hi:IntsAre items.toList [x1,y1])(hj:IntsAre items2.toList [x2,y2])
 (hu:A.units<cLine) (h:Q (.bool (Mv x1 y1 x2 y2)) s):wpAny (model prog w) A (compareOp .LtE (.ref l) (.ref b)) Q E s:=by
 obtain⟨⟨cls,dd,data,sl⟩,ho,hc,n,hd⟩:=id hl;obtain⟨⟨Rq,dd2,data2,sl2⟩,ho2,hc2,n2,hd2⟩:=id hb;simp only at hc hd hc2 hd2;subst hc hd hc2 hd2;have two:∀{vs:List Value} {a c:Int},IntsAre vs [a,c]->∃t u,vs=[.int a t,.int c u]:=λ{vs a c} q=>by
  cases q with
  | cons n t r=>cases r with
    | cons n' t' r'=>cases r';exact⟨t,t',rfl⟩
 obtain⟨t1,u1,e1⟩:=two hi;obtain⟨t2,u2,e2⟩:=two hj;exact richCompare_meets_room (op:=.LtE) ⟨_,ho,rfl⟩ ⟨_,ho2,rfl⟩ PySem.F.slot_tuple_le PySem.F.entry_tuple_le (PySem.F.args_tuple_le_2 _ _) (F9 l b items items2 n n2 dd dd2 sl sl2 x1 y1 x2 y2 t1 u1 t2 u2 e1 e2)
  ⟨ho,ho2,show Value.bool (Mv x1 y1 x2 y2)≠Value.notImplemented/\Q (.bool (Mv x1 y1 x2 y2)) s from⟨(λx=>nomatch x),h⟩⟩ hu
end
end HT
namespace L2
open PySem PySem.Spec PyProof.Rows
section
variable {X:Cx}
def VI(K:bM):R2:=λx y H Q=>∃a b x1 y1 x2 y2,x = .ref a/\y = .ref b/\bg K H a [.int x1,.int y1]/\bg K H b [.int x2,.int y2]/\Q (.bl (HT.Mv x1 y1 x2 y2)) H
def Pf(hu:X.A.units<cLine):kG X (compareOp .LtE) (VI X.K):=by
 intro pq s σ H x y v u Q I rx ry h;obtain⟨a,b,x1,y1,x2,y2,rfl,rfl,ha,hb,q⟩:=h;cases rx;cases ry;obtain⟨its,r1,p1,_⟩:=I.tuple ha;obtain⟨its2,r2,p2,_⟩:=I.tuple hb;exact HT.Jx p1 p2 (intsAre_of (ns:=[x1,y1]) r1) (intsAre_of (ns:=[x2,y2]) r2) hu ⟨.bl (HT.Mv x1 y1 x2 y2),H,I,rfl,q⟩
end
abbrev rY:=List (Addr×Str×Pos)
structure TabsOk(K:bM)(h:Heap)(tb:rY):Prop where
 nd:(tb.map (·.1)).Nodup
 mt:∀p∈tb,h.get? p.1=some (PySem.W.tabObj #[])
 code:∀p∈tb,∃c,PySem.W.CodeHd h c p.1
 out:∀p∈tb,K.lookup p.1=none
def TabsAt(tb:rY)(H:Hp):Prop:=∀p∈tb,H p.1=some (.jC (eT p.2.1 p.2.2))
def A5(tb:rY):Hp:=λb=>(tb.find? λp=>p.1==b).map λp=>.jC (eT p.2.1 p.2.2)
def m7{tb:rY}{b:Addr}{u:HO}(e:A5 tb b=some u):∃p∈tb,p.1=b/\u = .jC (eT p.2.1 p.2.2):=by
 unfold A5 at e;obtain⟨p,h1,h2⟩:=wM.mp e;have h3:(p.1==b)=true:=List.find?_some (p:=λp:Addr×Str×Pos=>p.1==b) h1
 exact⟨p,List.mem_of_find?_eq_some h1,eq_of_beq h3,h2.symm⟩
def yP:∀{tb:rY},(tb.map (·.1)).Nodup->TabsAt tb (A5 tb)
 | [],_=>λp hp=>nomatch hp
 | q::r,nd=>λp hp=>by
   rw[aaT,aa6]at nd;rcases aas.mp hp with rfl|hp
   ·unfold A5;rw[List.find?_cons_of_pos (by simp)];rfl
   ·have ne:(q.1==p.1)=false:=beq_eq_false_iff_ne.mpr λz=>nd.1 (by rw[z];exact acq hp)
    unfold A5;rw[List.find?_cons_of_neg (by rw[ne];exact aal)]
    exact yP nd.2 p hp
def Ga{P:Program}{w:World}{K:bM}{mg mb:oE}{CX:Hj}{k:Nat}{fa a:Addr}{fd:FuncData}{x:Str}{sp:Sp}{s₁:Shared}{vs:List Value}{ns:List Int}{tb:rY}
 (KX:K.In s₁.heap) (TB:TabsOk K s₁.heap tb) (hns:s₁.heap.Ns mainGlobals mg) (hb:s₁.heap.Ns builtinsNs mb) (VJ:∀x:Str,x≠"__name__"->mb x=bootBuiltins x) (hlim:s₁.heap.NoLimit)
 (hbm:∃bm ob,mg "__builtins__"=some (.ref bm)/\bm≠builtinsNs/\s₁.heap.get? bm=some ob/\ob.cls = .type "module"/\ob.dict=some builtinsNs/\ob.data = .plain) (hg:s₁.gens = #[])
 (ha:s₁.heap.get? a=some { cls:=.type "list",data:=.seq vs.toArray}) (hi:IntsAre vs ns) (hl:ns.length<=sizeLine) (hr:eK k callerA)
 (F:∀base:Heap,K.In base->base.Ns mainGlobals mg->lT P w K mg base CX k fa fd [x] sp) (hbind:∀(s:Shared) (u:Value),BindsTo s fd ⟨[u],[]⟩ [(x,u)])
 (Cn:∀H:Hp,TabsAt tb H->aL K H a (ns.map V.int)->sp [.ref a] H (λv _=>v = .bl true) λ_ _ _=>False)
 (VL:∀H e s',CX [] H s₁ (λ_ _ _=>False) e s'->False) :
 codeAny (model P w) callerA (.call (.ref fa) ⟨[.ref a],[]⟩) (λr s'=>r = .ok (.ret (.bool true))/\OldK s₁.heap s'.heap/\s'.os=s₁.os/\AllBare s'.gens) s₁:=by
 have rv:=w9 hi;have VM:=hi.length;have aT:∀p∈tb,p.1≠a:=λp hp z=>by
  have:=TB.mt p hp;rw[z,ha]at this;cases this
 let fz:HO:=.lQ { cls:=.type "list",data:=.seq vs.toArray} (.lst (ns.map V.int))
 have core:∀H:Hp,aL K H a (ns.map V.int)->TabsAt tb H->mQ P w H s₁.heap->(∀b u,H b=some u->(b=a/\K.lookup a=none/\u=fz)\/∃p∈tb,p.1=b/\u = .jC (eT p.2.1 p.2.2))->
  codeAny (model P w) callerA (.call (.ref fa) ⟨[.ref a],[]⟩) (λr s'=>r = .ok (.ret (.bool true))/\OldK s₁.heap s'.heap/\s'.os=s₁.os/\AllBare s'.gens) s₁:=by
  intro H hS hT hok hA;have free:∀{b:Addr} {o:Obj},s₁.heap.get? b=some o->(∀xs n,o.data≠.seq xs n)->(∀xs,o.data≠.fields xs)->H b=none:=λ{b o} e n1 n2=>by
   cases q:H b with
   | none=>rfl
   | some u =>
     rcases hA b u q with⟨z,_⟩|⟨p,hp,z,_⟩
     ·rw[z,ha]at e;cases e;exact absurd rfl (n1 _ _)
     ·rw[<-z,TB.mt p hp]at e;cases e;exact absurd rfl (n2 _)
  have Uc:∀{b:Addr} {m:oE},s₁.heap.Ns b m->(zT s₁.heap H).Ns b m:=λ{b m} ⟨o,es,ep,e,d,r⟩=>⟨o,es,ep,tE e (free e (by intro _ _ z;rw[d]at z;cases z) (by intro _ z;rw[d]at z;cases z)),d,r⟩
  have Xs:K.In (zT s₁.heap H):=λb o e=>tE (KX b o e) (by
   cases q:H b with
   | none=>rfl
   | some u =>
     rcases hA b u q with⟨z,n,_⟩|⟨p,hp,z,_⟩
     ·rw[z,n]at e;cases e
     ·rw[<-z,TB.out p hp]at e;cases e)
  have hM:Mod K mg (zT s₁.heap H):=⟨Xs,Uc hns,⟨mb,Uc hb,VJ⟩,(let⟨mc,h1,h2⟩:=hlim;⟨mc,Uc h1,h2⟩),
   let⟨bm,ob,b1,b2,b3,b4,b5,b6⟩:=hbm;⟨bm,ob,b1,b2,tE b3 (free b3 (by intro _ _ z;rw[b6]at z;cases z) (by intro _ z;rw[b6]at z;cases z)),b4,b5,b6⟩⟩
  have e0:Lq P w K mg (zT s₁.heap H) callerA [] s₁ H:=⟨rfl,hM,λb o e=>Lb e,Nat.le_of_eq (Fe _ _),trivial,λb hb=>absurd (show b∈([]:List Addr) from hb) (by simp),hok,.of_eq hg⟩
  refine codeAny_mono ((F _ Xs (Uc hns)).run callerA [] s₁ H ⟨[.ref a],[]⟩ [.ref a] [.ref a] _ _ hr e0 (hbind s₁ (.ref a)) (.cons rfl .nil) (Cn H hT hS)) λr s' h=>?_
  cases r with
  | error e=>exact(VL H e s' h).elim
  | ok fl =>
    cases fl with
    | next=>exact False.elim h
    | brk=>exact False.elim h
    | cont=>exact False.elim h
    | ret u =>
      obtain⟨v,H',os,bare,un,Sh,r',q⟩:=h;have q' : v = .bl true:=q;subst q';obtain rfl:u=Value.bool true:=r';have all:∀b o,s₁.heap.get? b=some o->s'.heap.get? b=some o\/∃p∈tb,p.1=b/\∃ps,s'.heap.get? b=some (PySem.W.tabObj ps):=λb o e=>by
       cases q:H b with
       | none=>exact .inl (un.keep b o e q (by intro z;exact absurd (show b∈([]:List Addr) from z) (by simp)) (by simp))
       | some u =>
         rcases hA b u q with⟨z,_,z2⟩|⟨p,hp,z,z2⟩
         ·rw[z2]at q;obtain⟨e1,_⟩:=hok b _ q;obtain⟨e2,_⟩:=Sh b _ (un.kJ b _ _ q);rw[e]at e1;cases e1;exact .inl e2
         ·rw[z2]at q;obtain⟨more,q2⟩:=un.lR b _ q;obtain⟨ps,e2,_⟩:=Sh b _ q2;exact .inr ⟨p,hp,z,ps,e2⟩
      refine⟨rfl,⟨λb o e=>?_,λb o e=>?_⟩,os,bare⟩
      ·rcases all b o e with z|⟨p,hp,z,ps,e2⟩
       ·exact .inl z
       ·obtain⟨c,hc⟩:=TB.code p hp;have e1:=TB.mt p hp;subst z;rw[e]at e1;cases e1;exact .inr (.inl ⟨(hc.tab e).isCodeTable,rfl,#[],ps,rfl,by rw[e2,Array.empty_append]⟩)
      ·rcases all b o e with z|⟨p,hp,z,ps,e2⟩
       ·exact⟨o,z⟩
       ·exact⟨_,e2⟩
 have tok:∀{H:Hp} {b:Addr} {p},p∈tb->p.1=b->bI P w H s₁.heap b (.jC (eT p.2.1 p.2.2)):=λ{H b p} hp z=>⟨#[],by rw[<-z];exact TB.mt p hp,.inl ⟨rfl,.inl rfl⟩⟩
 cases hk:K.lookup a with
 | some o =>
   have e:=KX a o hk;rw[ha]at e;cases e;refine core (A5 tb) (.inr ⟨_,vs.toArray,_,hk,rfl,rfl,rfl,by rw[aav,VM];exact hl,by simpa using rv⟩) (yP TB.nd) (λb u e=>?_) λb u e=>.inr (m7 e)
   obtain⟨p,hp,z,rfl⟩:=m7 e;exact tok hp z
 | none =>
   refine core (λb=>if b=a then some fz else A5 tb b) (.inl (.inr ⟨{ cls:=.type "list",data:=.seq vs.toArray},aad rfl⟩)) (λp hp=>?_) (λb u e=>?_) λb u e=>?_
   ·show(if p.1=a then some fz else A5 tb p.1)=_
    rw[aab (aT p hp)];exact yP TB.nd p hp
   ·by_cases hb:b=a
    ·have z:=(aad hb).symm.trans e;cases z;subst hb;exact⟨ha,by rw[aac];exact hl,vs,_,rv,ha⟩
    ·have z:=(aab hb).symm.trans e;obtain⟨p,hp,z2,rfl⟩:=m7 z;exact tok hp z2
   ·by_cases hb:b=a
    ·have z:=(aad hb).symm.trans e;exact .inl ⟨hb,hk,(Option.some.inj z).symm⟩
    ·exact .inr (m7 ((aab hb).symm.trans e))
def Jy{l:PySem.W.OpenLaw}{n k:Nat}{q:Program}{loose:List Str}{XP:(Str->Option Value)->Heap->Prop}{YP:World->Heap->Prop}{d:DefRec}{K:Params->bM}{CX:World->Hj}{sp:World->rY->Sp}{x:Str}{ts:List Addr}
 (hn:l.most=some n) (hn2:n<=sizeLine) (Np:d.params.defaults=[]) (hr:eK k callerA)
 (hY:∀(w:World) (h:Heap),YP w h->(K w.params).In h/\∀P∈ts,h.get? P=some (PySem.W.tabObj #[]))
 (F:∀(w:World) (mg:oE) (fa:Addr) (h:Heap),(K w.params).In h->h.Ns mainGlobals mg->mg d.name=some (.ref fa)->
  ∃(fd:FuncData) (tb:rY),((tb.map (·.1)).Nodup/\PySem.W.noTabs (K w.params)=true/\∀p∈tb,p.1∈ts/\∃c,PySem.W.codeHdIn (K w.params) c p.1=true)/\(∀(s:Shared) (u:Value),BindsTo s fd ⟨[u],[]⟩ [(x,u)])/\
   ∀base:Heap,(K w.params).In base->base.Ns mainGlobals mg->lT l.prog w (K w.params) mg base (CX w) k fa fd [x] (sp w tb))
 (Cn:∀(w:World) (H:Hp) (a:Addr) (ns:List Int) (tb:rY),ns.length<=n->TabsAt tb H->aL (K w.params) H a (ns.map V.int)->sp w tb [.ref a] H (λv _=>v = .bl true) λ_ _ _=>False)
 (VL:∀(w:World) (H:Hp) (s:Shared) (e:Value) (s' : Shared),CX w [] H s (λ_ _ _=>False) e s'->False) :
 PySem.W.WalkO q loose XP YP l.row.toRowW d [] (λf vs=>PySem.call f vs):=by
 refine Att.z7 hn Np λw s₀ s₁ mg mb fa o pm cd doc a vs ns G Y ho hd hcd hmg hobj hints hlen hg=>?_
 obtain⟨KX,hts⟩:=hY w _ Y;obtain⟨fd,tb,⟨nd,nt,ht⟩,hb,hF⟩:=F w mg fa _ KX G.T.g hmg;have TB:TabsOk (K w.params) s₁.heap tb:=⟨nd,λp hp=>hts _ (ht p hp).1,λp hp=>let⟨_,c,e⟩:=ht p hp;⟨c,PySem.W.codeHd_of_K KX e⟩,λp hp=>by
  cases e:(K w.params).lookup p.1 with
  | none=>rfl
  | some ob =>
    have e1:=KX _ _ e;rw[hts _ (ht p hp).1]at e1;cases e1;have z:=adF.mp nt (p.1,PySem.W.tabObj #[]) (PySem.W.mem_of_lookupK e);exact absurd (show false=true from z) aal⟩
 exact Ga KX TB G.T.g G.T.b G.T.builtins G.T.nolimit G.T.bmain hg hobj hints (aaD hlen hn2) hr hF hb (λH hT hS=>Cn w H a ns tb hlen hT hS) λH e s'=>VL w H s₁ e s'
def qu(f:Str):Str:=f ++ ".<locals>." ++ "<lambda>"
structure Dh(K:bM)(x qual:Str)(st:Stmt)(f:Addr)(fd:FuncData)(c0 P:Addr):Prop where
 ex:∃(oc:Value) (od:Option Addr) (kV doc pm:Value) (an:Option Addr) (ct:Value) (osl:Array (Option Value)),
  fd=PySem.W.fnOf x qual (dG st) (bW st) (ai st) .none kV doc pm an (.ref c0) ct/\K.lookup f=some ⟨oc,od,.func fd,osl⟩/\PySem.W.codeIn K (.ref c0) qual=true
 kp:PySem.W.keepIn K (.ref f)=true
 hd:PySem.W.codeHdIn K c0 P=true
section
variable {P:Program}{w:World}{K:bM}{mg:oE}{base:Heap}{x qual:Str}{st:Stmt}{f c0 p0:Addr}{fd:FuncData}
def Dh.ok{N ps:List Str}{k:Nat}{sp:Sp}(F:Dh K x qual st f fd c0 p0)(S:aE N ps (ai st))(len:∀vs H Q E,sp vs H Q E->vs.length=ps.length)
 (hbody:∀(A:Around) (outer:List Env) (s:Shared) (H:Hp) (vs:List V) (Q:VK) (E:XK),eK k (A.deeper (envOfC qual (ai st) s.heap.objs.size f (.ref c0)))->sp vs H Q E->
  ∃t,wO (rQ Ek P w K mg base N qual (ai st) f (.ref c0) A outer s H E).Cm (bW st) t/\t { nx:=λ_ H'=>Q .dS H',rt:=Q} (start N vs) H):lT P w K mg base Ek (k+1) f fd ps sp:=by
 obtain⟨oc,od,kV,doc,pm,an,ct,osl,rfl,lk,hcd⟩:=F.ex;refine HK lk hcd S len λA outer s H vs Q E hr Cn=>?_
 obtain⟨t,h,q⟩:=hbody A outer s H vs Q E hr Cn;exact⟨t,h.Cm,q⟩
def Dh.binds{ps:List Str}(F:Dh K x qual st f fd c0 p0)
 (h:∀(kV doc pm:Value) (an:Option Addr) (cdv ct:Value) (us:List Value),us.length=ps.length->bindArgs (PySem.W.fnOf x qual (dG st) (bW st) (ai st) .none kV doc pm an cdv ct) ⟨us,[]⟩=pure (ps.zip us)):Binds K fd ps []:=by
 obtain⟨oc,od,kV,doc,pm,an,ct,osl,rfl,lk,hcd⟩:=F.ex;exact .all (h kV doc pm an (.ref c0) ct)
def Mw{oc:Value}{od an:Option Addr}{osl:Array (Option Value)}{kV doc pm ct:Value}(l:K.lookup f=some ⟨oc,od,.func (PySem.W.fnOf x qual (dG st) (bW st) (ai st) .none kV doc pm an (.ref c0) ct),osl⟩)
 (c:PySem.W.codeIn K (.ref c0) qual=true) (k:PySem.W.keepIn K (.ref f)=true) (hd:PySem.W.codeHdIn K c0 p0=true):Dh K x qual st f (PySem.W.fnOf x qual (dG st) (bW st) (ai st) .none kV doc pm an (.ref c0) ct) c0 p0 :=
 ⟨⟨oc,od,kV,doc,pm,an,ct,osl,rfl,l,c⟩,k,hd⟩
end
end L2
namespace RM
abbrev OW:=Nat->Bool->Option (Int×Nat)
def iZ(F:OW)(x:Nat)(s:Bool)(d:Int×Nat):OW:=λy t=>if y=x/\t=s then some d else F y t
def yQ(F:OW)(x:Nat)(s:Bool):OW:=λy t=>if y=x/\t=s then none else F y t
def bN(F:OW)(x:Nat)(s:Bool)(d:Int×Nat):iZ F x s d x s=some d:=aad ⟨rfl,rfl⟩
def br{F:OW}{x y:Nat}{s t:Bool}{d:Int×Nat}(h : ¬(y=x/\t=s)):iZ F x s d y t=F y t:=aab h
def sV(F:OW)(x:Nat)(s:Bool):yQ F x s x s=none:=aad ⟨rfl,rfl⟩
def m8{F:OW}{x y:Nat}{s t:Bool}(h : ¬(y=x/\t=s)):yQ F x s y t=F y t:=aab h
def Wz(N:Net)(L:Nat->Int)(m u v:Nat)(s:Bool)(z:Int)(e:Nat):Prop:=∃pre,Wl N L m u pre v s z e
structure Dj(N:Net)(L:Nat->Int)(m u:Nat)(F W:OW)(now:Option (Nat×Bool))(done:Nat->Nat->Prop):Prop where
 fw:∀x s d,F x s=some d->Wz N L m u x s d.1 d.2
 ww:∀x s d,W x s=some d->Wz N L m u x s d.1 d.2
 dj:∀x s d,W x s=some d->F x s=none
 le:∀x s d y t d',F x s=some d->W y t=some d'->d.1<=d'.1
 mx:∀x s d y t d',now=some (x,s)->F x s=some d->F y t=some d'->d'.1<=d.1
 cl:∀x s d k y,F x s=some d->k<N.n->Jn N k x y->(now=some (x,s)->done k y)->∃d',(F y (s^^m.testBit k)=some d'\/W y (s^^m.testBit k)=some d')/\d'.1<=d.1+L k
 st:∃d,(F u false=some d\/W u false=some d)/\d.1<=0
section
variable {N:Net}{L:Nat->Int}{m u:Nat}{F W:OW}
def Dj.start:Dj N L m u (λ_ _=>none) (iZ (λ_ _=>none) u false (0,0)) none (λ_ _=>False):=by
 refine⟨λ_ _ _ h=>(nomatch h),λx s d h=>?_,λ_ _ _ _=>rfl,λ_ _ _ _ _ _ h=>(nomatch h),λ_ _ _ _ _ _ h=>(nomatch h),λ_ _ _ _ _ h=>(nomatch h),⟨(0,0),.inr (bN _ _ _ _),abL _⟩⟩
 by_cases e:x=u/\s=false
 ·obtain⟨rfl,rfl⟩:=e;rw[bN]at h;cases h;exact⟨[],.nil⟩
 ·rw[br e]at h;cases h
def Dj.pop(h:Dj N L m u F W none (λ_ _=>False)){x:Nat}{s:Bool}{d:Int×Nat}(e:W x s=some d)(hmin:∀y t d',W y t=some d'->d.1<=d'.1):Dj N L m u (iZ F x s d) (yQ W x s) (some (x,s)) (λ_ _=>False):=by
 have hF:=h.dj x s d e;have of:∀y t d',iZ F x s d y t=some d'->(y=x/\t=s/\d' = d)\/F y t=some d':=λy t d' q=>by
  by_cases z:y=x/\t=s
  ·obtain⟨rfl,rfl⟩:=z;rw[bN]at q;exact .inl ⟨rfl,rfl,(Option.some.inj q).symm⟩
  ·rw[br z]at q;exact .inr q
 have ow:∀y t d',yQ W x s y t=some d'->¬(y=x/\t=s)/\W y t=some d':=λy t d' q=>by
  by_cases z:y=x/\t=s
  ·obtain⟨rfl,rfl⟩:=z;rw[sV]at q;cases q
  ·rw[m8 z]at q;exact⟨z,q⟩
 have moved:∀y t d',F y t=some d'\/W y t=some d'->iZ F x s d y t=some d'\/yQ W x s y t=some d':=λy t d' q=>by
  by_cases z:y=x/\t=s
  ·obtain⟨rfl,rfl⟩:=z;rcases q with q|q
   ·rw[hF]at q;cases q
   ·rw[e]at q;cases q;exact .inl (bN _ _ _ _)
  ·rw[br z,m8 z];exact q
 refine⟨λy t d' q=>?_,λy t d' q=>h.ww y t d' (ow y t d' q).2,λy t d' q=>?_,λy t d' y2 t2 d2 q q2=>?_,λy t d' y2 t2 d2 hn q q2=>?_,λy t d' k y2 q hk hj hd=>?_,?_⟩
 ·rcases of y t d' q with⟨rfl,rfl,rfl⟩|q
  ·exact h.ww _ _ _ e
  ·exact h.fw y t d' q
 ·obtain⟨z,q⟩:=ow y t d' q;rw[br z];exact h.dj y t d' q
 ·obtain⟨_,q2⟩:=ow y2 t2 d2 q2;rcases of y t d' q with⟨_,_,rfl⟩|q
  ·exact hmin _ _ _ q2
  ·exact h.le _ _ _ _ _ _ q q2
 ·cases hn;rw[bN]at q;cases q;rcases of y2 t2 d2 q2 with⟨_,_,rfl⟩|q2
  ·exact abL _
  ·exact h.le _ _ _ _ _ _ q2 e
 ·rcases of y t d' q with⟨rfl,rfl,rfl⟩|q
  ·exact(hd rfl).elim
  ·obtain⟨d2,q2,l2⟩:=h.cl y t d' k y2 q hk hj (λz=>nomatch z)
   exact⟨d2,moved _ _ _ q2,l2⟩
 ·obtain⟨d2,q2,l2⟩:=h.st;exact⟨d2,moved _ _ _ q2,l2⟩
def Dj.put{done:Nat->Nat->Prop}{x:Nat}{s:Bool}(h:Dj N L m u F W (some (x,s)) done){d:Int×Nat}{k y:Nat}(e:F x s=some d)(hk:k<N.n)(hL:0<=L k)(hj:Jn N k x y)(hF:F y (s^^m.testBit k)=none)
 (hW:∀d',W y (s^^m.testBit k)=some d'->d.1+L k<=d'.1):Dj N L m u F (iZ W y (s^^m.testBit k) (d.1+L k,d.2^^^2^k)) (some (x,s)) (λk' y'=>done k' y'\/(k' = k/\y' = y)):=by
 have ow:∀v t d',iZ W y (s^^m.testBit k) (d.1+L k,d.2^^^2^k) v t=some d'->(v=y/\t=(s^^m.testBit k)/\d' = (d.1+L k,d.2^^^2^k))\/W v t=some d':=λv t d' q=>by
  by_cases z:v=y/\t=(s^^m.testBit k)
  ·obtain⟨rfl,rfl⟩:=z;rw[bN]at q;exact .inl ⟨rfl,rfl,(Option.some.inj q).symm⟩
  ·rw[br z]at q;exact .inr q
 have moved:∀v t d',F v t=some d'\/W v t=some d'->∃d2,(F v t=some d2\/iZ W y (s^^m.testBit k) (d.1+L k,d.2^^^2^k) v t=some d2)/\d2.1<=d'.1:=λv t d' q=>by
  rcases q with q|q
  ·exact⟨d',.inl q,abL _⟩
  ·by_cases z:v=y/\t=(s^^m.testBit k)
   ·obtain⟨rfl,rfl⟩:=z;exact⟨_,.inr (bN _ _ _ _),hW d' q⟩
   ·exact⟨d',.inr (by rw[br z];exact q),abL _⟩
 refine⟨h.fw,λv t d' q=>?_,λv t d' q=>?_,λv t d' v2 t2 d2 q q2=>?_,h.mx,λv t d' k2 y2 q hk2 K3 hd=>?_,?_⟩
 ·rcases ow v t d' q with⟨rfl,rfl,rfl⟩|q
  ·obtain⟨pre,w⟩:=h.fw x s d e;exact⟨_,w.go hk hj⟩
  ·exact h.ww v t d' q
 ·rcases ow v t d' q with⟨rfl,rfl,rfl⟩|q
  ·exact hF
  ·exact h.dj v t d' q
 ·rcases ow v2 t2 d2 q2 with⟨rfl,rfl,rfl⟩|q2
  ·have:=h.mx x s d v t d' rfl e q;show d'.1<=d.1+L k
   lia
  ·exact h.le _ _ _ _ _ _ q q2
 ·by_cases hd2:some (x,s)=some (v,t)->done k2 y2
  ·obtain⟨d2,q2,l2⟩:=h.cl v t d' k2 y2 q hk2 K3 hd2;obtain⟨d3,q3,l3⟩:=moved _ _ _ q2;exact⟨d3,q3,Int.le_trans l3 l2⟩
  ·have hn:some (x,s)=some (v,t):=aap λz=>hd2 λz2=>absurd z2 z
   rcases hd hn with z|⟨rfl,rfl⟩
   ·exact absurd (λ_=>z) hd2
   ·cases hn;rw[e]at q;cases q;exact⟨_,.inr (bN _ _ _ _),abL _⟩
 ·obtain⟨d2,q2,l2⟩:=h.st;obtain⟨d3,q3,l3⟩:=moved _ _ _ q2;exact⟨d3,q3,Int.le_trans l3 l2⟩
def Dj.skip{done:Nat->Nat->Prop}{x:Nat}{s:Bool}(h:Dj N L m u F W (some (x,s)) done){d d2:Int×Nat}{k y:Nat}(e:F x s=some d)(hL:0<=L k)(q2:F y (s^^m.testBit k)=some d2\/(W y (s^^m.testBit k)=some d2/\d2.1<=d.1+L k)):
 Dj N L m u F W (some (x,s)) (λk' y'=>done k' y'\/(k' = k/\y' = y)):=by
 refine⟨h.fw,h.ww,h.dj,h.le,h.mx,λv t d' k2 y2 q hk2 K3 hd=>?_,h.st⟩
 by_cases hd2:some (x,s)=some (v,t)->done k2 y2
 ·exact h.cl v t d' k2 y2 q hk2 K3 hd2
 ·have hn:some (x,s)=some (v,t):=aap λz=>hd2 λz2=>absurd z2 z
  rcases hd hn with z|⟨rfl,rfl⟩
  ·exact absurd (λ_=>z) hd2
  ·cases hn;rw[e]at q;cases q;rcases q2 with q2|⟨q2,l2⟩
   ·have:=h.mx x s d _ _ d2 rfl e q2;exact⟨d2,.inl q2,by lia⟩
   ·exact⟨d2,.inr q2,l2⟩
def Dj.all{done:Nat->Nat->Prop}{x:Nat}{s:Bool}(h:Dj N L m u F W (some (x,s)) done)(ha:∀k y,k<N.n->Jn N k x y->done k y):Dj N L m u F W none (λ_ _=>False) :=
 ⟨h.fw,h.ww,h.dj,h.le,λ_ _ _ _ _ _ z=>(nomatch z),λv t d k y q hk hj _=>h.cl v t d k y q hk hj λz=>by cases z;exact ha k y hk hj,h.st⟩
def Dj.best(h:Dj N L m u F W none (λ_ _=>False))(hW:∀x s,W x s=none)(x:Nat)(s:Bool):Jg N L m u x s ((F x s).map (·.1)):=by
 have low:∀{pre:List Nat} {v e:Nat} {t:Bool} {z:Int},Wl N L m u pre v t z e->∃d,F v t=some d/\d.1<=z:=λ{pre v e t z} w=>by
  induction w with
  | nil =>
    obtain⟨d,q,l⟩:=h.st;rcases q with q|q
    ·exact⟨d,q,l⟩
    ·rw[hW]at q;cases q
  | @go pre v w k e s z _ hk hj ih =>
    obtain⟨d,q,l⟩:=ih;obtain⟨d2,q2,l2⟩:=h.cl _ _ d k _ q hk hj (λz=>nomatch z)
    rcases q2 with q2|q2
    ·exact⟨d2,q2,by lia⟩
    ·rw[hW]at q2;cases q2
 cases q:F x s with
 | none =>
   intro z ⟨_,_,w⟩;obtain⟨d,q2,_⟩:=low w;rw[q]at q2;cases q2
 | some d =>
   obtain⟨pre,w⟩:=h.fw x s d q;refine⟨⟨_,_,w⟩,λz ⟨_,_,w2⟩=>?_⟩
   obtain⟨d2,q2,l2⟩:=low w2;rw[q]at q2;cases q2;exact l2
end
end RM
namespace L2
open PySem Ring
abbrev ky(x:Nat)(s:Bool):List Key:=[.inl (x:Int),.inl (s.toNat:Int)]
def Di{x y:Nat}{s t:Bool}(h:ky x s=ky y t):x=y/\s=t:=by
 injection h with h1 h2
 injection h2 with h2 _
 injection h1 with h1
 injection h2 with h2
 refine⟨by lia,?_⟩
 cases s<;>cases t<;>first | rfl | (simp at h2)
def wV(H:Hp):Option (Int×Nat)->V->Prop
 | none,v=>v = .dS
 | some d,v=>∃c,v = .ref c/\H c=some (.tup [.int d.1,.int (d.2:Int)])
def wV.tups{H H' : Hp}{o:Option (Int×Nat)}{v:V}(h:wV H o v)(s:dJ H H'):wV H' o v:=by
 cases o with
 | none=>exact h
 | some d=>obtain⟨c,e,q⟩:=h;exact⟨c,e,s _ _ q⟩
structure uz(p:Nat)(H0:Hp)(D wd:Addr)(es:List Addr)(kvs:List (List Key×V))(F W:RM.OW)(H:Hp):Prop where
 same:aq H0 H
 nd:es.Nodup
 ne:D∉es
 fr:∀b∈es,H0 b=none
 Dn:H0 D=none
 wn:H0 wd=none
 wD:wd≠D
 wE:wd∉es
 lst:H D=some (.lst (es.map V.ref))
 at_:∀i b,es[i]?=some b->∃v0 v1,H b=some (.lst [v0,v1])/\wV H (F i false) v0/\wV H (F i true) v1
 dt:H wd=some (.dT kvs)
 kn:(kvs.map (·.1)).Nodup
 keys:∀kv∈kvs,∃x s,x<p/\kv.1=ky x s
 out:∀x s d,W x s=some d->x<p
 val:∀x s,(W x s=none/\dM kvs (ky x s)=none)\/∃d c,W x s=some d/\dM kvs (ky x s)=some (.ref c)/\H c=some (.tup [.int d.1,.int (d.2:Int)])
section
variable {p:Nat}{H0 H H' : Hp}{D wd:Addr}{es:List Addr}{kvs:List (List Key×V)}{F W:RM.OW}
def uz.go(h:uz p H0 D wd es kvs F W H)(s:aq H H'):uz p H0 D wd es kvs F W H' :=
 ⟨h.same.trans s,h.nd,h.ne,h.fr,h.Dn,h.wn,h.wD,h.wE,s _ _ h.lst,λi b e=>let⟨v0,v1,a,b1,c⟩:=h.at_ i b e;⟨v0,v1,s _ _ a,b1.tups s.tups,c.tups s.tups⟩,s _ _ h.dt,h.kn,h.keys,h.out,
  λx t=>(h.val x t).imp (λz=>z) λ⟨d,c,a,b,e⟩=>⟨d,c,a,b,s _ _ e⟩⟩
def uz.len(h:uz p H0 D wd es kvs F W H):kvs.length<=2*p:=by
 have hn:=h.kn;have hk:=h.keys
 let code:List Key->Nat:=λk=>match k with | [.inl x,.inl s]=>2*x.toNat+s.toNat | _=>0
 have inj:∀a∈kvs.map (·.1),∀b∈kvs.map (·.1),code a=code b->a=b:=λa ha b hb e=>by
  obtain⟨u,hu,rfl⟩:=aaH.mp ha;obtain⟨v,hv,rfl⟩:=aaH.mp hb;obtain⟨x,s,_,ex⟩:=hk u hu;obtain⟨y,t,_,ey⟩:=hk v hv;rw[ex,ey]at e ⊢;have e:2*((x:Int)).toNat+((s.toNat:Int)).toNat=2*((y:Int)).toNat+((t.toNat:Int)).toNat:=e;rw[aau,aau,aau,aau]at e;have hs:s.toNat<2:=by cases s<;>decide
  have ht:t.toNat<2:=by cases t<;>decide
  have e1:x=y:=by lia
  have e2:s.toNat=t.toNat:=by lia
  have e3:s=t:=by cases s<;>cases t<;>first | rfl | (simp at e2)
  rw[e1,e3]
 have nd:((kvs.map (·.1)).map code).Nodup:=by
  revert inj
  generalize kvs.map (·.1)=l at hn;intro inj
  induction hn with
  | nil=>exact ac4
  | @cons a l h1 h2 ih =>
    rw[aaT,aa6];refine⟨λhm=>?_,ih λa ha b hb e=>inj a (nR _ ha) b (nR _ hb) e⟩
    obtain⟨b,hb,e⟩:=aaH.mp hm;exact h1 b hb (inj a aar b (nR _ hb) e.symm)
 have sub:∀c∈(kvs.map (·.1)).map code,c∈List.range (2*p):=λc hc=>by
  obtain⟨a,ha,rfl⟩:=aaH.mp hc;obtain⟨u,hu,rfl⟩:=aaH.mp ha;obtain⟨x,s,hx,ex⟩:=hk u hu;rw[ex,aax];show 2*((x:Int)).toNat+((s.toNat:Int)).toNat<2*p;rw[aau,aau];have hs:s.toNat<2:=by cases s<;>decide
  lia
 have:=nd.length_le_of_subset sub
 simpa using this
def uz.row(h:uz p H0 D wd es kvs F W H){i:Nat}(hi:i<es.length):∃b v0 v1,(es.map V.ref)[i]?=some (.ref b)/\es[i]?=some b/\H b=some (.lst [v0,v1])/\wV H (F i false) v0/\wV H (F i true) v1:=by
 have e:es[i]?=some es[i]:=aaf hi;obtain⟨v0,v1,a,b,c⟩:=h.at_ i _ e;exact⟨es[i],v0,v1,by rw[aan,e];rfl,e,a,b,c⟩
def qv{κ:Type}[DecidableEq κ](k j:κ):∀kvs:List (κ×V),dM (dc kvs k) j=if j=k then none else dM kvs j
 | []=>by rw[show dc ([]:List (κ×V)) k=[] from rfl,ue];split<;>rfl
 | q::r=>by
   by_cases e:q.1=k
   ·rw[xC e,qv k j r]
    by_cases e2:j=k
    ·rw[aad e2,aad e2]
    ·rw[aab e2,aab e2,cg (λz=>e2 (z.symm.trans e))]
   ·rw[xD e]
    by_cases e3:q.1=j
    ·rw[cA e3,aab (λz=>e (e3.trans z)),cA e3]
    ·rw[cg e3,qv k j r,cg e3]
def uz.take(h:uz p H0 D wd es kvs F W H){x:Nat}{s:Bool}{d:Int×Nat}{b c:Addr}{v0 v1:V}(e:W x s=some d)(hc:H c=some (.tup [.int d.1,.int (d.2:Int)]))(hb:es[x]?=some b)(hv:H b=some (.lst [v0,v1])):
 uz p H0 D wd es (dc kvs (ky x s)) (RM.iZ F x s d) (RM.yQ W x s) (upd (upd H wd (.dT (dc kvs (ky x s)))) b (.lst (([v0,v1]:List V).set s.toNat (.ref c)))):=by
 have hm:=iq hb;have bw:b≠wd:=λz=>h.wE (z▸hm)
 have bD:D≠b:=λz=>h.ne (z▸hm)
 have tp:dJ H (upd (upd H wd (.dT (dc kvs (ky x s)))) b (.lst (([v0,v1]:List V).set s.toNat (.ref c)))):=λa ys q=>by
  rw[ak (aU q hv (by intro z;cases z)),ak (aU q h.dt (by intro z;cases z))]
  exact q
 refine⟨(h.same.put h.wn).put (h.fr b hm),h.nd,h.ne,h.fr,h.Dn,h.wn,h.wD,h.wE,by rw[ak bD,ak (aa2 h.wD)];exact h.lst,λi b' hb'=>?_,by rw[ak (aa2 bw),ae],uf h.kn,λkv hkv=>h.keys kv (xE hkv),λy t d' q=>?_,λy t=>?_⟩
 ·by_cases ei:i=x
  ·subst ei;rw[hb]at hb';cases hb';obtain⟨w0,w1,q1,q2,q3⟩:=h.at_ _ _ hb;rw[hv]at q1;cases q1;cases s with
   | false=>exact⟨.ref c,v1,ae,by rw[RM.bN];exact⟨c,rfl,tp _ _ hc⟩,by rw[RM.br (λz=>by cases z.2)];exact q3.tups tp⟩
   | true=>exact⟨v0,.ref c,ae,by rw[RM.br (λz=>by cases z.2)];exact q2.tups tp,by rw[RM.bN];exact⟨c,rfl,tp _ _ hc⟩⟩
  ·have bb:b'≠b:=λz=>by
    subst z;obtain⟨h1,h2⟩:=jf.mp hb';obtain⟨h3,h4⟩:=jf.mp hb;exact ei ((abK h.nd).mp (h2.trans h4.symm))
   obtain⟨w0,w1,q1,q2,q3⟩:=h.at_ _ _ hb';exact⟨w0,w1,by rw[ak bb,ak (show b'≠wd from λz=>h.wE (z▸iq hb'))];exact q1,by rw[RM.br (λz=>ei z.1)];exact q2.tups tp,by rw[RM.br (λz=>ei z.1)];exact q3.tups tp⟩
 ·by_cases z:y=x/\t=s
  ·obtain⟨rfl,rfl⟩:=z;rw[RM.sV]at q;cases q
  ·rw[RM.m8 z]at q;exact h.out y t d' q
 ·rw[qv]
  by_cases z:y=x/\t=s
  ·obtain⟨rfl,rfl⟩:=z;exact .inl ⟨RM.sV _ _ _,aad rfl⟩
  ·rw[RM.m8 z,aab (λq=>z (Di q))]
   rcases h.val y t with q|⟨d',c',q1,q2,q3⟩
   ·exact .inl q
   ·exact .inr ⟨d',c',q1,q2,tp _ _ q3⟩
def uz.wait(h:uz p H0 D wd es kvs F W H){x:Nat}{s:Bool}{d:Int×Nat}{c:Addr}(hx:x<p)(hc:H c=some (.tup [.int d.1,.int (d.2:Int)])):
 uz p H0 D wd es (putK kvs (ky x s) (.ref c)) F (RM.iZ W x s d) (upd H wd (.dT (putK kvs (ky x s) (.ref c)))):=by
 have tp:dJ H (upd H wd (.dT (putK kvs (ky x s) (.ref c)))):=λa ys q=>by
  rw[ak (aU q h.dt (by intro z;cases z))]
  exact q
 have NI:(∀kv∈putK kvs (ky x s) (.ref c),∃x s,x<p/\kv.1=ky x s)/\((putK kvs (ky x s) (.ref c)).map (·.1)).Nodup:=by
  cases q:dM kvs (ky x s) with
  | none =>
    refine⟨λkv hkv=>?_,Mb _ h.kn q⟩
    rw[AA _ q]at hkv;rcases aaL.mp hkv with z|z
    ·exact h.keys kv z
    ·rw[aaA.mp z];exact⟨x,s,hx,rfl⟩
  | some v =>
    have hany:(kvs.any λkv=>decide (kv.1=ky x s))=true:=by rw[g8,q];rfl
    have e:putK kvs (ky x s) (.ref c)=kvs.map λkv=>if kv.1=ky x s then(kv.1,.ref c) else kv:=by unfold putK;rw[aad hany]
    have ek:(putK kvs (ky x s) (.ref c)).map (·.1)=kvs.map (·.1):=by
     rw[e,acL];refine abR λkv _=>?_
     show(if kv.1=ky x s then(kv.1,V.ref c) else kv).1=kv.1
     split<;>rfl
    refine⟨λkv hkv=>?_,by rw[ek];exact h.kn⟩
    have hm:kv.1∈kvs.map (·.1):=by rw[<-ek];exact acq hkv
    obtain⟨Xu,h1,h2⟩:=aaH.mp hm;rw[<-h2];exact h.keys Xu h1
 refine⟨h.same.put h.wn,h.nd,h.ne,h.fr,h.Dn,h.wn,h.wD,h.wE,by rw[ak (aa2 h.wD)];exact h.lst,λi b hb=>?_,ae,NI.2,NI.1,λy t d' q=>?_,λy t=>?_⟩
 ·obtain⟨w0,w1,q1,q2,q3⟩:=h.at_ _ _ hb;exact⟨w0,w1,by rw[ak (show b≠wd from λz=>h.wE (z▸iq hb))];exact q1,q2.tups tp,q3.tups tp⟩
 ·by_cases z:y=x/\t=s
  ·rw[z.1];exact hx
  ·rw[RM.br z]at q;exact h.out y t d' q
 ·rw[IG]
  by_cases z:y=x/\t=s
  ·obtain⟨rfl,rfl⟩:=z;exact .inr ⟨d,c,RM.bN _ _ _ _,aad rfl,tp _ _ hc⟩
  ·rw[RM.br z,aab (λq=>z (Di q))]
   rcases h.val y t with q|⟨d',c',q1,q2,q3⟩
   ·exact .inl q
   ·exact .inr ⟨d',c',q1,q2,tp _ _ q3⟩
end
abbrev i0(m:Nat)(H:Hp)(c:Addr)(kw:Nat×Nat):Prop:=H c=some (.tup [.int (kw.1:Int),.int (kw.2:Int),.int ((m.testBit kw.1).toNat:Int)])
structure Gb(m:Nat)(H0:Hp)(D:Addr)(es:List Addr)(S:Nat->List (Nat×Nat))(H:Hp):Prop where
 same:aq H0 H
 nd:es.Nodup
 ne:D∉es
 fr:∀b∈es,H0 b=none
 Dn:H0 D=none
 lst:H D=some (.lst (es.map V.ref))
 at_:∀i b,es[i]?=some b->∃cs,H b=some (.lst (cs.map V.ref))/\Paired (i0 m H) cs (S i)
section
variable {m:Nat}{H0 H H' : Hp}{D b:Addr}{es:List Addr}{S:Nat->List (Nat×Nat)}{i:Nat}
def Gb.go(h:Gb m H0 D es S H)(s:aq H H'):Gb m H0 D es S H' :=
 ⟨h.same.trans s,h.nd,h.ne,h.fr,h.Dn,s _ _ h.lst,λi b e=>let⟨cs,a,q⟩:=h.at_ i b e;⟨cs,s _ _ a,Paired.yd q λ_ _ z=>s _ _ z⟩⟩
def uA(S:Nat->List (Nat×Nat))(x:Nat)(kw:Nat×Nat):Nat->List (Nat×Nat):=λi=>if i=x then S i++[kw] else S i
def Gb.get(h:Gb m H0 D es S H)(hi:i<es.length):∃b cs,(es.map V.ref)[i]?=some (.ref b)/\es[i]?=some b/\H b=some (.lst (cs.map V.ref))/\Paired (i0 m H) cs (S i):=by
 have e:es[i]?=some es[i]:=aaf hi;obtain⟨cs,a,q⟩:=h.at_ i _ e;exact⟨es[i],cs,by rw[aan,e];rfl,e,a,q⟩
def Gb.put(h:Gb m H0 D es S H){cs:List Addr}{c:Addr}{kw:Nat×Nat}(hb:es[i]?=some b)(hcs:H b=some (.lst (cs.map V.ref)))(q:Paired (i0 m H) cs (S i))(hc:i0 m H c kw):
 Gb m H0 D es (uA S i kw) (upd H b (.lst (cs.map V.ref++[.ref c]))):=by
 have hm:=iq hb;have hne:D≠b:=λz=>h.ne (z▸hm)
 have tp:∀c kw,i0 m H c kw->i0 m (upd H b (.lst (cs.map V.ref++[.ref c]))) c kw:=λc kw z=>by
  show upd H b _ c=_;rw[ak (aU z hcs (by intro z;cases z))]
  exact z
 have tp' : ∀x kw,i0 m H x kw->i0 m (upd H b (.lst (cs.map V.ref++[.ref c]))) x kw:=λx kw z=>by
  show upd H b _ x=_;rw[ak (aU z hcs (by intro z;cases z))]
  exact z
 refine⟨h.same.put (h.fr b hm),h.nd,h.ne,h.fr,h.Dn,by rw[ak hne];exact h.lst,λj b' hb'=>?_⟩
 by_cases e:j=i
 ·subst e;rw[hb]at hb';cases hb';refine⟨cs++[c],by rw[ae];simp,?_⟩
  unfold uA;rw[aad rfl];exact Paired.snoc (Paired.yd q λ_ _ z=>tp' _ _ z) (tp' _ _ hc)
 ·have bb:b'≠b:=λz=>by
   subst z;obtain⟨h1,h2⟩:=jf.mp hb';obtain⟨h3,h4⟩:=jf.mp hb;exact e ((abK h.nd).mp (h2.trans h4.symm))
  obtain⟨cs',q1,q2⟩:=h.at_ j b' hb';refine⟨cs',by rw[ak bb];exact q1,?_⟩
  unfold uA;rw[aab e];exact Paired.yd q2 λ_ _ z=>tp' _ _ z
def Gb.off(h:Gb m H0 D es S H){L:Addr}(hL:H L=none):L∉es:=λz=>by
 obtain⟨j,hj⟩:=aa3 z;obtain⟨_,q,_⟩:=h.at_ j L hj;rw[hL]at q;cases q
def NJ(m:Nat)(H0:Hp)(D:Addr)(i:Nat)(acc:List V)(H:Hp):Prop:=∃es,acc=es.map V.ref/\es.length=i/\Gb m H0 D es (λ_=>[]) H
def NJ.start(hD:H0 D=none):NJ m H0 D 0 [] (upd H0 D (.lst [])) :=
 ⟨[],rfl,rfl,aq.new hD,ac4,ab7,λ_ h=>(ab7 h).elim,hD,ae,λi b e=>by cases e⟩
def NJ.len{acc:List V}(h:NJ m H0 D i acc H):H D=some (.lst acc)/\acc.length<=i:=by
 obtain⟨es,rfl,e,r⟩:=h;exact⟨r.lst,by rw[aac];lia⟩
def NJ.next{acc:List V}(h:NJ m H0 D i acc H)(hb:H b=none):upd H b (.lst []) D=some (.lst acc)/\NJ m H0 D (i+1) (acc++[.ref b]) (upd (upd H b (.lst [])) D (.lst (acc++[.ref b]))):=by
 obtain⟨es,rfl,e,r⟩:=h;have O1:D≠b:=λz=>by
  have:=r.lst;rw[z,hb]at this;cases this
 have hbn:b∉es:=r.off hb;have hb0:H0 b=none:=r.same.free hb;refine⟨by rw[ak O1];exact r.lst,es++[b],by simp,by simp[e],(r.same.put hb0).put r.Dn,?_,?_,λc hc=>?_,r.Dn,by rw[ae];simp,λj c hc=>?_⟩
 ·exact acI.mpr ⟨r.nd,by simp,λx hx y hy=>by rw[aaA.mp hy];exact λz=>hbn (z▸hx)⟩
 ·intro hm;rcases aaL.mp hm with z|z
  ·exact r.ne z
  ·exact O1 (aaA.mp z)
 ·rcases aaL.mp hc with z|z
  ·exact r.fr c z
  ·rw[aaA.mp z];exact hb0
 ·have VC:c≠D:=λz=>by
   subst z;rcases aaL.mp (iq hc) with z|z
   ·exact r.ne z
   ·exact O1 (aaA.mp z)
  refine⟨[],?_,.nil⟩;rw[ak VC]
  by_cases ec:c=b
  ·rw[ec,ae];rfl
  ·rw[ak ec]
   by_cases hj:j<es.length
   ·rw[aaE hj]at hc;obtain⟨cs,q1,q2⟩:=r.at_ j c hc;cases q2;exact q1
   ·rw[aaO (by lia)]at hc
    have:=iq hc;exact absurd (aaA.mp this) ec
end
structure NK(N:RM.Net)(k:Nat)(S:Nat->List (Nat×Nat)):Prop where
 mem:∀i kw,kw∈S i↔(kw.1<k/\RM.Jn N kw.1 i kw.2)
 len:∀i,(S i).length<=2*k
def NK.start{N:RM.Net}:NK N 0 (λ_=>[]):=⟨λi kw=>⟨λh=>(nomatch h),λh=>absurd h.1 (abn _)⟩,λ_=>aaN _⟩
def NK.next{N:RM.Net}{k:Nat}{S:Nat->List (Nat×Nat)}(h:NK N k S):NK N (k+1) (uA (uA S (N.a k) (k,N.b k)) (N.b k) (k,N.a k)):=by
 refine⟨λi kw=>?_,λi=>?_⟩
 ·have one:∀(S:Nat->List (Nat×Nat)) (x:Nat) (q:Nat×Nat),kw∈uA S x q i↔kw∈S i\/(i=x/\kw=q):=λS x q=>by
   unfold uA
   by_cases e:i=x
   ·rw[aad e,aaL,aaA];simp[e]
   ·rw[aab e];simp[e]
  rw[one,one,h.mem];obtain⟨k',w⟩:=kw
  constructor
  ·rintro((⟨h1,h2⟩|⟨rfl,h2⟩) | ⟨rfl,h2⟩)
   ·exact⟨abI h1,h2⟩
   ·cases h2;exact⟨acj _,.inl ⟨rfl,rfl⟩⟩
   ·cases h2;exact⟨acj _,.inr ⟨rfl,rfl⟩⟩
  ·rintro⟨h1,h2⟩
   by_cases e:k'<k
   ·exact .inl (.inl ⟨e,h2⟩)
   ·have e:k' = k:=by have:k'<k+1:=h1;lia
    subst e;rcases h2 with⟨h3,h4⟩|⟨h3,h4⟩
    ·exact .inl (.inr ⟨h3.symm,by have h4:N.b k' = w:=h4;rw[h4]⟩)
    ·exact .inr ⟨h3.symm,by have h4:N.a k' = w:=h4;rw[h4]⟩
 ·have one:∀(S:Nat->List (Nat×Nat)) (x:Nat) (q:Nat×Nat),(uA S x q i).length<=(S i).length+1:=λS x q=>by
   unfold uA
   split
   ·simp
   ·lia
  have h1:=one (uA S (N.a k) (k,N.b k)) (N.b k) (k,N.a k);have h2:=one S (N.a k) (k,N.b k);have h3:=h.len i
  lia
end L2
namespace RM
def left(F:OW):Nat->Nat
 | 0=>0
 | p+1=>left F p+(if(F p false).isNone then 1 else 0)+(if(F p true).isNone then 1 else 0)
def xN{F G:OW}:∀{p:Nat},(∀x,x<p->∀s,F x s=G x s)->left F p=left G p
 | 0,_=>rfl
 | p+1,h=>by
   unfold left;rw[xN λx hx=>h x (by lia),h p (by lia),h p (by lia)]
def A6{F:OW}{x:Nat}{s:Bool}{d:Int×Nat}(hn:F x s=none):∀{p:Nat},x<p->left (iZ F x s d) p<left F p
 | 0,h=>absurd h (abn _)
 | p+1,h=>by
   unfold left
   by_cases e:x=p
   ·subst e;rw[xN (F:=iZ F x s d) (G:=F) λy hy t=>br λz=>by lia]
    cases s with
    | false=>rw[bN,br (λz=>by cases z.2),hn];simp
    | true=>rw[bN,br (λz=>by cases z.2),hn];simp
   ·have ih:=A6 (F:=F) (x:=x) (s:=s) (d:=d) hn (p:=p) (by lia)
    rw[br (λz=>e z.1.symm),br (λz=>e z.1.symm)]
    lia
end RM
namespace L2
open PySem Ring
def Ud(W:RM.OW)(k:List Key):List Int:=match k with
 | [.inl x,.inl s]=>(match W x.toNat (decide (s=1)) with | some d=>[d.1,(d.2:Int)] | none=>[])
 | _=>[]
def Jz{W:RM.OW}{x:Nat}{s:Bool}{d:Int×Nat}(h:W x s=some d):Ud W (ky x s)=[d.1,(d.2:Int)]:=by
 have e:(decide (((s.toNat:Nat):Int)=1))=s:=by cases s<;>rfl
 show(match W ((x:Int)).toNat (decide (((s.toNat:Nat):Int)=1)) with | some d=>[d.1,(d.2:Int)] | none=>[])=_
 rw[aau,e,h]
def JA(W:RM.OW)(kvs:List (List Key×V))(i:Nat):List Int:=Ud W ((kvs[i]?.map (·.1)).getD [])
def yR{a b c d:Int}(h:HT.lexLt [a,b] [c,d]=false):c<=a:=by
 rw[HT.gy]at h
 by_cases e:a=c
 ·lia
 ·rw[aab e]at h;have:=of_decide_eq_false h
  lia
def xO{κ:Type}[DecidableEq κ]:∀{kvs:List (κ×V)} {k:κ} {v:V},(kvs.map (·.1)).Nodup->(k,v)∈kvs->dM kvs k=some v
 | [],_,_,_,h=>nomatch h
 | q::r,k,v,nd,h=>by
   rw[aaT,aa6]at nd;rcases aas.mp h with e|h
   ·subst e;exact cA rfl
   ·have ne : ¬ q.1=k:=λz=>nd.1 (by rw[z];exact acq (f:=(·.1)) h)
    rw[cg ne];exact xO nd.2 h
def uz.entry{p:Nat}{H0 H:Hp}{D wd:Addr}{es:List Addr}{kvs:List (List Key×V)}{F W:RM.OW}(h:uz p H0 D wd es kvs F W H){i:Nat}{kv:List Key×V}(e:kvs[i]?=some kv):
 ∃x s d c,x<p/\kv.1=ky x s/\W x s=some d/\dM kvs (ky x s)=some (.ref c)/\kv.2 = .ref c/\H c=some (.tup [.int d.1,.int (d.2:Int)])/\JA W kvs i=[d.1,(d.2:Int)]:=by
 have hm:=iq e;obtain⟨x,s,hx,ek⟩:=h.keys kv hm;have hv:dM kvs (ky x s)=some kv.2:=xO h.kn (by rw[<-ek];exact hm)
 rcases h.val x s with⟨_,z⟩|⟨d,c,h1,h2,h3⟩
 ·rw[hv]at z;cases z
 ·rw[hv]at h2;refine⟨x,s,d,c,hx,ek,h1,hv.trans h2,Option.some.inj h2,h3,?_⟩;unfold JA;rw[e];show Ud W kv.1=_;rw[ek];exact Jz h1
def uz.find{p:Nat}{H0 H:Hp}{D wd:Addr}{es:List Addr}{kvs:List (List Key×V)}{F W:RM.OW}(h:uz p H0 D wd es kvs F W H){x:Nat}{s:Bool}{d:Int×Nat}(e:W x s=some d):∃(i:Nat) (kv:List Key×V),kvs[i]?=some kv/\kv.1=ky x s/\JA W kvs i=[d.1,(d.2:Int)]:=by
 rcases h.val x s with⟨z,_⟩|⟨d',c,h1,h2,h3⟩
 ·rw[e]at z;cases z
 ·have hm:=Ma h2;obtain⟨kv,hkv,ek⟩:=aaH.mp hm;obtain⟨i,hi⟩:=aa3 hkv;refine⟨i,kv,hi,ek,?_⟩;unfold JA;rw[hi];show Ud W kv.1=_;rw[ek];exact Jz e
def uz.start{p:Nat}{H0 H:Hp}{D wd c:Addr}{es:List Addr}{u:Nat}(f:C9 H0 D es (λ_ _=>none) H)(hu:u<p)(hw:H wd=some (.dT []))(h0:H0 wd=none)(hc:H c=some (.tup [.int 0,.int 0])):
 uz p H0 D wd es [(ky u false,.ref c)] (λ_ _=>none) (RM.iZ (λ_ _=>none) u false (0,0)) (upd H wd (.dT [(ky u false,.ref c)])):=by
 have wD:wd≠D:=λz=>by rw[z,f.lst]at hw;cases hw
 have wE:wd∉es:=λz=>by
  obtain⟨j,hj⟩:=aa3 z;have:=f.at_ j wd hj;rw[hw]at this;cases this
 refine⟨f.same.put h0,f.nd,f.ne,f.fr,f.Dn,h0,wD,wE,by rw[ak (aa2 wD)];exact f.lst,λi b hb=>?_,ae,by simp,λkv hkv=>?_,λx s d e=>?_,λx s=>?_⟩
 ·have nb:b≠wd:=λz=>wE (z▸iq hb)
  exact⟨.dS,.dS,by rw[ak nb];exact f.at_ i b hb,rfl,rfl⟩
 ·rw[aaA.mp hkv];exact⟨u,false,hu,rfl⟩
 ·by_cases z:x=u/\s=false
  ·rw[z.1];exact hu
  ·rw[RM.br z]at e;cases e
 ·by_cases z:x=u/\s=false
  ·obtain⟨rfl,rfl⟩:=z;exact .inr ⟨(0,0),c,RM.bN _ _ _ _,cA rfl,by rw[ak (aU hc hw (by intro z;cases z))];exact hc⟩
  ·refine .inl ⟨RM.br z,?_⟩;rw[cg (λq=>z ?_),ue]
   obtain⟨e1,e2⟩:=Di q;exact⟨e1.symm,e2.symm⟩
open PySem PySem.Spec PyProof.Rows
section
variable {P:Program}{w:World}{A:Around}{E:di}{s:Shared}
def JB{l:Addr}{u0 u1:Value}{Q:List Value->Shared->Prop}(hh:A.handled=none)(hl:s.heap.IsList l #[u0,u1])
 (hQ:∀h' tk,(∀b o,s.heap.get? b=some o->h'.get? b=some o)->Q [u0,u1] { s with heap:=h',toks:=tk}):wpAny (model P w) A (unpackItems (.ref l) 2 none) Q E s:=by
 obtain⟨ol,Si,hcl,nl,hdl⟩:=id hl;have hT:s.TypeIs (.ref l) "list":=⟨ol,Si,hcl⟩;have hne:l≠s.heap.objs.size:=aaK (aaq Si);unfold unpackItems;refine aS ?_;unfold notIterableAtAll;refine aS (wpAny_specialOf hT PySem.F.slot_list_iter.lookup (aag ?_));simp only[abv,if_false];refine aS (aaX (wpAny_pyIter_list hl ?_));have W:=Walks.list (prog:=P) (w:=w) (A:=A) hh s.heap.objs.size l hne #[u0,u1];generalize hg:s.heap.push { cls:=.type "list_iterator",data:=.fields #[.ref l,.int 0 0]}=g0;have ZZ:∀b o,s.heap.get? b=some o->g0.get? b=some o:=λb o e=>by rw[<-hg];exact aai _ e
 have Z0:g0.IsListIter s.heap.objs.size l 0:=by rw[<-hg];exact⟨_,aaB _ rfl,rfl,rfl⟩
 have Z1:g0.IsList l #[u0,u1]:=by rw[<-hg];exact⟨ol,aai _ Si,hcl,nl,hdl⟩
 have nI:∀b o,s.heap.get? b=some o->b∉[s.heap.objs.size]:=λb o e z=>aaK (aaq e) (aaA.mp z)
 refine aS (aaX ?_);show wpAny _ _ (pyNext (.ref s.heap.objs.size) >>= _) _ _ _;refine aS (W.item 0 _ _ _ (by simp) ⟨Z0,Z1⟩ λv1 h1 tk1 hv1 st1 k1=>?_)
 obtain rfl:u0=v1:=by simpa using hv1
 refine aS (aaX ?_);show wpAny _ _ (pyNext (.ref s.heap.objs.size) >>= _) _ _ _;refine aS (W.item 1 _ _ _ (by simp) st1 λv2 h2 tk2 hv2 st2 k2=>?_)
 obtain rfl:u1=v2:=by simpa using hv2
 refine aS (aaX ?_);show wpAny _ _ (pure []) _ _ _;refine aag (aag (aag ?_));rw[aab (by simp)]
 refine aS (aaX (W.done _ _ _ st2 λh3 Z2 k3=>?_))
 simp only[Option.isSome_none,abv,if_false];exact aag (hQ h3 Z2 λb o e=>k3 b o (nI b o e) (k2 b o (nI b o e) (k1 b o (nI b o e) (ZZ b o e))))
def JC{env:Env}{elts:List Expr}{x1}{pos:Pos}{l:Addr}{u0 u1:Value}{Q:Unit->Shared->Prop}(hh:A.handled=none)(hl:s.heap.IsList l #[u0,u1])
 (hn:(assignEach elts env).length=2) (hstar:(assignEach elts env).findIdx? (·.1)=none)
 (h:∀h' tk,(∀b o,s.heap.get? b=some o->h'.get? b=some o)->wpAny (model P w) A (assignInOrder ((assignEach elts env).map (·.2)) [u0,u1]) Q E { s with heap:=h',toks:=tk}) :
 wpAny (model P w) A (assign (.Tuple elts x1 pos) env (.ref l)) Q E s:=by
 rw[arm_assign_Tuple];refine aS (wpAny_standAt ?_);unfold unpack;rw[hn,hstar];exact aS (aaX (JB hh hl h))
end
section
variable {X:Cx}{es:List Expr}{pos:Pos}
def Sj(K:bM)(t:KY):TG:=λv σ H Q=>∃a x y,v = .ref a/\aL K H a [x,y]/\t [x,y] σ H Q
def VN(K:bM){k:Nat}{t:KY}(hc:X.calm=true)(h:Qo X es t)
 (hn:(assignEach es X.env).length=2:=by rfl) (hst:(assignEach es X.env).findIdx? (·.1)=none:=by rfl) (hK:X.K=K:=by rfl):PG X (.Tuple es k pos) (Sj K t):=by
 subst hK;intro pq s σ H v u Q I r hw;obtain⟨a,x,y,e1,hq,hw⟩:=hw;subst e1;cases r;obtain⟨its,rv,ht,hz⟩:=I.list hq;cases rv with
 | cons r1 rr=>cases rr with
   | cons r2 rr2 =>
     cases rr2;refine JC (I.ok.hd hc) ht.isList hn hst λh' tk hx=>?_
     exact h pq _ σ H [x,y] _ Q (I.kept (t':=tk) hx) (.cons r1 (.cons r2 .nil)) hw
end
end L2
namespace RM
section
variable {N:Net}{L:Nat->Int}{m u:Nat}
def rK{f g:Nat->Bool}:∀{n:Nat},(∀k,k<n->0<L k)->(∀k,k<n->f k=true->g k=true)->∀k,k<n->f k=false->g k=true->lsum L f n<lsum L g n
 | 0,_,_,k,hk,_,_=>absurd hk (abn _)
 | n+1,hL,h,k,hk,hf,hg=>by
   unfold lsum;have hn:=h n (by lia)
   have h0:=hL n (by lia)
   by_cases e:k=n
   ·subst e;have:=qo (L:=L) (f:=f) (g:=g) (n:=k) (λj hj=>acM (hL j (by lia))) λj hj=>h j (by lia)
    rw[hf,hg];simp only[abv,if_false,if_true]
    lia
   ·have ih:=rK (n:=n) (λj hj=>hL j (by lia)) (λj hj=>h j (by lia)) k (by lia) hf hg
    cases hfn:f n with
    | false=>cases g n<;>simp<;>lia
    | true=>rw[hn hfn];simp;lia
def Dl(hL:∀k,k<N.n->0<L k)(hu:u<N.p){z:Int}{e:Nat}(h:Wz N L m u u true z e)(hmin:∀x z',x<N.p->Wy N L m x x true z'->z<=z'):
 N.Ring e/\e<2^N.n/\N.par e m=true/\lsum L (λk=>e.testBit k) N.n=z:=by
 have Sk:∀k,k<N.n->0<=L k:=λk hk=>acM (hL k hk)
 obtain⟨pre,h⟩:=h;obtain⟨_,h2,h3,h4,h5,_⟩:=o9 Sk hu h;obtain⟨r,r1,r2,r3⟩:=C7 _ e rfl h2 (λx _=>by rw[h3,Bool.xor_self]) h4
 have Xv:r<2^N.n:=cL λk hk=>n8 h2 (r2 k hk)
 obtain⟨x,hx,hw⟩:=pe Sk m r1 Xv;rw[r3]at hw;have hz:=hmin x _ hx hw;have hle:=qo (L:=L) (f:=λk=>r.testBit k) (g:=λk=>e.testBit k) Sk λk _ hk=>r2 k hk
 have er:e=r:=aaS λk=>by
  cases hr:r.testBit k with
  | true=>exact r2 k hr
  | false =>
    cases he:e.testBit k with
    | false=>rfl
    | true =>
      have:=rK (L:=L) (f:=λk=>r.testBit k) (g:=λk=>e.testBit k) hL (λk _ hk=>r2 k hk) k (n8 h2 he) hr he
      lia
 rw[er];exact⟨r1,Xv,r3,by lia⟩
def JD(hL:∀k,k<N.n->0<=L k)(hno:∀x z',x<N.p->¬ Wy N L m x x true z'){r:Nat}(hr:N.Ring r)(hm:r<2^N.n):N.par r m=false:=by
 cases hp:N.par r m with
 | false=>rfl
 | true =>
   obtain⟨x,hx,hw⟩:=pe hL m hr hm;rw[hp]at hw;exact absurd hw (hno x _ hx)
end
end RM
namespace L2
open PySem PySem.Spec PyProof.Rows
section
variable {X:Cx}{pq:aV}{σ:St}{H:Hp}{l It S:Addr}{cs:List Addr}{ks:Nat->List Int}{R:Result->Shared->Prop}
def k6{pa:aV}{s:Shared}(I:Inv X pa σ H s)(hl:aL X.K H l (cs.map V.ref)):s.heap.IsList l (cs.map Value.ref).toArray:=by
 obtain⟨its,rv,p,hz⟩:=I.list hl;have e:its=cs.map Value.ref:=by
  clear hl p hz
  induction cs generalizing its with
  | nil=>cases rv;rfl
  | cons c r ih =>
    rw[aaT]at rv;cases rv with
    | cons h t=>cases h;rw[ih _ t];rfl
 rw[e]at p;exact p.isList
def Gd(hh:X.A.handled=none)(un:X.A.in1.units<cLine)(hl:aL X.K H l (cs.map V.ref))(hk:∀(i:Nat) c,cs[i]?=some c->bg X.K H c ((ks i).map V.int))(oS:Df X S)(oI:Df X It)(SI:S≠It)(lI:l≠It)
 (pI:∀p∈pq,p.1≠It) (pS:∀p∈pq,p.1≠S)
 (hR:∀(i:Nat) c s',cs[i]?=some c->(∀j,j<cs.length->HT.lexLt (ks j) (ks i)=false)->Inv X pq σ H s'->R (.ok (.ret (.ref c))) s') :
 ∀(r j i:Nat) (c:Addr) (s:Shared) (n:Nat) (Hq:Obj),cs.length-j=r->j<=cs.length->i<j->cs[i]?=some c->Inv X ((S,seqObj "list" #[.ref c,.ref c] n)::(It,Hq)::pq) σ H s->s.heap.IsListIter It l j->
  (∀j',j'<j->HT.lexLt (ks j') (ks i)=false)->codeAny (model X.prog X.w) X.A (.builtin "min.loop" ⟨[.ref It,.none,.ref S],[]⟩) R s:=by
 have hname:(toString "min" ++ toString ".loop":String)="min.loop":=by decide
 have W:=Walks.list (prog:=X.prog) (w:=X.w) (A:=X.A.in1) hh It l lI (cs.map Value.ref).toArray;have hsz:(cs.map Value.ref).toArray.size=cs.length:=by simp
 intro r
 induction r with
 | zero =>
   intro j i c s n Hq hr hj hij hc I hit pA;have Co:j=cs.length:=by lia
   have uy:=I.pin (S,_) (iB _ (.head _));refine codeAny_builtin abV ?_;rw[Around.under_plainId aaY _];show wpAny _ X.A.in1 (seqItems? (.ref S) >>= _) _ _ _;refine aS (wpAny_seqItems uy.1 rfl ?_);show wpAny _ X.A.in1 (tryCatch (pyNext (.ref It)) _ >>= _) _ _ _;refine aS (abN (W.done _ _ _ ⟨by rw[hsz,<-Co];exact hit,k6 I hl⟩ λh' tk' hk'=>?_))
   have I1:=I.jm (t':=tk') (h':=h') (pb:=(S,seqObj "list" #[.ref c,.ref c] n)::pq) oI (List.Mem.tail _ (.head _)) (λb u hb e=>hk' b u (by simpa using hb) e) (λp hp=>by
    rcases aas.mp hp with rfl|hp
    ·exact .inr ⟨.head _,SI⟩
    ·exact .inr ⟨.tail _ (.tail _ hp),pI p hp⟩)
   have Jt:=I1.pin (S,_) (iB _ (.head _));show wpAny _ X.A.in1 (updateSeq S (λ_=>#[]) >>= _) _ _ _
   refine aS (wpAny_updateSeq Jt.1 rfl (aS (wpAny_letGo (aag ?_))));have s1:=aa1 h' S (Obj.mapSeq λ_=>(#[]:Array Value))
   exact hR i c _ hc (λj' hj'=>pA j' (by lia)) (I1.jm (t':=tk') (pb:=pq) oS (.head _) (λb u hb e=>(s1.2 b hb).trans e) λp hp=>.inr ⟨.tail _ hp,pS p hp⟩)
 | succ r ih =>
   intro j i c s n Hq hr hj hij hc I hit pA;have Co:j<cs.length:=by lia
   have uy:=I.pin (S,_) (iB _ (.head _));refine codeAny_builtin abV ?_;rw[Around.under_plainId aaY _];show wpAny _ X.A.in1 (seqItems? (.ref S) >>= _) _ _ _;refine aS (wpAny_seqItems uy.1 rfl ?_);show wpAny _ X.A.in1 (tryCatch (pyNext (.ref It)) _ >>= _) _ _ _;refine aS (abN (W.item j _ _ _ (by rw[hsz];exact Co) ⟨hit,k6 I hl⟩ λv h' tk' hv st' hk'=>?_))
   have QC:cs[j]?=some cs[j]:=aaf Co;obtain rfl:v = .ref cs[j]:=by
    have:(cs.map Value.ref)[j]?=some v:=by simpa using hv
    rw[aan,QC]at this;exact(Option.some.inj this).symm
   obtain⟨K4,JE,hoc,hod⟩:=id st'.1;have I1:=I.jm (t':=tk') (h':=h') (pb:=(S,seqObj "list" #[.ref c,.ref c] n)::(It,K4)::pq) oI (List.Mem.tail _ (.head _)) (λb u hb e=>hk' b u (by simpa using hb) e) (λp hp=>by
    rcases aas.mp hp with rfl|hp
    ·exact .inr ⟨.head _,SI⟩
    ·rcases aas.mp hp with rfl|hp
     ·exact .inl ⟨rfl,JE,λv z=>by rw[hod]at z;cases z⟩
     ·exact .inr ⟨.tail _ (.tail _ hp),pI p hp⟩)
   have mh:=I1.pin (S,_) (iB _ (.head _));show wpAny _ X.A.in1 (tryCatch (holding [.ref cs[j],.ref cs[j]] (richCompare .Lt (.ref cs[j]) (.ref c) >>= _)) _ >>= _) _ _ _;refine aS (abN (aaX (aS (Jq I1 (hk j _ QC) (hk i c hc) un ?_))));refine aS (aaX (wpAny_truthy_bool (aS (wpAny_letGo (aag ?_)))));cases hlt:HT.lexLt (ks j) (ks i) with
   | true =>
     have s1:=aa1 h' S (Obj.mapSeq λ_=>(#[.ref cs[j],.ref cs[j]]:Array Value))
     obtain⟨n2,hn2⟩:∃n2,(h'.update S (Obj.mapSeq λ_=>(#[.ref cs[j],.ref cs[j]]:Array Value))).get? S=some (seqObj "list" #[.ref cs[j],.ref cs[j]] n2):=⟨_,get?_update_seq mh.1 λ_=>#[.ref cs[j],.ref cs[j]]⟩
     simp only[if_true];refine aS (wpAny_updateSeq mh.1 rfl (aS (wpAny_letGo ?_)));rw[hname];have I3:=I1.jm (t':=tk') (pb:=(S,seqObj "list" #[.ref cs[j],.ref cs[j]] n2)::(It,K4)::pq) oS (.head _) (λb u hb e=>(s1.2 b hb).trans e) (λp hp=>by
      rcases aas.mp hp with rfl|hp
      ·exact .inl ⟨rfl,hn2,λv z=>by cases z⟩
      ·rcases aas.mp hp with rfl|hp
       ·exact .inr ⟨.tail _ (.head _),SI.symm⟩
       ·exact .inr ⟨.tail _ (.tail _ hp),pS p hp⟩)
     refine aag ⟨plainId_quiet aaY _,ih (j+1) j cs[j] _ n2 K4 (by lia) (by lia) (by lia) QC I3 ⟨K4,(s1.2 It SI.symm).trans JE,hoc,hod⟩ λj' hj'=>?_⟩
     by_cases e:j' = j
     ·rw[e];exact HT.fX _
     ·exact HT.uw (pA j' (by lia)) hlt
   | false =>
     simp only[abv,if_false];refine aS (wpAny_letGo ?_);rw[hname];refine aag ⟨plainId_quiet aaY _,ih (j+1) i c _ n K4 (by lia) (by lia) (by lia) hc I1 st'.1 λj' hj'=>?_⟩
     by_cases e:j' = j
     ·rw[e];exact hlt
     ·exact pA j' (by lia)
def VO(hr:X.A.handled=none)(un:X.A.in1.units<cLine):gw X (.builtin "min") (λxs H Q=>∃(l:Addr) (cs:List Addr) (ks:Nat->List Int),xs=[.ref l]/\aL X.K H l (cs.map V.ref)/\0<cs.length/\(∀(i:Nat) c,cs[i]?=some c->bg X.K H c ((ks i).map V.int))/\
 ∀(i:Nat) c,cs[i]?=some c->(∀j,j<cs.length->HT.lexLt (ks j) (ks i)=false)->Q (.ref c) H):=by
 intro pq s σ H xs us Q I r h;obtain⟨l,cs,ks,rfl,hl,hne,hk,q⟩:=h;obtain⟨u,rfl,rx⟩:=vals1 r;cases rx;have hname:(toString "min" ++ toString ".loop":String)="min.loop":=by decide
 have hls:=k6 I hl;obtain⟨ol,Si,_⟩:=id hls;have Z3:l<s.heap.objs.size:=aaq Si;refine call_function_tree PySem.F.kind_min PySem.F.plain_min PySem.F.entry_min (PySem.F.args_min1 _) ?_;show wpAny _ X.A.in1 (Builtin.Builtins.bindParams "min" ["key","default"] 0 ⟨[],[]⟩ >>= _) _ _ s;refine aS (wpAny_of_eq (show Builtin.Builtins.bindParams "min" ["key","default"] 0 ⟨[],[]⟩=pure [none,none] from rfl) ?_)
 refine aS (aag (aS (wpAny_pyIter_list hls (aS (wpAny_newList ?_ (aaN _))))));rw[hname];refine aag ⟨plainId_quiet aaY _,?_⟩;generalize O9:({ cls:=.type "list_iterator",data:=.fields #[.ref l,.int 0 0]}:Obj)=oI;have hS:(s.heap.push oI).objs.size=s.heap.objs.size+1:=size_push' ..;have hk2:∀b o,s.heap.get? b=some o->((s.heap.push oI).push (seqObj "list" #[] 0)).get? b=some o:=λb o e=>aai _ (aai _ e)
 have gI:((s.heap.push oI).push (seqObj "list" #[] 0)).get? s.heap.objs.size=some oI:=aai _ (aaB _ (by rw[<-O9];rfl))
 have gS:((s.heap.push oI).push (seqObj "list" #[] 0)).get? (s.heap.push oI).objs.size=some (seqObj "list" #[] 0):=aaB _ rfl;have Mu:∀p∈pq,p.1<s.heap.objs.size:=λp hp=>aaq (I.pin p (iB _ hp)).1
 have NH:=I.Jp (aae s.heap.objs.size);have oS:=I.Jp (b:=(s.heap.push oI).objs.size) (by rw[hS];exact abA _)
 have SI:(s.heap.push oI).objs.size≠s.heap.objs.size:=by rw[hS];exact adg _
 have lI:l≠s.heap.objs.size:=aaK Z3;have pI:∀p∈pq,p.1≠s.heap.objs.size:=λp hp=>aaK (Mu p hp)
 have pS:∀p∈pq,p.1≠(s.heap.push oI).objs.size:=λp hp=>by rw[hS];exact aaK (abI (Mu p hp))
 have J:Inv X (((s.heap.push oI).objs.size,seqObj "list" #[] 0)::(s.heap.objs.size,oI)::pq) σ H { s with heap:=(s.heap.push oI).push (seqObj "list" #[] 0)}:=by
  have K:=I.kept (t':=s.toks) hk2;refine K.fM λp hp=>?_
  rcases aas.mp hp with rfl|hp
  ·exact⟨gS,I.hok.fresh (by rw[hS];exact abA _),oS.2.1,oS.2.2.1,λv z=>by cases z⟩
  ·rcases aas.mp hp with rfl|hp
   ·exact⟨gI,I.hok.fresh (aae _),NH.2.1,NH.2.2.1,λv z=>by rw[<-O9]at z;cases z⟩
   ·exact K.pin p (iB _ hp)
 have W:=Walks.list (prog:=X.prog) (w:=X.w) (A:=X.A.in1) hr s.heap.objs.size l lI (cs.map Value.ref).toArray;have uy:=J.pin ((s.heap.push oI).objs.size,seqObj "list" #[] 0) (iB _ (.head _));refine codeAny_builtin abV ?_;rw[Around.under_plainId aaY _];show wpAny _ X.A.in1 (seqItems? (.ref _) >>= _) _ _ _;refine aS (wpAny_seqItems uy.1 rfl ?_);show wpAny _ X.A.in1 (tryCatch (pyNext (.ref s.heap.objs.size)) _ >>= _) _ _ _;refine aS (abN (W.item 0 _ _ _ (by simpa using hne) ⟨⟨oI,gI,by rw[<-O9],by rw[<-O9];rfl⟩,k6 J hl⟩ λv h' tk' hv st' hk'=>?_))
 have QC:cs[0]?=some cs[0]:=aaf hne;obtain rfl:v = .ref cs[0]:=by
  have:(cs.map Value.ref)[0]?=some v:=by simpa using hv
  rw[aan,QC]at this;exact(Option.some.inj this).symm
 obtain⟨K4,JE,hoc,hod⟩:=id st'.1;have I1:=J.jm (t':=tk') (h':=h') (pb:=((s.heap.push oI).objs.size,seqObj "list" #[] 0)::(s.heap.objs.size,K4)::pq) NH (List.Mem.tail _ (.head _)) (λb u hb e=>hk' b u (by simpa using hb) e) (λp hp=>by
  rcases aas.mp hp with rfl|hp
  ·exact .inr ⟨.head _,SI⟩
  ·rcases aas.mp hp with rfl|hp
   ·exact .inl ⟨rfl,JE,λv z=>by rw[hod]at z;cases z⟩
   ·exact .inr ⟨.tail _ (.tail _ hp),pI p hp⟩)
 have mh:=I1.pin ((s.heap.push oI).objs.size,_) (iB _ (.head _));have s1:=aa1 h' (s.heap.push oI).objs.size (Obj.mapSeq λ_=>(#[.ref cs[0],.ref cs[0]]:Array Value))
 obtain⟨n2,hn2⟩:∃n2,(h'.update (s.heap.push oI).objs.size (Obj.mapSeq λ_=>(#[.ref cs[0],.ref cs[0]]:Array Value))).get? (s.heap.push oI).objs.size=some (seqObj "list" #[.ref cs[0],.ref cs[0]] n2):=⟨_,get?_update_seq mh.1 λ_=>#[.ref cs[0],.ref cs[0]]⟩
 show wpAny _ X.A.in1 (updateSeq (s.heap.push oI).objs.size (λ_=>#[.ref cs[0],.ref cs[0]]) >>= _) _ _ _
 refine aS (wpAny_updateSeq mh.1 rfl ?_);rw[hname];have I3:=I1.jm (t':=tk') (pb:=((s.heap.push oI).objs.size,seqObj "list" #[.ref cs[0],.ref cs[0]] n2)::(s.heap.objs.size,K4)::pq) oS (.head _) (λb u hb e=>(s1.2 b hb).trans e) (λp hp=>by
  rcases aas.mp hp with rfl|hp
  ·exact .inl ⟨rfl,hn2,λv z=>by cases z⟩
  ·rcases aas.mp hp with rfl|hp
   ·exact .inr ⟨.tail _ (.head _),SI.symm⟩
   ·exact .inr ⟨.tail _ (.tail _ hp),pS p hp⟩)
 refine aag ⟨plainId_quiet aaY _,Gd hr un hl hk oS NH SI lI pI pS (λi c s' hc best I7=>⟨.ref c,H,I7,rfl,q i c hc best⟩) _ 1 0 cs[0] _ n2 K4 rfl hne (acj _) QC I3 ⟨K4,(s1.2 _ SI.symm).trans JE,hoc,hod⟩ λj hj=>?_⟩
 have e:j=0:=by lia
 rw[e];exact HT.fX _
end
end L2
namespace RM
def lx(a b:Int×Nat):Prop:=a.1<b.1\/(a.1=b.1/\a.2<=b.2)
def stp(L:Nat->Int)(d:Int×Nat)(k:Nat):Int×Nat:=(d.1+L k,d.2^^^2^k)
structure Fx(N:Net)(L:Nat->Int)(m u:Nat)(F:OW):Prop where
 st:F u false=some (0,0)
 cx:∀x s d k y,F x s=some d->k<N.n->Jn N k x y->∃d',F y (s^^m.testBit k)=some d'/\lx d' (stp L d k)
 org:∀y t d,F y t=some d->(y=u/\t=false/\d=(0,0))\/∃x s d0 k,F x s=some d0/\k<N.n/\Jn N k x y/\t=(s^^m.testBit k)/\d=stp L d0 k
 nn:∀y t d,F y t=some d->0<=d.1
def Sl(N:Net)(L:Nat->Int)(m u:Nat)(F:OW)(y:Nat)(t:Bool)(d:Int×Nat):Prop:=(y=u/\t=false/\d=(0,0))\/∃x s d0 k,F x s=some d0/\k<N.n/\Jn N k x y/\t=(s^^m.testBit k)/\d=stp L d0 k
structure Dx(N:Net)(L:Nat->Int)(m u:Nat)(F W:OW)(now:Option (Nat×Bool))(done:Nat->Nat->Prop):Prop where
 dj:Dj N L m u F W now done
 cx:∀x s d k y,F x s=some d->k<N.n->Jn N k x y->(now=some (x,s)->done k y)->∃d',(F y (s^^m.testBit k)=some d'\/W y (s^^m.testBit k)=some d')/\lx d' (stp L d k)
 fo:∀y t d,F y t=some d->Sl N L m u F y t d
 wo:∀y t d,W y t=some d->Sl N L m u F y t d
 s0:F u false=some (0,0)\/W u false=some (0,0)
section
variable {N:Net}{L:Nat->Int}{m u:Nat}{F W:OW}
def Sl.grow{y x:Nat}{t s:Bool}{d e:Int×Nat}(h:Sl N L m u F y t d)(hF:F x s=none):Sl N L m u (iZ F x s e) y t d:=by
 rcases h with h|⟨x',s',d0,k,h0,r⟩
 ·exact .inl h
 ·refine .inr ⟨x',s',d0,k,?_,r⟩;rw[br (λz=>by rw[z.1,z.2,hF]at h0;cases h0)]
  exact h0
def Dx.start:Dx N L m u (λ_ _=>none) (iZ (λ_ _=>none) u false (0,0)) none (λ_ _=>False):=by
 refine⟨.start,λ_ _ _ _ _ h=>(nomatch h),λ_ _ _ h=>(nomatch h),λy t d h=>?_,.inr (bN _ _ _ _)⟩
 by_cases e:y=u/\t=false
 ·obtain⟨rfl,rfl⟩:=e;rw[bN]at h;exact .inl ⟨rfl,rfl,(Option.some.inj h).symm⟩
 ·rw[br e]at h;cases h
def Dx.pop(h:Dx N L m u F W none (λ_ _=>False)){x:Nat}{s:Bool}{d:Int×Nat}(e:W x s=some d)(hmin:∀y t d',W y t=some d'->d.1<=d'.1):Dx N L m u (iZ F x s d) (yQ W x s) (some (x,s)) (λ_ _=>False):=by
 have hF:=h.dj.dj x s d e;have moved:∀y t d',F y t=some d'\/W y t=some d'->iZ F x s d y t=some d'\/yQ W x s y t=some d':=λy t d' q=>by
  by_cases z:y=x/\t=s
  ·obtain⟨rfl,rfl⟩:=z;rcases q with q|q
   ·rw[hF]at q;cases q
   ·rw[e]at q;cases q;exact .inl (bN _ _ _ _)
  ·rw[br z,m8 z];exact q
 refine⟨h.dj.pop e hmin,λy t d' k y2 q hk hj hd=>?_,λy t d' q=>?_,λy t d' q=>?_,moved _ _ _ h.s0⟩
 ·by_cases z:y=x/\t=s
  ·obtain⟨rfl,rfl⟩:=z;exact(hd rfl).elim
  ·rw[br z]at q;obtain⟨d2,q2,l2⟩:=h.cx y t d' k y2 q hk hj (λz=>nomatch z)
   exact⟨d2,moved _ _ _ q2,l2⟩
 ·by_cases z:y=x/\t=s
  ·obtain⟨rfl,rfl⟩:=z;rw[bN]at q;cases q;exact(h.wo _ _ _ e).grow hF
  ·rw[br z]at q;exact(h.fo y t d' q).grow hF
 ·by_cases z:y=x/\t=s
  ·obtain⟨rfl,rfl⟩:=z;rw[sV]at q;cases q
  ·rw[m8 z]at q;exact(h.wo y t d' q).grow hF
def lx.trans{a b c:Int×Nat}(h1:lx a b)(h2:lx b c):lx a c:=by
 unfold lx at *
 lia
def Dx.put{done:Nat->Nat->Prop}{x:Nat}{s:Bool}(h:Dx N L m u F W (some (x,s)) done){d:Int×Nat}{k y:Nat}(e:F x s=some d)(h0:0<=d.1)(hk:k<N.n)(hL:0<L k)(hj:Jn N k x y)(hF:F y (s^^m.testBit k)=none)
 (hW:∀d',W y (s^^m.testBit k)=some d'->lx (stp L d k) d'):Dx N L m u F (iZ W y (s^^m.testBit k) (stp L d k)) (some (x,s)) (λk' y'=>done k' y'\/(k' = k/\y' = y)):=by
 have moved:∀v t d',F v t=some d'\/W v t=some d'->∃d2,(F v t=some d2\/iZ W y (s^^m.testBit k) (stp L d k) v t=some d2)/\lx d2 d':=λv t d' q=>by
  rcases q with q|q
  ·exact⟨d',.inl q,.inr ⟨rfl,aae _⟩⟩
  ·by_cases z:v=y/\t=(s^^m.testBit k)
   ·obtain⟨rfl,rfl⟩:=z;exact⟨_,.inr (bN _ _ _ _),hW d' q⟩
   ·exact⟨d',.inr (by rw[br z];exact q),.inr ⟨rfl,aae _⟩⟩
 refine⟨h.dj.put e hk (acM hL) hj hF λd' q=>?_,λv t d' k2 y2 q hk2 K3 hd=>?_,h.fo,λv t d' q=>?_,?_⟩
 ·have:=hW d' q;unfold lx stp at this;simp only at this
  lia
 ·by_cases hd2:some (x,s)=some (v,t)->done k2 y2
  ·obtain⟨d2,q2,l2⟩:=h.cx v t d' k2 y2 q hk2 K3 hd2;obtain⟨d3,q3,l3⟩:=moved _ _ _ q2;exact⟨d3,q3,l3.trans l2⟩
  ·have hn:some (x,s)=some (v,t):=aap λz=>hd2 λz2=>absurd z2 z
   rcases hd hn with z|⟨rfl,rfl⟩
   ·exact absurd (λ_=>z) hd2
   ·cases hn;rw[e]at q;cases q;exact⟨_,.inr (bN _ _ _ _),.inr ⟨rfl,aae _⟩⟩
 ·by_cases z:v=y/\t=(s^^m.testBit k)
  ·obtain⟨rfl,rfl⟩:=z;rw[bN]at q;cases q;exact .inr ⟨x,s,d,k,e,hk,hj,rfl,rfl⟩
  ·rw[br z]at q;exact h.wo v t d' q
 ·rcases h.s0 with q|q
  ·exact .inl q
  ·right
   rw[br (λz=>?_)]
   ·exact q
   ·obtain⟨z1,z2⟩:=z;have q':=q;rw[z1,z2]at q';have:=hW _ q';unfold lx stp at this;simp only at this
    lia
def Dx.skip{done:Nat->Nat->Prop}{x:Nat}{s:Bool}(h:Dx N L m u F W (some (x,s)) done){d d2:Int×Nat}{k y:Nat}(e:F x s=some d)(hL:0<L k)(q2:F y (s^^m.testBit k)=some d2\/(W y (s^^m.testBit k)=some d2/\lx d2 (stp L d k))):
 Dx N L m u F W (some (x,s)) (λk' y'=>done k' y'\/(k' = k/\y' = y)):=by
 have q3:F y (s^^m.testBit k)=some d2\/(W y (s^^m.testBit k)=some d2/\d2.1<=d.1+L k):=by
  rcases q2 with q2|⟨q2,l2⟩
  ·exact .inl q2
  ·refine .inr ⟨q2,?_⟩;unfold lx stp at l2;simp only at l2
   lia
 refine⟨h.dj.skip e (acM hL) q3,λv t d' k2 y2 q hk2 K3 hd=>?_,h.fo,h.wo,h.s0⟩
 by_cases hd2:some (x,s)=some (v,t)->done k2 y2
 ·exact h.cx v t d' k2 y2 q hk2 K3 hd2
 ·have hn:some (x,s)=some (v,t):=aap λz=>hd2 λz2=>absurd z2 z
  rcases hd hn with z|⟨rfl,rfl⟩
  ·exact absurd (λ_=>z) hd2
  ·cases hn;rw[e]at q;cases q;rcases q2 with q2|⟨q2,l2⟩
   ·have:=h.dj.mx x s d _ _ d2 rfl e q2;refine⟨d2,.inl q2,.inl ?_⟩;show d2.1<d.1+L k2
    lia
   ·exact⟨d2,.inr q2,l2⟩
def Dx.all{done:Nat->Nat->Prop}{x:Nat}{s:Bool}(h:Dx N L m u F W (some (x,s)) done)(ha:∀k y,k<N.n->Jn N k x y->done k y):Dx N L m u F W none (λ_ _=>False) :=
 ⟨h.dj.all ha,λv t d k y q hk hj _=>h.cx v t d k y q hk hj λz=>by cases z;exact ha k y hk hj,h.fo,h.wo,h.s0⟩
def Dj.less{now:Option (Nat×Bool)}{done done' : Nat->Nat->Prop}(h:Dj N L m u F W now done)(hd:∀k y,done' k y->done k y):Dj N L m u F W now done' :=
 ⟨h.fw,h.ww,h.dj,h.le,h.mx,λv t d k y q hk hj z=>h.cl v t d k y q hk hj λz2=>hd _ _ (z z2),h.st⟩
def Dx.less{now:Option (Nat×Bool)}{done done' : Nat->Nat->Prop}(h:Dx N L m u F W now done)(hd:∀k y,done' k y->done k y):Dx N L m u F W now done' :=
 ⟨h.dj.less hd,λv t d k y q hk hj z=>h.cx v t d k y q hk hj λz2=>hd _ _ (z z2),h.fo,h.wo,h.s0⟩
def Dx.fin(hL:∀k,k<N.n->0<L k)(hu:u<N.p)(h:Dx N L m u F W none (λ_ _=>False))(hW:∀x s,W x s=none):Fx N L m u F:=by
 refine⟨?_,λx s d k y e hk hj=>?_,h.fo,λy t d e=>?_⟩
 ·rcases h.s0 with q|q
  ·exact q
  ·rw[hW]at q;cases q
 ·obtain⟨d',q,l⟩:=h.cx x s d k y e hk hj (λz=>nomatch z)
  rcases q with q|q
  ·exact⟨d',q,l⟩
  ·rw[hW]at q;cases q
 ·obtain⟨pre,w⟩:=h.dj.fw y t d e;exact(o9 (λk hk=>acM (hL k hk)) hu w).2.2.2.2.2
end
section
variable {N:Net}{L:Nat->Int}{m:Nat}
def Lo(N:Net)(L:Nat->Int)(m:Nat)(z:Int)(e:Nat):Prop:=∃Fs:Nat->OW,(∀i,i<N.p->Fx N L m i (Fs i))/\(∃i,i<N.p/\Fs i i true=some (z,e))/\∀j d,j<N.p->Fs j j true=some d->lx (z,e) d
structure uB(N:Net)(L:Nat->Int)(m:Nat)(z:Int)(e:Nat):Prop where
 ring:N.Ring e
 lt:e<2^N.n
 par:N.par e m=true
 len:lsum L (λk=>e.testBit k) N.n=z
 way:∃x,x<N.p/\Wy N L m x x true z
 min:∀x z',x<N.p->Wy N L m x x true z'->z<=z'
def uB.least(hL:∀k,k<N.n->0<=L k){z:Int}{e r:Nat}(h:uB N L m z e)(hr:N.Ring r)(lr:r<2^N.n)(pr:N.par r m=true):z<=lsum L (λk=>r.testBit k) N.n:=by
 obtain⟨x,hx,hw⟩:=pe hL m hr lr;rw[pr]at hw;exact h.min x _ hx hw
end
end RM
namespace L2
open PySem PySem.Spec PyProof.Rows PySem.W
def SRun(r:Nat->Int){α:Type}:KasT α->α
 | .ret a=>a
 | .ask i j k=>SRun r (k (decide (r i<r j)))
section
variable {r:Nat->Int}
def iL{α β:Type}{f:α->KasT β}:∀(t:KasT α),SRun r (t.bind f)=SRun r (f (SRun r t))
 | .ret a=>by rw[KasT.bind.eq_1];rfl
 | .ask i j k=>by
   rw[KasT.bind.eq_2];exact iL (k _)
def EJ{n:Nat}{α:Type}{R:α->Prop}{cmp:Nat->Nat->(Bool->Shared->Prop)->Shared->Prop}{Q:α->Shared->Prop}{s:Shared}(hc:∀i j C,i<n->j<n->C (decide (r i<r j)) s->cmp i j C s):∀{t:KasT α},vM n R t->(R (SRun r t)->Q (SRun r t) s)->KasT.kasWp cmp t Q s
 | .ret a,h,q=>q h
 | .ask i j k,h,q=>hc i j _ h.1 h.2.1 (EJ hc (h.2.2 _) q)
def Kr(r:Nat->Int)(p:Array Nat)(i:Nat):Int:=r (p.getD i 0)
def uC(p:Array Nat)(i:Nat):Kr r p i=r ((p[i]?).getD 0):=by
 unfold Kr;rw[Array.getD_eq_getD_getElem?]
def yS{p:Array Nat}{i j:Nat}(hj:j<=p.size)(k:Nat):Kr r (kas_rev p i j) k=if i<=k/\k<j then Kr r p (i+j-1-k) else Kr r p k:=by
 have e:=getElem?_mirror_all (i:=i) hj k;unfold kas_rev;rw[uC,e]
 split
 ·rw[uC]
 ·rw[uC]
def JF{p:Array Nat}{src d:Nat}(hs:src<p.size)(hd:d<=src)(k:Nat):Kr r (bubble p src d) k=if k=src-d then Kr r p src else if src-d<k/\k<=src then Kr r p (k-1) else Kr r p k:=by
 have e:=getElem?_bubble hs d hd k;rw[uC,e]
 split
 ·rw[uC]
 ·split
  ·rw[uC]
  ·rw[uC]
def mj(p:Array Nat)(i j:Nat):(kas_rev p i j).size=p.size:=mirror_size _ _ _ _
def Up(r:Nat->Int)(p:Array Nat)(n:Nat):Prop:=∀i,1<=i->i<n->Kr r p (i-1)<=Kr r p i
def Up.le{p:Array Nat}{n:Nat}(h:Up r p n):∀{i j:Nat},i<=j->j<n->Kr r p i<=Kr r p j:=by
 intro i j hij;obtain⟨d,rfl⟩:=ac5 hij;clear hij
 induction d with
 | zero=>intro _;exact abL _
 | succ d ih =>
   intro hj;have h1:=ih (by lia)
   have h2:=h (i+(d+1)) (by lia) hj
   rw[show i+(d+1)-1=i+d by lia]at h2
   lia
def Dm{p:Array Nat}:∀(f n:Nat),1<=n->Up r p n->n<=SRun r (kas_asc p f n)/\SRun r (kas_asc p f n)<=n+f/\Up r p (SRun r (kas_asc p f n))/\(SRun r (kas_asc p f n)<n+f->Kr r p (SRun r (kas_asc p f n))<Kr r p (SRun r (kas_asc p f n)-1))
 | 0,n,_,h=>by
   rw[kas_asc.eq_1];exact⟨aae n,aae n,h,λz=>absurd z (abr n)⟩
 | f+1,n,h1,h=>by
   rw[kas_asc.eq_2];show n<=SRun r (if decide (Kr r p n<Kr r p (n-1))=true then _ else _)/\SRun r (if decide (Kr r p n<Kr r p (n-1))=true then _ else _)<=_/\Up r p (SRun r (if decide (Kr r p n<Kr r p (n-1))=true then _ else _))/\_
   by_cases c:Kr r p n<Kr r p (n-1)
   ·show n<=SRun r (if decide (Kr r p n<Kr r p (n-1))=true then _ else _)/\SRun r (if decide (Kr r p n<Kr r p (n-1))=true then _ else _)<=_/\Up r p (SRun r (if decide (Kr r p n<Kr r p (n-1))=true then _ else _))/\(SRun r (if decide (Kr r p n<Kr r p (n-1))=true then _ else _)<_->Kr r p (SRun r (if decide (Kr r p n<Kr r p (n-1))=true then _ else _))<Kr r p (SRun r (if decide (Kr r p n<Kr r p (n-1))=true then _ else _)-1))
    rw[aad (cF c)];exact⟨aae n,ab5 _ _,h,λ_=>c⟩
   ·show n<=SRun r (if decide (Kr r p n<Kr r p (n-1))=true then _ else _)/\SRun r (if decide (Kr r p n<Kr r p (n-1))=true then _ else _)<=_/\Up r p (SRun r (if decide (Kr r p n<Kr r p (n-1))=true then _ else _))/\(SRun r (if decide (Kr r p n<Kr r p (n-1))=true then _ else _)<_->Kr r p (SRun r (if decide (Kr r p n<Kr r p (n-1))=true then _ else _))<Kr r p (SRun r (if decide (Kr r p n<Kr r p (n-1))=true then _ else _)-1))
    rw[aab (by simpa using c)]
    have ih:=Dm (p:=p) f (n+1) (by lia) (λi hi hn=>by
     by_cases e:i=n
     ·rw[e];lia
     ·exact h i hi (by lia))
    refine⟨by lia,by lia,ih.2.2.1,λz=>ih.2.2.2 (by lia)⟩
def Down(r:Nat->Int)(p:Array Nat)(n q:Nat):Prop:=(∀i,1<=i->i<n->Kr r p i<=Kr r p (i-1))/\q+1<=n/\∀i,n-(q+1)<=i->i<n->Kr r p i=Kr r p (n-1)
def Down.rev{p:Array Nat}{n q:Nat}(h:Down r p n q)(hn:n<=p.size)(k:Nat):Kr r (kas_rev p (n-(q+1)) n) k=Kr r p k:=by
 rw[yS hn]
 split
 ·rename_i hk
  rw[h.2.2 _ (by lia) (by have:=h.2.1;lia),h.2.2 k hk.1 hk.2]
 ·rfl
def m9:∀(f:Nat) {p:Array Nat} {n q:Nat},n+f<=p.size->Down r p n q->
 (SRun r (kas_desc f p n q)).1.size=p.size/\n<=(SRun r (kas_desc f p n q)).2.1/\(SRun r (kas_desc f p n q)).2.1<=n+f/\Down r (SRun r (kas_desc f p n q)).1 (SRun r (kas_desc f p n q)).2.1 (SRun r (kas_desc f p n q)).2.2
 | 0,p,n,q,_,h=>by
   rw[kas_desc.eq_1];exact⟨rfl,aae n,aae n,h⟩
 | f+1,p,n,q,hs,h=>by
   rw[kas_desc.eq_2];obtain⟨h1,h2,h3⟩:=id h
   by_cases c:Kr r p n<Kr r p (n-1)
   ·have dn:∀p' : Array Nat,(∀k,Kr r p' k=Kr r p k)->Down r p' (n+1) 0:=λp' e=>by
     refine⟨λi hi hn=>?_,by lia,λi hi hn=>by rw[show i=n+1-1 by lia]⟩
     rw[e,e]
     by_cases z:i=n
     ·rw[z];lia
     ·exact h1 i hi (by lia)
    have e0:∀(T1 T2:KasT (Array Nat×Nat×Nat)),SRun r (KasT.ask (p.getD n 0) (p.getD (n-1) 0) λc=>if c=true then T1 else T2)=SRun r T1:=λT1 T2=>by
     show SRun r (if decide (Kr r p n<Kr r p (n-1))=true then T1 else T2)=_
     rw[aad (cF c)]
    rw[e0]
    by_cases hq:q > 0
    ·rw[aad hq];have ih:=m9 f (p:=kas_rev p (n-(q+1)) n) (n:=n+1) (q:=0) (by rw[mj];lia) (dn _ (h.rev (by lia)))
     rw[mj]at ih;exact⟨ih.1,by lia,by lia,ih.2.2.2⟩
    ·rw[aab hq];have ih:=m9 f (p:=p) (n:=n+1) (q:=0) (by lia) (dn _ λ_=>rfl)
     exact⟨ih.1,by lia,by lia,ih.2.2.2⟩
   ·have e0:∀(T1 T2:KasT (Array Nat×Nat×Nat)),SRun r (KasT.ask (p.getD n 0) (p.getD (n-1) 0) λc=>if c=true then T1 else T2)=SRun r T2:=λT1 T2=>by
     show SRun r (if decide (Kr r p n<Kr r p (n-1))=true then T1 else T2)=_
     rw[aab (by simpa using c)]
    rw[e0]
    by_cases d:Kr r p (n-1)<Kr r p n
    ·have e1:∀(T1 T2:KasT (Array Nat×Nat×Nat)),SRun r (KasT.ask (p.getD (n-1) 0) (p.getD n 0) λc=>if c=true then T1 else T2)=SRun r T1:=λT1 T2=>by
      show SRun r (if decide (Kr r p (n-1)<Kr r p n)=true then T1 else T2)=_
      rw[aad (cF d)]
     rw[e1];exact⟨rfl,aae n,ab5 _ _,h⟩
    ·have e1:∀(T1 T2:KasT (Array Nat×Nat×Nat)),SRun r (KasT.ask (p.getD (n-1) 0) (p.getD n 0) λc=>if c=true then T1 else T2)=SRun r T2:=λT1 T2=>by
      show SRun r (if decide (Kr r p (n-1)<Kr r p n)=true then T1 else T2)=_
      rw[aab (by simpa using d)]
     rw[e1];have ih:=m9 f (p:=p) (n:=n+1) (q:=q+1) (by lia) ⟨λi hi hn=>by
      by_cases z:i=n
      ·rw[z];lia
      ·exact h1 i hi (by lia),by lia,λi hi hn=>by
      rw[show n+1-1=n by lia]
      by_cases z:i=n
      ·rw[z]
      ·have:=h3 i (by lia) (by lia)
       lia⟩
     exact⟨ih.1,by lia,by lia,ih.2.2.2⟩
def A7(r:Nat->Int)(n:Nat)(x:Nat×Array Nat):Prop:=x.2.size=n/\1<=x.1/\x.1<=n/\Up r x.2 x.1
def A8{n nrem:Nat}{p:Array Nat}{q:Nat}(h:Down r p n q)(hn:1<=n)(hle:n<=nrem)(hs:p.size=nrem):A7 r nrem (SRun r (kas_tail3 n nrem p)):=by
 have up:Up r (kas_rev p 0 n) n:=λi hi hi2=>by
  rw[yS (by lia),yS (by lia),aad (by lia),aad (by lia)]
  have:=h.1 (0+n-1-(i-1)) (by lia) (by lia)
  rw[show 0+n-1-(i-1)-1=0+n-1-i by lia]at this
  exact this
 have a:=Dm (nrem-n) n hn up;unfold kas_tail3;rw[iL];exact⟨by show(kas_rev p 0 n).size=nrem;rw[mj,hs],by show 1<=SRun r _;lia,by show SRun r _<=nrem;lia,a.2.2.1⟩
def Down.congr{p p' : Array Nat}{n q:Nat}(h:Down r p n q)(e:∀k,Kr r p' k=Kr r p k):Down r p' n q:=⟨λi h1 h2=>by rw[e,e];exact h.1 i h1 h2,h.2.1,λi h1 h2=>by rw[e,e];exact h.2.2 i h1 h2⟩
def A9{n nrem:Nat}{p:Array Nat}(hn:1<=n)(hle:n+1<=nrem)(hs:p.size=nrem)(heq:∀i,i<n->Kr r p i=Kr r p (n-1))(hlt:Kr r p n<Kr r p (n-1)):A7 r nrem (SRun r (kas_descPart n nrem p)):=by
 have d0:Down r p (n+1) 0:=⟨λi h1 h2=>by
  by_cases z:i=n
  ·rw[z];lia
  ·rw[heq i (by lia),heq (i-1) (by lia)]
   exact abL _,by lia,λi h1 h2=>by rw[show i=n+1-1 by lia]⟩
 have d:=m9 (nrem-(n+1)) (p:=p) (n:=n+1) (q:=0) (by lia) d0
 unfold kas_descPart;rw[iL];generalize SRun r (kas_desc (nrem-(n+1)) p (n+1) 0)=x at d;obtain⟨d1,d2,d3,d4⟩:=d
 by_cases hq:x.2.2 > 0
 ·rw[aad hq];exact A8 (d4.congr (d4.rev (by lia))) (by lia) (by lia) (by rw[mj,d1,hs])
 ·rw[aab hq];exact A8 d4 (by lia) (by lia) (by rw[d1,hs])
def Ge{nrem:Nat}{p:Array Nat}(h1:1<=nrem)(hs:p.size=nrem):A7 r nrem (SRun r (kas_count nrem p)):=by
 have a:=Dm (r:=r) (p:=p) (nrem-1) 1 (aae 1) (λi hi hn=>by lia)
 unfold kas_count;rw[iL];generalize SRun r (kas_asc p (nrem-1) 1)=n at a;obtain⟨a1,a2,a3,a4⟩:=a
 by_cases e:(n==nrem)=true
 ·rw[aad e];exact⟨hs,a1,by show n<=nrem;lia,a3⟩
 ·rw[aab e];have e:n≠nrem:=by simpa using e
  have hlt:=a4 (by lia)
  by_cases h2:n > 1
  ·rw[aad h2]
   by_cases c:Kr r p 0<Kr r p (n-1)
   ·show A7 r nrem (SRun r (if decide (Kr r p 0<Kr r p (n-1))=true then _ else _))
    rw[aad (cF c)];exact⟨hs,a1,by show n<=nrem;lia,a3⟩
   ·show A7 r nrem (SRun r (if decide (Kr r p 0<Kr r p (n-1))=true then _ else _))
    rw[aab (by simpa using c)]
    have all:∀i,i<n->Kr r p i=Kr r p (n-1):=λi hi=>by
     have l1:=a3.le (show 0<=i by lia) hi
     have l2:=a3.le (show i<=n-1 by lia) (by lia)
     lia
    have er:∀k,Kr r (kas_rev p 0 n) k=Kr r p k:=λk=>by
     rw[yS (by lia)]
     split
     ·rw[all _ (by lia),all k (by lia)]
     ·rfl
    exact A9 a1 (by lia) (by rw[mj,hs]) (λi hi=>by rw[er,er];exact all i hi) (by rw[er,er];exact hlt)
  ·rw[aab h2];have e1:n=1:=by lia
   subst e1;exact A9 a1 (by lia) hs (λi hi=>by rw[show i=1-1 by lia]) hlt
def uD{p:Array Nat}{k:Nat}(up:Up r p k):∀(f l u:Nat),u-l<=f->l<=u->u<=k->(∀i,i<l->Kr r p i<=Kr r p k)->(∀i,u<=i->i<k->Kr r p k<Kr r p i)->
 SRun r (kas_place p k f l u)<=k/\(∀i,i<SRun r (kas_place p k f l u)->Kr r p i<=Kr r p k)/\∀i,SRun r (kas_place p k f l u)<=i->i<k->Kr r p k<Kr r p i
 | 0,l,u,hf,hlu,huk,h1,h2=>by
   rw[kas_place.eq_1];have e:l=u:=by lia
   subst e;exact⟨huk,h1,h2⟩
 | f+1,l,u,hf,hlu,huk,h1,h2=>by
   rw[kas_place.eq_2]
   by_cases hx:l ≥ u
   ·rw[aad hx];have e:l=u:=by lia
    subst e;exact⟨huk,h1,h2⟩
   ·rw[aab hx]
    by_cases c:Kr r p k<Kr r p ((l+u)/2)
    ·have e0:∀(T1 T2:KasT Nat),SRun r (KasT.ask (p.getD k 0) (p.getD ((l+u)/2) 0) λc=>if c=true then T1 else T2)=SRun r T1:=λT1 T2=>by
      show SRun r (if decide (Kr r p k<Kr r p ((l+u)/2))=true then T1 else T2)=_
      rw[aad (cF c)]
     rw[e0];exact uD up f l ((l+u)/2) (by lia) (by lia) (by lia) h1 λi hi hk=>by
      have:=up.le hi hk
      lia
    ·have e0:∀(T1 T2:KasT Nat),SRun r (KasT.ask (p.getD k 0) (p.getD ((l+u)/2) 0) λc=>if c=true then T1 else T2)=SRun r T2:=λT1 T2=>by
      show SRun r (if decide (Kr r p k<Kr r p ((l+u)/2))=true then T1 else T2)=_
      rw[aab (by simpa using c)]
     rw[e0];exact uD up f ((l+u)/2+1) u (by lia) (by lia) huk (λi hi=>by
      have:=up.le (show i<=(l+u)/2 by lia) (by lia)
      lia) h2
def JG:∀(f:Nat) {p:Array Nat} {k:Nat},k+f<=p.size->Up r p k->Up r (SRun r (kas_bin f p k)) (k+f)
 | 0,p,k,_,h=>by
   rw[kas_bin.eq_1];exact h
 | f+1,p,k,hs,h=>by
   rw[kas_bin.eq_2,iL];have pl:=uD h k 0 k (by lia) (by lia) (aae k) (λi hi=>by lia) (λi h1 h2=>by lia)
   generalize SRun r (kas_place p k k 0 k)=l at pl;obtain⟨p1,p2,p3⟩:=pl;have up:Up r (bubble p k (k-l)) (k+1):=λi hi hk=>by
    rw[JF (by lia) (by lia),JF (by lia) (by lia),show k-(k-l)=l by lia]
    by_cases c1:i=l
    ·rw[aab (by lia),aab (by lia),aad c1]
     exact p2 (i-1) (by lia)
    ·rw[aab c1]
     by_cases c2:l<i/\i<=k
     ·rw[aad c2]
      by_cases c3:i-1=l
      ·rw[aad c3];exact acM (p3 (i-1) (by lia) (by lia))
      ·rw[aab c3,aad (by lia)]
       exact h (i-1) (by lia) (by lia)
     ·rw[aab c2,aab (by lia),aab (by lia)]
      exact h i hi (by lia)
   have:=JG f (p:=bubble p k (k-l)) (k:=k+1) (by rw[bubble_size];lia) up
   rw[show k+(f+1)=k+1+f by lia]
   exact this
def My{n:Nat}(hn:1<=n):Up r (SRun r (kas_sort n)) n:=by
 unfold kas_sort;rw[iL];have c:=Ge (r:=r) (p:=List.toArray (List.range n)) hn (by simp)
 generalize SRun r (kas_count n (List.toArray (List.range n)))=x at c;obtain⟨c1,c2,c3,c4⟩:=c
 by_cases hx:x.1<n
 ·rw[aad hx];have:=JG (n-max x.1 1) (p:=x.2) (k:=max x.1 1) (by lia) (by rw[show max x.1 1=x.1 by lia];exact c4)
  rw[show max x.1 1+(n-max x.1 1)=n by lia]at this
  exact this
 ·rw[aab hx];have e:x.1=n:=by lia
  rw[e]at c4;exact c4
end
def yT:bootBuiltins "sorted"=some (.builtin "sorted"):=by kernel_rfl
def kx(z:Int×Int):Int:=z.1*1073741824+z.2
def Sm(z:Int×Int):Prop:=0<=z.2/\z.2<1073741824
section
variable {X:Cx}{pq:aV}{σ:St}{H H2:Hp}{s:Shared}
def Inv.Mz{a:Addr}{xs:List V}{ob:Obj}(I:Inv X pq σ H s)(e:H a=some (.lst xs))(ho:s.heap.get? a=some ob):Inv X pq σ (upd H a (.lQ ob (.lst xs))) s:=by
 have ne:∀b,H b=none->b≠a:=λb h z=>by rw[z,e]at h;cases h
 refine⟨I.ok,I.os,I.bare,⟨I.base.keep,I.base.slot,λb o q n hx=>?_,I.base.there,λb xs q=>?_,λb o u q=>?_,λb ps q=>?_⟩,I.loc,I.cell,?_,λx c q=>?_,λp hp=>?_,λb u q=>?_,I.len⟩
 ·have z:=I.base.free b o q n hx;rw[ak (ne b z)];exact z
 ·have z:=I.base.tups b xs q;rw[ak (aU z e (by intro z;cases z))]
  exact z
 ·have z:=I.base.kJ b o u q;rw[ak (aU z e (by intro z;cases z))]
  exact z
 ·obtain⟨more,z⟩:=I.base.lR b ps q;exact⟨more,by rw[ak (aU z e (by intro z;cases z))];exact z⟩
 ·rw[ak (ne _ I.free)];exact I.free
 ·rw[ak (ne _ (I.eU x c q))];exact I.eU x c q
 ·obtain⟨a1,a2,a3⟩:=I.pin p hp;exact⟨a1,by rw[ak (ne _ a2)];exact a2,a3⟩
 ·by_cases hb:b=a
  ·subst hb;rw[ae]at q;cases q;exact⟨ho,(I.hok b _ e).stay (λ_ _ _ q=>q) (λc q=>by rw[ak (aU q e (by intro z;cases z))];exact q) λc xs q=>by rw[ak (aU q e (by intro z;cases z))];exact q⟩
  ·rw[ak hb]at q;exact(I.hok b u q).stay (λ_ _ _ q=>q) (λc q=>by rw[ak (aU q e (by intro z;cases z))];exact q) λc xs q=>by rw[ak (aU q e (by intro z;cases z))];exact q
def Inv.Sn{ur:aV}{σ0:St}{s0:Shared}{a:Addr}{xs:List V}{ob:Obj}(I0:Inv X ur σ0 H s0)(e0:H a=some (.lst xs))(I:Inv X pq σ H2 s)(e:H2 a=some (.lQ ob (.lst xs))):
 Inv X pq σ (upd H2 a (.lst xs)) s:=by
 have ne:∀b,H2 b=none->b≠a:=λb h z=>by rw[z,e]at h;cases h
 obtain⟨ho,hd⟩:=(show bI X.prog X.w H2 s.heap a (.lQ ob (.lst xs)) from I.hok a _ e)
 refine⟨I.ok,I.os,I.bare,⟨I.base.keep,I.base.slot,λb o q n hx=>?_,I.base.there,λb xs q=>?_,λb o u q=>?_,λb ps q=>?_⟩,I.loc,I.cell,?_,λx c q=>?_,λp hp=>?_,λb u q=>?_,I.len⟩
 ·have z:=I.base.free b o q n hx;rw[ak (ne b z)];exact z
 ·have z:=I.base.tups b xs q;rw[ak (aU z e (by intro z;cases z))]
  exact z
 ·have z:=I.base.kJ b o u q;rw[ak (λy=>by
   have z0:=I0.base.kJ b o u q;rw[y,e0]at z0;cases z0)]
  exact z
 ·obtain⟨more,z⟩:=I.base.lR b ps q;exact⟨more,by rw[ak (aU z e (by intro z;cases z))];exact z⟩
 ·rw[ak (ne _ I.free)];exact I.free
 ·rw[ak (ne _ (I.eU x c q))];exact I.eU x c q
 ·obtain⟨a1,a2,a3⟩:=I.pin p hp;exact⟨a1,by rw[ak (ne _ a2)];exact a2,a3⟩
 ·by_cases hb:b=a
  ·subst hb;rw[ae]at q;cases q;exact hd.stay (λ_ _ _ q=>q) (λc q=>by rw[ak (aU q e (by intro z;cases z))];exact q) λc xs q=>by rw[ak (aU q e (by intro z;cases z))];exact q
  ·rw[ak hb]at q;exact(I.hok b u q).stay (λ_ _ _ q=>q) (λc q=>by rw[ak (aU q e (by intro z;cases z))];exact q) λc xs q=>by rw[ak (aU q e (by intro z;cases z))];exact q
end
def EK(h:Heap)(v:Value)(z:Int×Int):Prop:=∃(a:Addr) (o:Obj) (t u:Tok) (k:Nat),v = .ref a/\h.get? a=some o/\o.cls = .type "tuple"/\o.data = .seq #[.int z.1 t,.int z.2 u] k
def EK.pair{h:Heap}{v:Value}{z:Int×Int}(q:EK h v z):NG h v:=let⟨a,o,t,u,k,q⟩:=q;⟨a,o,z.1,z.2,t,u,k,q⟩
def Gf{prog:Program}{w:World}{A:Around}{s:Shared}{vs:List Value}{n:Nat}{zs:Nat->Int×Int}(hz:∀i,i<n->Sm (zs i))(hv:∀i,i<n->EK s.heap (vs.getD i Value.none) (zs i)):
 ∀i j C,i<n->j<n->C (decide (kx (zs i)<kx (zs j))) s->kas_ask prog w A (tuples' true) vs i j C s:=by
 intro i j C hi hj hC;unfold kas_ask;obtain⟨a,o,t,u,k,e,ho,_,hd⟩:=hv i hi;obtain⟨a',o',t',u',k',e',ho',_,hd'⟩:=hv j hj;have oi:=hz i hi;have oj:=hz j hj;generalize zs i=z at hd hC oi;generalize zs j=z' at hd' hC oj;obtain⟨x,y⟩:=z;obtain⟨x',y'⟩:=z';unfold kx at hC;unfold Sm at oi oj;dsimp only at hd hd' hC oi oj;rw[e,e'];refine kat_lt ho hd ho' hd' ?_;show KatLex prog w A true _ C [(.int x t,.int x' t'),(.int y u,.int y' u')] 0 s;rw[KatLex.eq_2];refine wpAny_eqBool_int ?_
 by_cases ex:x=x'
 ·rw[show(x==x')=true by simpa using ex]
  rw[aad rfl,KatLex.eq_2];refine wpAny_eqBool_int ?_
  by_cases ey:y=y'
  ·rw[show(y==y')=true by simpa using ey]
   rw[aad rfl,KatLex.eq_1];rw[eI (by lia)]at hC
   exact hC
  ·rw[show(y==y')=false by simpa using ey]
   rw[aab aal];refine kat_one _ _ (lt_int ?_);have e2:decide (y<y')=decide (x*1073741824+y<x'*1073741824+y'):=aa9.mpr (by lia)
   rw[<-e2]at hC;exact hC
 ·rw[show(x==x')=false by simpa using ex]
  rw[aab aal];refine oneLt_int ?_;have e2:decide (x<x')=decide (x*1073741824+y<x'*1073741824+y'):=aa9.mpr (by lia)
  rw[<-e2]at hC;exact hC
def Pg(P:Addr)(q:Str)(lp:Pos)(ta:TA)(te:TE)(js:List Nat):TE:=λσ H Q=>ta σ H λvs H1=>∃(a:Addr) (ns:List Int) (kf:Int->Int×Int),vs=[.ref a]/\H1 a=some (.lst (ns.map V.int))/\ns.length<64/\(∀n∈ns,Sm (kf n))/\H1 P=some (.jC (eT q lp))/\
 (∀H3,(∀b u,H1 b=some u->(∀y,u≠.own y)->(∀qs,u≠.jC qs)->H3 b=some u)->∀n∈ns,te (some (.int n)::eN σ js) H3 λv H4=>aq H3 H4/\∃d,v = .ref d/\H4 d=some (.tup [.int (kf n).1,.int (kf n).2]))/\
 ∀(l:Addr) (ns' : List Int) H4,H1 l=none->aq H1 H4->H4 l=some (.lst (ns'.map V.int))->ns'.Perm ns->ns'.Pairwise (λx y=>kx (kf x)<=kx (kf y))->Q (.ref l) H4
section
variable {X:Cx}{pq:aV}{σ:St}{H2:Hp}
def Gg{A:Around}{E:di}{P:PySem.Fin->Shared->Prop}{s:Shared}{H3:Hp}{D kS:Addr}{e e1:Nat}{its:List Value}{ns:List Int}{ds:List Addr}{kf:Int->Int×Int}
 (I:Inv X ((kS,seqObj "list" (ds.map Value.ref).toArray e)::pq) σ H3 s) (oK:Df X kS) (pK:∀p∈pq,p.1≠kS) (hD:H3 D=some (.lQ (seqObj "list" #[] e1) (.lst []))) (rv:Vals (ns.map V.int) its) (hn:ns.length<64) (hdl:ds.length=ns.length)
 (hk:∀(j:Nat) d n,ds[j]?=some d->ns[j]?=some n->H3 d=some (.tup [.int (kf n).1,.int (kf n).2])) (hok:∀n∈ns,Sm (kf n))
 {ur:aV} {σ0:St} {s0:Shared} {H0:Hp} (I0:Inv X ur σ0 H0 s0) (e0:H0 D=some (.lst []))
 (fin:∀(s' : Shared) (ns' : List Int),ns'.Perm ns->ns'.Pairwise (λx y=>kx (kf x)<=kx (kf y))->Inv X pq σ (upd (upd H3 D (.lst [])) D (.lst (ns'.map V.int))) s'->P (.done (.ret .none)) s') :
 wpAny (model X.prog X.w) A (ksk_end D false its.toArray e1 (.ref kS) ((ds.map Value.ref).toArray)) P E s:=by
 have hl:its.length=ns.length:=by have:=rv.length;rw[aac]at this;lia
 obtain⟨Z4,_⟩:=(show bI X.prog X.w H3 s.heap D (.lQ (seqObj "list" #[] e1) (.lst [])) from I.hok D _ hD)
 have Dp:=I.pin (kS,seqObj "list" (ds.map Value.ref).toArray e) (iB _ (.head _));have Z5:D≠kS:=λz=>by
  have:=Dp.2.1;rw[<-z,hD]at this;cases this
 have tail:∀(st:SortSt) (ns' : List Int) (out:List Value),(arrOf st).map (·.2)=out.toArray->out.length<64->failedOf st=none->ns'.Perm ns->ns'.Pairwise (λx y=>kx (kf x)<=kx (kf y))->Vals (ns'.map V.int) out->wpAny (model X.prog X.w) A (ksk_tail D false e1 (.ref kS) st) P E s:=by
  intro st ns' out hout hz hf hp hs hv;have s1:=aa1 s.heap kS (Obj.mapSeq λ_=>(#[]:Array Value))
  have Ba:(s.heap.update kS (Obj.mapSeq λ_=>(#[]:Array Value))).get? D=some (seqObj "list" #[] e1):=(s1.2 D Z5).trans Z4
  have s2:=aa1 (s.heap.update kS (Obj.mapSeq λ_=>(#[]:Array Value))) D (Obj.mapSeq λ_=>out.toArray)
  obtain⟨c2,hc2⟩:∃c2,((s.heap.update kS (Obj.mapSeq λ_=>(#[]:Array Value))).update D (Obj.mapSeq λ_=>out.toArray)).get? D=some (seqObj "list" out.toArray c2):=⟨_,get?_update_seq Ba λ_=>out.toArray⟩
  unfold ksk_tail
  try dsimp only
  rw[hout];refine aS (listUpdate_at Dp.1 rfl ?_ (by rw[aav,aac,sizeLine_eq];lia) (aaN _))
  refine aS (wpAny_letGo ?_);refine aS (seqEpoch_at Ba rfl ?_);refine aS (listUpdate_at Ba rfl ?_ (aaN _) (by show out.toArray.size<=_;rw[aav,sizeLine_eq];lia))
  rw[hf];simp only[bne_self_eq_false,abv,if_false];have J1:=I.jm (t':=s.toks) (h':=s.heap.update kS (Obj.mapSeq λ_=>(#[]:Array Value))) (pb:=pq) oK (.head _) (λc u ne e=>(s1.2 c ne).trans e) (λp hp=>.inr ⟨.tail _ hp,pK p hp⟩)
  have J2:=Inv.Sn I0 e0 J1 hD;have J3:=J2.write (x:=D) (e:=D) (o:=.lst (ns'.map V.int)) (t':=s.toks) (h':=(s.heap.update kS (Obj.mapSeq λ_=>(#[]:Array Value))).update D (Obj.mapSeq λ_=>out.toArray)) (by rw[ae];trivial) (.inl rfl) (λb u nb eb=>(s2.2 b nb).trans eb) ⟨_,hc2⟩
   ⟨by rw[aac,hp.length_eq,sizeLine_eq];lia,out,c2,hv,hc2⟩
  exact aag (fin _ ns' hp hs J3)
 by_cases h2:2<=ns.length
 ·have kv:∀i,i<its.length->EK s.heap ((ds.map Value.ref).getD i Value.none) (kf (ns.getD i 0)):=λi hi=>by
   have e1:ds[i]?=some (ds[i]'(by lia)):=aaf _
   have e2:ns[i]?=some (ns[i]'(by lia)):=aaf _
   have hd:=hk i _ _ e1 e2;obtain⟨ts,rt,⟨o,eo,hc,n,hdt⟩,_⟩:=I.tuple (bg.of hd);have g1:(ds.map Value.ref).getD i Value.none = .ref (ds[i]'(by lia)):=by rw[aaa,aan,e1];rfl
   have g2:ns.getD i 0=ns[i]'(by lia):=by rw[aaa,e2];rfl
   rw[g1,g2]
   match ts,rt with
   | [_,_],.cons ⟨t,rfl⟩ (.cons ⟨u,rfl⟩ .nil)=>exact⟨_,o,t,u,n,rfl,eo,hc,hdt⟩
  have kz:∀i,i<its.length->Sm (kf (ns.getD i 0)):=λi hi=>by
   have e2:ns[i]?=some (ns[i]'(by lia)):=aaf _
   rw[aaa,e2];exact hok _ (abC _)
  have hlk:(ds.map Value.ref).length=its.length:=by rw[aac];lia
  have hn2 : ¬ its.toArray.size<2:=by rw[aav];lia
  unfold ksk_end
  try dsimp only
  rw[aab aal,aab hn2,aab hn2,aab aal];refine aS (F3 (by rw[aac];lia) (λv hv=>?_) ?_)
  ·obtain⟨i,hi,rfl⟩:=List.mem_iff_getElem.mp hv;have:=(kv i (by lia)).pair
   rw[aaa,aaf hi]at this;exact this
  refine aS (aaP (kat_run (Q:=λst' s'=>s' = s/\∃p:Array Nat,cT its.length p/\Up (λi=>kx (kf (ns.getD i 0))) p its.length/\(arrOf st').map (·.2)=(p.toList.map λi=>its.getD i Value.none).toArray/\failedOf st' = none) (G:=λp s'=>s' = s/\cT its.length p/\Up (λi=>kx (kf (ns.getD i 0))) p its.length)
   hlk (by lia) (by lia) (λp st' s' a1 a2 a3 a4=>⟨a4.1,p,a4.2.1,a4.2.2,kat_snds hlk a2,a3⟩) ?_) ?_ λ_ _ x=>x)
  ·exact EJ (r:=λi=>kx (kf (ns.getD i 0))) (n:=its.length) (Gf kz kv) (Mg (by lia)) λhg=>⟨rfl,hg,My (by lia)⟩
  ·rintro⟨⟨⟩,st'⟩ s' ⟨rfl,p,hg,hu,har,hf⟩
   try dsimp only
   have hpl:p.toList.length=its.length:=by have:=hg.length_eq;rw[aay]at this;exact this
   refine tail st' (p.toList.map λi=>ns.getD i 0) _ har (by rw[aac];lia) hf ?_ ?_ ?_
   ·have h1:=List.Perm.map (λi=>ns.getD i 0) hg
    have h3:(List.range its.length).map (λi=>ns.getD i 0)=ns:=by
     rw[hl];refine adh (by simp) λi h1 h2=>?_
     simp[aaa,aaf h2]
    rw[h3]at h1;exact h1
   ·rw[acJ,List.pairwise_iff_getElem];intro i j hi hj hij;have:=hu.le (aaW hij) (by lia)
    have ga:∀i (hi:i<p.toList.length),p.getD i 0=p.toList[i]:=λi hi=>by
     rw[Array.getD_eq_getD_getElem?,<-Array.getElem?_toList,aaf hi];rfl
    unfold Kr at this;rw[ga i hi,ga j hj]at this;exact this
   ·have:∀l:List Nat,(∀i∈l,i<ns.length)->Vals ((l.map λi=>ns.getD i 0).map V.int) (l.map λi=>its.getD i Value.none):=λl=>by
     induction l with
     | nil=>exact λ_=>.nil
     | cons i l ih =>
       intro h;refine .cons ?_ (ih λj hj=>h j (nR _ hj))
       have hi:=h i aar;have h1:(ns.map V.int)[i]?=some (.int (ns.getD i 0)):=by
        rw[aan,aaa,aaf hi];rfl
       obtain⟨u,hu,ru⟩:=rv.get h1;have gu:its.getD i Value.none=u:=by rw[aaa,hu];rfl
       show RelV (V.int (ns.getD i 0)) (its.getD i Value.none);rw[gu];exact ru
    refine this _ λi hi=>?_
    have:=aax.mp (hg.mem_iff.mp hi)
    lia
 ·have hn2:its.toArray.size<2:=by rw[aav];lia
  unfold ksk_end
  try dsimp only
  rw[aab aal,aad hn2,aad hn2,aab aal];refine aS (aag ?_);refine aS (m:=pure ((),SortSt.mk' general' (((ds.map Value.ref).toArray).zip its.toArray) #[] 7 none)) (aag ?_);refine tail _ ns its ?_ (by lia) rfl (List.Perm.refl _) ?_ rv
  ·show Array.map (λx:Keyed=>x.snd) (((ds.map Value.ref).toArray).zip its.toArray)=its.toArray
   apply Array.toList_inj.mp;simp;exact List.map_snd_zip (by rw[aac];lia)
  ·match ns,h2 with
   | [],_=>exact .nil
   | [x],_=>exact List.pairwise_singleton _ _
   | _::_::_,h2=>exact absurd (by simp:2<=_) h2
end
section
variable {X:Cx}{params:Arguments}{body e:Expr}{scope:Scope}{lp p pos kp:Pos}{fq:List Str}{js:List Nat}{x:Str}{ta:TA}{te:TE}{c0 P:Addr}{k:Nat}
def JH(hr:eK (k+3) X.A)(T:c9 X scope [x] fq js)(hx:scope.names.lookup x=some .local)(hg:Gl X "sorted")(hm:X.mg "sorted"=none)(hcode:X.env.code = .ref c0)(hK:PySem.W.codeHdIn X.K c0 P=true)(ha:PA X [e] ta)
 (he:∀f c s H,eK k (uv X ([x]++fq) scope f c X.A.in1.in1 s H).A->PE (uv X ([x]++fq) scope f c X.A.in1.in1 s H) body te)
 (hb:∀c ctv u,bindArgs (AV X params body scope c ctv) ⟨[u],[]⟩=pure [(x,u)]:=by intro _ _ _;rfl) (hco:scope.isCoroutine=false:=by rfl) (hgen:scope.isGenerator=false:=by rfl)
 (hdef:defaultsOf params X.env=([],[]):=by rfl)
 (hs:backTo pos (starEach [e] X.env)=(false,eval e X.env)::backTo pos (starEach [] X.env):=by rfl) (hs2:(backTo pos (starEach [e] X.env)).any (·.1)=false:=by rfl) :
 PE X (.Call (.Name "sorted" p) [e] [⟨some (Str.ofString "key"),.Lambda params body scope lp,kp⟩] pos) (Pg P (X.env.qual ++ "<lambda>") lp ta te js):=by
 intro pq s σ H Q I h;refine wpAny_Call_Name_kw (jD I hg hm yT (callWith_kw (cW (ha pos pq s σ H _ I h) λus s1 hq=>?_) hs hs2 rfl rfl))
 obtain⟨vs,H1,I1,r1,a,ns,kf,rfl,hda,h64,hok,hP,hturn,O6⟩:=hq;obtain⟨u,rfl,rx⟩:=vals1 r1;cases rx;refine kws_cons (AW I1 T hcode hK hP hdef λf c oc ctv s2 hc AX hoc J=>kws_nil ?_)
 show wpAny _ X.A (call (.builtin "sorted") [.ref a] [(Str.ofString "key",.ref f)]) _ _ s2;have hla:=sU (oc:=oc) hP hc hda (by intro y z;cases z) (by intro y z;cases z)
 have O7:fC H1 P c oc (X.env.qual ++ "<lambda>") lp P=some (.jC (eT (X.env.qual ++ "<lambda>") lp++nG lp c)):=ae;have Mt:fC H1 P c oc (X.env.qual ++ "<lambda>") lp c=some (.lQ oc (.own P)):=by unfold fC;rw[ak AX,ae]
 have NL:∀b,fC H1 P c oc (X.env.qual ++ "<lambda>") lp b=none->H1 b=none:=λb hb=>by
  have bP:b≠P:=λz=>by rw[z,O7]at hb;cases hb
  have bc:b≠c:=λz=>by rw[z,Mt]at hb;cases hb
  unfold fC at hb
  rwa [ak bP,ak bc]at hb
 have Xw:∀b u,H1 b=some u->(∀y,u≠.own y)->(∀qs,u≠.jC qs)->fC H1 P c oc (X.env.qual ++ "<lambda>") lp b=some u:=λb u eb n1 n2=>sU hP hc eb n1 n2
 generalize Z6:fC H1 P c oc (X.env.qual ++ "<lambda>") lp=HL at J hla O7 Mt NL Xw;obtain⟨its,rv,⟨o,n,ho,hcl,hdt,hd⟩,hz⟩:=J.list (aL.of hla);have hl:=rv.length;rw[aac]at hl;have hsl:its.length<=sizeLine:=dl (abi.mpr (by lia))
 refine call_function_entry_kw kind_sorted plain_sorted entry_sorted (ksk_s1 _ _) ?_;unfold Builtin.«sorted»;refine aS (m:=checkCount "sorted" 1 1 _) (aag ?_);refine aS (wpAny_collect_seq a (T:="list") (.inl rfl) ho hcl hd (λh1 hk=>?_) (by rw[aav];exact hsl))
 have J1:=J.kept (t':=s2.toks) hk;have hfr:HL h1.objs.size=none:=J1.hok.fresh (aae _);refine aS (wpAny_newList ?_ (by simpa using hsl))
 have e0:its.toArray.toList=its:=by simp
 rw[e0];have Le:(h1.push (seqObj "list" its.toArray 0)).get? h1.objs.size=some (seqObj "list" its.toArray 0):=aaB _ rfl;have J2:Inv X ((f,dF X params body scope c ctv)::pq) σ (upd HL h1.objs.size (.lst (ns.map V.int))) { s2 with heap:=h1.push (seqObj "list" its.toArray 0)}:=by
  refine J1.laid (t':=s2.toks) (λb o hb=>?_) (aae _) ⟨?_,its,0,rv,Le⟩
  ·rw[Heap.get?_push_ne _ _ _ (aaK (aaq hb))];exact hb
  ·rw[aac,hl];exact hsl
 generalize hDd:h1.objs.size=D at hfr Le J2;refine aS (aaX (wpAny_call_entry_kw slot_list_sort ⟨_,Le,rfl⟩ entry_list_sort ?body (ksk_l1 _ _)));show wpAny (model X.prog X.w) X.A.in1.in1 (Builtin.«list.sort» ⟨[.ref D],[(Str.ofString "key",.ref f)]⟩) _ _ _;rw[ksk_t1];generalize h1.push (seqObj "list" its.toArray 0)=h2 at Le J2;have s1':=aa1 h2 D (Obj.mapSeq λ_=>(#[]:Array Value))
 obtain⟨e1,Qv⟩:∃e1,(h2.update D (Obj.mapSeq λ_=>(#[]:Array Value))).get? D=some (seqObj "list" #[] e1):=⟨_,get?_update_seq Le λ_=>#[]⟩
 unfold ksk_tree;refine aS (listItems_at Le rfl ?_);refine aS (listUpdate_at Le rfl ?_ (by rw[aav];exact hsl) (aaN _))
 refine aS (seqEpoch_at Qv rfl ?_);refine aS (wpAny_newTuple ?_ (by show its.toArray.toList.length<=_;rw[e0];exact hsl))
 refine aS (wpAny_newList ?_ (aaN _));refine aaX ?_;have J3:=J2.write (x:=D) (e:=D) (o:=.lst []) (t':=s2.toks) (h':=h2.update D (Obj.mapSeq λ_=>(#[]:Array Value))) (by rw[ae];trivial) (.inl rfl) (λb u nb eb=>(s1'.2 b nb).trans eb) ⟨_,Qv⟩ ⟨aaN _,[],e1,.nil,Qv⟩
 have J4:=J3.Mz (a:=D) ae Qv;generalize LI:upd (upd (upd HL D (.lst (ns.map V.int))) D (.lst [])) D (.lQ (seqObj "list" #[] e1) (.lst []))=H2 at J4;have at2:∀b u,HL b=some u->H2 b=some u:=λb u eb=>by
  have nb:b≠D:=λz=>by rw[z,hfr]at eb;cases eb
  rw[<-LI,ak nb,ak nb,ak nb];exact eb
 have iM:H2 D=some (.lQ (seqObj "list" #[] e1) (.lst [])):=by rw[<-LI,ae]
 generalize h2.update D (Obj.mapSeq λ_=>(#[]:Array Value))=h3 at J3 J4
 rw[e0];have hkk:∀b u,h3.get? b=some u->((h3.push (seqObj "tuple" its.toArray 0)).push (seqObj "list" #[] 0)).get? b=some u:=λb u eb=>aai _ (aai _ eb)
 have hS:(h3.push (seqObj "tuple" its.toArray 0)).objs.size=h3.objs.size+1:=size_push' ..;have oK:=J4.Jp (b:=(h3.push (seqObj "tuple" its.toArray 0)).objs.size) (by show h3.objs.size<=_;rw[hS];exact abA _)
 have gK:((h3.push (seqObj "tuple" its.toArray 0)).push (seqObj "list" #[] 0)).get? (h3.push (seqObj "tuple" its.toArray 0)).objs.size=some (seqObj "list" #[] 0):=aaB _ rfl;have Z7:H2 (h3.push (seqObj "tuple" its.toArray 0)).objs.size=none:=J4.hok.fresh (by show h3.objs.size<=_;rw[hS];exact abA _)
 have Mu:∀q∈(f,dF X params body scope c ctv)::pq,q.1<h3.objs.size:=λq hq=>aaq (J4.pin q (iB _ hq)).1
 have J5:Inv X (((h3.push (seqObj "tuple" its.toArray 0)).objs.size,seqObj "list" #[] 0)::(f,dF X params body scope c ctv)::pq) σ H2 { s2 with heap:=(h3.push (seqObj "tuple" its.toArray 0)).push (seqObj "list" #[] 0)}:=by
  have K:=J4.kept (t':=s2.toks) hkk;refine K.fM λq hq=>?_
  rcases aas.mp hq with rfl|hq
  ·exact⟨gK,Z7,oK.2.1,oK.2.2.1,λv z=>by cases z⟩
  ·exact K.pin q (iB _ hq)
 have pK:∀q∈(f,dF X params body scope c ctv)::pq,q.1≠(h3.push (seqObj "tuple" its.toArray 0)).objs.size:=λq hq=>by
  have:=Mu q hq;rw[hS];exact aaK (abI this)
 have Xx:its.toArray.size=its.length:=aav ..;show wpAny (model X.prog X.w) X.A.in1.in1 (ksk_rest D (.ref f) false its.toArray e1 (.ref (h3.push (seqObj "tuple" its.toArray 0)).objs.size)) _ _ { s2 with heap:=(h3.push (seqObj "tuple" its.toArray 0)).push (seqObj "list" #[] 0)}
 generalize (h3.push (seqObj "tuple" its.toArray 0)).objs.size=kS at oK J5 pK;generalize (h3.push (seqObj "tuple" its.toArray 0)).push (seqObj "list" #[] 0)=h4 at J5;unfold ksk_rest;refine aS (wpAny_rule ?_);rw[List.forIn_toArray];refine aS (ksk_fold (λi s'=>∃H3 ds en,aq H2 H3/\Inv X ((kS,seqObj "list" ((ds.map Value.ref).toArray) en)::(f,dF X params body scope c ctv)::pq) σ H3 s'/\ds.length=i/\∀(j:Nat) d n,ds[j]?=some d->ns[j]?=some n->H3 d=some (.tup [.int (kf n).1,.int (kf n).2]))
  its 0 _ ⟨H2,[],0,aq.refl _,J5,rfl,λj d n z=>by cases z⟩ ?_ ?_)
 ·rintro j y s' hy ⟨H3,ds,en,Cp,I3,hdl,hkeys⟩;rw[ack]at hdl ⊢;have hj:j<its.length:=(jf.mp hy).1;have Xy:ns[j]?=some (ns[j]'(by lia)):=aaf _
  obtain⟨uu,hu,ru⟩:=rv.get (show(ns.map V.int)[j]?=some (.int (ns[j]'(by lia))) by rw[aan,Xy];rfl)
  rw[hy]at hu;cases hu;obtain⟨hct,_⟩:=(show bI X.prog X.w H3 s'.heap c (.lQ oc (.own P)) from I3.hok c _ (Cp _ _ (at2 _ _ Mt)))
  have hroom:X.A.in1.in1.depth<recursionLimit:=((hr.in1).in1).depth;refine aS (wpAny_attempt (aaP (A3 (v:=.int (ns[j]'(by lia))) I3 T hx I3.ok.frames rfl hroom (List.Mem.tail _ (.head _)) (hoc.rec hct) (hb c ctv _) hco hgen (he f c s' H3 (((hr.in1).in1).deeper _)) ru
   (hturn H3 (λb u eb n1 n2=>Cp _ _ (at2 _ _ (Xw b u eb n1 n2))) _ (abC _))) (λv s3 hv=>?_) λ_ _ z=>z))
  obtain⟨w',H4,I4,rw',QD,d,rfl,Z8⟩:=hv;cases rw';have Dp:=I4.pin (kS,_) (iB _ (.head _));have sb:=aa1 s3.heap kS (Obj.mapSeq (·.push (.ref d)));have ea:((ds.map Value.ref).toArray).push (.ref d)=((ds++[d]).map Value.ref).toArray:=by simp
  obtain⟨c2,hc2⟩:∃c2,(s3.heap.update kS (Obj.mapSeq (·.push (.ref d)))).get? kS=some (seqObj "list" (((ds++[d]).map Value.ref).toArray) c2):=⟨_,by rw[<-ea];exact get?_update_seq Dp.1 (·.push (.ref d))⟩
  try dsimp only
  refine aS (listUpdate_at Dp.1 rfl ?_ (by rw[aav,aac,sizeLine_eq];lia) (aaD (Nat.le_of_eq (Array.size_push ..)) (by rw[aav,aac,sizeLine_eq];lia)))
  refine aag ⟨rfl,H4,ds++[d],c2,λb u z=>QD _ _ (Cp _ _ z),?_,by rw[aah,aaU,hdl],λi d' n' e1 e2=>?_⟩
  ·exact I4.jm (t':=s3.toks) oK (.head _) (λb u nb eb=>(sb.2 b nb).trans eb) λq hq=>by
    rcases aas.mp hq with rfl|hq
    ·exact .inl ⟨rfl,hc2,λv z=>by cases z⟩
    ·exact .inr ⟨.tail _ hq,pK q hq⟩
  ·by_cases hi:i<ds.length
   ·rw[aaE hi]at e1;exact QD _ _ (hkeys i d' n' e1 e2)
   ·rw[aaO (by lia)]at e1
    have hi2:i=j:=by
     have:=(jf.mp e1).1;rw[aaU]at this
     lia
    subst hi2;rw[hdl,adq]at e1;have e1:d=d':=by simpa using e1
    rw[Xy]at e2;cases e2;rw[<-e1];exact Z8
 ·rintro s' ⟨H3,ds,en,Cp,I3,hdl,hkeys⟩;rw[ack]at hdl;have Dp:=I3.pin (kS,_) (iB _ (.head _))
  try dsimp only
  refine aS (listItems_at Dp.1 rfl ?_);refine Gg I3 oK pK (Cp _ _ iM) rv h64 (by lia) hkeys hok J3 ae λs5 ns' hp VP I5=>⟨_,rfl,aag ⟨_,rfl,?_⟩⟩
  have I6:Inv X pq σ (upd (upd H3 D (.lst [])) D (.lst (ns'.map V.int))) s5:=I5.fM λq hq=>I5.pin q (iB _ (.tail _ hq))
  have nD:∀b u,HL b=some u->b≠D:=λb u eb z=>by rw[z,hfr]at eb;cases eb
  have VQ:∀b u,HL b=some u->upd (upd H3 D (.lst [])) D (.lst (ns'.map V.int)) b=some u:=λb u eb=>by
   rw[ak (nD b u eb),ak (nD b u eb)];exact Cp _ _ (at2 _ _ eb)
  have I7:=AY I1 hP hc AX hoc I6 (VQ _ _ O7) (VQ _ _ Mt);refine⟨.ref D,_,I7,rfl,O6 D ns' _ (NL D hfr) (AZ hP hc AX (oc:=oc) λb u eb=>VQ b u (by rw[<-Z6];exact eb)) ?_ hp VP⟩
  unfold given;rw[ak (λz=>nD _ _ O7 z.symm),ak (λz=>nD _ _ Mt z.symm),ae]
end
end L2
namespace RM
section
variable {N:Net}{L:Nat->Int}
def mq(q m m' : Nat):N.par q (m^^^m')=(N.par q m^^N.par q m'):=by
 have e:∀a b:Nat,N.par a b=N.par b a:=λa b=>bf λk _=>Bool.and_comm _ _
 rw[e,kT,e m,e m']
def sW{f:Nat->Bool}:∀{n i:Nat},i<n->(∀k,k<n->k≠i->f k=false)->bh f n=f i
 | 0,i,h,_=>absurd h (abn _)
 | n+1,i,h,hz=>by
   show(bh f n^^f n)=f i
   by_cases e:i=n
   ·subst e;rw[dX λk hk=>hz k (by lia) (by lia),acN]
   ·rw[sW (show i<n by lia) λk hk ne=>hz k (by lia) ne,hz n (by lia) (λz=>e z.symm),aby]
def xP{f:Nat->Bool}:∀{n:Nat},bh f n=true->∃i,i<n/\f i=true
 | 0,h=>by cases h
 | n+1,h=>by
   have h:(bh f n^^f n)=true:=h;cases hf:f n with
   | true=>exact⟨n,by lia,hf⟩
   | false =>
     rw[hf,aby]at h;obtain⟨i,h1,h2⟩:=xP h;exact⟨i,by lia,h2⟩
def uE(f:Nat->Bool):∀n,bh f (n+1)=(f 0^^bh (λi=>f (i+1)) n)
 | 0=>by
   show(false^^f 0)=(f 0^^false);rw[acN,aby]
 | n+1=>by
   show(bh f (n+1)^^f (n+1))=(f 0^^(bh (λi=>f (i+1)) n^^f (n+1)))
   rw[uE f n,Bool.xor_assoc]
def pB(m:Nat):∀(B:List Nat) (z:Nat),N.par (comb B z) m=bh (λi=>z.testBit i&&N.par (B.getD i 0) m) B.length
 | [],z=>ki m
 | b::B,z=>by
   show N.par ((if z.testBit 0=true then b else 0)^^^comb B (z/2)) m=bh _ (B.length+1)
   rw[kT,pB m B (z/2),uE];have e1:N.par (if z.testBit 0=true then b else 0) m=(z.testBit 0&&N.par b m):=by
    cases z.testBit 0 with
    | true=>simp
    | false=>simp[ki]
   rw[e1];have e2:bh (λi=>(z/2).testBit i&&N.par (B.getD i 0) m) B.length=bh (λi=>z.testBit (i+1)&&N.par ((b::B).getD (i+1) 0) m) B.length:=bf λi _=>by
    rw[acm];rfl
   rw[e2];rfl
def len(N:Net)(L:Nat->Int)(r:Nat):Int:=lsum L (λk=>r.testBit k) N.n
structure DP(N:Net)(L:Nat->Int)(bs us:List Nat):Prop where
 lens:bs.length=us.length
 ring:∀b∈bs,N.Ring b/\b<2^N.n
 own:∀(i b w:Nat),bs[i]?=some b->us[i]?=some w->N.par b w=true/\∀r,N.Ring r->r<2^N.n->N.par r w=true->len N L b<=len N L r
 VR:∀(i j b w:Nat),i<j->bs[i]?=some b->us[j]?=some w->N.par b w=false
def DP.start:DP N L [] []:=⟨rfl,λb h=>(ab7 h).elim,λi b w h=>(by simp at h),λi j b w _ h=>(by simp at h)⟩
def DP.snoc{bs us:List Nat}{b w:Nat}(h:DP N L bs us)(hr:N.Ring b)(hl:b<2^N.n)(ho:N.par b w=true)(hm:∀r,N.Ring r->r<2^N.n->N.par r w=true->len N L b<=len N L r)(he:∀b'∈bs,N.par b' w=false):DP N L (bs++[b]) (us++[w]):=by
 have at_:∀{l:List Nat} {x i y:Nat},(l++[x])[i]?=some y->(i<l.length/\l[i]?=some y)\/(i=l.length/\y=x):=λ{l x i y} e=>by
  by_cases hi:i<l.length
  ·rw[aaE hi]at e;exact .inl ⟨hi,e⟩
  ·have h2:=(jf.mp e).1;rw[aah,aaU]at h2;have h3:i=l.length:=by lia
   rw[aaO (by lia),h3,adq]at e
   exact .inr ⟨h3,(Option.some.inj e).symm⟩
 refine⟨by rw[aah,aah,h.lens];rfl,λb' hb=>?_,λi b' w' h1 h2=>?_,λi j b' w' hij h1 h2=>?_⟩
 ·rcases aaL.mp hb with z|z
  ·exact h.ring b' z
  ·rw[aaA.mp z];exact⟨hr,hl⟩
 ·have hl:=h.lens;rcases at_ h1 with⟨l1,e1⟩|⟨l1,e1⟩<;>rcases at_ h2 with⟨l2,e2⟩|⟨l2,e2⟩
  ·exact h.own i b' w' e1 e2
  ·lia
  ·lia
  ·rw[e1,e2];exact⟨ho,hm⟩
 ·have hl:=h.lens;rcases at_ h1 with⟨l1,e1⟩|⟨l1,e1⟩<;>rcases at_ h2 with⟨l2,e2⟩|⟨l2,e2⟩
  ·exact h.VR i j b' w' hij e1 e2
  ·rw[e2];exact he b' (iq e1)
  ·lia
  ·lia
section
variable {bs us:List Nat}
def DP.at(h:DP N L bs us){i:Nat}(hi:i<bs.length):∃w,us[i]?=some w/\bs[i]?=some (bs.getD i 0):=by
 have h1:i<us.length:=by rw[<-h.lens];exact hi
 exact⟨us[i],aaf h1,by rw[aaa,aaf hi];rfl⟩
def yU{f:Nat->Prop}:∀{n i:Nat},i<n->f i->∃l,l<n/\f l/\∀j,l<j->j<n->¬ f j
 | 0,i,h,_=>absurd h (abn _)
 | n+1,i,h,hf=>by
   by_cases hn:f n
   ·exact⟨n,by lia,hn,λj h1 h2=>by lia⟩
   ·have hi:i<n:=by
     rcases adH i n with z|z
     ·exact z
     ·have e:i=n:=by lia
      rw[e]at hf;exact absurd hf hn
    obtain⟨l,h1,h2,h3⟩:=yU hi hf;refine⟨l,by lia,h2,λj h4 h5=>?_⟩
    by_cases e:j=n
    ·rw[e];exact hn
    ·exact h3 j h4 (by lia)
def DP.parts(h:DP N L bs us){z:Nat}(hr:N.Ring (comb bs z))(hl:comb bs z<2^N.n):∀i,i<bs.length->z.testBit i=true->len N L (bs.getD i 0)<=len N L (comb bs z):=by
 intro i hi hz;apply aap;intro hc;obtain⟨l,h1,⟨h2,h3⟩,h4⟩:=yU (f:=λi=>z.testBit i=true/\¬ len N L (bs.getD i 0)<=len N L (comb bs z)) hi ⟨hz,hc⟩
 obtain⟨w,hw,hb⟩:=h.at h1;obtain⟨o1,o2⟩:=h.own l _ w hb hw;have hp:=pB (N:=N) w bs z
 by_cases hx:∃j,l<j/\j<bs.length/\z.testBit j=true/\N.par (bs.getD j 0) w=true
 ·obtain⟨j,j1,j2,j3,j4⟩:=hx;obtain⟨_,_,So⟩:=h.at j2;obtain⟨rj,lj⟩:=h.ring _ (iq So);have k1:=o2 _ rj lj j4;have k2:len N L (bs.getD j 0)<=len N L (comb bs z):=aap λhn=>h4 j j1 j2 ⟨j3,hn⟩
  lia
 ·rw[sW (i:=l) h1 (λj hj ne=>?_),h2,o1]at hp
  ·exact h3 (o2 _ hr hl hp)
  ·cases VS:z.testBit j with
   | false=>rfl
   | true =>
     rcases adH j l with hlt|hge
     ·obtain⟨_,_,So⟩:=h.at hj;rw[h.VR j l _ w hlt So hw];rfl
     ·cases Z9:N.par (bs.getD j 0) w with
      | false=>rfl
      | true=>exact absurd ⟨j,by lia,hj,VS,Z9⟩ hx
def DP.ind(h:DP N L bs us):AQ bs:=by
 intro z hz hc;apply aap;intro hne;obtain⟨i,hi⟩:=abx hne;have hib:=n8 hz hi;obtain⟨l,h1,h2,h4⟩:=yU (f:=λi=>z.testBit i=true) hib hi
 obtain⟨w,hw,hb⟩:=h.at h1;obtain⟨o1,_⟩:=h.own l _ w hb hw;have hp:=pB (N:=N) w bs z;rw[hc,ki,sW (i:=l) h1 (λj hj ne=>?_),h2,o1]at hp
 ·cases hp
 ·cases VS:z.testBit j with
  | false=>rfl
  | true =>
    have hlt:j<l:=by
     rcases adH j l with z|z
     ·exact z
     ·exact absurd VS (h4 j (by lia) hj)
    obtain⟨_,_,So⟩:=h.at hj;rw[h.VR j l _ w hlt So hw];rfl
end
def Base.span{rs:List Nat}(h:Base N rs){e:Nat}(he:N.bL e)(hl:e<2^N.n):∃z,z<2^rs.length/\comb rs z=e:=by
 apply sS;apply aap;intro hn;have h1:AQ (rs++[e]):=AR.mpr ⟨h.ind,hn⟩;have h2:=O3 (N:=N) h1 (λb hb=>by
  rcases aaL.mp hb with z|z
  ·exact⟨(h.ring b z).1.2.1,(h.ring b z).2⟩
  ·rw[aaA.mp z];exact⟨he,hl⟩)
 rw[aah,aaU,h.len]at h2
 lia
def LB(N:Net)(L:Nat->Int)(rs:List Nat):Prop:=Base N rs/\∀r m,N.Ring r->r<2^N.n->N.par r m=true->∃b∈rs,N.par b m=true/\len N L b<=len N L r
def LB.perm{rs rs' : List Nat}(h:LB N L rs)(p:rs'.Perm rs):LB N L rs':=⟨h.1.perm p,λr m h1 h2 h3=>let⟨b,hb,q⟩:=h.2 r m h1 h2 h3;⟨b,p.mem_iff.mpr hb,q⟩⟩
def DP.least{bs us:List Nat}(h:DP N L bs us)(hl:bs.length=N.ah.length):LB N L bs:=by
 have bb:Base N bs:=⟨hl,h.ring,h.ind⟩;refine⟨bb,λr m hr hlt ho=>?_⟩
 obtain⟨z,hz,rfl⟩:=bb.span hr.2.1 hlt;rw[pB]at ho;obtain⟨i,hi,h1⟩:=xP ho;have h1:=ads.mp h1;obtain⟨_,_,hb⟩:=h.at hi;exact⟨_,iq hb,h1.2,h.parts hr hlt i hi h1.1⟩
structure Wt(N:Net)(bs ws cs:List Nat):Prop where
 lens:ws.length=cs.length
 sum:bs.length+ws.length=N.ah.length
 ch:∀c∈cs,c<N.n/\N.fK c=false
 lt:∀w∈ws,w<2^N.n
 bits:∀w∈ws,∀k,w.testBit k=true->N.fK k=false
 own:∀(i j w c:Nat),ws[i]?=some w->cs[j]?=some c->w.testBit c=decide (i=j)
 c6:∀w∈ws,∀b∈bs,N.par b w=false
def Wt.odd{bs ws cs:List Nat}{w:Nat}(h:Wt N bs (w::ws) cs):∃r,N.Ring r/\r<2^N.n/\N.par r w=true:=by
 have hl:=h.lens
 match cs,hl,h with
 | c::cs,hl,h =>
   obtain⟨c1,c2⟩:=h.ch c aar;refine⟨N.ring c,m4 c1 c2,mW c1,?_⟩;have e:N.par (N.ring c) w=((N.ring c).testBit c&&w.testBit c):=sW (f:=λk=>(N.ring c).testBit k&&w.testBit k) c1 λk hk ne=>by
    cases hw:w.testBit k with
    | false=>exact aci _
    | true =>
      have:=fB c2 (h.bits w aar k hw);rw[this,eI (λz=>ne z.symm)]
      rfl
   rw[e,l5 c2,h.own 0 0 w c rfl rfl];rfl
def Wt.next{bs ws cs:List Nat}{w b:Nat}(h:Wt N bs (w::ws) cs)(ho:N.par b w=true):∃c cs',cs=c::cs'/\Wt N (bs++[b]) (ws.map λv=>if N.par b v=true then v^^^w else v) cs':=by
 have hl:=h.lens
 match cs,hl,h with
 | c::cs,hl,h =>
   refine⟨c,cs,rfl,?_⟩;have hw:=h.lt w aar;have hv:∀v∈ws,v∈w::ws:=λv z=>nR _ z
   refine⟨by rw[aac];simpa using hl,?_,λd hd=>h.ch d (nR _ hd),λv' Jd=>?_,λv' Jd k hk=>?_,λi j v' d h1 h2=>?_,λv' Jd b' hb'=>?_⟩
   ·have:=h.sum;rw[abc]at this;rw[aah,aaU,aac]
    lia
   ·obtain⟨v,m,rfl⟩:=aaH.mp Jd
    split
    ·exact abb (h.lt v (hv v m)) hw
    ·exact h.lt v (hv v m)
   ·obtain⟨v,m,rfl⟩:=aaH.mp Jd
    split at hk
    ·rw[aam]at hk;cases h1:v.testBit k with
     | true=>exact h.bits v (hv v m) k h1
     | false =>
       rw[h1,acN]at hk;exact h.bits w aar k hk
    ·exact h.bits v (hv v m) k hk
   ·rw[aan]at h1;obtain⟨v,Nn,rfl⟩:=wM.mp h1;have e1:=h.own (i+1) (j+1) v d (by simpa using Nn) (by simpa using h2)
    have e2:=h.own 0 (j+1) w d rfl (by simpa using h2)
    have e3:decide (i+1=j+1)=decide (i=j):=aa9.mpr (by lia)
    rw[e3]at e1
    split
    ·rw[aam,e1,e2];simp
    ·exact e1
   ·obtain⟨v,m,rfl⟩:=aaH.mp Jd;rcases aaL.mp hb' with z|z
    ·have z1:=h.c6 v (hv v m) b' z;have z2:=h.c6 w aar b' z
     split
     ·rw[mq,z1,z2];rfl
     ·exact z1
    ·rw[aaA.mp z]
     split
     ·rename_i hp
      rw[mq,hp,ho];rfl
     ·rename_i hp
      cases hq:N.par b v with
      | false=>rfl
      | true=>exact absurd hq hp
def Wt.start(nd:N.ah.Nodup):Wt N [] (N.ah.map λc=>2^c) N.ah:=by
 refine⟨aac ..,by rw[aac];simp,λc hc=>aY.mp hc,λw hw=>?_,λw hw k hk=>?_,λi j w c h1 h2=>?_,λw _ b hb=>by cases hb⟩
 ·obtain⟨c,hc,rfl⟩:=aaH.mp hw;exact ab0 (by decide) (aY.mp hc).1
 ·obtain⟨c,hc,rfl⟩:=aaH.mp hw;rw[aaw]at hk;rw[<-jB hk];exact(aY.mp hc).2
 ·rw[aan]at h1;obtain⟨d,hd,rfl⟩:=wM.mp h1;rw[aaw];refine aa9.mpr ⟨λz=>?_,λz=>?_⟩
  ·subst z;obtain⟨a1,a2⟩:=jf.mp hd;obtain⟨b1,b2⟩:=jf.mp h2;exact(abK nd).mp (a2.trans b2.symm)
  ·subst z;rw[hd]at h2;exact Option.some.inj h2
inductive Ph(N:Net)(L:Nat->Int)(Ue:List Nat):List Nat->List Nat->Prop
 | start:Ph N L Ue [] Ue
 | step {bs ws:List Nat} {w e:Nat} {z:Int} (h:Ph N L Ue bs (w::ws)) (lo:Lo N L w z e):Ph N L Ue (bs++[e]) (ws.map λv=>if N.par e v=true then v^^^w else v)
end
def MA{A B:List Nat}(hi:AQ B)(h:∀b∈B,Sp A b):B.length<=A.length:=by
 have hs:∀z,∃y,y<2^A.length/\comb A y=comb B z:=λz=>sS ((sR B z).mono h)
 refine yN (f:=λz=>Classical.choose (hs z)) (λz _=>(adk (hs z)).1) λz y hz hy e=>AS B hi hz hy ?_
 have e:Classical.choose (hs z)=Classical.choose (hs y):=e;rw[<-(adk (hs z)).2,<-(adk (hs y)).2,e]
def JI{B:List Nat}(h:AQ B)(i:Nat):AQ (B.take i):=by
 have h:=(EI B).mp h;refine(EI _).mpr λj b hj=>?_
 rw[adB]at hj
 split at hj
 ·rename_i hji
  have:=h j b hj
  rwa [List.take_take,acd (aaW hji)]
 ·cases hj
section
variable {N:Net}{L:Nat->Int}
def apart:∀{B:List Nat} {v:Nat},v<2^N.n->(∀b∈B,b<2^N.n)->¬ Sp B v->∃m,(∀b∈B,N.par b m=false)/\N.par v m=true
 | [],v,hv,_,h=>by
   obtain⟨k,hk⟩:∃k,v.testBit k=true:=aap λhn=>h (by
    rw[show v=0 from aaS λk=>by
     rw[abg];exact Bool.eq_false_iff.mpr λz=>hn ⟨k,z⟩]
    exact .zero)
   refine⟨2^k,(λb hb=>nomatch hb),?_⟩
   have e:N.par v (2^k)=N.par (2^k) v:=bf λj _=>Bool.and_comm _ _
   rw[e,yJ (bR hv hk)];exact hk
 | b::B,v,hv,hB,h=>by
   have up:∀{x},Sp B x->Sp (b::B) x:=λz=>z.mono λc hc=>.mem (nR _ hc)
   have hb:=hB b aar;have Xz:∀c∈B,c<2^N.n:=λc hc=>hB c (nR _ hc)
   have all:∀m,(∀c∈B,N.par c m=false)->N.par b m=false->∀c∈b::B,N.par c m=false:=λm h1 h2 c hc=>by
    rcases aas.mp hc with rfl|hc
    ·exact h2
    ·exact h1 c hc
   obtain⟨m,h1,h2⟩:=apart hv Xz λz=>h (up z)
   obtain⟨q,h3,h4⟩:=apart (v:=v^^^b) (abb hv hb) Xz λz=>h (by
    have:=(up z).add (b:=b) aar
    rwa [abh,abD,abE]at this)
   rw[kT]at h4;cases e:N.par b m with
   | false=>exact⟨m,all m h1 e,h2⟩
   | true=>cases e2:N.par b q with
     | false =>
       rw[e2,aby]at h4;exact⟨q,all q h3 e2,h4⟩
     | true =>
       refine⟨m^^^q,all _ (λc hc=>by rw[mq,h1 c hc,h3 c hc];rfl) (by rw[mq,e,e2];rfl),?_⟩
       rw[e2,Bool.xor_true]at h4;rw[mq,h2,show N.par v q=false by simpa using h4]
       rfl
def LB.parts{rs:List Nat}(h:LB N L rs){r:Nat}(hr:N.Ring r)(hl:r<2^N.n):Sp (rs.filter λb=>decide (len N L b<=len N L r)) r:=aap λhn=>by
 obtain⟨m,h1,h2⟩:=apart hl (λb hb=>(h.1.ring b (aaC.mp hb).1).2) hn
 obtain⟨b,hb,h3,h4⟩:=h.2 r m hr hl h2;rw[h1 b (aaC.mpr ⟨hb,cF h4⟩)]at h3;cases h3
def Bb{A B:List Nat}{f:Nat->Int}(ha:A.Pairwise λx y=>f x<=f y)(hb:B.Pairwise λx y=>f x<=f y)(hi:AQ B)(h:∀b∈B,Sp (A.filter λc=>decide (f c<=f b)) b):
 ∀(i a b:Nat),A[i]?=some a->B[i]?=some b->f a<=f b:=by
 intro i a b hA hB;apply aap;intro hn;have hlt:f b<f a:=Int.not_le.mp hn;have mono:∀{C:List Nat} {i j x y:Nat},C.Pairwise (λx y=>f x<=f y)->C[i]?=some x->C[j]?=some y->i<=j->f x<=f y:=λ{C i j x y} hp h1 h2 hij=>by
  obtain⟨l1,e1⟩:=jf.mp h1;obtain⟨l2,e2⟩:=jf.mp h2;rcases Nat.lt_or_eq_of_le hij with z|z
  ·rw[<-e1,<-e2];exact List.pairwise_iff_getElem.mp hp i j l1 l2 z
  ·subst z;rw[h1]at h2;rw[Option.some.inj h2];exact abL _
 have Qy:=(jf.mp hB).1;have e:=MA (A:=A.take i) (JI hi (i+1)) λc hc=>by
  obtain⟨j,hj⟩:=aa3 hc;rw[adB]at hj
  split at hj
  ·rename_i hji
   refine(h c (iq hj)).mono λd hd=>?_
   obtain⟨hd,Np⟩:=aaC.mp hd;have Np:=jB Np;have hcb:=mono hb hj hB (by lia)
   obtain⟨k,hk⟩:=aa3 hd;refine .mem ?_;have hki:k<i:=by
    apply aap;intro hge;have:=mono ha hA hk (by lia)
    lia
   exact iq (i:=k) (by rw[adB,aad hki];exact hk)
  ·cases hj
 rw[aa8,aa8]at e
 lia
def JJ{A B:List Nat}{f:Nat->Int}(hl:A.length=B.length)(h:∀(i a b:Nat),A[i]?=some a->B[i]?=some b->f a<=f b)(h' : ∀(i a b:Nat),B[i]?=some a->A[i]?=some b->f a<=f b):A.map f=B.map f:=by
 refine adh (by rw[aac,aac,hl]) λi a b=>?_
 rw[aac]at a b;rw[acn,acn];exact Int.le_antisymm (h i _ _ (aaf a) (aaf b)) (h' i _ _ (aaf b) (aaf a))
end
section
variable {N:Net}
def MB(m t:Nat):∀{n:Nat},t<n->m.testBit t=true->cnt (λk=>m.testBit k && !decide (k=t)) n+1=cnt (λk=>m.testBit k) n:=by
 intro n
 induction n with
 | zero=>exact λh=>absurd h (abn _)
 | succ n ih =>
   intro h hb;show cnt _ n+(if(m.testBit n && !decide (n=t))=true then 1 else 0)+1=cnt _ n+(if m.testBit n=true then 1 else 0)
   by_cases e:n=t
   ·subst e;rw[hb,cF rfl];have:cnt (λk=>m.testBit k && !decide (k=n)) n=cnt (λk=>m.testBit k) n:=iI λk hk=>by rw[eI (by lia),Bool.not_false,acT]
    rw[this];rfl
   ·have:=ih (by lia) hb
    rw[eI e,Bool.not_false,acT]
    lia
def Dq{m:Nat}(hm:m<2^N.n)(r:N.Ring m):cnt (λk=>m.testBit k) N.n+N.ah.length<=N.n+1:=by
 obtain⟨t,ht⟩:∃t,m.testBit t=true:=by
  apply aap;intro hn;exact r.1 (aaS λk=>by
   rw[abg];cases h:m.testBit k with
   | false=>rfl
   | true=>exact absurd ⟨k,h⟩ hn)
 have K2:=bR hm ht;have h:=Mm (N:=N) (ks:=(List.range N.n).filter λk=>!(m.testBit k && !decide (k=t))) λq hq ev hz=>by
  have sub:∀k,q.testBit k=true->m.testBit k=true/\k≠t:=λk hk=>by
   have hkn:=bR hq hk;apply aap;intro hn;have:=hz k (aaC.mpr ⟨aax.mpr hkn,by
    cases h1:m.testBit k with
    | false=>rfl
    | true =>
      by_cases e:k=t
      ·rw[cF e];rfl
      ·exact absurd ⟨h1,e⟩ hn⟩)
   rw[this]at hk;cases hk
  rcases r.2.2 q (λk hk=>(sub k hk).1) ev with e|e
  ·exact e
  ·exact absurd rfl (sub t (by rw[e];exact ht)).2
 rw[dY]at h;have h1:=oW (λk=>m.testBit k && !decide (k=t)) N.n
 have h2:=MB m t K2 ht
 lia
def Bc:Nat->Nat->Nat
 | 0,_=>0
 | n+1,z=>z%2+Bc n (z/2)
def uF{m:Nat}:∀cs:List Nat,Bc cs.length (code m cs)=(cs.filter λc=>m.testBit c).length
 | []=>rfl
 | c::cs=>by
   have ih:=uF (m:=m) cs;unfold code;show((if m.testBit c=true then 1 else 0)+2*code m cs)%2+Bc cs.length (((if m.testBit c=true then 1 else 0)+2*code m cs)/2)=_
   cases h:m.testBit c with
   | true =>
     rw[aad rfl,aaJ,aad h,abc,<-ih];have e1:(1+2*code m cs)%2=1:=by lia
     have e2:(1+2*code m cs)/2=code m cs:=by lia
     rw[e1,e2,adD]
   | false =>
     rw[aab aal,aaJ,aab (by rw[h];decide),<-ih]
     have e1:(0+2*code m cs)%2=0:=by lia
     have e2:(0+2*code m cs)/2=code m cs:=by lia
     rw[e1,e2,ack]
def uG(N:Net)(j:Nat):List Nat:=(List.range (2^j)).map λz=>N.gq z N.ah 0
def JK:uG N 0=[0]:=by
 unfold uG;show[N.gq 0 N.ah 0]=[0];rw[Mk]
def Pj{j c:Nat}(h:N.ah[j]?=some c):N.gq (2^j) N.ah 0=N.ring c:=by
 have hc:=aY.mp (iq h);have e1:=gR (N:=N) (z:=2^j);have hr:=m4 hc.1 hc.2;have hl:N.ring c<2^N.n:=cL λk hk=>by
  rcases kg hk with z|z
  ·rw[z];exact hc.1
  ·exact z.1
 refine kh e1.2 hl e1.1 hr.2.1 λd hd hf=>?_
 obtain⟨i,hi⟩:=o8 hd hf;rw[kY hi,fB hc.2 hf,aaw];refine aa9.mpr ⟨λe=>?_,λe=>?_⟩
 ·subst e;rw[h]at hi;exact Option.some.inj hi
 ·subst e;obtain⟨a1,a2⟩:=jf.mp h;obtain⟨b1,b2⟩:=jf.mp hi;exact(abK m3).mp (a2.trans b2.symm)
def JL{j c:Nat}(h:N.ah[j]?=some c):uG N (j+1)=uG N j++(uG N j).map λe=>e^^^N.ring c:=by
 unfold uG;have e:(2:Nat)^(j+1)=2^j+2^j:=by rw[abT];lia
 rw[e,List.range_add,aat,acL,acL]
 congr 1
 refine abR λz hz=>?_
 have hz:=aax.mp hz;show N.gq (2^j+z) N.ah 0=N.gq z N.ah 0^^^N.ring c;rw[<-Pj h,<-Jf]
 congr 1
 have e0:=Nat.two_pow_add_eq_or_of_lt hz 1;rw[Nat.mul_one]at e0;rw[adI,e0];refine aaS λi=>?_
 rw[Nat.testBit_or,aam,aaw]
 by_cases hi:j=i
 ·subst hi;rw[aaR hz,cF rfl];rfl
 ·rw[eI hi,Bool.false_or,acN]
def EL{m:Nat}:m∈uG N N.ah.length↔N.bL m/\m<2^N.n:=by
 unfold uG;rw[aaH]
 constructor
 ·rintro⟨z,_,rfl⟩;exact gR
 ·rintro⟨h1,h2⟩;obtain⟨z,hz,e⟩:=O0 h2 h1;exact⟨z,aax.mpr hz,e⟩
def Gh:(uG N N.ah.length).Nodup:=by
 unfold uG;refine acJ.mpr (abZ (λ{z y} hz hy h e=>?_) List.pairwise_lt_range)
 have hz:=aax.mp hz;have hy:=aax.mp hy;refine aaK h (aaS λk=>?_)
 by_cases hk:k<N.ah.length
 ·rw[<-kY (aaf hk),<-kY (aaf hk),e]
 ·have hp:=aaM (n:=2) (by decide) (adf hk)
  rw[aaR (aaj hz hp),aaR (aaj hy hp)]
end
open Ring (maskOf mask_bit mask_lt)
end RM
namespace Dt
def su:Nat->(Nat->Int)->Int
 | 0,_=>0
 | n+1,f=>su n f+f n
def aF:∀{n:Nat} {f g:Nat->Int},(∀i,i<n->f i=g i)->su n f=su n g
 | 0,_,_,_=>rfl
 | n+1,f,g,h=>by
   show su n f+f n=su n g+g n;rw[aF (n:=n) (λi hi=>h i (by lia)),h n (by lia)]
def i7(a b:Int)(f g:Nat->Int):∀n,su n (λi=>a*f i+b*g i)=a*su n f+b*su n g
 | 0=>by simp[su]
 | n+1=>by
   show su n (λi=>a*f i+b*g i)+(a*f n+b*g n)=a*(su n f+f n)+b*(su n g+g n)
   rw[i7 a b f g n]
   grind
def bZ:∀{n:Nat} {f:Nat->Int},(∀i,i<n->f i=0)->su n f=0
 | 0,_,_=>rfl
 | n+1,f,h=>by
   show su n f+f n=0;rw[bZ (n:=n) (λi hi=>h i (by lia)),h n (by lia)]
   rfl
def oh{n r:Nat}{f:Nat->Int}(hr:r<n)(h:∀i,i<n->i≠r->f i=0):su n f=f r:=by
 induction n with
 | zero=>lia
 | succ n ih =>
   show su n f+f n=f r
   by_cases e:r=n
   ·subst e;rw[bZ λi hi=>h i (by lia) (by lia)]
    lia
   ·rw[ih (by lia) λi hi hn=>h i (by lia) hn,h n (by lia) (aa2 e)]
    lia
def Pk{n r:Nat}{f:Nat->Int}(hr:r+1<n)(h:∀i,i<n->i≠r->i≠r+1->f i=0):su n f=f r+f (r+1):=by
 induction n with
 | zero=>lia
 | succ n ih =>
   show su n f+f n=f r+f (r+1)
   by_cases e:r+1=n
   ·subst e;rw[oh (r:=r) (by lia) λi hi hn=>h i (by lia) hn (by lia)]
   ·rw[ih (by lia) λi hi hn hm=>h i (by lia) hn hm,h n (by lia) (by lia) (aa2 e)]
    lia
abbrev Mx:=Nat->Nat->Int
def sg(i:Nat):Int:=if i%2=0 then 1 else -1
def yV(i:Nat):sg (i+1) = - sg i:=by
 unfold sg
 by_cases h:i%2=0
 ·rw[aad h,aab (by lia)]
 ·rw[aab h,aad (by lia)];rfl
def sk(i r:Nat):Nat:=if r<i then r else r+1
def mn(M:Mx)(i:Nat):Mx:=λr c=>M (sk i r) (c+1)
def det:Nat->Mx->Int
 | 0,_=>1
 | n+1,M=>su (n+1) λi=>sg i*M i 0*det n (mn M i)
def aK:∀{n:Nat} {M M' : Mx},(∀r c,r<n->c<n->M r c=M' r c)->det n M=det n M'
 | 0,_,_,_=>rfl
 | n+1,M,M',h=>by
   refine aF λi hi=>?_
   rw[h i 0 hi (by lia),aK (n:=n) (M:=mn M i) (M':=mn M' i) λr c hr hc=>?_]
   unfold mn sk
   split<;>exact h _ _ (by lia) (by lia)
def iC:∀{n:Nat} {M A B:Mx} {r:Nat} (a b:Int),r<n->(∀i c,i≠r->M i c=A i c)->(∀i c,i≠r->M i c=B i c)->(∀c,M r c=a*A r c+b*B r c)->det n M=a*det n A+b*det n B
 | 0,_,_,_,_,_,_,h,_,_,_=>by lia
 | n+1,M,A,B,r,a,b,hr,hA,hB,h=>by
   show su (n+1) _=a*su (n+1) _+b*su (n+1) _;rw[<-i7];refine aF λi hi=>?_
   by_cases e:i=r
   ·subst e;have e1:det n (mn M i)=det n (mn A i):=aK λx c _ _=>hA _ _ (by unfold sk;split<;>lia)
    have e2:det n (mn M i)=det n (mn B i):=aK λx c _ _=>hB _ _ (by unfold sk;split<;>lia)
    rw[h 0,<-e1,<-e2]
    grind
   ·have e3:det n (mn M i)=a*det n (mn A i)+b*det n (mn B i):=by
     refine iC (r:=if r<i then r else r-1) a b (by split<;>lia) (λx c hx=>?_) (λx c hx=>?_) (λc=>?_)
     ·refine hA _ _ ?_;unfold sk
      split at hx<;>split<;>lia
     ·refine hB _ _ ?_;unfold sk
      split at hx<;>split<;>lia
     ·have z:sk i (if r<i then r else r-1)=r:=by
       unfold sk
       split<;>(try split)<;>lia
      show M (sk i _) _=a*A (sk i _) _+b*B (sk i _) _;rw[z];exact h _
    rw[e3,hA i 0 e];have e4:A i 0=B i 0:=by rw[<-hA i 0 e,hB i 0 e]
    rw[<-e4]
    grind
def yW:∀{n:Nat} {M:Mx} {r:Nat},r+1<n->(∀c,M r c=M (r+1) c)->det n M=0
 | 0,_,_,h,_=>by lia
 | n+1,M,r,hr,h=>by
   show su (n+1) _=0;rw[Pk (r:=r) hr λi hi h1 h2=>?_]
   ·have e:det n (mn M r)=det n (mn M (r+1)):=aK λx c _ _=>by
     show M (sk r x) _=M (sk (r+1) x) _;unfold sk
     by_cases e1:x<r
     ·rw[aad e1,aad (by lia)]
     ·rw[aab e1]
      by_cases e2:x=r
      ·subst e2;rw[aad (by lia)]
       exact(h _).symm
      ·rw[aab (by lia)]
    rw[yV,e,h 0]
    grind
   ·have z:det n (mn M i)=0:=by
     refine yW (r:=if r<i then r else r-1) (by split<;>lia) λc=>?_
     show M (sk i _) _=M (sk i _) _;have z1:sk i (if r<i then r else r-1)=r:=by unfold sk;split<;>(try split)<;>lia
     have z2:sk i ((if r<i then r else r-1)+1)=r+1:=by unfold sk;split<;>(try split)<;>lia
     rw[z1,z2];exact h _
    rw[z]
    grind
def put(M:Mx)(r:Nat)(v:Nat->Int):Mx:=λi c=>if i=r then v c else M i c
def bS(M:Mx)(r:Nat)(v:Nat->Int)(c:Nat):put M r v r c=v c:=aad rfl
def bT(M:Mx){r i:Nat}(v:Nat->Int)(c:Nat)(h:i≠r):put M r v i c=M i c:=aab h
def sw(M:Mx)(r s:Nat):Mx:=put (put M r (M s)) s (M r)
def MC{n:Nat}{M:Mx}{r:Nat}(hr:r+1<n):det n (sw M r (r+1)) = - det n M:=by
 have S:∀u v:Nat->Int,∀w,(det n (put (put M r (λc=>u c+v c)) (r+1) w))=det n (put (put M r u) (r+1) w)+det n (put (put M r v) (r+1) w):=λu v w=>by
  have:=iC (n:=n) (M:=put (put M r (λc=>u c+v c)) (r+1) w) (A:=put (put M r u) (r+1) w) (B:=put (put M r v) (r+1) w) (r:=r) 1 1 (by lia) (λi c h=>by unfold put;split<;>simp[h]) (λi c h=>by unfold put;split<;>simp[h]) (λc=>by simp[put])
  lia
 have S2:∀u v:Nat->Int,∀w,(det n (put (put M r w) (r+1) (λc=>u c+v c)))=det n (put (put M r w) (r+1) u)+det n (put (put M r w) (r+1) v):=λu v w=>by
  have:=iC (n:=n) (M:=put (put M r w) (r+1) (λc=>u c+v c)) (A:=put (put M r w) (r+1) u) (B:=put (put M r w) (r+1) v) (r:=r+1) 1 1 (by lia) (λi c h=>by simp[put,h]) (λi c h=>by simp[put,h]) (λc=>by simp[put])
  lia
 have Z:∀u:Nat->Int,det n (put (put M r u) (r+1) u)=0:=λu=>yW hr λc=>by simp[put]
 have h0:=Z (λc=>M r c+M (r+1) c)
 rw[S,S2,S2,Z (M r),Z (M (r+1))]at h0;have e:det n (put (put M r (M r)) (r+1) (M (r+1)))=det n M:=aK λi c _ _=>by
  unfold put
  by_cases h1:i=r+1
  ·rw[aad h1,h1]
  ·rw[aab h1]
   by_cases h2:i=r
   ·rw[aad h2,h2]
   ·rw[aab h2]
 unfold sw
 lia
def qw{n:Nat}:∀(d:Nat) {M:Mx} {r:Nat},r+d+1<n->(∀c,M r c=M (r+d+1) c)->det n M=0
 | 0,M,r,hr,h=>yW hr h
 | d+1,M,r,hr,h=>by
   have e:=MC (n:=n) (M:=M) (r:=r) (by lia)
   have z:det n (sw M r (r+1))=0:=by
    refine qw d (r:=r+1) (by lia) λc=>?_
    have e1:sw M r (r+1) (r+1) c=M r c:=bS _ _ _ _;have e2:sw M r (r+1) (r+1+d+1) c=M (r+1+d+1) c:=by
     unfold sw;rw[bT _ _ _ (by lia),bT _ _ _ (by lia)]
    rw[e1,e2,h c]
    congr 1
    lia
   lia
def k7{n:Nat}{M:Mx}{r s:Nat}(hr:r<n)(hs:s<n)(hn:r≠s)(h:∀c,M r c=M s c):det n M=0:=by
 by_cases e:r<s
 ·refine qw (s-r-1) (r:=r) (by lia) λc=>?_
  have z:r+(s-r-1)+1=s:=by lia
  rw[z];exact h c
 ·refine qw (r-s-1) (r:=s) (by lia) λc=>?_
  have z:s+(r-s-1)+1=r:=by lia
  rw[z];exact(h c).symm
def JM{n:Nat}{M:Mx}{r s:Nat}(hr:r<n)(hs:s<n)(hn:r≠s):det n (sw M r s) = - det n M:=by
 have A1:∀u v w:Nat->Int,det n (put (put M r λc=>u c+v c) s w)=det n (put (put M r u) s w)+det n (put (put M r v) s w):=λu v w=>by
  have:=iC (n:=n) (M:=put (put M r λc=>u c+v c) s w) (A:=put (put M r u) s w) (B:=put (put M r v) s w) (r:=r) 1 1 hr (λi c h=>by unfold put;split<;>simp[h]) (λi c h=>by unfold put;split<;>simp[h]) (λc=>by simp[put,hn])
  lia
 have A2:∀u v w:Nat->Int,det n (put (put M r w) s λc=>u c+v c)=det n (put (put M r w) s u)+det n (put (put M r w) s v):=λu v w=>by
  have:=iC (n:=n) (M:=put (put M r w) s λc=>u c+v c) (A:=put (put M r w) s u) (B:=put (put M r w) s v) (r:=s) 1 1 hs (λi c h=>by simp[put,h]) (λi c h=>by simp[put,h]) (λc=>by simp[put])
  lia
 have Z:∀u:Nat->Int,det n (put (put M r u) s u)=0:=λu=>k7 hr hs hn λc=>by simp[put]
 have h0:=Z (λc=>M r c+M s c)
 rw[A1,A2,A2,Z (M r),Z (M s)]at h0;have e:det n (put (put M r (M r)) s (M s))=det n M:=aK λi c _ _=>by
  unfold put
  by_cases h1:i=s
  ·rw[aad h1,h1]
  ·rw[aab h1]
   by_cases h2:i=r
   ·rw[aad h2,h2]
   ·rw[aab h2]
 unfold sw
 lia
def pr:Nat->Mx->Int
 | 0,_=>1
 | n+1,M=>M 0 0*pr n λr c=>M (r+1) (c+1)
def EM:∀{n:Nat} {M:Mx},(∀r c,r<n->c<r->M r c=0)->det n M=pr n M
 | 0,_,_=>rfl
 | n+1,M,h=>by
   show su (n+1) _=M 0 0*pr n _;rw[oh (r:=0) (by lia) λi hi hn=>by rw[h i 0 hi (by lia)];simp]
   have e:mn M 0=λr c=>M (r+1) (c+1):=rfl
   rw[e,EM (n:=n) λr c hr hc=>h (r+1) (c+1) (by lia) (by lia)]
   show(1:Int)*_*_=_;rw[abU]
def uH{n:Nat}{M:Mx}{r:Nat}(a:Int)(c:Nat->Int)(hr:r<n):∀k,k<=r->det n (put M r λj=>a*M r j+su k λl=>c l*M l j)=a*det n M
 | 0,_=>by
   have h:=iC (n:=n) (M:=put M r λj=>a*M r j+su 0 λl=>c l*M l j) (A:=M) (B:=M) (r:=r) a 0 hr (λi c h=>bT _ _ _ h) (λi c h=>bT _ _ _ h) (λc=>by rw[bS];simp[su])
   rw[h]
   lia
 | k+1,hk=>by
   have h:=iC (n:=n) (M:=put M r λj=>a*M r j+su (k+1) λl=>c l*M l j) (A:=put M r λj=>a*M r j+su k λl=>c l*M l j) (B:=put M r (M k)) (r:=r) 1 (c k) hr (λi c h=>by rw[bT _ _ _ h,bT _ _ _ h]) (λi c h=>by rw[bT _ _ _ h,bT _ _ _ h]) (λj=>by
    rw[bS,bS,bS];show a*M r j+(su k (λl=>c l*M l j)+c k*M k j)=1*(a*M r j+su k λl=>c l*M l j)+c k*M k j
    lia)
   have z:det n (put M r (M k))=0:=k7 (r:=r) (s:=k) hr (by lia) (by lia) λc=>by rw[bS,bT _ _ _ (by lia)]
   rw[h,z,uH a c hr k (by lia)]
   lia
def Bd:∀{k:Nat} {M:Mx},(∀c,c<k->M k c=0)->det (k+1) M=det k M*M k k
 | 0,M,_=>by
   show(0:Int)+sg 0*M 0 0*1=1*M 0 0;have:sg 0=1:=rfl;rw[this]
   lia
 | k+1,M,h=>by
   show su (k+1) (λi=>sg i*M i 0*det (k+1) (mn M i))+sg (k+1)*M (k+1) 0*det (k+1) (mn M (k+1))=su (k+1) (λi=>sg i*M i 0*det k (mn M i))*M (k+1) (k+1)
   rw[h 0 (by lia)]
   have e:su (k+1) (λi=>sg i*M i 0*det (k+1) (mn M i))=su (k+1) (λi=>M (k+1) (k+1)*(sg i*M i 0*det k (mn M i))+0*0):=aF λi hi=>by
    have e1:∀c,mn M i k c=M (k+1) (c+1):=λc=>by
     show M (sk i k) _=_;unfold sk;rw[aab (by lia)]
    rw[Bd (k:=k) (M:=mn M i) λc hc=>by rw[e1];exact h _ (by lia),e1]
    grind
   rw[e,i7 (M (k+1) (k+1)) 0 _ (λ_=>0)]
   grind
def pt(A:Mx)(k i j:Nat):Mx:=λr c=>A (if r<k then r else i) (if c<k then c else j)
def md(A:Mx)(k i j:Nat):Int:=det (k+1) (pt A k i j)
def lm(A:Mx)(k:Nat):Int:=det k A
def EN(A:Mx)(k:Nat):md A k k k=lm A (k+1):=aK λr c hr hc=>by
 unfold pt;have e1:(if r<k then r else k)=r:=by split<;>lia
 have e2:(if c<k then c else k)=c:=by split<;>lia
 rw[e1,e2]
def EO{A:Mx}{k i:Nat}{v c:Nat->Int}{q a:Int}(hq:∀j,q*v j=a*A i j+su k λl=>c l*A l j)(hz:∀j,j<k->v j=0)(j:Nat):lm A k*(q*v j)=a*md A k i j:=by
 have h:=uH (n:=k+1) (M:=pt A k i j) (r:=k) a c (by lia) k (aae _)
 unfold md;rw[<-h];have e:∀x,put (pt A k i j) k (λy=>a*pt A k i j k y+su k λl=>c l*pt A k i j l y) k x=q*v (if x<k then x else j):=λx=>by
  rw[bS,hq];have e1:pt A k i j k x=A i (if x<k then x else j):=by unfold pt;rw[aab (by lia)]
  rw[e1]
  congr 1
  exact aF λl hl=>by unfold pt;rw[aad hl]
 rw[Bd (k:=k) λx hx=>by rw[e,aad hx,hz x hx,abF],e,aab (by lia)]
 congr 1
 refine aK λr x hr hx=>?_
 rw[bT _ _ _ (by lia)]
 unfold pt;rw[aad hr,aad hx]
def Red(A:Mx)(k i:Nat)(v:Nat->Int):Prop:=(∀j,j<k->v j=0)/\∃(q:Int) (c:Nat->Int),q≠0/\∀j,q*v j=(q*lm A k)*A i j+su k λl=>c l*A l j
def Red.eq{A:Mx}{k i:Nat}{v:Nat->Int}(h:Red A k i v)(hp:lm A k≠0)(j:Nat):v j=md A k i j:=by
 obtain⟨hz,q,c,q0,hq⟩:=h;have e:=EO (a:=q*lm A k) hq hz j;have e2:(lm A k*q)*v j=(lm A k*q)*md A k i j:=by grind
 exact Int.eq_of_mul_eq_mul_left (ace hp q0) e2
def Red.zero(A:Mx)(i:Nat):Red A 0 i (A i):=⟨λj h=>by lia,1,λ_=>0,by decide,λj=>by
 show 1*A i j=(1*1)*A i j+0
 lia⟩
def Red.step{A:Mx}{k i:Nat}{v w:Nat->Int}(hv:Red A k i v)(hw:Red A k k w)(hp:lm A k≠0)(hl:w k≠0):
 (∀j,w k*v j-v k*w j=lm A k*md A (k+1) i j)/\Red A (k+1) i (λj=>(w k*v j-v k*w j)/lm A k):=by
 have ew:w k=lm A (k+1):=by rw[hw.eq hp,EN]
 obtain⟨zv,q,c,q0,hq⟩:=hv;obtain⟨zw,q',c',XA,hq'⟩:=hw;have hx:∀j,(q*q')*(w k*v j-v k*w j)=((q*q')*(w k*lm A k))*A i j+su (k+1) λl=>(if l=k then-(v k*q*q'*lm A k) else w k*q'*c l-v k*q*c' l)*A l j:=λj=>by
  have h1:=hq j;have h2:=hq' j;have e:su (k+1) (λl=>(if l=k then-(v k*q*q'*lm A k) else w k*q'*c l-v k*q*c' l)*A l j)=((w k*q')*su k (λl=>c l*A l j)+(- (v k*q))*su k (λl=>c' l*A l j))+(- (v k*q*q'*lm A k))*A k j:=by
   rw[<-i7];show su k _+(if k=k then-(v k*q*q'*lm A k) else w k*q'*c k-v k*q*c' k)*A k j=_
   rw[aad rfl]
   congr 1
   exact aF λl hl=>by rw[aab (by lia)];grind
  rw[e];have h3:(q*q')*(w k*v j-v k*w j)=(w k*q')*(q*v j)-(v k*q)*(q'*w j):=by grind
  rw[h3,h1,h2]
  grind
 have zx:∀j,j<k+1->w k*v j-v k*w j=0:=λj hj=>by
  by_cases e:j=k
  ·subst e;grind
  ·rw[zv j (by lia),zw j (by lia)];lia
 have h1:∀j,w k*v j-v k*w j=lm A k*md A (k+1) i j:=λj=>by
  have e:=EO (a:=(q*q')*(w k*lm A k)) hx zx j;rw[<-ew]at e;have e2:(w k*(q*q'))*(w k*v j-v k*w j)=(w k*(q*q'))*(lm A k*md A (k+1) i j):=by grind
  exact Int.eq_of_mul_eq_mul_left (ace hl (ace q0 XA)) e2
 refine⟨h1,λj hj=>?_,?_⟩
 ·show(w k*v j-v k*w j)/lm A k=0;rw[zx j hj];exact Int.zero_ediv _
 ·have hd:∀j,lm A k*((w k*v j-v k*w j)/lm A k)=w k*v j-v k*w j:=λj=>by
   rw[h1 j,ac0 _ hp]
  refine⟨(q*q')*lm A k,λl=>if l=k then-(v k*q*q'*lm A k) else w k*q'*c l-v k*q*c' l,ace (ace q0 XA) hp,λj=>?_⟩
  rw[<-ew];have e:=hx j;rw[<-hd j]at e;have e3:(q*q')*lm A k*((w k*v j-v k*w j)/lm A k)=(q*q')*(lm A k*((w k*v j-v k*w j)/lm A k)):=by grind
  show(q*q')*lm A k*((w k*v j-v k*w j)/lm A k)=_;rw[e3,e]
  congr 1
  grind
def Be:∀{k n:Nat} {M:Mx},k<n->(∀i c,k<=i->i<n->c<=k->M i c=0)->det n M=0
 | 0,n+1,M,_,h=>bZ λi hi=>by rw[h i 0 (by lia) hi (by lia)];simp
 | k+1,n+1,M,hk,h=>bZ λi hi=>by
   by_cases e:k+1<=i
   ·rw[h i 0 e hi (by lia)];simp
   ·rw[Be (k:=k) (n:=n) (M:=mn M i) (by lia) λr c h1 h2 h3=>by
     show M (sk i r) (c+1)=0;unfold sk;rw[aab (by lia)]
     exact h _ _ (by lia) (by lia) (by lia)]
    simp
def Bf{A A' : Mx}{k:Nat}(h:∀l,l<k->A' l=A l):lm A' k=lm A k:=aK λr c hr _=>by rw[h r hr]
def Red.congr{A A' : Mx}{k i i' : Nat}{v:Nat->Int}(h:∀l,l<k->A' l=A l)(e:A' i' = A i)(r:Red A k i v):Red A' k i' v:=by
 obtain⟨z,q,c,q0,hq⟩:=r;refine⟨z,q,c,q0,λj=>?_⟩
 rw[hq j,Bf h,e]
 congr 1
 exact aF λl hl=>by rw[h l hl]
def Bg{n k:Nat}{A:Mx}{v:Mx}(hv:∀i,k<=i->i<n->Red A k i (v i))(hp:lm A k≠0):∀m,k<=m->m<=n->∃B:Mx,∃z:Int,z≠0/\det n B=z*det n A/\(∀l,l<k->B l=A l)/\(∀l,m<=l->B l=A l)/\∀i,k<=i->i<m->∃q:Int,∀j,B i j=q*v i j
 | 0,h,_=>⟨A,1,by decide,by lia,λ_ _=>rfl,λ_ _=>rfl,λi h1 h2=>by lia⟩
 | m+1,h,hm=>by
   by_cases e:m+1=k
   ·exact⟨A,1,by decide,by lia,λ_ _=>rfl,λ_ _=>rfl,λi h1 h2=>by lia⟩
   ·obtain⟨B,z,z0,hd,hB,hr,hi⟩:=Bg hv hp m (by lia) (by lia)
    obtain⟨_,q,c,q0,hq⟩:=hv m (by lia) (by lia)
    refine⟨put B m λj=>(q*lm A k)*B m j+su k λl=>c l*B l j,(q*lm A k)*z,ace (ace q0 hp) z0,?_,λl hl=>?_,λl hl=>?_,λi h1 h2=>?_⟩
    ·rw[uH (n:=n) (M:=B) (r:=m) (q*lm A k) c (by lia) k (by lia),hd];grind
    ·funext j
     rw[bT _ _ _ (by lia),hB l hl]
    ·funext j
     rw[bT _ _ _ (by lia),hr l (by lia)]
    ·by_cases e2:i=m
     ·subst e2;refine⟨q,λj=>?_⟩
      rw[bS,hq j,hr i (aae _)]
      congr 1
      exact aF λl hl=>by rw[hB l hl]
     ·obtain⟨q2,h⟩:=hi i h1 (by lia)
      exact⟨q2,λj=>by rw[bT _ _ _ e2];exact h j⟩
def Bs(n:Nat)(A:Mx)(k:Nat)(sgn d:Int)(R:Mx):Prop:=k<=n/\(sgn=1\/sgn = -1)/\d≠0/\∃A' : Mx,det n A' = sgn*det n A/\(∀r,∃r',A' r=A r')/\lm A' k=d/\∀i,k<=i->i<n->Red A' k i (R i)
def Bs.zero(n:Nat)(A:Mx):Bs n A 0 1 1 A:=⟨aaN _,.inl rfl,by decide,A,by lia,λr=>⟨r,rfl⟩,rfl,λi _ _=>Red.zero A i⟩
def Bs.none{n k:Nat}{A R:Mx}{sgn d:Int}(h:Bs n A k sgn d R)(hk:k<n)(hz:∀i,k<=i->i<n->R i k=0):det n A=0:=by
 obtain⟨_,hs,d0,A',hd,_,hl,hr⟩:=h;have hp:lm A' k≠0:=by rw[hl];exact d0
 obtain⟨B,z,z0,hB,_,_,hi⟩:=Bg hr hp n (by lia) (aae _)
 have e:det n B=0:=Be (k:=k) hk λi c h1 h2 h3=>by
  obtain⟨q,hq⟩:=hi i h1 h2;rw[hq c]
  by_cases e:c=k
  ·rw[e,hz i h1 h2,abF]
  ·rw[(hr i h1 h2).1 c (by lia),abF]
 rw[e]at hB;have e2:det n A' = 0:=by
  rcases Int.mul_eq_zero.mp hB.symm with h|h
  ·exact absurd h z0
  ·exact h
 rw[e2]at hd;rcases hs with rfl|rfl<;>lia
def Bs.sw{n k s:Nat}{A R:Mx}{sgn d:Int}(h:Bs n A k sgn d R)(hk:k<s)(hs:s<n):Bs n A k (-sgn) d (sw R k s):=by
 obtain⟨h1,hg,d0,A',hd,hrw,hl,hr⟩:=h;have low:∀l,l<k->Dt.sw A' k s l=A' l:=λl hl=>by
  funext j
  unfold Dt.sw;rw[bT _ _ _ (by lia),bT _ _ _ (by lia)]
 have rows:∀(M:Mx) i,Dt.sw M k s i=if i=s then M k else if i=k then M s else M i:=λM i=>by
  funext j
  unfold Dt.sw put
  by_cases e1:i=s
  ·rw[aad e1,aad e1]
  ·rw[aab e1,aab e1]
   by_cases e2:i=k
   ·rw[aad e2,aad e2]
   ·rw[aab e2,aab e2]
 refine⟨h1,by rcases hg with rfl | rfl<;>simp,d0,Dt.sw A' k s,by rw[JM (by lia) hs (by lia),hd];grind,λr=>by
  rw[rows]
  split
  ·exact hrw k
  ·split
   ·exact hrw s
   ·exact hrw r,by rw[Bf low,hl],λi h2 h3=>?_⟩
 rw[rows R i]
 by_cases e1:i=s
 ·rw[aad e1];exact Red.congr low (by rw[rows,aad e1]) (hr k (aae _) (by lia))
 ·rw[aab e1]
  by_cases e2:i=k
  ·rw[aad e2];exact Red.congr low (by rw[rows,aab e1,aad e2]) (hr s (by lia) hs)
  ·rw[aab e2];exact Red.congr low (by rw[rows,aab e1,aab e2]) (hr i h2 h3)
def Bs.out{n k i:Nat}{A R:Mx}{sgn d:Int}(h:Bs n A k sgn d R)(h0:R k k≠0)(hk:k<i)(hi:i<n)(j:Nat):∃y,R k k*R i j-R i k*R k j=d*y:=by
 obtain⟨_,_,d0,A',_,_,hl,hr⟩:=h;have h2:=(Red.step (hr i (by lia) hi) (hr k (aae _) (by lia)) (by rw[hl];exact d0) h0).1 j
 rw[hl]at h2;exact⟨_,h2⟩
def Bs.step{n k:Nat}{A R R' : Mx}{sgn d:Int}(h:Bs n A k sgn d R)(hk:k<n)(h0:R k k≠0)(hR:∀i j,k<i->i<n->d*R' i j=R k k*R i j-R i k*R k j):Bs n A (k+1) sgn (R k k) R':=by
 obtain⟨_,hg,d0,A',hd,hrw,hl,hr⟩:=h;have hp:lm A' k≠0:=by rw[hl];exact d0
 have hkk:=hr k (aae _) hk;refine⟨hk,hg,h0,A',hd,hrw,by rw[hkk.eq hp,EN],λi h1 h2=>?_⟩
 have e:=(Red.step (hr i (by lia) h2) hkk hp h0).2
 have e2:R' i=λj=>(R k k*R i j-R i k*R k j)/lm A' k:=by
  funext j
  rw[<-hR i j (by lia) h2,hl,ac0 _ d0]
 rw[e2];exact e
def Bs.done{n:Nat}{A R:Mx}{sgn d:Int}(h:Bs n A n sgn d R):sgn*d=det n A:=by
 obtain⟨_,hg,_,A',hd,_,hl,_⟩:=h;have e:d=sgn*det n A:=by rw[<-hl];exact hd
 rw[e];rcases hg with rfl|rfl<;>lia
def JN{E:Nat}:∀{n:Nat} {f:Nat->Int},(∀i,i<n->(f i).natAbs<=E)->(su n f).natAbs<=n*E
 | 0,_,_=>aaN _
 | n+1,f,h=>by
   show(su n f+f n).natAbs<=(n+1)*E;have h1:=JN (n:=n) λi hi=>h i (by lia)
   have h2:=h n (by lia)
   have h3:=Int.natAbs_add_le (su n f) (f n);rw[Nat.add_mul,Nat.one_mul]
   lia
def fc:Nat->Nat->Nat
 | _,0=>1
 | E,n+1=>(n+1)*(E*fc E n)
def Bh{E:Nat}(h:1<=E):∀{m n:Nat},m<=n->fc E m<=fc E n
 | m,0,e=>by rw[show m=0 by lia];exact aae _
 | m,n+1,e=>by
   by_cases z:m=n+1
   ·rw[z];exact aae _
   ·refine aaD (Bh h (n:=n) (by lia)) ?_
    show fc E n<=(n+1)*(E*fc E n);refine aaD (acD _ h) (acD _ (by lia))
def sX{E:Nat}:∀{n:Nat} {M:Mx},(∀r c,(M r c).natAbs<=E)->(det n M).natAbs<=fc E n
 | 0,_,_=>aae _
 | n+1,M,h=>JN λi _=>by
   have h1:=sX (n:=n) (M:=mn M i) λr c=>h _ _
   have h2:=h i 0;have h3:(sg i*M i 0).natAbs=(M i 0).natAbs:=by
    unfold sg
    split
    ·rw[abU]
    ·rw[Int.neg_mul,abU,Int.natAbs_neg]
   rw[Int.natAbs_mul,h3];exact Nat.mul_le_mul h2 h1
def Bs.bnd{n k E:Nat}{A R:Mx}{sgn d:Int}(h:Bs n A k sgn d R)(hE:1<=E)(hA:∀r c,(A r c).natAbs<=E):d.natAbs<=fc E n/\∀i j,k<=i->i<n->(R i j).natAbs<=fc E n:=by
 obtain⟨hk,_,d0,A',_,hrw,hl,hr⟩:=h;have XC:∀r c,(A' r c).natAbs<=E:=λr c=>by
  obtain⟨r',e⟩:=hrw r;rw[e];exact hA r' c
 refine⟨by rw[<-hl];exact aaD (sX XC) (Bh hE hk),λi j h1 h2=>?_⟩
 rw[(hr i h1 h2).eq (by rw[hl];exact d0) j]
 exact aaD (sX (n:=k+1) λr c=>XC _ _) (Bh hE (by lia))
def Dr{n:Nat}{M:Mx}{r:Nat}(hr:r<n)(a:Nat->Int)(E:Nat->Nat->Int):∀m,det n (put M r λc=>su m λl=>a l*E l c)=su m λl=>a l*det n (put M r (E l))
 | 0=>by
   have h:=iC (n:=n) (M:=put M r λc=>su 0 λl=>a l*E l c) (A:=M) (B:=M) (r:=r) 0 0 hr (λi c h=>bT _ _ _ h) (λi c h=>bT _ _ _ h) (λc=>by rw[bS];simp[su])
   rw[h];show 0*det n M+0*det n M=0
   lia
 | m+1=>by
   have h:=iC (n:=n) (M:=put M r λc=>su (m+1) λl=>a l*E l c) (A:=put M r λc=>su m λl=>a l*E l c) (B:=put M r (E m)) (r:=r) 1 (a m) hr (λi c h=>by rw[bT _ _ _ h,bT _ _ _ h]) (λi c h=>by rw[bT _ _ _ h,bT _ _ _ h]) (λc=>by
    rw[bS,bS,bS];show su m (λl=>a l*E l c)+a m*E m c=1*su m (λl=>a l*E l c)+a m*E m c
    lia)
   rw[h,Dr hr a E m];show 1*su m _+a m*_=su m _+a m*_
   lia
def un(l c:Nat):Int:=if c=l then 1 else 0
def mul(n:Nat)(A B:Mx):Mx:=λr c=>su n λl=>A r l*B l c
def lO{n l:Nat}(hl:l<n)(f:Nat->Int):su n (λc=>un l c*f c)=f l:=by
 rw[oh (r:=l) hl λi _ hn=>by unfold un;rw[aab hn,abz]]
 unfold un;rw[aad rfl,abU]
def uI{n c:Nat}(hc:c<n)(f:Nat->Int):su n (λl=>f l*un l c)=f c:=by
 rw[oh (r:=c) hc λi _ hn=>by unfold un;rw[aab (aa2 hn),abF]]
 unfold un;rw[aad rfl,adz]
def JO:∀n,pr n un=1
 | 0=>rfl
 | n+1=>by
   show un 0 0*pr n (λr c=>un (r+1) (c+1))=1
   have e:(λr c=>un (r+1) (c+1))=un:=by
    funext r c
    unfold un
    by_cases h:c=r
    ·rw[aad h,aad (by lia)]
    ·rw[aab h,aab (by lia)]
   rw[e,JO n];rfl
def nc(n:Nat):det n un=1:=by
 rw[EM λr c _ hc=>by unfold un;rw[aab (by lia)],JO]
def off(f:Nat->Nat):Nat->Nat
 | 0=>0
 | n+1=>off f n+if f n=n then 0 else 1
def Bj{f:Nat->Nat}:∀{n:Nat},off f n=0->∀i,i<n->f i=i
 | 0,_,i,h=>by lia
 | n+1,h,i,hi=>by
   have h' : off f n+(if f n=n then 0 else 1)=0:=h
   by_cases e:f n=n
   ·by_cases e2:i=n
    ·rw[e2,e]
    ·exact Bj (n:=n) (by lia) i (by lia)
   ·rw[aab e]at h';lia
def Pn{f g:Nat->Nat}{n k:Nat}(hk:k<n)(h1:f k≠k)(h2:g k=k)(h:∀i,i<n->f i=i->g i=i):off g n<off f n:=by
 have le:∀m,m<=n->off g m<=off f m:=λm=>by
  induction m with
  | zero=>exact λ_=>aae _
  | succ m ih =>
    intro hm;show off g m+_<=off f m+_;have:=ih (by lia)
    by_cases e:f m=m
    ·rw[aad e,aad (h m (by lia) e)];lia
    ·rw[aab e];split<;>lia
 have lt:∀m,m<=n->k<m->off g m<off f m:=λm=>by
  induction m with
  | zero=>lia
  | succ m ih =>
    intro hm hkm;show off g m+_<off f m+_
    by_cases e:k=m
    ·subst e;rw[aad h2,aab h1];have:=le k (by lia)
     lia
    ·have:=ih (by lia) (by lia)
     by_cases e3:f m=m
     ·rw[aad e3,aad (h m (by lia) e3)];lia
     ·rw[aab e3];split<;>lia
 exact lt n (aae _) hk
def ku{n:Nat}(B:Mx):∀(d:Nat) (f:Nat->Nat),off f n<=d->(∀i,i<n->f i<n)->det n (λr c=>B (f r) c)=det n (λr c=>un (f r) c)*det n B
 | 0,f,h,hf=>by
   have e:=Bj (n:=n) (f:=f) (by lia)
   rw[aK (M':=B) λr c hr _=>by rw[e r hr],aK (M:=λr c=>un (f r) c) (M':=un) λr c hr _=>by rw[e r hr],nc]
   lia
 | d+1,f,h,hf=>by
   by_cases e0:off f n=0
   ·exact ku B 0 f (by lia) hf |>.trans rfl
   by_cases inj:∃i j,i<n/\j<n/\i≠j/\f i=f j
   ·obtain⟨i,j,hi,hj,hn,e⟩:=inj;rw[k7 (M:=λr c=>B (f r) c) hi hj hn λc=>by rw[e],k7 (M:=λr c=>un (f r) c) hi hj hn λc=>by rw[e]]
    lia
   ·have ex:∃k,k<n/\f k≠k:=aap λz=>e0 (by
     have al:∀i,i<n->f i=i:=λi hi=>aap λy=>z ⟨i,hi,y⟩
     have go:∀m,m<=n->off f m=0:=λm=>by
      induction m with
      | zero=>exact λ_=>rfl
      | succ m ih=>exact λhm=>by show off f m+_=0;rw[ih (by lia),aad (al m (by lia))]
     exact go n (aae _))
    obtain⟨k,hk,VT⟩:=ex;have hv:=hf k hk;have nf:f (f k)≠f k:=λz=>inj ⟨f k,k,hv,hk,VT,z⟩
    let g:Nat->Nat:=λi=>if i=f k then f k else if i=k then f (f k) else f i
    have gv:g (f k)=f k:=aad rfl;have dec:off g n<off f n:=Pn hv nf gv λi hi e=>by
     show(if i=f k then f k else if i=k then f (f k) else f i)=i
     by_cases h1:i=f k
     ·rw[aad h1,h1]
     ·rw[aab h1]
      by_cases h2:i=k
      ·rw[h2]at e;exact absurd e VT
      ·rw[aab h2,e]
    have hg:∀i,i<n->g i<n:=λi hi=>by
     show(if i=f k then f k else if i=k then f (f k) else f i)<n
     split
     ·exact hv
     ·split
      ·exact hf _ hv
      ·exact hf i hi
    have ih:=ku B d g (by lia) hg
    have XD:∀X:Mx,det n (λr c=>X (g r) c) = - det n (λr c=>X (f r) c):=λX=>by
     rw[<-JM (M:=λr c=>X (f r) c) hk hv (aa2 VT)]
     refine aK λr c _ _=>?_
     show X (if r=f k then f k else if r=k then f (f k) else f r) c=_
     unfold sw put
     by_cases h1:r=f k
     ·rw[aad h1,aad h1]
     ·rw[aab h1,aab h1]
      by_cases h2:r=k
      ·rw[aad h2,aad h2]
      ·rw[aab h2,aab h2]
    rw[XD B,XD un]at ih
    grind
def Bk{n:Nat}(B:Mx):∀(k:Nat) (A:Mx) (f:Nat->Nat),k<=n->(∀i,i<n->f i<n)->(∀i,k<=i->i<n->A i=un (f i))->det n (mul n A B)=det n A*det n B
 | 0,A,f,_,hf,hA=>by
   have e:=ku B (off f n) f (aae _) hf;rw[aK (M:=A) (M':=λr c=>un (f r) c) λr c hr _=>by rw[hA r (by lia) hr],<-e]
   refine aK λr c hr _=>?_
   show su n (λl=>A r l*B l c)=B (f r) c
   rw[hA r (by lia) hr]
   exact lO (hf r hr) λl=>B l c
 | k+1,A,f,hk,hf,hA=>by
   have e1:det n A=su n λl=>A k l*det n (put A k (un l)):=by
    rw[<-Dr (n:=n) (M:=A) (r:=k) (by lia) (A k) un n]
    refine aK λr c _ hc=>?_
    by_cases h:r=k
    ·subst h;rw[bS,uI hc]
    ·rw[bT _ _ _ h]
   have e2:det n (mul n A B)=su n λl=>A k l*det n (put (mul n A B) k (B l)):=by
    rw[<-Dr (n:=n) (M:=mul n A B) (r:=k) (by lia) (A k) B n]
    refine aK λr c _ hc=>?_
    by_cases h:r=k
    ·subst h;rw[bS];rfl
    ·rw[bT _ _ _ h]
   have e3:su n (λl=>A k l*det n (put (mul n A B) k (B l)))=su n (λl=>det n B*(A k l*det n (put A k (un l)))+0*0):=aF λl hl=>by
    have hkn:k<=n:=by lia
    have ih:=Bk B k (put A k (un l)) (λi=>if i=k then l else f i) hkn (λi hi=>by show(if i=k then l else f i)<n;split;exact hl;exact hf i hi) (λi h1 h2=>by
     funext c
     by_cases h:i=k
     ·subst h;rw[bS,aad rfl]
     ·rw[bT _ _ _ h,aab h,hA i (Nat.lt_of_le_of_ne h1 (aa2 h)) h2])
    have e4:det n (put (mul n A B) k (B l))=det n (mul n (put A k (un l)) B):=aK λr c _ _=>by
     by_cases h:r=k
     ·subst h;rw[bS];show _=su n λx=>put A r (un l) r x*B x c
      rw[show(λx=>put A r (un l) r x*B x c)=λx=>un l x*B x c from by funext x;rw[bS]]
      exact(lO hl λx=>B x c).symm
     ·rw[bT _ _ _ h];show su n (λx=>A r x*B x c)=su n λx=>put A k (un l) r x*B x c
      exact aF λx _=>by rw[bT _ _ _ h]
    rw[e4,ih]
    grind
   rw[e2,e3,i7 (det n B) 0 _ (λ_=>0),e1]
   grind
def ng(n:Nat)(A B:Mx):det n (mul n A B)=det n A*det n B:=Bk B n A id (aae _) (λ_ h=>h) (λi h1 h2=>by lia)
def mw(a:Int)(f:Nat->Int)(n:Nat):su n (λi=>a*f i)=a*su n f:=by
 have h:=i7 a 0 f (λ_=>0) n
 rw[aF (g:=λi=>a*f i+0*0) λi _=>by lia,h]
 lia
def pC(f:Nat->Nat->Int)(n:Nat):∀p,su p (λv=>su n λj=>f j v)=su n λj=>su p λv=>f j v
 | 0=>(bZ λ_ _=>rfl).symm
 | p+1=>by
   show su p (λv=>su n λj=>f j v)+su n (λj=>f j p)=su n λj=>su p (λv=>f j v)+f j p
   rw[pC f n p];have h:=i7 1 1 (λj=>su p λv=>f j v) (λj=>f j p) n
   have e:su n (λj=>su p (λv=>f j v)+f j p)=su n (λi=>1*su p (λv=>f i v)+1*f i p):=aF λi _=>by lia
   rw[e,h]
   lia
def ER{p c:Nat}(hc:c<p)(g:Nat->Int):su p (λv=>g v*un c v)=g c:=by
 rw[oh (r:=c) hc λi _ hn=>by unfold un;rw[aab hn,abF]]
 unfold un;rw[aad rfl,adz]
def fl(a b:Nat->Nat)(n:Nat)(x:Nat->Int)(v:Nat):Int:=su n λk=>x k*(un (b k) v-un (a k) v)
def Po{a b:Nat->Nat}{n p:Nat}(ha:∀k,k<n->a k<p)(hb:∀k,k<n->b k<p)(x g:Nat->Int):su p (λv=>g v*fl a b n x v)=su n λk=>x k*(g (b k)-g (a k)):=by
 have e1:su p (λv=>g v*fl a b n x v)=su p (λv=>su n λk=>g v*(x k*(un (b k) v-un (a k) v))):=aF λv _=>(mw (g v) _ n).symm
 rw[e1,pC];refine aF λk hk=>?_
 have e2:su p (λv=>g v*(x k*(un (b k) v-un (a k) v)))=su p (λv=>x k*(g v*un (b k) v)+(- x k)*(g v*un (a k) v)):=aF λv _=>by grind
 rw[e2,i7,ER (hb k hk),ER (ha k hk)]
 grind
def MD{a b:Nat->Nat}{n p:Nat}(ha:∀k,k<n->a k<p)(hb:∀k,k<n->b k<p){L:Nat->Nat->Nat}(hL:∀k j,k<n->j<k->L k (a j)=L k (b j)){x:Nat->Int}(hx:∀v,v<p->fl a b n x v=0)(hf:∀k,k<n->x k≠0->L k (a k)≠L k (b k)):∀d k,k+d+1=n->x k=0:=by
 intro d
 induction d using Nat.strongRecOn with
 | _ d ih =>
   intro k hk;refine aap λhn=>?_
   have hkn:k<n:=by lia
   have e:=Po ha hb x (λv=>if L k v=L k (a k) then 1 else 0)
   rw[bZ λv hv=>by rw[hx v hv,abF]]at e
   rw[oh (r:=k) hkn λj hj hne=>?_]at e
   ·rw[aab (aa2 (hf k hkn hn)),aad rfl]at e
    lia
   ·by_cases h:j<k
    ·rw[hL k j hkn h,Int.sub_self,abF]
    ·rw[ih (n-1-j) (by lia) j (by lia),abz]
def uJ(a b:Nat->Nat)(n:Nat)(s t:Int)(x y:Nat->Int)(v:Nat):fl a b n (λk=>s*x k+t*y k) v=s*fl a b n x v+t*fl a b n y v:=by
 unfold fl;rw[<-i7];exact aF λk _=>by grind
def NO(a b:Nat->Nat)(n:Nat)(c:Nat->Int)(f:Nat->Nat->Int)(v:Nat):∀m,fl a b n (λk=>su m λi=>c i*f i k) v=su m λi=>c i*fl a b n (f i) v
 | 0=>bZ λ_ _=>by show 0*_=(0:Int);rw[abz]
 | m+1=>by
   have h:=uJ a b n 1 (c m) (λk=>su m λi=>c i*f i k) (f m) v
   rw[NO a b n c f v m]at h;have e:(λk=>su (m+1) λi=>c i*f i k)=λk=>1*su m (λi=>c i*f i k)+c m*f m k:=by
    funext k
    show su m (λi=>c i*f i k)+c m*f m k=_
    lia
   rw[e,h];show _=su m (λi=>c i*fl a b n (f i) v)+c m*fl a b n (f m) v
   lia
def ME{a b:Nat->Nat}{n p m:Nat}(ha:∀k,k<n->a k<p)(hb:∀k,k<n->b k<p){L:Nat->Nat->Nat}(hL:∀k j,k<n->j<k->L k (a j)=L k (b j)){C:Nat->Nat}{f:Nat->Nat->Int}(hC:∀j,j<m->C j<n)
 (hf:∀i v,i<m->v<p->fl a b n (f i) v=0) (hu:∀i j,i<m->j<m->f i (C j)=un i j) (hF:∀k,k<n->(∀j,j<m->C j≠k)->L k (a k)≠L k (b k)) {x:Nat->Int} (hx:∀v,v<p->fl a b n x v=0) (k:Nat) (hk:k<n):x k=su m λi=>x (C i)*f i k:=by
 have h:=MD (x:=λk=>1*x k+(-1)*su m (λi=>x (C i)*f i k)) ha hb hL (λv hv=>by
  rw[uJ,hx v hv,NO,bZ λi hi=>by rw[hf i v hi hv,abF]]
  rfl) (λk hk hn=>hF k hk λj hj e=>hn (by
   subst e;show 1*x (C j)+(-1)*su m (λi=>x (C i)*f i (C j))=0
   rw[aF (g:=λi=>x (C i)*un i j) λi hi=>by rw[hu i j hi hj],uI hj λi=>x (C i)]
   lia)) (n-1-k) k (by lia)
 have h2:1*x k+(-1)*su m (λi=>x (C i)*f i k)=0:=h
 lia
def ES{f:Nat->Int}:∀{m k:Nat},k<=m->(∀i,k<=i->i<m->f i=0)->su m f=su k f
 | 0,k,h,_=>by rw[show k=0 by lia]
 | m+1,k,h,hz=>by
   by_cases e:k=m+1
   ·rw[e]
   ·show su m f+f m=su k f;rw[ES (m:=m) (k:=k) (by lia) λi h1 h2=>hz i h1 (by lia),hz m (by lia) (by lia)]
    lia
def yX(f:Nat->Int):∀n,su n f=((List.range n).map f).sum
 | 0=>rfl
 | n+1=>by
   show su n f+f n=_;rw[yX f n,abB,aat,ado];simp
def Gi{a b:List Int}(h:a.Perm b):a.sum=b.sum:=by
 induction h with
 | nil=>rfl
 | cons x _ ih=>rw[ab1,ab1,ih]
 | swap x y l=>rw[ab1,ab1,ab1,ab1];lia
 | trans _ _ h1 h2=>exact h1.trans h2
end Dt
namespace RM
open Dt
variable {N:Net}
structure Pp(N:Net)(m:Nat)(x:Nat->Int):Prop where
 on:∀k,k<N.n->m.testBit k=true->x k=1\/x k = -1
 off:∀k,k<N.n->m.testBit k=false->x k=0
 fl:∀v,v<N.p->fl N.a N.b N.n x v=0
def wx(acc:List (Nat×Int))(k:Nat):Int:=acc.foldl (λz q=>if q.1=k then q.2 else z) 0
def sY(acc:List (Nat×Int))(q:Nat×Int)(k:Nat):wx (acc++[q]) k=if q.1=k then q.2 else wx acc k:=by
 unfold wx;rw[acG];rfl
def JP{a b:Nat->Nat}{n t:Nat}{x y:Nat->Int}{d:Int}(ht:t<n)(h0:x t=0)(h1:y t=d)(h:∀k,k≠t->y k=x k)(v:Nat):fl a b n y v=fl a b n x v+d*(Dt.un (b t) v-Dt.un (a t) v):=by
 have e:=uJ a b n 1 d x (λk=>Dt.un t k) v
 have e1:fl a b n y v=fl a b n (λk=>1*x k+d*Dt.un t k) v:=by
  congr 1
  funext k
  unfold Dt.un
  by_cases hk:k=t
  ·subst hk;rw[aad rfl,h0,h1];lia
  ·rw[aab hk,h k hk];lia
 have e2:fl a b n (λk=>Dt.un t k) v=Dt.un (b t) v-Dt.un (a t) v:=by
  unfold fl;rw[oh (r:=t) ht λi _ hn=>by unfold Dt.un;dsimp only;rw[aab hn,abz]]
  show Dt.un t t*_=_;rw[show Dt.un t t=1 from aad rfl,abU]
 rw[e1,e,e2]
 lia
def ET{m t0:Nat}(hb:m.testBit t0=true){acc:List (Nat×Int)}{v left:Nat}(h:Wk N m t0 acc v left):∀k,k∉acc.map (·.1)->wx acc k=0:=by
 induction h with
 | start =>
   intro k hk;show(if t0=k then(1:Int) else 0)=0
   rw[aab λz=>hk (by rw[<-z];exact aar)]
 | next h h0 ht ih =>
   intro k hk;rw[aat,aaL]at hk;rw[sY,aab λz=>hk (.inr (by rw[<-z];exact aar))]
   exact ih k λz=>hk (.inl z)
def MF{m t0:Nat}{acc:List (Nat×Int)}{v left:Nat}(h:Wk N m t0 acc v left):∀k,k∈acc.map (·.1)->wx acc k=1\/wx acc k = -1:=by
 induction h with
 | start =>
   intro k hk;have:k=t0:=aaA.mp hk;subst this;exact .inl (aad rfl)
 | @next acc v left t h h0 ht ih =>
   intro k hk;rw[aat,aaL]at hk;rw[sY]
   by_cases hn:t=k
   ·rw[aad hn];dsimp only
    split
    ·exact .inl rfl
    ·exact .inr rfl
   ·rw[aab hn];exact ih k (hk.resolve_right λz=>hn (aaA.mp z).symm)
def Sq{m t0:Nat}(hm:m<2^N.n)(hb:m.testBit t0=true){acc:List (Nat×Int)}{v left:Nat}(h:Wk N m t0 acc v left)(u:Nat):fl N.a N.b N.n (wx acc) u=Dt.un v u-Dt.un (N.a t0) u:=by
 induction h with
 | start =>
   have K2:=bR hm hb;rw[JP (y:=wx [(t0,1)]) (x:=λ_=>0) (t:=t0) (d:=1) K2 rfl (aad rfl) (λk hk=>aab (aa2 hk)) u]
   have:fl N.a N.b N.n (λ_=>0) u=0:=bZ λ_ _=>abz _
   rw[this]
   lia
 | @next acc v left t h h0 ht ih =>
   have Ss:=dN.mp (iq ht);have hk:t∉acc.map (·.1):=λz=>by
    have:=o7 hb h t;rw[Ss.2.1,cF z,Bool.not_true,aci]at this;cases this
   rw[JP (x:=wx acc) (t:=t) (d:=if N.a t=v then 1 else -1) Ss.1 (ET hb h t hk) (by rw[sY,aad rfl]) (λk hk=>by rw[sY,aab (aa2 hk)]) u,ih]
   unfold Net.QA
   by_cases e:N.a t=v
   ·rw[aad e,aad e,e];lia
   ·have e2:=Ss.2.2.resolve_left e;rw[aab e,aab e,e2];lia
def Pq{m t0 v:Nat}(hm:m<2^N.n)(r:N.Ring m)(hb:m.testBit t0=true){acc:List (Nat×Int)}(h:Wk N m t0 acc v 0):Pp N m (wx acc):=by
 have key:∀k,k∈acc.map (·.1)↔m.testBit k=true:=λk=>by
  have e:=o7 hb h k;rw[abg]at e
  constructor
  ·intro z;have hp:=(Mj hm r hb h).mem_iff.mp z;exact(aaC.mp hp).2
  ·intro z;rw[z,aa7]at e;exact jB (by simpa using e.symm)
 refine⟨λk _ hk=>MF h k ((key k).mpr hk),λk _ hk=>ET hb h k (λz=>by rw[(key k).mp z]at hk;cases hk),λu _=>?_⟩
 rw[Sq hm hb h u,(IX hm r hb h).mp rfl]
 lia
def JQ{m:Nat}(hm:m<2^N.n)(r:N.Ring m):∃x,Pp N m x:=by
 have hb:=Nat.testBit_log2 r.1;generalize m.log2=t0 at hb;obtain⟨acc,v,wk⟩:=xG hm r hb;exact⟨_,Pq hm r hb wk⟩
def Pp.turn{m:Nat}{x:Nat->Int}(h:Pp N m x):Pp N m (λk=>- x k):=⟨λk h1 h2=>by have:=h.on k h1 h2;lia,λk h1 h2=>by have:=h.off k h1 h2;lia,λv hv=>by
 have e:=uJ N.a N.b N.n (-1) 0 x x v;rw[h.fl v hv]at e;rw[show(λk=>- x k)=λk=>-1*x k+0*x k from funext λk=>by lia,e]
 rfl⟩
def EU(N:Net):∃f:Nat->Nat->Int,(∀i v,i<N.ah.length->v<N.p->fl N.a N.b N.n (f i) v=0)/\(∀i j,i<N.ah.length->j<N.ah.length->f i (N.ah.getD j 0)=Dt.un i j)/\(∀i,i<N.ah.length->Pp N (N.ring (N.ah.getD i 0)) (f i))/\
 ∀x:Nat->Int,(∀v,v<N.p->fl N.a N.b N.n x v=0)->∀k,k<N.n->x k=su N.ah.length λi=>x (N.ah.getD i 0)*f i k:=by
 have hC:∀i,i<N.ah.length->N.ah.getD i 0<N.n/\N.fK (N.ah.getD i 0)=false:=λi hi=>by
  rw[aaa,aaf hi];exact aY.mp (abC hi)
 have ex:∀i,∃x:Nat->Int,i<N.ah.length->Pp N (N.ring (N.ah.getD i 0)) x/\x (N.ah.getD i 0)=1:=λi=>by
  by_cases hi:i<N.ah.length
  ·obtain⟨h1,h2⟩:=hC i hi;obtain⟨x,hx⟩:=JQ (mW h1) (m4 h1 h2);rcases hx.on _ h1 (l5 h2) with e|e
   ·exact⟨x,λ_=>⟨hx,e⟩⟩
   ·exact⟨_,λ_=>⟨hx.turn,by show-x _=1;rw[e];rfl⟩⟩
  ·exact⟨λ_=>0,λz=>absurd z hi⟩
 obtain⟨f,hf⟩:=ac7 ex;have hu:∀i j,i<N.ah.length->j<N.ah.length->f i (N.ah.getD j 0)=Dt.un i j:=λi j hi hj=>by
  unfold Dt.un
  by_cases e:j=i
  ·subst e;rw[aad rfl];exact(hf j hj).2
  ·rw[aab e];refine(hf i hi).1.off _ (hC j hj).1 ?_;rw[fB (hC i hi).2 (hC j hj).2];refine eI λz=>e (Eq.symm ?_)
   rw[aaa,aaa,aaf hi,aaf hj]at z;exact(abK m3).mp z
 refine⟨f,λi v hi hv=>(hf i hi).1.fl v hv,hu,λi hi=>(hf i hi).1,λx hx k hk=>?_⟩
 refine ME (L:=λk v=>N.b8 k v) N.al N.bl (λk j _ hj=>gY (S:=λ_=>true) hj rfl) (C:=λi=>N.ah.getD i 0) (λj hj=>(hC j hj).1) (λi v hi hv=>(hf i hi).1.fl v hv) hu (λk hk hn=>?_) hx k hk
 cases hF:N.fK k with
 | true =>
   unfold Net.fK at hF;exact of_decide_eq_false (by simpa using hF)
 | false =>
   obtain⟨j,hj⟩:=o8 hk hF;have VU:=(jf.mp hj).1;exact absurd (by rw[aaa,hj];rfl) (hn j VU)
def Bl{i:Nat}(hi:i<N.ah.length):N.ah.getD i 0<N.n/\N.fK (N.ah.getD i 0)=false:=by
 rw[aaa,aaf hi];exact aY.mp (abC hi)
end RM
namespace Dt
def ir(f:Nat->Int)(m:Nat):∀k,su (m+k) f=su m f+su k (λt=>f (m+t))
 | 0=>by show su m f=su m f+0;lia
 | k+1=>by
   show su (m+k) f+f (m+k)=su m f+(su k (λt=>f (m+t))+f (m+k))
   rw[ir f m k]
   lia
def Bo(f:Nat->Int)(n:Nat):su (n+1) f=f 0+su n (λi=>f (i+1)):=by
 have h:=ir f 1 n;rw[adD 1 n]at h;rw[h];show 0+f 0+su n (λt=>f (1+t))=_
 rw[aF (g:=λi=>f (i+1)) λi _=>by rw[adD]]
 lia
def EV(i r:Nat):sk (i+1) (r+1)=sk i r+1:=by
 unfold sk
 by_cases h:r<i
 ·rw[aad h,aad (by lia)]
 ·rw[aab h,aab (by lia)]
def kA:∀{m k:Nat} {M:Mx},(∀r c,m<=r->r<m+k->c<m->M r c=0)->det (m+k) M=det m M*det k (λr c=>M (m+r) (m+c))
 | 0,k,M,_=>by
   show det (0+k) M=1*_;rw[ack,abU];exact aK λr c _ _=>by rw[ack,ack]
 | m+1,k,M,h=>by
   rw[show m+1+k=(m+k)+1 by lia]
   show su (m+k+1) (λi=>sg i*M i 0*det (m+k) (mn M i))=su (m+1) (λi=>sg i*M i 0*det m (mn M i))*_
   rw[ES (k:=m+1) (by lia) λi h1 h2=>by rw[h i 0 h1 (by lia) (by lia),abF,abz],adK,<-mw]
   refine aF λi hi=>?_
   rw[kA (m:=m) (k:=k) (M:=mn M i) λr c h1 h2 h3=>by
    show M (sk i r) (c+1)=0;unfold sk;rw[aab (by lia)]
    exact h _ _ (by lia) (by lia) (by lia)]
   have e:det k (λr c=>mn M i (m+r) (m+c))=det k (λr c=>M (m+1+r) (m+1+c)):=aK λr c _ _=>by
    show M (sk i (m+r)) (m+c+1)=_;unfold sk;rw[aab (by lia),show m+r+1=m+1+r by lia,show m+c+1=m+1+c by lia]
   rw[e]
   grind
def mr(M:Mx)(j:Nat):Mx:=λr c=>M (r+1) (sk j c)
def EW:∀(n:Nat) (M:Mx),det (n+1) M=su (n+1) λj=>sg j*M 0 j*det n (mr M j)
 | 0,M=>rfl
 | n+1,M=>by
   show su (n+2) (λi=>sg i*M i 0*det (n+1) (mn M i))=_
   rw[Bo,Bo (λj=>sg j*M 0 j*det (n+1) (mr M j))]
   have e0:det (n+1) (mn M 0)=det (n+1) (mr M 0):=aK λr c _ _=>rfl
   rw[e0]
   congr 1
   have e1:su (n+1) (λi=>sg (i+1)*M (i+1) 0*det (n+1) (mn M (i+1)))=su (n+1) λi=>su (n+1) λj=>- (sg i*sg j*M (i+1) 0*M 0 (j+1)*det n (λr c=>M (sk i r+1) (sk j c+1))):=aF λi _=>by
    rw[EW n (mn M (i+1)),<-mw];refine aF λj _=>?_
    have e2:det n (mr (mn M (i+1)) j)=det n (λr c=>M (sk i r+1) (sk j c+1)):=aK λr c _ _=>by
     show M (sk (i+1) (r+1)) (sk j c+1)=_;rw[EV]
    have e3:mn M (i+1) 0 j=M 0 (j+1):=rfl;rw[e2,e3,yV]
    grind
   have e4:su (n+1) (λj=>sg (j+1)*M 0 (j+1)*det (n+1) (mr M (j+1)))=su (n+1) λj=>su (n+1) λi=>- (sg i*sg j*M (i+1) 0*M 0 (j+1)*det n (λr c=>M (sk i r+1) (sk j c+1))):=aF λj _=>by
    show sg (j+1)*M 0 (j+1)*su (n+1) (λi=>sg i*mr M (j+1) i 0*det n (mn (mr M (j+1)) i))=_
    rw[<-mw];refine aF λi _=>?_
    have e2:det n (mn (mr M (j+1)) i)=det n (λr c=>M (sk i r+1) (sk j c+1)):=aK λr c _ _=>by
     show M (sk i r+1) (sk (j+1) (c+1))=_;rw[EV]
    have e3:mr M (j+1) i 0=M (i+1) 0:=rfl;rw[e2,e3,yV]
    grind
   rw[e1,e4];exact pC (λj i=>- (sg i*sg j*M (i+1) 0*M 0 (j+1)*det n (λr c=>M (sk i r+1) (sk j c+1)))) (n+1) (n+1)
def tr(M:Mx):Mx:=λr c=>M c r
def qx:∀(n:Nat) (M:Mx),det n (tr M)=det n M
 | 0,_=>rfl
 | n+1,M=>by
   rw[EW n M];exact aF λi _=>by
    show sg i*M 0 i*det n (tr (mr M i))=_;rw[qx n]
def Pu(i j:Nat):un i j=un j i:=by
 unfold un
 by_cases h:i=j
 ·rw[aad h,aad h.symm]
 ·rw[aab h,aab (aa2 h)]
def MG{n:Nat}(M:Mx){f:Nat->Nat}(hf:∀i,i<n->f i<n)(inj:∀i j,i<n->j<n->f i=f j->i=j):det n (λr c=>M (f r) (f c))=det n M:=by
 have e1:=ku (n:=n) (λr c=>M r (f c)) (off f n) f (aae _) hf
 have e2:=ku (n:=n) (tr M) (off f n) f (aae _) hf;have e3:det n (λr c=>M r (f c))=det n (λr c=>tr M (f r) c):=qx n (λr c=>tr M (f r) c)
 have e4:det n (mul n (λr c=>un (f r) c) (tr λr c=>un (f r) c))=det n un:=aK λr c hr hc=>by
  show su n (λl=>un (f r) l*un (f c) l)=un r c
  rw[lO (hf r hr) λl=>un (f c) l]
  unfold un
  by_cases h:c=r
  ·rw[aad h,aad (by rw[h])]
  ·rw[aab h,aab λz=>h (inj c r hc hr z.symm)]
 rw[ng,qx,nc]at e4;rw[e1,e3,e2,qx,<-Int.mul_assoc,e4,abU]
def MH(m k:Nat)(C:Mx):det m (λi j=>un i j+su k λt=>C i t*C j t)=det k (λs t=>un s t+su m λi=>C i s*C i t):=by
 have hZ:∃Z:Mx,(∀r c,r<m->c<m->Z r c=un r c)/\(∀r t,r<m->Z r (m+t)=C r t)/\(∀s c,c<m->Z (m+s) c = - C c s)/\∀s t,Z (m+s) (m+t)=un s t :=
  ⟨λr c=>if r<m then(if c<m then un r c else C r (c-m)) else if c<m then-C c (r-m) else un (r-m) (c-m),λr c hr hc=>by dsimp only;rw[aad hr,aad hc],λr t hr=>by dsimp only;rw[aad hr,aab (by lia),abq],λs c hc=>by dsimp only;rw[aab (by lia),aad hc,abq],λs t=>by dsimp only;rw[aab (by lia),aab (by lia),abq,abq]⟩
 have hP:∃P:Mx,(∀r c,r<m->c<m->P r c=un r c)/\(∀r t,r<m->P r (m+t)=0)/\(∀s c,c<m->P (m+s) c=C c s)/\∀s t,P (m+s) (m+t)=un s t :=
  ⟨λr c=>if r<m then(if c<m then un r c else 0) else if c<m then C c (r-m) else un (r-m) (c-m),λr c hr hc=>by dsimp only;rw[aad hr,aad hc],λr t hr=>by dsimp only;rw[aad hr,aab (by lia)],λs c hc=>by dsimp only;rw[aab (by lia),aad hc,abq],λs t=>by dsimp only;rw[aab (by lia),aab (by lia),abq,abq]⟩
 obtain⟨Z,z1,z2,z3,z4⟩:=hZ;obtain⟨P,p1,p2,p3,p4⟩:=hP;have low:∀r,m<=r->r<m+k->∃s,s<k/\r=m+s:=λr h1 h2=>⟨r-m,by lia,by lia⟩
 have a1:det (m+k) (mul (m+k) P Z)=det k (λs t=>un s t+su m λi=>C i s*C i t):=by
  rw[kA λr c h1 h2 h3=>by
   obtain⟨s,hs,rfl⟩:=low r h1 h2;show su (m+k) (λl=>P (m+s) l*Z l c)=0
   rw[ir,aF (g:=λl=>C l s*un l c) λl hl=>by rw[p3 s l hl,z1 l c hl h3],uI h3 λl=>C l s,aF (g:=λt=>un s t*(- C c t)) λt _=>by rw[p4,z3 t c h3],lO hs λt=>- C c t]
   lia]
  have e1:det m (mul (m+k) P Z)=1:=by
   rw[<-nc m];refine aK λr c hr hc=>?_
   show su (m+k) (λl=>P r l*Z l c)=un r c
   rw[ir,aF (g:=λl=>un r l*un l c) λl hl=>by rw[p1 r l hr hl,z1 l c hl hc],lO hr λl=>un l c,bZ (n:=k) λt _=>by rw[p2 r t hr,abz]]
   lia
  rw[e1,abU];refine aK λs t hs ht=>?_
  show su (m+k) (λl=>P (m+s) l*Z l (m+t))=_
  rw[ir,aF (g:=λi=>C i s*C i t) λl hl=>by rw[p3 s l hl,z2 l t hl],aF (n:=k) (g:=λl=>un s l*un l t) λl _=>by rw[p4,z4],lO hs λl=>un l t]
  lia
 have a2:det (m+k) (mul (m+k) Z P)=det m (λi j=>un i j+su k λt=>C i t*C j t):=by
  rw[kA λr c h1 h2 h3=>by
   obtain⟨s,hs,rfl⟩:=low r h1 h2;show su (m+k) (λl=>Z (m+s) l*P l c)=0
   rw[ir,aF (g:=λl=>(- C l s)*un l c) λl hl=>by rw[z3 s l hl,p1 l c hl h3],uI h3 λl=>- C l s,aF (g:=λt=>un s t*C c t) λt _=>by rw[z4,p3 t c h3],lO hs λt=>C c t]
   lia]
  have e1:det k (λr c=>mul (m+k) Z P (m+r) (m+c))=1:=by
   rw[<-nc k];refine aK λs t hs ht=>?_
   show su (m+k) (λl=>Z (m+s) l*P l (m+t))=un s t
   rw[ir,bZ (n:=m) λl hl=>by rw[p2 l t hl,abF],aF (n:=k) (g:=λl=>un s l*un l t) λl _=>by rw[z4,p4],lO hs λl=>un l t]
   lia
  rw[e1,adz];refine aK λi j hi hj=>?_
  show su (m+k) (λl=>Z i l*P l j)=_
  rw[ir,aF (g:=λl=>un i l*un l j) λl hl=>by rw[z1 i l hi hl,p1 l j hl hj],lO hi λl=>un l j,aF (n:=k) (g:=λt=>C i t*C j t) λt _=>by rw[z2 i t hi,p3 t j hj]]
 rw[<-a2,<-a1,ng,ng,adK]
def dl(e:Nat×Nat)(w:Nat):Int:=un e.1 w-un e.2 w
def jh:List (Nat×Nat)->Mx
 | [],_,_=>0
 | e::l,w,c=>dl e w*dl e c+jh l w c
def gM(L:Mx)(R:Nat->Bool):Mx:=λw c=>if(R w || R c)=true then un w c else L w c
def NP{L:Mx}{R:Nat->Bool}{w c:Nat}(h:R w=true\/R c=true):gM L R w c=un w c:=aad (by rcases h with h | h<;>rw[h];exact Bool.true_or _;exact Bool.or_true _)
def Pw{L:Mx}{R:Nat->Bool}{w c:Nat}(h1:R w=false)(h2:R c=false):gM L R w c=L w c:=aab (by rw[h1,h2];decide)
def Dd(p:Nat)(l:List (Nat×Nat))(R:Nat->Bool):Int:=det p (gM (jh l) R)
def JR{a b:Nat}(h:a≠b):un a b=0:=aab (aa2 h)
end Dt
namespace RM
open Dt
def ps(N:Net):List (Nat×Nat):=(List.range N.n).map λk=>(N.a k,N.b k)
end RM
namespace Dt
def EX{l:List Nat}(F:Nat->Int):su l.length (λi=>F (l.getD i 0))=(l.map F).sum:=by
 rw[yX]
 congr 1
 refine adh (by rw[aac,aac,aay]) λi h1 h2=>?_
 rw[aac]at h2;rw[acn,acn,List.getElem_range,aaa,aaf h2];rfl
def my(P:Nat->Bool):∀l:List Nat,(l.filter (λx=>!P x)++l.filter P).Perm l
 | []=>List.Perm.refl _
 | x::l=>by
   have ih:=my P l;cases h:P x with
   | false =>
     rw[aaJ,aad (by rw[h];rfl),aaJ,aab (by rw[h];decide)]
     exact ih.cons x
   | true =>
     rw[aaJ,aab (by rw[h];decide),aaJ,aad h]
     exact List.perm_middle.trans (ih.cons x)
def EY(P:Nat->Bool)(n:Nat)(F:Nat->Int):su n F=su ((List.range n).filter λx=>!P x).length (λi=>F (((List.range n).filter λx=>!P x).getD i 0))+su ((List.range n).filter P).length (λi=>F (((List.range n).filter P).getD i 0)):=by
 rw[EX,EX,<-ado,<-aat,yX];exact Gi ((my P (List.range n)).map F).symm
def EZ(p:Nat)(l:List (Nat×Nat))(R:Nat->Bool):Dd p l R=det ((List.range p).filter λx=>!R x).length (λi j=>jh l (((List.range p).filter λx=>!R x).getD i 0) (((List.range p).filter λx=>!R x).getD j 0)):=by
 have pm:=my R (List.range p);have hk:∀x∈(List.range p).filter (λx=>!R x),R x=false:=λx hx=>by simpa using(aaC.mp hx).2
 have hr:∀x∈(List.range p).filter R,R x=true:=λx hx=>(aaC.mp hx).2
 have XE:((List.range p).filter R).Nodup:=abM _ ab6;generalize (List.range p).filter (λx=>!R x)=ks at pm hk ⊢
 generalize (List.range p).filter R=rs at pm hr XE;have len:p=ks.length+rs.length:=by
  have:=pm.length_eq;rw[aah,aay]at this;exact this.symm
 have nd:(ks++rs).Nodup:=pm.nodup_iff.mpr ab6;have get:∀i,i<p->∃h:i<(ks++rs).length,(ks++rs).getD i 0=(ks++rs)[i]:=λi hi=>by
  have h:i<(ks++rs).length:=by rw[aah];lia
  exact⟨h,by rw[aaa,aaf h];rfl⟩
 have lt:∀i,i<p->(ks++rs).getD i 0<p:=λi hi=>by
  obtain⟨h,e⟩:=get i hi;rw[e];exact aax.mp (pm.mem_iff.mp (abC h))
 have inj:∀i j,i<p->j<p->(ks++rs).getD i 0=(ks++rs).getD j 0->i=j:=λi j hi hj e=>by
  obtain⟨h1,e1⟩:=get i hi;obtain⟨h2,e2⟩:=get j hj;rw[e1,e2]at e;exact(abK nd).mp e
 unfold Dd;rw[<-MG (gM (jh l) R) lt inj];have fk:∀i,i<ks.length->(ks++rs).getD i 0=ks.getD i 0/\R (ks.getD i 0)=false:=λi hi=>by
  constructor
  ·rw[aaa,aaa,aaE hi]
  ·rw[aaa,aaf hi];exact hk _ (abC hi)
 have fr:∀i,i<rs.length->(ks++rs).getD (ks.length+i) 0=rs.getD i 0/\R (rs.getD i 0)=true:=λi hi=>by
  constructor
  ·rw[aaa,aaa,aaO (by lia),abq]
  ·rw[aaa,aaf hi];exact hr _ (abC hi)
 generalize hf:(λi=>(ks++rs).getD i 0)=f
 have VV:∀i,i<ks.length->f i=ks.getD i 0/\R (ks.getD i 0)=false:=λi hi=>by rw[<-hf];exact fk i hi
 have VW:∀i,i<rs.length->f (ks.length+i)=rs.getD i 0/\R (rs.getD i 0)=true:=λi hi=>by rw[<-hf];exact fr i hi
 have goal:det p (λr c=>gM (jh l) R (f r) (f c))=det ks.length (λi j=>jh l (ks.getD i 0) (ks.getD j 0)):=by
  rw[len,kA λr c h1 h2 h3=>by
   obtain⟨s,hs,rfl⟩:∃s,s<rs.length/\r=ks.length+s:=⟨r-ks.length,by lia,by lia⟩
   obtain⟨e1,q1⟩:=VW s hs;obtain⟨e2,q2⟩:=VV c h3
   (try dsimp only)
   rw[e1,e2,NP (.inl q1),JR λz=>by rw[z,q2]at q1;cases q1]]
  have e1:det rs.length (λr c=>gM (jh l) R (f (ks.length+r)) (f (ks.length+c)))=1:=by
   rw[<-nc rs.length];refine aK λr c hr hc=>?_
   obtain⟨e1,q1⟩:=VW r hr;obtain⟨e2,q2⟩:=VW c hc;rw[e1,e2,NP (.inl q1)];unfold un
   by_cases h:c=r
   ·rw[aad h,aad (by rw[h])]
   ·rw[aab h,aab λz=>h ?_]
    rw[aaa,aaa,aaf hr,aaf hc]at z;exact(abK XE).mp z
  rw[e1,adz];refine aK λi j hi hj=>?_
  obtain⟨e1,q1⟩:=VV i hi;obtain⟨e2,q2⟩:=VV j hj;rw[e1,e2,Pw q1 q2]
 rw[<-goal,<-hf]
def Bp(w c:Nat):∀l l',jh (l++l') w c=jh l w c+jh l' w c
 | [],l'=>by show jh l' w c=0+jh l' w c;lia
 | e::l,l'=>by
   show dl e w*dl e c+jh (l++l') w c=dl e w*dl e c+jh l w c+jh l' w c;rw[Bp w c l l']
   lia
def Bq(a b:Nat->Nat)(w c:Nat):∀n,jh ((List.range n).map λk=>(a k,b k)) w c=su n λk=>(un (b k) w-un (a k) w)*(un (b k) c-un (a k) c)
 | 0=>rfl
 | n+1=>by
   rw[abB,aat,Bp,Bq a b w c n];show _+((un (a n) w-un (b n) w)*(un (a n) c-un (b n) c)+0)=su n _+(un (b n) w-un (a n) w)*(un (b n) c-un (a n) c)
   grind
def E1{a b:Nat->Nat}{n t:Nat}(ht:t<n)(v:Nat):fl a b n (un t) v=un (b t) v-un (a t) v:=by
 unfold fl;rw[lO ht λk=>un (b k) v-un (a k) v]
def nh(a b:Nat->Nat)(n:Nat)(x y:Nat->Int)(s:Int)(v:Nat):fl a b n (λk=>x k+s*y k) v=fl a b n x v+s*fl a b n y v:=by
 have:=uJ a b n 1 s x y v;rw[show(λk=>x k+s*y k)=λk=>1*x k+s*y k from funext λk=>by lia,this]
 lia
def MI(k m:Nat)(C:Mx)(b d:Nat->Int):su k (λs=>su k (λt=>b t*(un t s+su m λi=>C i t*C i s))*d s)=su k (λt=>b t*d t)+su m λi=>su k (λt=>C i t*b t)*su k (λs=>C i s*d s):=by
 have e1:∀s,s<k->su k (λt=>b t*(un t s+su m λi=>C i t*C i s))=b s+su m λi=>su k (λt=>C i t*b t)*C i s:=λs hs=>by
  have e2:su k (λt=>b t*(un t s+su m λi=>C i t*C i s))=su k (λt=>1*(b t*un t s)+1*su m λi=>C i s*(C i t*b t)):=aF λt _=>by
   rw[show(su m λi=>C i s*(C i t*b t))=b t*su m λi=>C i t*C i s from by rw[<-mw];exact aF λi _=>by grind]
   grind
  rw[e2,i7,uI hs b,pC (λi t=>C i s*(C i t*b t)) m k]
  have e3:su m (λi=>su k λt=>C i s*(C i t*b t))=su m λi=>su k (λt=>C i t*b t)*C i s:=aF λi _=>by rw[mw,adK]
  rw[e3]
  lia
 have e4:su k (λs=>su k (λt=>b t*(un t s+su m λi=>C i t*C i s))*d s)=su k (λs=>1*(b s*d s)+1*su m λi=>su k (λt=>C i t*b t)*(C i s*d s)):=aF λs hs=>by
  rw[e1 s hs,show(su m λi=>su k (λt=>C i t*b t)*(C i s*d s))=d s*su m λi=>su k (λt=>C i t*b t)*C i s from by rw[<-mw];exact aF λi _=>by grind]
  grind
 rw[e4,i7,pC (λi s=>su k (λt=>C i t*b t)*(C i s*d s)) m k]
 have e5:su m (λi=>su k λs=>su k (λt=>C i t*b t)*(C i s*d s))=su m λi=>su k (λt=>C i t*b t)*su k λs=>C i s*d s:=aF λi _=>mw _ _ _
 rw[e5]
 lia
end Dt
namespace RM
open Dt
variable {N:Net}
def fo(N:Net):Int:=Dd N.p (ps N) λx=>decide (N.b8 N.n x=x)
def VX(N:Net):∀k,k<=N.n->∀x,∃y:Nat->Int,(∀q,y q≠0->q<N.n/\N.fK q=true)/\∀v,fl N.a N.b N.n y v=Dt.un x v-Dt.un (N.b8 k x) v:=by
 intro k
 induction k with
 | zero =>
   intro _ x;refine⟨λ_=>0,λq h=>absurd rfl h,λv=>?_⟩
   rw[show N.b8 0 x=x from rfl]
   have:fl N.a N.b N.n (λ_=>0) v=0:=bZ λ_ _=>abz _
   lia
 | succ k ih =>
   intro hk x;have ih:=ih (by lia)
   rw[tV]
   by_cases hF:N.fK k=true
   ·rw[aad hF];unfold join
    by_cases hx:N.b8 k x=max (N.b8 k (N.a k)) (N.b8 k (N.b k))
    ·rw[aad hx];obtain⟨yx,x1,x2⟩:=ih x;obtain⟨ya,a1,a2⟩:=ih (N.a k);obtain⟨yb,b1,b2⟩:=ih (N.b k);have fit:∀s:Int,∀q,(λq=>(λq=>(λq=>yx q+s*ya q) q+(-s)*yb q) q+s*Dt.un k q) q≠0->q<N.n/\N.fK q=true:=λs q hq=>by
      refine aap λhn=>hq ?_
      have z1:yx q=0:=aap λz=>hn (x1 q z)
      have z2:ya q=0:=aap λz=>hn (a1 q z)
      have z3:yb q=0:=aap λz=>hn (b1 q z)
      have z4:Dt.un k q=0:=by
       refine JR λz=>hn ?_
       rw[<-z];exact⟨by lia,hF⟩
      dsimp only;rw[z1,z2,z3,z4];simp
     by_cases hc:N.b8 k (N.a k)<=N.b8 k (N.b k)
     ·refine⟨_,fit 1,λv=>?_⟩
      rw[nh,nh,nh,x2,a2,b2,E1 (by lia),acd hc]
      rw[acR hc]at hx;rw[hx]
      lia
     ·refine⟨_,fit (-1),λv=>?_⟩
      rw[nh,nh,nh,x2,a2,b2,E1 (by lia),acS (by lia)]
      rw[acX (by lia)]at hx
      rw[hx]
      lia
    ·rw[aab hx];exact ih x
   ·rw[aab hF];exact ih x
def kp(N:Net):List Nat:=(List.range N.p).filter λx=>!decide (N.b8 N.n x=x)
def fr(N:Net):List Nat:=(List.range N.n).filter N.fK
def JS(N:Net):(kp N).length=(fr N).length:=by
 unfold kp fr;rw[dY,dY];have h1:=kP (N:=N) N.n (aae _);have h2:=oW (λx=>decide (N.b8 N.n x=x)) N.p
 have h3:cnt (N.root (λ_=>true) N.n) N.p=cnt (λx=>decide (N.b8 N.n x=x)) N.p:=rfl
 lia
def Bm(N:Net)(w q:Nat):Int:=Dt.un (N.b q) w-Dt.un (N.a q) w
def yY{i:Nat}(hi:i<(kp N).length):(kp N).getD i 0<N.p/\N.b8 N.n ((kp N).getD i 0)≠(kp N).getD i 0:=by
 rw[aaa,aaf hi];obtain⟨h1,h2⟩:=aaC.mp (abC hi);exact⟨aax.mp h1,of_decide_eq_false (by simpa using h2)⟩
def Px(N:Net):det (fr N).length (λr t=>Bm N ((kp N).getD r 0) ((fr N).getD t 0))*det (fr N).length (λr t=>Bm N ((kp N).getD r 0) ((fr N).getD t 0))=1:=by
 obtain⟨Y,hY⟩:=ac7 (VX N N.n (aae _));have e:det (fr N).length (mul (fr N).length (λr t=>Y ((kp N).getD r 0) ((fr N).getD t 0)) (tr λr t=>Bm N ((kp N).getD r 0) ((fr N).getD t 0)))=det (fr N).length Dt.un:=aK λr c hr hc=>by
  rw[<-JS]at hr hc;obtain⟨w1,w2⟩:=yY hr;obtain⟨c1,c2⟩:=yY hc;obtain⟨y1,y2⟩:=hY ((kp N).getD r 0);have e1:=y2 ((kp N).getD c 0);have e2:fl N.a N.b N.n (Y ((kp N).getD r 0)) ((kp N).getD c 0)=su (fr N).length (λt=>Y ((kp N).getD r 0) ((fr N).getD t 0)*Bm N ((kp N).getD c 0) ((fr N).getD t 0)):=by
   show su N.n (λq=>Y ((kp N).getD r 0) q*Bm N ((kp N).getD c 0) q)=_
   rw[EY N.fK N.n λq=>Y ((kp N).getD r 0) q*Bm N ((kp N).getD c 0) q,bZ λi hi=>?_]
   ·show 0+su (fr N).length _=_;exact abl _
   ·have hm:((List.range N.n).filter λx=>!N.fK x).getD i 0∈(List.range N.n).filter λx=>!N.fK x:=by
     rw[aaa,aaf hi];exact abC hi
    have hF:=(aaC.mp hm).2;have z:Y ((kp N).getD r 0) (((List.range N.n).filter λx=>!N.fK x).getD i 0)=0:=aap λz=>by
     rw[(y1 _ z).2]at hF;cases hF
    rw[z,abz]
  show su (fr N).length (λt=>Y ((kp N).getD r 0) ((fr N).getD t 0)*Bm N ((kp N).getD c 0) ((fr N).getD t 0))=Dt.un r c
  rw[<-e2,e1,JR (a:=N.b8 N.n ((kp N).getD r 0)) (b:=(kp N).getD c 0) λz=>c2 (by rw[<-z];exact cS _ _)]
  unfold Dt.un
  by_cases h:c=r
  ·rw[aad h,aad (by rw[h])];rfl
  ·rw[aab h,aab λz=>h ?_]
   ·rfl
   ·rw[aaa,aaa,aaf hr,aaf hc]at z;exact(abK (abM _ ab6)).mp z
 rw[ng,qx,nc]at e;generalize det (fr N).length (λr t=>Bm N ((kp N).getD r 0) ((fr N).getD t 0))=d at e ⊢
 have:d.natAbs=1:=by
  have:=abf Int.natAbs e;rw[Int.natAbs_mul]at this;exact Nat.eq_one_of_mul_eq_one_left this
 have:d=1\/d = -1:=by lia
 rcases this with rfl|rfl<;>rfl
def qz{f:Nat->Nat->Int}(hf:∀i v,i<N.ah.length->v<N.p->fl N.a N.b N.n (f i) v=0)(hu:∀i j,i<N.ah.length->j<N.ah.length->f i (N.ah.getD j 0)=Dt.un i j):det N.ah.length (λi j=>su N.n λq=>f i q*f j q)=fo N:=by
 have sp:∀F:Nat->Int,su N.n F=su N.ah.length (λi=>F (N.ah.getD i 0))+su (fr N).length (λt=>F ((fr N).getD t 0)):=λF=>EY N.fK N.n F
 have e1:det N.ah.length (λi j=>su N.n λq=>f i q*f j q)=det N.ah.length (λi j=>Dt.un i j+su (fr N).length λt=>f i ((fr N).getD t 0)*f j ((fr N).getD t 0)):=aK λi j hi hj=>by
  rw[sp,aF (n:=N.ah.length) (g:=λl=>Dt.un i l*Dt.un j l) λl hl=>by rw[hu i l hi hl,hu j l hj hl],lO hi λl=>Dt.un j l,Pu]
 rw[e1,MH N.ah.length (fr N).length λi t=>f i ((fr N).getD t 0)]
 have hB:∀i w,i<N.ah.length->w<N.p->Bm N w (N.ah.getD i 0) = - su (fr N).length (λt=>f i ((fr N).getD t 0)*Bm N w ((fr N).getD t 0)):=λi w hi hw=>by
  have e2:su N.n (λq=>f i q*Bm N w q)=0:=hf i w hi hw
  rw[sp,aF (n:=N.ah.length) (g:=λl=>Dt.un i l*Bm N w (N.ah.getD l 0)) λl hl=>by rw[hu i l hi hl],lO hi λl=>Bm N w (N.ah.getD l 0)]at e2
  lia
 unfold fo;rw[EZ];show _=det (kp N).length (λi j=>jh (ps N) ((kp N).getD i 0) ((kp N).getD j 0))
 have e3:det (kp N).length (λi j=>jh (ps N) ((kp N).getD i 0) ((kp N).getD j 0))=det (fr N).length (mul (fr N).length (mul (fr N).length (λr t=>Bm N ((kp N).getD r 0) ((fr N).getD t 0)) (λs t=>Dt.un s t+su N.ah.length λi=>f i ((fr N).getD s 0)*f i ((fr N).getD t 0))) (tr λr t=>Bm N ((kp N).getD r 0) ((fr N).getD t 0))):=by
  rw[JS];refine aK λr c hr hc=>?_
  rw[<-JS]at hr hc;obtain⟨w1,_⟩:=yY hr;obtain⟨c1,_⟩:=yY hc;have e4:=MI (fr N).length N.ah.length (λi t=>f i ((fr N).getD t 0)) (λt=>Bm N ((kp N).getD r 0) ((fr N).getD t 0)) (λt=>Bm N ((kp N).getD c 0) ((fr N).getD t 0))
  show jh (ps N) _ _=su (fr N).length (λs=>su (fr N).length (λt=>Bm N ((kp N).getD r 0) ((fr N).getD t 0)*(Dt.un t s+su N.ah.length λi=>f i ((fr N).getD t 0)*f i ((fr N).getD s 0)))*Bm N ((kp N).getD c 0) ((fr N).getD s 0))
  rw[e4];unfold ps;rw[Bq];show su N.n (λq=>Bm N ((kp N).getD r 0) q*Bm N ((kp N).getD c 0) q)=_
  rw[sp,Int.add_comm]
  congr 1
  refine aF λi hi=>?_
  rw[hB i _ hi w1,hB i _ hi c1]
  grind
 rw[e3,ng,ng,qx,adK,<-Int.mul_assoc,Px,abU]
variable {N:Net}
def pD(f:Nat->Bool)(n:Nat):∀m,bh f (n+m)=(bh f n^^bh (λk=>f (n+k)) m)
 | 0=>by rw[show bh (λk=>f (n+k)) 0=false from rfl,aby];rfl
 | m+1=>by
   rw[show bh f (n+(m+1))=(bh f (n+m)^^f (n+m)) from rfl,pD f n m,show bh (λk=>f (n+k)) (m+1)=(bh (λk=>f (n+k)) m^^f (n+m)) from rfl,Bool.xor_assoc]
def uK{N:Net}{m c:Nat}(h:∀x,x<N.p->x≠c->N.bd m x=false):N.bL m:=λx hx=>by
 by_cases e:x=c
 ·subst e;have z:=tU (N:=N) (m:=m) (λ_=>true) (λ_ _ _=>rfl)
  rw[lY hx λk hk n=>by rw[h k hk n];rfl]at z
  simpa using z
 ·exact h x hx e
structure gr(N A B:Net)(i j:Nat->Nat)(c d:Nat):Prop where
 n:N.n=A.n+B.n
 ia:∀k,k<A.n->N.a k=i (A.a k)/\N.b k=i (A.b k)
 jb:∀k,k<B.n->N.a (A.n+k)=j (B.a k)/\N.b (A.n+k)=j (B.b k)
 ip:∀x,x<A.p->i x<N.p
 jp:∀y,y<B.p->j y<N.p
 ii:∀x x',x<A.p->x'<A.p->i x=i x'->x=x'
 jj:∀y y',y<B.p->y'<B.p->j y=j y'->y=y'
 sh:∀x y,x<A.p->y<B.p->i x=j y->x=c/\y=d
variable {N A B:Net}{i j:Nat->Nat}{c d m:Nat}
def gr.bd(t:gr N A B i j c d)(z:Nat):N.bd m z=(bh (λk=>m.testBit k&&N.inc k z) A.n^^bh (λk=>m.testBit (A.n+k)&&N.inc (A.n+k) z) B.n):=by
 unfold Net.bd;rw[t.n,pD]
def gr.left(t:gr N A B i j c d){x:Nat}(hx:x<A.p):bh (λk=>m.testBit k&&N.inc k (i x)) A.n=A.bd m x:=by
 refine bf λk hk=>?_
 obtain⟨e1,e2⟩:=t.ia k hk;have d1:decide (i (A.a k)=i x)=decide (A.a k=x):=aa9.mpr ⟨t.ii _ _ (A.al k hk) hx,λe=>by rw[e]⟩
 have d2:decide (i (A.b k)=i x)=decide (A.b k=x):=aa9.mpr ⟨t.ii _ _ (A.bl k hk) hx,λe=>by rw[e]⟩
 unfold Net.inc;rw[e1,e2,d1,d2]
def gr.right(t:gr N A B i j c d){y:Nat}(hy:y<B.p):bh (λk=>m.testBit (A.n+k)&&N.inc (A.n+k) (j y)) B.n=B.bd (m >>> A.n) y:=by
 refine bf λk hk=>?_
 obtain⟨e1,e2⟩:=t.jb k hk;have d1:decide (j (B.a k)=j y)=decide (B.a k=y):=aa9.mpr ⟨t.jj _ _ (B.al k hk) hy,λe=>by rw[e]⟩
 have d2:decide (j (B.b k)=j y)=decide (B.b k=y):=aa9.mpr ⟨t.jj _ _ (B.bl k hk) hy,λe=>by rw[e]⟩
 unfold Net.inc;rw[e1,e2,d1,d2,ab8]
def gr.Br(t:gr N A B i j c d){z:Nat}(h:∀x,x<A.p->i x≠z):bh (λk=>m.testBit k&&N.inc k z) A.n=false:=dX λk hk=>by
 obtain⟨e1,e2⟩:=t.ia k hk;unfold Net.inc;rw[e1,e2,eI (h _ (A.al k hk)),eI (h _ (A.bl k hk))];simp
def gr.xQ(t:gr N A B i j c d){z:Nat}(h:∀y,y<B.p->j y≠z):bh (λk=>m.testBit (A.n+k)&&N.inc (A.n+k) z) B.n=false:=dX λk hk=>by
 obtain⟨e1,e2⟩:=t.jb k hk;unfold Net.inc;rw[e1,e2,eI (h _ (B.al k hk)),eI (h _ (B.bl k hk))];simp
def gr.c6(t:gr N A B i j c d):N.bL m↔A.bL m/\B.bL (m >>> A.n):=by
 refine⟨λh=>⟨uK (c:=c) λx hx n=>?_,uK (c:=d) λy hy n=>?_⟩,λ⟨h1,h2⟩ z _=>?_⟩
 ·have e:=h (i x) (t.ip x hx);rw[t.bd,t.left hx,t.xQ λy hy e=>n (t.sh x y hx hy e.symm).1]at e
  simpa using e
 ·have e:=h (j y) (t.jp y hy);rw[t.bd,t.right hy,t.Br λx hx e=>n (t.sh x y hx hy e).2]at e
  simpa using e
 ·have e1:bh (λk=>m.testBit k&&N.inc k z) A.n=false:=by
   by_cases h:∃x,x<A.p/\i x=z
   ·obtain⟨x,hx,rfl⟩:=h;rw[t.left hx];exact h1 x hx
   ·exact t.Br λx hx e=>h ⟨x,hx,e⟩
  have e2:bh (λk=>m.testBit (A.n+k)&&N.inc (A.n+k) z) B.n=false:=by
   by_cases h:∃y,y<B.p/\j y=z
   ·obtain⟨y,hy,rfl⟩:=h;rw[t.right hy];exact h2 y hy
   ·exact t.xQ λy hy e=>h ⟨y,hy,e⟩
  rw[t.bd,e1,e2];rfl
def fE{N:Net}:N.bL 0:=λx _=>kO x
def qA{N:Net}{m q:Nat}(h:∀k,k<N.n->m.testBit k=q.testBit k)(e:N.bL m):N.bL q:=λx hx=>by
 rw[<-e x hx];exact bf λk hk=>by rw[h k hk]
def Gj{q m n:Nat}(hm:m<2^n)(h:∀k,q.testBit k=true->m.testBit k=true):q<2^n:=by
 refine Nat.lt_of_not_le λhl=>?_
 obtain⟨k,hk,hb⟩:=Nat.exists_ge_and_testBit_of_ge_two_pow hl;have:=h k hb;rw[aaR (aaj hm (aaM (by decide) hk))]at this
 cases this
def gr.ni(t:gr N A B i j c d)(hm:m<2^A.n):N.Ring m↔A.Ring m:=by
 have s0:∀{q:Nat},(∀k,q.testBit k=true->m.testBit k=true)->q >>> A.n=0:=λh=>by rw[abw,adL (Gj hm h)]
 refine⟨λ⟨h0,he,hq⟩=>⟨h0,(t.c6.mp he).1,λq hs e=>hq q hs (t.c6.mpr ⟨e,by rw[s0 hs];exact fE⟩)⟩,λ⟨h0,he,hq⟩=>⟨h0,t.c6.mpr ⟨he,by rw[s0 λ_ h=>h];exact fE⟩,λq hs e=>hq q hs (t.c6.mp e).1⟩⟩
def kB{q n k:Nat}(h:k<n):(q <<< n).testBit k=false:=by
 rw[abY,eI (by lia)]
 rfl
def gr.k8(t:gr N A B i j c d){q:Nat}:N.Ring (q <<< A.n)↔B.Ring q:=by
 have lo:∀r,A.bL (r <<< A.n):=λr=>qA (m:=0) (λk hk=>by rw[kB hk,abg]) fE
 have un:∀r,(r <<< A.n) >>> A.n=r:=λr=>aco r A.n
 have up:∀r,N.bL (r <<< A.n)↔B.bL r:=λr=>⟨λe=>by have:=(t.c6.mp e).2;rwa [un]at this,λe=>t.c6.mpr ⟨lo r,by rw[un];exact e⟩⟩
 have sub:∀r,(∀k,r.testBit k=true->(q <<< A.n).testBit k=true)->r=(r >>> A.n) <<< A.n:=λr h=>aaS λk=>by
  by_cases hk:k<A.n
  ·rw[kB hk];cases e:r.testBit k with
   | false=>rfl
   | true=>rw[<-h k e,kB hk]
  ·rw[abY,cF (by lia:k ≥ A.n),aa7,ab8,show A.n+(k-A.n)=k by lia]
 refine⟨λ⟨h0,he,hq⟩=>⟨λz=>h0 (by rw[z,acB]),(up q).mp he,λr hs e=>?_⟩,λ⟨h0,he,hq⟩=>⟨λz=>h0 (by rw[<-un q,z,Nat.zero_shiftRight]),(up q).mpr he,λr hs e=>?_⟩⟩
 ·rcases hq (r <<< A.n) (λk hk=>by
   rw[abY]at hk ⊢;rw[aaI]at hk ⊢;exact⟨hk.1,hs _ hk.2⟩) ((up r).mpr e) with z | z
  ·exact .inl (by rw[<-un r,z,Nat.zero_shiftRight])
  ·exact .inr (by rw[<-un r,z,un])
 ·have er:=sub r hs;rcases hq (r >>> A.n) (λk hk=>by
   rw[ab8]at hk;have:=hs _ hk
   rwa [abY,cF (by lia:A.n+k ≥ A.n),aa7,show A.n+k-A.n=k by lia]at this) (t.c6.mp e).2 with z | z
  ·exact .inl (by rw[er,z,acB])
  ·exact .inr (by rw[er,z])
def gr.Bt(t:gr N A B i j c d)(r:N.Ring m):m<2^A.n\/m=(m >>> A.n) <<< A.n:=by
 have hb:∀k,(m%2^A.n).testBit k=(decide (k<A.n)&&m.testBit k):=λk=>Nat.testBit_mod_two_pow m A.n k
 have hl:m%2^A.n<2^A.n:=Nat.mod_lt _ (aa0 _);have he:N.bL (m%2^A.n):=t.c6.mpr ⟨qA (m:=m) (λk hk=>by rw[hb,cF hk,aa7]) (t.c6.mp r.2.1).1,by rw[abw,adL hl];exact fE⟩
 rcases r.2.2 _ (λk hk=>by rw[hb,aaI]at hk;exact hk.2) he with z|z
 ·refine .inr ?_;rw[acp,abw];have:=Nat.div_add_mod m (2^A.n);rw[z,Nat.add_zero,adE]at this;exact this.symm
 ·exact .inl (z▸hl)
def Gk{N:Net}{m K:Nat}(hK:m.testBit K=true)(hlt:m<2^(K+1))(hn:K<N.n)(he:N.bL m):N.fK K=false:=by
 have cl:=tU (N:=N) (m:=m^^^2^K) (λx=>decide (N.b8 K x=N.b8 K (N.a K))) λk hk hb=>by
  have Vr:k<K:=by
   rw[aam,aaw]at hb;rcases Nat.lt_trichotomy k K with h|h|h
   ·exact h
   ·subst h;simp[hK]at hb
   ·rw[aaR (aaj hlt (aaM (by decide) h)),eI (by lia)]at hb
    cases hb
  rw[show N.b8 K (N.a k)=N.b8 K (N.b k) from gY (S:=λ_=>true) Vr rfl]
 rw[bf (g:=λx=>decide (N.b8 K x=N.b8 K (N.a K))&&N.inc K x) λx hx=>by rw[eR,he x hx,jF hn,acN]]at cl
 have two:bh (λx=>decide (N.b8 K x=N.b8 K (N.a K))&&N.inc K x) N.p=(true^^decide (N.b8 K (N.b K)=N.b8 K (N.a K))):=by
  have pa:=gB (λx=>decide (N.b8 K x=N.b8 K (N.a K))) (N.al K hn)
  have pb:=gB (λx=>decide (N.b8 K x=N.b8 K (N.a K))) (N.bl K hn)
  rw[<-pb,show true=decide (N.b8 K (N.a K)=N.b8 K (N.a K)) from(cF rfl).symm,<-pa,<-iV]
  refine bf λx _=>?_
  unfold Net.inc;rw[Bool.and_xor_distrib_left]
 rw[two]at cl;unfold Net.fK;have e:N.b8 K (N.b K)=N.b8 K (N.a K):=by simpa using cl
 rw[e];simp
def nj{N:Net}{k:Nat}(hk:k<N.n):N.fK k=false↔∃m,m.testBit k=true/\m<2^(k+1)/\N.bL m:=by
 refine⟨λh=>⟨N.trail k (N.a k)^^^N.trail k (N.b k)^^^2^k,?_,cL λq hq=>?_,λx _=>?_⟩,λ⟨m,h1,h2,h3⟩=>Gk h1 h2 hk h3⟩
 ·have z:∀v,(N.trail k v).testBit k=false:=λv=>by
   cases e:(N.trail k v).testBit k with
   | false=>rfl
   | true=>exact absurd (fV _ _ _ e).1 (abr _)
  rw[aam,aam,z,z,ac1];rfl
 ·rw[aam,aam,aaw]at hq
  by_cases e:k=q
  ·lia
  ·cases e1:(N.trail k (N.a k)).testBit q with
   | true=>exact abI (fV _ _ _ e1).1
   | false=>cases e2:(N.trail k (N.b k)).testBit q with
     | true=>exact abI (fV _ _ _ e2).1
     | false =>
       rw[e1,e2,eI e]at hq;cases hq
 ·have el:N.b8 k (N.a k)=N.b8 k (N.b k):=by
   unfold Net.fK at h
   simpa using h
  rw[eR,eR,jF hk,lZ _ (aaW hk),lZ _ (aaW hk),el];unfold Net.inc;cases decide (N.a k=x)<;>cases decide (N.b k=x)<;>cases decide (N.b8 k (N.b k)=x)<;>rfl
def xR{x y:Bool}(h:x=false↔y=false):x=y:=by
 cases x<;>cases y<;>simp_all
def gr.JT(t:gr N A B i j c d){k:Nat}(hk:k<A.n):N.fK k=A.fK k:=xR (by
 rw[nj (by have:=t.n;lia),nj hk]
 refine⟨λ⟨m,h1,h2,h3⟩=>⟨m,h1,h2,(t.c6.mp h3).1⟩,λ⟨m,h1,h2,h3⟩=>⟨m,h1,h2,t.c6.mpr ⟨h3,?_⟩⟩⟩
 rw[abw,adL (aaj h2 (aaM (by decide) hk))]
 exact fE)
def gr.Gm(t:gr N A B i j c d){k:Nat}(hk:k<B.n):N.fK (A.n+k)=B.fK k:=xR (by
 rw[nj (by have:=t.n;lia),nj hk]
 refine⟨λ⟨m,h1,h2,h3⟩=>⟨m >>> A.n,by rw[ab8];exact h1,?_,(t.c6.mp h3).2⟩,λ⟨m,h1,h2,h3⟩=>⟨m <<< A.n,?_,?_,t.c6.mpr ⟨qA (m:=0) (λk hk=>by rw[kB hk,abg]) fE,by rw[aco];exact h3⟩⟩⟩
 ·rw[abw,Nat.div_lt_iff_lt_mul (aa0 _),<-adb,show k+1+A.n=A.n+k+1 by lia]
  exact h2
 ·rw[abY,cF (by lia:A.n+k ≥ A.n),aa7,show A.n+k-A.n=k by lia]
  exact h1
 ·rw[acp,show A.n+k+1=k+1+A.n by lia,adb]
  exact Nat.mul_lt_mul_of_pos_right h2 (aa0 _))
def gr.ah(t:gr N A B i j c d):N.ah=A.ah++B.ah.map (A.n + ·):=by
 unfold Net.ah;rw[t.n,List.range_add,abu,List.filter_map]
 congr 1
 ·exact acH λk hk=>by rw[t.JT (aax.mp hk)]
 ·congr 1
  exact acH λk hk=>by
   show(!N.fK (A.n+k))=_;rw[t.Gm (aax.mp hk)]
variable {N A B:Net}{i j:Nat->Nat}{c d:Nat}
def glue(a n:Nat)(f g:Nat->Nat->Int)(r q:Nat):Int:=if r<a then(if q<n then f r q else 0) else(if q<n then 0 else g (r-a) (q-n))
def gr.MJ(t:gr N A B i j c d){x y:Nat->Int}(h1:∀q,q<A.n->y q=x q)(h0:∀q,¬ q<A.n->y q=0)(hf:∀v,v<A.p->fl A.a A.b A.n x v=0)(v:Nat):fl N.a N.b N.n y v=0:=by
 unfold fl;rw[t.n,ir,bZ (n:=B.n) λq _=>by rw[h0 (A.n+q) (by lia),abz],adM]
 by_cases h:∃u,u<A.p/\i u=v
 ·obtain⟨u,hu,rfl⟩:=h;rw[<-hf u hu];refine aF λk hk=>?_
  obtain⟨e1,e2⟩:=t.ia k hk;have Su:∀z,z<A.p->Dt.un (i z) (i u)=Dt.un z u:=λz hz=>by
   unfold Dt.un
   by_cases e:u=z
   ·rw[aad e,aad (by rw[e])]
   ·rw[aab e,aab λh=>e (t.ii _ _ hu hz h)]
  rw[h1 k hk,e1,e2,Su _ (A.al k hk),Su _ (A.bl k hk)]
 ·refine bZ λk hk=>?_
  obtain⟨e1,e2⟩:=t.ia k hk;have z:∀z,z<A.p->Dt.un (i z) v=0:=λz hz=>aab λe=>h ⟨z,hz,e.symm⟩
  rw[e1,e2,z _ (A.al k hk),z _ (A.bl k hk),Int.sub_self,abF]
def gr.JU(t:gr N A B i j c d){x y:Nat->Int}(h1:∀q,q<B.n->y (A.n+q)=x q)(h0:∀q,q<A.n->y q=0)(hf:∀v,v<B.p->fl B.a B.b B.n x v=0)(v:Nat):fl N.a N.b N.n y v=0:=by
 unfold fl;rw[t.n,ir,bZ (n:=A.n) λq hq=>by rw[h0 q hq,abz],abl]
 by_cases h:∃u,u<B.p/\j u=v
 ·obtain⟨u,hu,rfl⟩:=h;rw[<-hf u hu];refine aF λk hk=>?_
  obtain⟨e1,e2⟩:=t.jb k hk;have Su:∀z,z<B.p->Dt.un (j z) (j u)=Dt.un z u:=λz hz=>by
   unfold Dt.un
   by_cases e:u=z
   ·rw[aad e,aad (by rw[e])]
   ·rw[aab e,aab λh=>e (t.jj _ _ hu hz h)]
  rw[h1 k hk,e1,e2,Su _ (B.al k hk),Su _ (B.bl k hk)]
 ·refine bZ λk hk=>?_
  obtain⟨e1,e2⟩:=t.jb k hk;have z:∀z,z<B.p->Dt.un (j z) v=0:=λz hz=>aab λe=>h ⟨z,hz,e.symm⟩
  rw[e1,e2,z _ (B.al k hk),z _ (B.bl k hk),Int.sub_self,abF]
def gr.uL(t:gr N A B i j c d){r:Nat}(h:r<A.ah.length):N.ah.getD r 0=A.ah.getD r 0:=by
 rw[t.ah,aaa,aaE h,aaa]
def gr.rL(t:gr N A B i j c d){r:Nat}(h:r<B.ah.length):N.ah.getD (A.ah.length+r) 0=A.n+B.ah.getD r 0:=by
 rw[t.ah,aaa,aaO (by lia),show A.ah.length+r-A.ah.length=r by lia,aan,aaf h,aaa,aaf h]
 rfl
def gr.iW(t:gr N A B i j c d):N.ah.length=A.ah.length+B.ah.length:=by rw[t.ah,aah,aac]
def gr.fo(t:gr N A B i j c d):fo N=fo A*fo B:=by
 obtain⟨f,hf,hu,_,_⟩:=EU A;obtain⟨g,hg,gu,_,_⟩:=EU B;have hl:=t.iW;have L1:∀r q,r<A.ah.length->q<A.n->glue A.ah.length A.n f g r q=f r q:=λr q h1 h2=>by unfold glue;rw[aad h1,aad h2]
 have L0:∀r q,r<A.ah.length->¬ q<A.n->glue A.ah.length A.n f g r q=0:=λr q h1 h2=>by unfold glue;rw[aad h1,aab h2]
 have R0:∀r q,¬ r<A.ah.length->q<A.n->glue A.ah.length A.n f g r q=0:=λr q h1 h2=>by unfold glue;rw[aab h1,aad h2]
 have R1:∀r q,glue A.ah.length A.n f g (A.ah.length+r) (A.n+q)=g r q:=λr q=>by unfold glue;rw[aab (by lia),aab (by lia),show A.ah.length+r-A.ah.length=r by lia,show A.n+q-A.n=q by lia]
 generalize glue A.ah.length A.n f g=X at L1 L0 R0 R1;have e:=qz (N:=N) (f:=X) (λr v hr _=>by
  by_cases h:r<A.ah.length
  ·exact t.MJ (x:=f r) (λq hq=>L1 r q h hq) (λq hq=>L0 r q h hq) (λv hv=>hf r v h hv) v
  ·obtain⟨s,rfl⟩:∃s,r=A.ah.length+s:=⟨r-A.ah.length,by lia⟩
   exact t.JU (x:=g s) (λq _=>R1 s q) (λq hq=>R0 _ q h hq) (λv hv=>hg s v (by lia) hv) v) (λr s hr hs=>by
  by_cases h:r<A.ah.length<;>by_cases k:s<A.ah.length
  ·rw[t.uL k,L1 r _ h (Bl k).1,hu r s h k]
  ·obtain⟨s',rfl⟩:∃s',s=A.ah.length+s':=⟨s-A.ah.length,by lia⟩
   rw[t.rL (by lia),L0 r _ h (by lia)]
   exact(aab (by lia)).symm
  ·rw[t.uL k,R0 r _ h (Bl k).1];exact(aab (by lia)).symm
  ·obtain⟨s',rfl⟩:∃s',s=A.ah.length+s':=⟨s-A.ah.length,by lia⟩
   obtain⟨r',rfl⟩:∃r',r=A.ah.length+r':=⟨r-A.ah.length,by lia⟩
   rw[t.rL (by lia),R1,gu r' s' (by lia) (by lia)]
   unfold Dt.un
   by_cases e:s' = r'
   ·rw[aad e,aad (by lia)]
   ·rw[aab e,aab (by lia)])
 rw[<-e,hl,kA λr s h1 _ h3=>bZ λq _=>?_,<-qz hf hu,<-qz hg gu]
 ·congr 1
  ·refine aK λr s hr hs=>?_
   rw[t.n,ir,bZ (n:=B.n) λq _=>by rw[L0 r _ hr (by lia),abz],adM]
   exact aF λq hq=>by rw[L1 r q hr hq,L1 s q hs hq]
  ·refine aK λr s hr hs=>?_
   rw[t.n,ir,bZ (n:=A.n) λq hq=>by rw[R0 _ q (by lia) hq,abz],abl]
   exact aF λq _=>by rw[R1,R1]
 ·by_cases h:q<A.n
  ·rw[R0 r q (by lia) h,abz]
  ·rw[L0 s q h3 h,abF]
variable {N A B:Net}{i j:Nat->Nat}{c d:Nat}{L:Nat->Int}
def Bu:∀(X Y:List Nat) (z:Nat),comb (X++Y) z=comb X z^^^comb Y (z/2^X.length)
 | [],Y,z=>by
   show comb Y z=0^^^comb Y (z/2^0);rw[abj,Nat.pow_zero,Nat.div_one]
 | x::X,Y,z=>by
   show(if z.testBit 0=true then x else 0)^^^comb (X++Y) (z/2)=((if z.testBit 0=true then x else 0)^^^comb X (z/2))^^^comb Y (z/2^(X.length+1))
   rw[Bu X Y,Nat.div_div_eq_div_mul,abT,adE (2^X.length) 2,abh]
def E2(n:Nat):∀(Y:List Nat) (z:Nat),comb (Y.map (· <<< n)) z=comb Y z <<< n
 | [],z=>(acB n).symm
 | y::Y,z=>by
   show(if z.testBit 0=true then y <<< n else 0)^^^comb (Y.map (· <<< n)) (z/2)=((if z.testBit 0=true then y else 0)^^^comb Y (z/2)) <<< n
   rw[E2 n Y,Nat.shiftLeft_xor_distrib]
   congr 1
   by_cases h:z.testBit 0=true
   ·rw[aad h,aad h]
   ·rw[aab h,aab h,acB]
def uM(L:Nat->Int)(f:Nat->Bool)(n:Nat):∀m,lsum L f (n+m)=lsum L f n+lsum (λk=>L (n+k)) (λk=>f (n+k)) m
 | 0=>by rw[show lsum (λk=>L (n+k)) (λk=>f (n+k)) 0=0 from rfl,adM];rfl
 | m+1=>by
   rw[show lsum L f (n+(m+1))=lsum L f (n+m)+(if f (n+m)=true then L (n+m) else 0) from rfl,uM L f n m,Int.add_assoc]
   rfl
def Bv{m n k:Nat}(h:m<2^n):m.testBit (n+k)=false:=aaR (aaj h (aaM (by decide) (ab5 n k)))
def JV(q n k:Nat):(q <<< n).testBit (n+k)=q.testBit k:=by
 rw[abY,cF (by lia:n+k ≥ n),aa7,show n+k-n=k by lia]
def gr.Bw(t:gr N A B i j c d){r m:Nat}(hr:r<2^A.n):N.par r m=A.par r m:=by
 unfold Net.par;rw[t.n,pD,dX (n:=B.n) λk _=>by rw[Bv hr,ach],aby]
def gr.xS(t:gr N A B i j c d){q m:Nat}:N.par (q <<< A.n) m=B.par q (m >>> A.n):=by
 unfold Net.par;rw[t.n,pD,dX (n:=A.n) λk hk=>by rw[kB hk,ach],acN]
 exact bf λk _=>by rw[JV,ab8]
def gr.uN(t:gr N A B i j c d){r:Nat}(hr:r<2^A.n):len N L r=len A L r:=by
 unfold len;rw[t.n,uM,kq (n:=B.n) λk _=>Bv hr,adM]
def gr.qB(t:gr N A B i j c d){q:Nat}:len N L (q <<< A.n)=len B (λk=>L (A.n+k)) q:=by
 unfold len;rw[t.n,uM,kq (n:=A.n) λk hk=>kB hk,abl]
 exact kZ λk _=>JV q A.n k
def gr.NQ(t:gr N A B i j c d){q:Nat}(h:q<2^B.n):q <<< A.n<2^N.n:=by
 rw[t.n,acp,adb,adE (2^A.n)];exact Nat.mul_lt_mul_of_pos_right h (aa0 _)
def gr.base(t:gr N A B i j c d){rs qs:List Nat}(hr:Base A rs)(hq:Base B qs):Base N (rs++qs.map (· <<< A.n)):=by
 refine⟨by rw[aah,aac,hr.len,hq.len,t.iW],λr h=>?_,λz hz e=>?_⟩
 ·rcases aaL.mp h with h|h
  ·obtain⟨h1,h2⟩:=hr.ring r h;exact⟨(t.ni h2).mpr h1,aaj h2 (aaM (by decide) (by have:=t.n;lia))⟩
  ·obtain⟨q,hm,rfl⟩:=aaH.mp h;obtain⟨h1,h2⟩:=hq.ring q hm;exact⟨t.k8.mpr h1,t.NQ h2⟩
 ·rw[Bu,E2]at e;have lo:=(qq (N:=A) (B:=rs) (λb hb=>⟨(hr.ring b hb).1.2.1,(hr.ring b hb).2⟩) z).2
  have eq:comb rs z=comb qs (z/2^rs.length) <<< A.n:=by
   have:(comb rs z^^^comb qs (z/2^rs.length) <<< A.n)^^^comb qs (z/2^rs.length) <<< A.n=0^^^comb qs (z/2^rs.length) <<< A.n:=by rw[e]
   rwa [abh,abD,abE,abj]at this
  have hi:comb qs (z/2^rs.length)=0:=by
   rw[eq,acp]at lo;rcases Nat.eq_zero_or_pos (comb qs (z/2^rs.length)) with h|h
   ·exact h
   ·exact absurd (acD (2^A.n) h) (Nat.not_le_of_lt lo)
  rw[hi,acB]at eq;rw[aah,aac,adb]at hz;have z1:=hq.ind _ (adt hz) hi;have zl:z<2^rs.length:=by
   rcases Nat.div_eq_zero_iff.mp z1 with h|h
   ·exact absurd h (abS (aa0 _))
   ·exact h
  exact hr.ind z zl eq
def gr.lb(t:gr N A B i j c d){rs qs:List Nat}(hr:LB A L rs)(hq:LB B (λk=>L (A.n+k)) qs):LB N L (rs++qs.map (· <<< A.n)):=by
 refine⟨t.base hr.1 hq.1,λr m rg hl ho=>?_⟩
 rcases t.Bt rg with h|h
 ·rw[t.Bw h]at ho;obtain⟨b,hb,h1,h2⟩:=hr.2 r m ((t.ni h).mp rg) h ho;have bl:=(hr.1.ring b hb).2;exact⟨b,acO _ hb,by rw[t.Bw bl];exact h1,by rw[t.uN bl,t.uN h];exact h2⟩
 ·have ql:r >>> A.n<2^B.n:=by
   rw[abw];rw[t.n,adb]at hl;exact adt hl
  generalize r >>> A.n=q at h ql;subst h;rw[t.xS]at ho;obtain⟨b,hb,h1,h2⟩:=hq.2 q _ (t.k8.mp rg) ql ho;exact⟨b <<< A.n,iB _ (aaH.mpr ⟨b,hb,rfl⟩),by rw[t.xS];exact h1,by rw[t.qB,t.qB];exact h2⟩
variable {N A B:Net}{i j:Nat->Nat}{c d:Nat}{L:Nat->Int}
def LB.up{rs:List Nat}(h:LB N L rs):∃rs',LB N L rs'/\rs'.Perm rs/\rs'.Pairwise λx y=>len N L x<=len N L y:=by
 have p:=List.mergeSort_perm rs λx y=>decide (len N L x<=len N L y)
 refine⟨_,h.perm p,p,(List.pairwise_mergeSort (λx y z h1 h2=>?_) (λx y=>?_) rs).imp λh=>jB h⟩
 ·exact cF (Int.le_trans (jB h1) (jB h2))
 ·rcases Int.le_total (len N L x) (len N L y) with h|h
  ·rw[cF h,Bool.true_or]
  ·rw[cF h,Bool.or_true]
def LB.MK{rs qs:List Nat}(h:LB N L rs)(h' : LB N L qs)(u:rs.Pairwise λx y=>len N L x<=len N L y)(u' : qs.Pairwise λx y=>len N L x<=len N L y):rs.map (len N L)=qs.map (len N L) :=
 JJ (h.1.len.trans h'.1.len.symm) (Bb u u' h'.1.ind λb hb=>h.parts (h'.1.ring b hb).1 (h'.1.ring b hb).2) (Bb u' u h.1.ind λb hb=>h'.parts (h.1.ring b hb).1 (h.1.ring b hb).2)
def LB.lens{rs qs:List Nat}(h:LB N L rs)(h' : LB N L qs){l l' : List Int}(p:l.Perm (rs.map (len N L)))(p' : l'.Perm (qs.map (len N L)))(u:l.Pairwise (·<=·))(u' : l'.Pairwise (·<=·)):l=l':=by
 obtain⟨r1,a1,a2,a3⟩:=h.up;obtain⟨q1,b1,b2,b3⟩:=h'.up;refine List.Perm.eq_of_pairwise (λx y _ _ h1 h2=>Int.le_antisymm h1 h2) u u' (p.trans (((a2.map _).symm.trans ?_).trans p'.symm))
 rw[LB.MK a1 b1 a3 b3];exact b2.map _
def gr.lens(t:gr N A B i j c d){rs as bs:List Nat}(h:LB N L rs)(ha:LB A L as)(hb:LB B (λk=>L (A.n+k)) bs){l l' : List Int}(p:l.Perm (rs.map (len N L)))(p' : l'.Perm (as.map (len A L)++bs.map (len B λk=>L (A.n+k))))(u:l.Pairwise (·<=·))(u' : l'.Pairwise (·<=·)):l=l':=by
 refine h.lens (t.lb ha hb) p (p'.trans (List.Perm.of_eq ?_)) u u';rw[aat,acL]
 congr 1
 ·exact abR λr hr=>(t.uN (ha.1.ring r hr).2).symm
 ·exact abR λq _=>t.qB.symm
def Du{r f:Nat}(h:r+f<=7)(hr:6<=r):((List.range (2^r)).filter λz=>decide (Bc r z<=f+1)&&decide (z≠0)).length<32:=by
 have h1:r=6\/r=7:=by lia
 rcases h1 with rfl|rfl
 ·have hf:f=0\/f=1:=by lia
  rcases hf with rfl|rfl<;>decide +kernel
 ·have hf:f=0:=by lia
  rcases hf with rfl
  decide +kernel
def Bx{N:Net}{l:List Nat}(nd:l.Nodup)(h:∀m∈l,m<2^N.n/\N.Ring m):l.length<=((List.range (2^N.ah.length)).filter λz=>decide (Bc N.ah.length z<=(N.n-N.ah.length)+1)&&decide (z≠0)).length:=by
 have cl:N.ah.length<=N.n:=by
  have h1:N.ah.length<=(List.range N.n).length:=aaG ..
  rwa [aay]at h1
 have inj:∀m q,m<2^N.n->q<2^N.n->N.bL m->N.bL q->code m N.ah=code q N.ah->m=q:=λm q hm hq em eq e=>kh hm hq em eq λc hc hf=>code_inj e c (aY.mpr ⟨hc,hf⟩)
 have VB:(l.map λm=>code m N.ah).Nodup:=by
  refine adC _ (λa b (hab:a≠b/\a∈l/\b∈l)=>?_) ?_ (R:=λa b=>a≠b/\a∈l/\b∈l)
  ·obtain⟨h1,h2⟩:=h a hab.2.1;obtain⟨h3,h4⟩:=h b hab.2.2;exact λe=>hab.1 (inj a b h1 h3 h2.2.1 h4.2.1 e)
  ·exact abZ (λ{a b} ha hb hne=>⟨hne,ha,hb⟩) nd
 have z0:∀cs,code 0 cs=0:=λcs=>by
  induction cs with
  | nil=>rfl
  | cons c cs ih =>
    unfold code;rw[abg,ih,aab aal]
 rw[<-aac (as:=l) λm=>code m N.ah]
 refine ko VB λx hx=>?_
 obtain⟨m,hm,rfl⟩:=aaH.mp hx;obtain⟨h1,h2⟩:=h m hm;refine aaC.mpr ⟨aax.mpr (yM _ _),ads.mpr ⟨cF ?_,cF λe=>h2.1 (inj m 0 h1 (aa0 _) h2.2.1 bL.zero (by rw[e,z0]))⟩⟩
 rw[uF];have h3:=Dq h1 h2;have h4:(N.ah.filter λc=>m.testBit c).length<=cnt (λk=>m.testBit k) N.n:=by
  unfold Net.ah;rw[List.filter_filter,dY];exact CS λk _ h=>(ads.mp h).1
 lia
def jo{N:Net}(hn:N.n<=7){l:List Nat}(nd:l.Nodup)(h:∀m∈l,m<2^N.n/\N.Ring m):l.length<32:=by
 by_cases h5:N.ah.length<=5
 ·exact aaj (F4 nd h) (aaM (n:=2) (by decide) h5)
 have cl:N.ah.length<=N.n:=by
  have h1:N.ah.length<=(List.range N.n).length:=aaG ..
  rwa [aay]at h1
 exact abm (Bx nd h) (Du (by lia) (by lia))
def gr.rings{N A B:Net}{i j:Nat->Nat}{c d:Nat}(t:gr N A B i j c d){la lb:List Nat}(ha:∀m,m∈la↔m<2^A.n/\A.Ring m)(hb:∀m,m∈lb↔m<2^B.n/\B.Ring m)(m:Nat):m∈la++lb.map (· <<< A.n)↔m<2^N.n/\N.Ring m:=by
 rw[aaL,aaH];have n:=t.n;refine⟨λz=>?_,λ⟨h1,h2⟩=>?_⟩
 ·rcases z with z|⟨q,hq,rfl⟩
  ·obtain⟨z1,z2⟩:=(ha m).mp z;exact⟨aaj z1 (aaM (by decide) (by lia)),(t.ni z1).mpr z2⟩
  ·obtain⟨z1,z2⟩:=(hb q).mp hq;exact⟨t.NQ z1,t.k8.mpr z2⟩
 ·rcases t.Bt h2 with z|z
  ·exact .inl ((ha m).mpr ⟨z,(t.ni z).mp h2⟩)
  ·refine .inr ⟨m >>> A.n,(hb _).mpr ⟨?_,t.k8.mp (z▸h2)⟩,z.symm⟩;rw[abw];rw[n,adb]at h1;exact adt h1
def gr.nodup{N A B:Net}{i j:Nat->Nat}{c d:Nat}(t:gr N A B i j c d){la lb:List Nat}(ha:∀m,m∈la↔m<2^A.n/\A.Ring m)(hb:∀m,m∈lb↔m<2^B.n/\B.Ring m)(na:la.Nodup)(nb:lb.Nodup):(la++lb.map (· <<< A.n)).Nodup:=by
 refine acI.mpr ⟨na,?_,λx hx y hy e=>?_⟩
 ·exact adC _ (λa b hab e=>hab (by rw[<-aco a A.n,<-aco b A.n,e])) nb
 ·obtain⟨q,hq,rfl⟩:=aaH.mp hy;have h1:=((ha x).mp hx).1;have h2:=((hb q).mp hq).2.1;rw[e,acp]at h1;exact absurd (acD (2^A.n) (Nat.pos_of_ne_zero h2)) (Nat.not_le_of_lt h1)
end RM
namespace Ring
def rM(f:Int->Int)(t:cC):cC:=(f t.1,f t.2.1,t.2.2)
def jn(p:Nat)(o:Option Nat)(y:Int):Int:=match o with
 | none=>(p:Int)+y
 | some c=>if y=0 then(c:Int) else(p:Int)+y-1
def pV(p q:Nat)(o:Option Nat):Nat:=match o with
 | none=>p+q
 | some _=>p+q-1
def xT{p q:Nat}{o:Option Nat}(ho:∀c,o=some c->c<p){y:Int}(h0:0<=y)(h1:y<q):0<=jn p o y/\jn p o y<(pV p q o:Nat):=by
 unfold jn pV;cases o with
 | none=>dsimp only;lia
 | some c =>
   have:=ho c rfl;dsimp only
   split<;>lia
def JW{p:Nat}{o:Option Nat}(ho:∀c,o=some c->c<p){y z:Int}(hy:0<=y)(hz:0<=z)(e:jn p o y=jn p o z):y=z:=by
 unfold jn at e;cases o with
 | none=>dsimp only at e;lia
 | some c =>
   have:=ho c rfl;dsimp only at e
   split at e<;>split at e<;>lia
def MM{p x:Nat}{o:Option Nat}{y:Int}(hx:x<p)(hy:0<=y)(e:(x:Int)=jn p o y):x=o.getD 0/\y=0:=by
 unfold jn at e;cases o with
 | none=>dsimp only at e;lia
 | some c =>
   show x=c/\_;dsimp only at e
   split at e<;>lia
section
variable {p q:Nat}{o:Option Nat}{ts us:List cC}
def Gn(g:aA p ts)(h:aA q us)(ho:∀c,o=some c->c<p)(hp:p<=5)(hq:q<=5)(ht:ts.length<=7)(hu:us.length<=7):aA (pV p q o) (ts++us.map (rM (jn p o))):=by
 have p1:=g.p1;have q1:=h.p1;have hP:p<=pV p q o/\pV p q o<=10:=by
  unfold pV;cases o<;>dsimp only<;>lia
 refine⟨by lia,hP.2,by rw[aah,aac];lia,λt ht=>?_⟩
 rcases aaL.mp ht with z|z
 ·have z:=g.nY t z;exact⟨z.a0,by have:=z.a1;lia,z.b0,by have:=z.b1;lia,z.ne,z.l0,z.l1⟩
 ·obtain⟨u,hm,rfl⟩:=aaH.mp z;have z:=h.nY u hm;have a:=xT (q:=q) ho z.a0 z.a1;have b:=xT (q:=q) ho z.b0 z.b1;exact⟨a.1,a.2,b.1,b.2,λe=>z.ne (JW ho z.a0 z.b0 e),z.l0,z.l1⟩
def By{k:Nat}(f:Int->Int)(hk:k<ts.length):aX (ts++us.map (rM f)) k=aX ts k:=by
 unfold aX;rw[aaa,aaE hk,aaa]
def xU{k:Nat}(f:Int->Int)(hk:k<us.length):aX (ts++us.map (rM f)) (ts.length+k)=rM f (aX us k):=by
 unfold aX;rw[aaa,aaO (by lia),show ts.length+k-ts.length=k by lia,aan,aaf hk,aaa,aaf hk]
 rfl
def BA(g:aA p ts)(h:aA q us)(b:aA (pV p q o) (ts++us.map (rM (jn p o))))(ho:∀c,o=some c->c<p):RM.gr b.N g.N h.N id (λy=>(jn p o (y:Int)).toNat) (o.getD 0) 0:=by
 have q1:=h.p1;have hP:p<=pV p q o:=by
  unfold pV;cases o<;>dsimp only<;>lia
 refine⟨by show(ts++us.map (rM (jn p o))).length=_;rw[aah,aac];rfl,λk hk=>?_,λk hk=>?_,λx hx=>aaj hx hP,λy hy=>?_,λ_ _ _ _ e=>e,λy z hy hz e=>?_,λx y hx hy e=>?_⟩
 ·show(aX _ k).1.toNat=(aX ts k).1.toNat/\(aX _ k).2.1.toNat=(aX ts k).2.1.toNat;rw[By _ hk];exact⟨rfl,rfl⟩
 ·show(aX _ (ts.length+k)).1.toNat=(jn p o ((aX us k).1.toNat:Int)).toNat/\(aX _ (ts.length+k)).2.1.toNat=(jn p o ((aX us k).2.1.toNat:Int)).toNat;have z:=h.nY _ (dZ hk);rw[xU _ hk,acr z.a0,acr z.b0];exact⟨rfl,rfl⟩
 ·have hy:y<q:=hy;have:=xT (q:=q) ho (y:=(y:Int)) (by lia) (by lia)
  show _<pV p q o
  lia
 ·have hy:y<q:=hy;have hz:z<q:=hz;have a:=xT (q:=q) ho (y:=(y:Int)) (by lia) (by lia)
  have b:=xT (q:=q) ho (y:=(z:Int)) (by lia) (by lia)
  have:=JW ho (y:=(y:Int)) (z:=(z:Int)) (by lia) (by lia) (by lia)
  lia
 ·have hy:y<q:=hy;have e:x=(jn p o (y:Int)).toNat:=e;have a:=xT (q:=q) ho (y:=(y:Int)) (by lia) (by lia)
  have:=MM (p:=p) (o:=o) (y:=(y:Int)) hx (by lia) (by lia)
  exact⟨this.1,by lia⟩
def rN(f:Int->Int){k:Nat}(hk:k<us.length):aQ (ts++us.map (rM f)) (ts.length+k)=aQ us k:=by
 unfold aQ;rw[xU f hk];rfl
def uO(f:Int->Int){k:Nat}(hk:k<ts.length):aQ (ts++us.map (rM f)) k=aQ ts k:=by
 unfold aQ;rw[By f hk]
def BB{N:RM.Net}{L L' : Nat->Int}{rs:List Nat}(h:∀k,k<N.n->L k=L' k)(b:RM.LB N L rs):RM.LB N L' rs:=by
 have e:∀m,RM.len N L m=RM.len N L' m:=λm=>by
  unfold RM.len;have:∀n,n<=N.n->RM.lsum L (λk=>m.testBit k) n=RM.lsum L' (λk=>m.testBit k) n:=λn=>by
   induction n with
   | zero=>exact λ_=>rfl
   | succ n ih =>
     intro hn;show RM.lsum L _ n+(if m.testBit n=true then L n else 0)=RM.lsum L' _ n+(if m.testBit n=true then L' n else 0)
     rw[ih (by lia),h n (by lia)]
  exact this _ (aae _)
 refine⟨b.1,λr m h1 h2 h3=>?_⟩
 obtain⟨x,x1,x2,x3⟩:=b.2 r m h1 h2 h3;exact⟨x,x1,x2,by rw[<-e,<-e];exact x3⟩
def Gp(g:aA p ts)(h:aA q us)(b:aA (pV p q o) (ts++us.map (rM (jn p o))))(ho:∀c,o=some c->c<p){rs as bs:List Nat}(hr:RM.LB b.N (aQ (ts++us.map (rM (jn p o)))) rs)(ha:RM.LB g.N (aQ ts) as)(hb:RM.LB h.N (aQ us) bs)
 {l' : List Int} (p' : l'.Perm (as.map (lenOf ts)++bs.map (lenOf us))) (u' : l'.Pairwise (·<=·)) (u:(rs.map (lenOf (ts++us.map (rM (jn p o))))).Pairwise (·<=·)):rs.map (lenOf (ts++us.map (rM (jn p o))))=l':=by
 have t:=BA g h b ho;have lo:∀{p:Nat} {ts:List cC} {g:aA p ts} {rs:List Nat},RM.LB g.N (aQ ts) rs->rs.map (lenOf ts)=rs.map (RM.len g.N (aQ ts)):=λ{p ts g rs} h=>abR λr hr=>C8 (h.1.ring r hr).2
 have e1:∀r,RM.len g.N (aQ (ts++us.map (rM (jn p o)))) r=RM.len g.N (aQ ts) r:=λr=>by
  unfold RM.len;have:∀n,n<=ts.length->RM.lsum (aQ (ts++us.map (rM (jn p o)))) (λk=>r.testBit k) n=RM.lsum (aQ ts) (λk=>r.testBit k) n:=λn=>by
   induction n with
   | zero=>exact λ_=>rfl
   | succ n ih =>
     intro hn;show RM.lsum _ _ n+(if r.testBit n=true then aQ _ n else 0)=RM.lsum _ _ n+(if r.testBit n=true then aQ ts n else 0)
     rw[ih (by lia),uO _ (by lia)]
  exact this _ (aae _)
 have e2:∀r,RM.len h.N (λk=>aQ (ts++us.map (rM (jn p o))) (g.N.n+k)) r=RM.len h.N (aQ us) r:=λr=>by
  unfold RM.len;have:∀n,n<=us.length->RM.lsum (λk=>aQ (ts++us.map (rM (jn p o))) (ts.length+k)) (λk=>r.testBit k) n=RM.lsum (aQ us) (λk=>r.testBit k) n:=λn=>by
   induction n with
   | zero=>exact λ_=>rfl
   | succ n ih =>
     intro hn;show RM.lsum _ _ n+(if r.testBit n=true then aQ _ (ts.length+n) else 0)=RM.lsum _ _ n+(if r.testBit n=true then aQ us n else 0)
     rw[ih (by lia),rN _ (by lia)]
  exact this _ (aae _)
 rw[lo ha,lo hb,<-abR λr _=>e1 r,<-abR λr _=>e2 r]at p'
 refine t.lens hr (BB (λk hk=>(uO _ hk).symm) ha) (BB (λk hk=>(rN _ hk).symm) hb) ?_ p' u u'
 rw[lo hr]
end
end Ring
namespace L2
open PySem
def uP{lo:Int}{n:Nat}{g:TG}{tb:TS}{D:Ends}{σ:St}{H:Hp}(Pv:Nat->St->Hp->Prop)(h0:Pv 0 σ H)
 (hs:∀i,let D' : Ends:={ D with nx:=Pv (i+1),ct:=Pv (i+1),bk:=D.nx};∀σ H,i<n->Pv i σ H->g (.int (lo+i)) σ H λσ2 H2=>tb D' σ2 H2) (hd:∀σ H,Pv n σ H->D.nx σ H) :
 ∃W:Nat->Nat->St->Hp->Prop,(∃m,W 0 m σ H)/\∀i m σ H,W i m σ H->
   ((HC lo n).stop i H/\D.nx σ H)\/((HC lo n).go i H/\∃N:St->Hp->Prop,(∀σ' H',N σ' H'->∃m',m'<m/\W (i+1) m' σ' H')/\∀x H',(HC lo n).KZ i H x H'->g x σ H' λσ2 H2=>tb { D with nx:=N,ct:=N,bk:=D.nx} σ2 H2) :=
 mR Pv h0 (λi σ H hi p=>hs i σ H hi p) hd
def iN{K:bM}{a:Addr}{xs:List V}{g:TG}{tb:TS}{D:Ends}{σ:St}{H:Hp}(Pv:Nat->St->Hp->Prop)(h0:Pv 0 σ H)(hl:∀i σ H,i<=xs.length->Pv i σ H->aL K H a xs)
 (hs:∀i x,let D' : Ends:={ D with nx:=Pv (i+1),ct:=Pv (i+1),bk:=D.nx};∀σ H,xs[i]?=some x->Pv i σ H->g x σ H λσ2 H2=>tb D' σ2 H2) (hd:∀σ H,Pv xs.length σ H->D.nx σ H) :
 ∃W:Nat->Nat->St->Hp->Prop,(∃m,W 0 m σ H)/\∀i m σ H,W i m σ H->
   ((Lj K a).stop i H/\D.nx σ H)\/((Lj K a).go i H/\∃N:St->Hp->Prop,(∀σ' H',N σ' H'->∃m',m'<m/\W (i+1) m' σ' H')/\∀x H',(Lj K a).KZ i H x H'->g x σ H' λσ2 H2=>tb { D with nx:=N,ct:=N,bk:=D.nx} σ2 H2) :=
 lS Pv h0 hl (λi x σ H hi p=>hs i x σ H hi p) hd
def JX{X:Cx}{e:Expr}{T:String}{r:V->List V->Hp->VK->Prop}{to:TE}{t:TA}(K:bM)(p:PE X e (UZ X.K T r to t))(h:X.K=K:=by rfl):PE X e (UZ K T r to t):=by subst h;exact p
def eX{K:bM}{H:Hp}{a:Addr}{xs:List V}{k:Int}{v:V}{R:V->Prop}(hs:bg K H a xs)(ha:Hl xs k=some v)(q:R v):∃p ys k' w,V.ref a = .ref p/\V.int k = .int k'/\bg K H p ys/\Hl ys k' = some w/\R w:=⟨a,xs,k,v,rfl,rfl,hs,ha,q⟩
def iA{K:bM}{H:Hp}{a:Addr}{xs:List V}{k:Int}{v:V}{R:V->Prop}(hs:aL K H a xs)(ha:Hl xs k=some v)(q:R v):∃p ys k' w,V.ref a = .ref p/\V.int k = .int k'/\aL K H p ys/\Hl ys k' = some w/\R w:=⟨a,xs,k,v,rfl,rfl,hs,ha,q⟩
def cD{i j:Int}{R:Int->Int->Prop}(h:R i j):∃i' j',V.int i = .int i'/\V.int j = .int j'/\R i' j':=⟨i,j,rfl,rfl,h⟩
def rZ{K:bM}{H:Hp}{a:Addr}{xs:List V}{E:Addr->Prop}{R:List V->Prop}(e:E a)(h:aL K H a xs\/bg K H a xs)(q:R xs):∃p ys,E p/\(aL K H p ys\/bg K H p ys)/\R ys:=⟨a,xs,e,h,q⟩
def av{α:Type}{A R:α->Prop}{x:α}(h:A x)(r:R x):∃x,A x/\R x:=⟨x,h,r⟩
open PySem PySem.Spec PyProof.Rows
section
variable {K:bM}{mg:oE}{x:Str}{st:Stmt}{f c0 p0:Addr}{fd:FuncData}{ps:List Str}{h:Heap}
structure Dc(K:bM)(mg:oE)(x:Str)(f:Addr)(fd:FuncData)(ps:List Str):Prop where
 m:mg x=some (.ref f)
 k:PySem.W.keepIn K (.ref f)=true
 b:Binds K fd ps []
structure Dk(K:bM)(x:Str)(st:Stmt)(f:Addr)(fd:FuncData):Prop where
 F:LG K x x st f fd
 n:PySem.W.nsIn K mainGlobals x=some (some (.ref f))
structure Py(K:bM)(x:Str)(st:Stmt)(f:Addr)(fd:FuncData)(c0 p0:Addr):Prop where
 F:Dh K x x st f fd c0 p0
 n:PySem.W.nsIn K mainGlobals x=some (some (.ref f))
structure Dn(K:bM)(mg:oE)(x:Str)(st:Stmt)(f:Addr)(fd:FuncData)(ps:List Str):Prop where
 F:LG K x x st f fd
 c:Dc K mg x f fd ps
structure NR(K:bM)(mg:oE)(x:Str)(st:Stmt)(f:Addr)(fd:FuncData)(ps:List Str)(c0 p0:Addr):Prop where
 F:Dh K x x st f fd c0 p0
 c:Dc K mg x f fd ps
def dk{oc:Value}{od an:Option Addr}{osl:Array (Option Value)}{kV doc pm cdv ct:Value}(a:PySem.W.nsIn K mainGlobals x=some (some (.ref f)))
 (l:K.lookup f=some ⟨oc,od,.func (PySem.W.fnOf x x (dG st) (bW st) (ai st) .none kV doc pm an cdv ct),osl⟩) (c:PySem.W.codeIn K cdv x=true) (k:PySem.W.keepIn K (.ref f)=true) :
 Dk K x st f (PySem.W.fnOf x x (dG st) (bW st) (ai st) .none kV doc pm an cdv ct):=⟨Ox l c k,a⟩
def dkL{oc:Value}{od an:Option Addr}{osl:Array (Option Value)}{kV doc pm ct:Value}(a:PySem.W.nsIn K mainGlobals x=some (some (.ref f)))
 (l:K.lookup f=some ⟨oc,od,.func (PySem.W.fnOf x x (dG st) (bW st) (ai st) .none kV doc pm an (.ref c0) ct),osl⟩) (c:PySem.W.codeIn K (.ref c0) x=true) (k:PySem.W.keepIn K (.ref f)=true) (d:PySem.W.codeHdIn K c0 p0=true) :
 Py K x st f (PySem.W.fnOf x x (dG st) (bW st) (ai st) .none kV doc pm an (.ref c0) ct) c0 p0:=⟨Mw l c k d,a⟩
structure Ng(K:bM)(x:Str):Prop where
 n:PySem.W.nsIn K mainGlobals x=some none
def Bn(x:Str)(st:Stmt)(ps:List Str)(us:List Value):Prop:=∀(kV doc pm:Value) (an:Option Addr) (cdv ct:Value),bindArgs (PySem.W.fnOf x x (dG st) (bW st) (ai st) .none kV doc pm an cdv ct) ⟨us,[]⟩=pure (ps.zip us)
def NS(h:∀us:List Value,us.length=ps.length->Bn x st ps us)(kV doc pm:Value)(an:Option Addr)(cdv ct:Value)(us:List Value)(hl:us.length=ps.length):
 bindArgs (PySem.W.fnOf x x (dG st) (bW st) (ai st) .none kV doc pm an cdv ct) ⟨us,[]⟩=pure (ps.zip us):=h us hl kV doc pm an cdv ct
def Dk.dn(X:K.In h)(G:h.Ns mainGlobals mg)(D:Dk K x st f fd)(hb:∀us:List Value,us.length=ps.length->Bn x st ps us):Dn K mg x st f fd ps:=⟨D.F,PySem.W.mg_of X G D.n,D.F.kp,D.F.binds (NS hb)⟩
def Py.dn(X:K.In h)(G:h.Ns mainGlobals mg)(D:Py K x st f fd c0 p0)(hb:∀us:List Value,us.length=ps.length->Bn x st ps us):NR K mg x st f fd ps c0 p0:=⟨D.F,PySem.W.mg_of X G D.n,D.F.kp,D.F.binds (NS hb)⟩
def bn1{y:Str}(h:∀a,Bn x st [y] [a])(us:List Value)(hl:us.length=[y].length):Bn x st [y] us:=by obtain⟨_,rfl⟩:=Vg us hl;exact h _
def XF{y z:Str}(h:∀a b,Bn x st [y,z] [a,b])(us:List Value)(hl:us.length=[y,z].length):Bn x st [y,z] us:=by obtain⟨_,_,rfl⟩:=Vh us hl;exact h _ _
def XG{y z u:Str}(h:∀a b c,Bn x st [y,z,u] [a,b,c])(us:List Value)(hl:us.length=[y,z,u].length):Bn x st [y,z,u] us:=by obtain⟨_,_,_,rfl⟩:=Vi us hl;exact h _ _ _
def bn4{y z u v:Str}(h:∀a b c d,Bn x st [y,z,u,v] [a,b,c,d])(us:List Value)(hl:us.length=[y,z,u,v].length):Bn x st [y,z,u,v] us:=by obtain⟨_,_,_,_,rfl⟩:=Vj us hl;exact h _ _ _ _
def zO{y:Str}(X:K.In h)(G:h.Ns mainGlobals mg)(D:Dk K x st f fd)(e:∀a,Bn x st [y] [a]:=by intros;exact λ_ _ _ _ _ _=>rfl):Dn K mg x st f fd [y]:=D.dn X G (bn1 e)
def sZ{y z:Str}(X:K.In h)(G:h.Ns mainGlobals mg)(D:Dk K x st f fd)(e:∀a b,Bn x st [y,z] [a,b]:=by intros;exact λ_ _ _ _ _ _=>rfl):Dn K mg x st f fd [y,z]:=D.dn X G (XF e)
def QE{y z u:Str}(X:K.In h)(G:h.Ns mainGlobals mg)(D:Dk K x st f fd)(e:∀a b c,Bn x st [y,z,u] [a,b,c]:=by intros;exact λ_ _ _ _ _ _=>rfl):Dn K mg x st f fd [y,z,u]:=D.dn X G (XG e)
def dn4{y z u v:Str}(X:K.In h)(G:h.Ns mainGlobals mg)(D:Dk K x st f fd)(e:∀a b c d,Bn x st [y,z,u,v] [a,b,c,d]:=by intros;exact λ_ _ _ _ _ _=>rfl):Dn K mg x st f fd [y,z,u,v]:=D.dn X G (bn4 e)
def dl2{y z:Str}(X:K.In h)(G:h.Ns mainGlobals mg)(D:Py K x st f fd c0 p0)(e:∀a b,Bn x st [y,z] [a,b]:=by intros;exact λ_ _ _ _ _ _=>rfl):NR K mg x st f fd [y,z] c0 p0:=D.dn X G (XF e)
def dl3{y z u:Str}(X:K.In h)(G:h.Ns mainGlobals mg)(D:Py K x st f fd c0 p0)(e:∀a b c,Bn x st [y,z,u] [a,b,c]:=by intros;exact λ_ _ _ _ _ _=>rfl):NR K mg x st f fd [y,z,u] c0 p0:=D.dn X G (XG e)
def Dn.ok{P:Program}{w:World}{base:Heap}{N:List Str}{k:Nat}{sp:Sp}(D:Dn K mg x st f fd ps)(S:aE N ps (ai st))
 (hbody:∀(cdv:Value) (A:Around) (outer:List Env) (s:Shared) (H:Hp) (vs:List V) (Q:VK) (E:XK),eK k (A.deeper (envOfC x (ai st) s.heap.objs.size f cdv))->sp vs H Q E->
  ∃t,wO (rQ Ek P w K mg base N x (ai st) f cdv A outer s H E).Cm (bW st) t/\t { nx:=λ_ H'=>Q .dS H',rt:=Q} (start N vs) H)
 (len:∀vs H Q E,sp vs H Q E->vs.length=ps.length:=by
  intro vs H Q E h
  first
  | (obtain⟨_,rfl,_⟩:=h;rfl)
  | (obtain⟨_,_,rfl,_⟩:=h;rfl)
  | (obtain⟨_,_,_,rfl,_⟩:=h;rfl)
  | (obtain⟨_,_,_,_,rfl,_⟩:=h;rfl)
  | (obtain⟨_,_,_,_,_,rfl,_⟩:=h;rfl)
  | (obtain⟨_,_,_,_,_,_,rfl,_⟩:=h;rfl)
  | (obtain⟨_,_,_,_,_,_,_,rfl,_⟩:=h;rfl)
  | (obtain⟨_,_,_,_,_,_,_,_,rfl,_⟩:=h;rfl)
  | (obtain⟨_,_,_,_,_,_,_,_,_,rfl,_⟩:=h;rfl)):lT P w K mg base Ek (k+1) f fd ps sp:=D.F.ok S len hbody
def NR.ok{P:Program}{w:World}{base:Heap}{N:List Str}{k:Nat}{sp:Sp}(D:NR K mg x st f fd ps c0 p0)(S:aE N ps (ai st))
 (hbody:∀(A:Around) (outer:List Env) (s:Shared) (H:Hp) (vs:List V) (Q:VK) (E:XK),eK k (A.deeper (envOfC x (ai st) s.heap.objs.size f (.ref c0)))->sp vs H Q E->
  ∃t,wO (rQ Ek P w K mg base N x (ai st) f (.ref c0) A outer s H E).Cm (bW st) t/\t { nx:=λ_ H'=>Q .dS H',rt:=Q} (start N vs) H)
 (len:∀vs H Q E,sp vs H Q E->vs.length=ps.length:=by
  intro vs H Q E h
  first
  | (obtain⟨_,rfl,_⟩:=h;rfl)
  | (obtain⟨_,_,rfl,_⟩:=h;rfl)
  | (obtain⟨_,_,_,rfl,_⟩:=h;rfl)
  | (obtain⟨_,_,_,_,rfl,_⟩:=h;rfl)
  | (obtain⟨_,_,_,_,_,rfl,_⟩:=h;rfl)
  | (obtain⟨_,_,_,_,_,_,rfl,_⟩:=h;rfl)
  | (obtain⟨_,_,_,_,_,_,_,rfl,_⟩:=h;rfl)
  | (obtain⟨_,_,_,_,_,_,_,_,rfl,_⟩:=h;rfl)
  | (obtain⟨_,_,_,_,_,_,_,_,_,rfl,_⟩:=h;rfl)):lT P w K mg base Ek (k+1) f fd ps sp:=D.F.ok S len hbody
def Dn.Eo{P:Program}{w:World}{base:Heap}{N:List Str}{k:Nat}{sp:Sp}(D:Dn K mg x st f fd ps)(S:aE N ps (ai st))
 (hbody:∀(cdv:Value) (A:Around) (outer:List Env) (s:Shared) (H:Hp) (vs:List V) (Q:VK) (E:XK),eK k (A.deeper (envOfC x (ai st) s.heap.objs.size f cdv))->sp vs H Q E->
  ∃t,wO (rQ (Ig P w) P w K mg base N x (ai st) f cdv A outer s H E) (bW st) t/\t { nx:=λ_ H'=>Q .dS H',rt:=Q} (start N vs) H)
 (len:∀vs H Q E,sp vs H Q E->vs.length=ps.length:=by
  intro vs H Q E h
  first
  | (obtain⟨_,rfl,_⟩:=h;rfl)
  | (obtain⟨_,_,rfl,_⟩:=h;rfl)
  | (obtain⟨_,_,_,rfl,_⟩:=h;rfl)
  | (obtain⟨_,_,_,_,rfl,_⟩:=h;rfl)
  | (obtain⟨_,_,_,_,_,rfl,_⟩:=h;rfl)
  | (obtain⟨_,_,_,_,_,_,rfl,_⟩:=h;rfl)
  | (obtain⟨_,_,_,_,_,_,_,rfl,_⟩:=h;rfl)
  | (obtain⟨_,_,_,_,_,_,_,_,rfl,_⟩:=h;rfl)
  | (obtain⟨_,_,_,_,_,_,_,_,_,rfl,_⟩:=h;rfl)):lT P w K mg base (Ig P w) (k+1) f fd ps sp:=D.F.Eo S len hbody
def Pz{y:Str}(D:Dk K x st f fd)(e:∀a,Bn x st [y] [a]:=by intros;exact λ_ _ _ _ _ _=>rfl)(s:Shared)(v:Value):BindsTo s fd ⟨[v],[]⟩ [(y,v)]:=by
 obtain⟨oc,od,kV,doc,pm,an,cdv,ct,osl,rfl,lk,hcd⟩:=D.F.ex;exact .of_eq (e v kV doc pm an cdv ct)
end
section
variable {X:Cx}
def aH{CX:Hj}{k r:Nat}{f:Addr}{fd:FuncData}{ps:List Str}{sp:Sp}{x:Str}{E:XK}{e:Expr}{es:List Expr}{t:TA}{p pos:Pos}
 (F:lT X.prog X.w X.K X.mg X.base CX k f fd ps sp) (hr:eK r X.A) (D:Dc X.K X.mg x f fd ps) (hx:Passes CX X E) (ha:PA X (e::es) t) (hk:k<=r:=by decide) (hg:Gl X x:=by rfl)
 (hdb:(x==("__debug__":Str))=false:=by decide) (he:starEach (e::es) X.env=(false,eval e X.env)::starEach es X.env:=by rfl) (hpl:(backTo pos (starEach es X.env)).any (·.1)=false:=by rfl) :
 PE X (.Call (.Name x p) (e::es) [] pos) (Nl sp [] E t):=Lr F (hr.mono hk) hg D.m D.k D.b .nil hx ha hdb he hpl
def kC(l:List Str)(h:l.Nodup:=by decide +kernel):l.Nodup:=h
def cU{p pos:Pos}{e:Expr}{es:List Expr}{t:TA}(K:bM)(hm:X.mg "len"=none)(ha:PA X (e::es) t)(hK:X.K=K:=by rfl)(hg:Gl X "len":=by rfl)
 (he:starEach (e::es) X.env=(false,eval e X.env)::starEach es X.env:=by rfl) (hpl:(backTo pos (starEach es X.env)).any (·.1)=false:=by rfl):PE X (.Call (.Name "len" p) (e::es) [] pos) (UT (RH K) t) :=
 dI (U5 K hK) hg hm PySem.boot_len ha (by decide) (by decide) he hpl
def aM{a b:Expr}{ta tb:TE}{pos:Pos}{r:R2}(hr:Qs X r)(ha:PE X a ta)(hb:PE X b tb)(hs:Ej b:=by exact λ_ _=>rfl):PE X (.Subscript a b pos) (Qq r ta tb):=Rt hr ha hb hs
def bB{x:Str}{pos:Pos}(i:Nat)(hN:X.N.Nodup)(hi:X.N[i]?=some x:=by exact rfl)(hx:Loc X.env.scope x:=by exact Or.inl rfl)(hf:X.fn x=true\/X.env.scope.names.lookup x=some .local:=by first | exact .inl rfl | exact .inr rfl | assumption):PG X (.Name x pos) (D6 i):=yi hN hi hx hf
end
end L2
set_option maxHeartbeats 4000000
namespace K66
open PySem L2 Ring
local macro_rules | `(tactic| trivial)=>`(tactic| exact⟨rfl,rfl,rfl,by decide +kernel,rfl,by decide +kernel,by decide +kernel⟩)
def top(i:Nat):Stmt:=PySem.Challenge.pw_ringbase_k66_whole_webs_put_together.main.body.getD i (.Pass ⟨0,0,0,0⟩)
section
variable {iO jd kH oF tu zP E3 K5 K6 NT Gq MN Sv Sw Sx Sy:TS}{nk Hr TX XH:TT}{tw QF:TI}{tD QG:TG}{D:Ends}{σ:St}{H:Hp}
abbrev qC:Stmt:=top 7
def Dv:aE ["tie_set","tie"] ["tie_set","tie"] (ai qC):=by trivial
abbrev nq:Stmt:=top 8
def Dw:aE ["tie_set"] ["tie_set"] (ai nq):=by trivial
abbrev uQ:Stmt:=top 9
def nu:aE ["web","ties","found","tie"] ["web","ties"] (ai uQ):=by trivial
def xV(h:let c7:=iO;let dO:=jd;let fL:=kH;let je:=(az (cy nk fL bz) dO);let kI:=(az (eV tw tD je) c7);(az oF kI) D σ H):(az oF (az (eV tw tD (az (cy nk kH bz) jd)) iO)) D σ H:=h
abbrev om:Stmt:=top 10
def BC:aE ["web"] ["web"] (ai om):=by trivial
abbrev uR:Stmt:=top 11
def Gr:aE ["web","number"] ["web","number"] (ai uR):=by trivial
abbrev mz:Stmt:=top 12
def yZ:aE ["web","tie_set"] ["web","tie_set"] (ai mz):=by trivial
def pF(h:let c7:=iO;(cy nk c7 bz) D σ H):(cy nk iO bz) D σ H:=h
abbrev iD:Stmt:=top 13
def vN:aE ["web","tie_set"] ["web","tie_set"] (ai iD):=by trivial
def jG(h:let c7:=iO;(az jd c7) D σ H):(az jd iO) D σ H:=h
abbrev jq:Stmt:=top 14
def y9:aE ["web","tie_set"] ["web","tie_set"] (ai jq):=by trivial
abbrev iE:Stmt:=top 15
def eY:aE ["web","tie_set","ends","one","other","length"] ["web","tie_set"] (ai iE):=by trivial
def nN(h:let c7:=iO;let dO:=jd;let fL:=(az kH dO);let je:=(az (eV tw tD fL) c7);(az oF je) D σ H):(az oF (az (eV tw tD (az kH jd)) iO)) D σ H:=h
abbrev ee:Stmt:=top 16
def fY:aE ["leasts","one","other","low","high"] ["leasts","one","other"] (ai ee):=by trivial
def jr(h:let c7:=iO;let dO:=(az jd c7);(az kH dO) D σ H):(az kH (az jd iO)) D σ H:=h
abbrev pG:Stmt:=top 17
def fF:aE ["web","tie_set","leasts","one","other","length","found","start"] ["web","tie_set"] (ai pG):=by trivial
def Gs(h:let c7:=iO;let dO:=jd;let fL:=(cy nk dO bz);let je:=(az (eV tw tD fL) c7);let kI:=(az kH je);let pH:=oF;let uS:=(az (eV QF QG pH) kI);(az tu uS) D σ H):(az tu (az (eV QF QG oF) (az kH (az (eV tw tD (cy nk jd bz)) iO)))) D σ H:=h
abbrev Dy:Stmt:=top 18
def MO:aE ["web"] ["web"] (ai Dy):=by trivial
abbrev qD:Stmt:=top 20
def Dz:aE ["web","tie_set"] ["web","tie_set"] (ai qD):=by trivial
abbrev ff:Stmt:=top 21
def aZ:aE ["web","leasts","trails","tie","one","other","bridge","moved"] ["web"] (ai ff):=by trivial
def qF(h:let c7:=iO;let dO:=jd;let fL:=(az kH dO);let je:=(az oF fL);let kI:=(az tu je);let pH:=(cy nk kI bz);let uS:=(az zP pH);let BD:=(az E3 uS);let za:=(az (eV tw tD BD) c7);let BE:=(az K5 za);(az K6 BE) D σ H):(az K6 (az K5 (az (eV tw tD (az E3 (az zP (cy nk (az tu (az oF (az kH jd))) bz)))) iO))) D σ H:=h
abbrev uT:Stmt:=top 22
def nv:aE ["web","found","trail"] ["web"] (ai uT):=by trivial
def Gu(h:let c7:=iO;let dO:=jd;let fL:=(az (eV tw tD dO) c7);(az kH fL) D σ H):(az kH (az (eV tw tD jd) iO)) D σ H:=h
abbrev uU:Stmt:=top 23
def Gv:aE ["web"] ["web"] (ai uU):=by trivial
abbrev jH:Stmt:=top 24
def mC:aE ["web","trails","chord","tie"] ["web","trails","chord"] (ai jH):=by trivial
abbrev k9:Stmt:=top 25
def vO:aE ["web","tie"] ["web","tie"] (ai k9):=by trivial
def jI(h:let c7:=iO;let dO:=jd;(az (cy nk dO bz) c7) D σ H):(az (cy nk jd bz) iO) D σ H:=h
abbrev ny:Stmt:=top 27
def uV:aE ["web","tie_set","touched"] ["web","tie_set"] (ai ny):=by trivial
def DA(h:let c7:=iO;let dO:=(az jd c7);let fL:=kH;(az (cy nk fL bz) dO) D σ H):(az (cy nk kH bz) (az jd iO)) D σ H:=h
abbrev jt:Stmt:=top 28
def zb:aE ["web","rings"] ["web","rings"] (ai jt):=by trivial
def eg:Pos:=⟨93,29,93,70⟩
abbrev uW:Stmt:=top 30
def Gw:aE ["one","other"] ["one","other"] (ai uW):=by trivial
abbrev jJ:Stmt:=top 31
def uX:aE ["tie_set","marks"] ["tie_set","marks"] (ai jJ):=by trivial
abbrev qG:Stmt:=top 32
def lg:aE ["web","side","ahead","point"] ["web","side"] (ai qG):=by trivial
abbrev pJ:Stmt:=top 33
def Gx:aE ["web","side"] ["web","side"] (ai pJ):=by trivial
abbrev nA:Stmt:=top 34
def lq:aE ["web","tie_set","trails","side","amiss"] ["web","tie_set"] (ai nA):=by trivial
def DB(h:let c7:=iO;let dO:=jd;let fL:=(az (cy nk dO bz) c7);let je:=(az kH fL);let kI:=(az oF je);let pH:=(az tu kI);(az zP pH) D σ H):(az zP (az tu (az oF (az kH (az (cy nk jd bz) iO))))) D σ H:=h
abbrev ez:Stmt:=top 36
def cJ:aE ["web","marks","steps","tie","ends","turn"] ["web","marks"] (ai ez):=by trivial
def pL(h:let c7:=iO;let dO:=jd;let fL:=(az kH dO);let je:=(az oF fL);let kI:=(az (eV tw tD je) c7);(az tu kI) D σ H):(az tu (az (eV tw tD (az oF (az kH jd))) iO)) D σ H:=h
abbrev fZ:Stmt:=top 37
def bC:aE ["web","marks","start","steps","found","waiting","nearest","way","tie","point","turn","part","further"] ["web","marks","start"] (ai fZ):=by trivial
def vP(h:let c7:=iO;let dO:=jd;let fL:=(cy Hr dO bz);let je:=(az kH fL);let kI:=(az oF je);let pH:=(eV tw tD kI);let uS:=(az tu pH);let BD:=(az zP uS);let za:=(az E3 BD);let BE:=(az (tH nk za) c7);let uY:=(az K5 BE);let r6:=(az K6 uY);(az NT r6) D σ H):(az NT (az K6 (az K5 (az (tH nk (az E3 (az zP (az tu (eV tw tD (az oF (az kH (cy Hr jd bz)))))))) iO)))) D σ H:=h
def cM:Pos:=⟨131,35,131,63⟩
abbrev iw:Stmt:=top 38
def qH:aE ["way"] ["way"] (ai iw):=by trivial
abbrev eA:Stmt:=top 39
def pM:aE ["ways"] ["ways"] (ai eA):=by trivial
abbrev eB:Stmt:=top 41
def pN:aE ["web","marks"] ["web","marks"] (ai eB):=by trivial
abbrev fg:Stmt:=top 42
def qI:aE ["ways"] ["ways"] (ai fg):=by trivial
abbrev ju:Stmt:=top 43
def lu:aE ["web","marks","ways","rounds"] ["web","marks"] (ai ju):=by trivial
def zc(h:let c7:=iO;let dO:=jd;let fL:=(az (cy nk dO bz) c7);let je:=(az kH fL);let kI:=(az oF je);(az tu kI) D σ H):(az tu (az oF (az kH (az (cy nk jd bz) iO)))) D σ H:=h
abbrev eZ:Stmt:=top 45
def cV:aE ["web","waiting","found","marks","ring"] ["web"] (ai eZ):=by trivial
def uZ(h:let c7:=iO;let dO:=jd;let fL:=(az kH dO);let je:=(az oF fL);let kI:=(az tu je);let pH:=(az (tH nk kI) c7);let uS:=(az zP pH);(az E3 uS) D σ H):(az E3 (az zP (az (tH nk (az tu (az oF (az kH jd)))) iO))) D σ H:=h
abbrev nB:Stmt:=top 46
def DC:aE ["web"] ["web"] (ai nB):=by trivial
abbrev ly:Stmt:=top 49
def vQ:aE ["web"] ["web"] (ai ly):=by trivial
abbrev jv:Stmt:=top 50
def gb:aE ["web","found","chord","ring"] ["web"] (ai jv):=by trivial
abbrev jw:Stmt:=top 51
def zd:aE ["web"] ["web"] (ai jw):=by trivial
abbrev jK:Stmt:=top 53
def mD:aE ["rows","step","place"] ["rows","step"] (ai jK):=by trivial
def u4(h:let c7:=iO;let dO:=jd;let fL:=(cy nk dO bz);(az (eV tw tD fL) c7) D σ H):(az (eV tw tD (cy nk jd bz)) iO) D σ H:=h
abbrev gU:Stmt:=top 54
def u6:aE ["row","lead_row","step","divisor"] ["row","lead_row","step","divisor"] (ai gU):=by trivial
abbrev jL:Stmt:=top 55
def bE:aE ["table","rows","sign","divisor","step","place","lead_row","below"] ["table"] (ai jL):=by trivial
def u9(h:let c7:=iO;let dO:=jd;let fL:=kH;let je:=(az (eV QF QG fL) dO);let kI:=oF;let pH:=(az tu kI);let uS:=(az zP pH);let BD:=(az E3 uS);let za:=(az (cy nk BD bz) je);let BE:=K5;let uY:=(az (cy Hr BE bz) za);let r6:=(az K6 uY);let BF:=(az (eV tw tD r6) c7);let BG:=(az NT BF);let JY:=(az Gq BG);(az MN JY) D σ H):(az MN (az Gq (az NT (az (eV tw tD (az K6 (az (cy Hr K5 bz) (az (cy nk (az E3 (az zP (az tu oF))) bz) (az (eV QF QG kH) jd))))) iO)))) D σ H:=h
abbrev gf:Stmt:=top 57
def r9:aE ["web","one","other"] ["web","one","other"] (ai gf):=by trivial
abbrev cB:Stmt:=top 58
def cH:aE ["web","leasts","kept","table","one","counts"] ["web"] (ai cB):=by trivial
def se(h:let c7:=iO;let dO:=jd;let fL:=(az kH dO);let je:=(az (eV tw tD fL) c7);let kI:=(az oF je);let pH:=(az tu kI);(az zP pH) D σ H):(az zP (az tu (az oF (az (eV tw tD (az kH jd)) iO)))) D σ H:=h
abbrev jM:Stmt:=top 59
def vc:aE ["web"] ["web"] (ai jM):=by trivial
abbrev jN:Stmt:=top 61
def vd:aE ["script","k"] ["script","k"] (ai jN):=by trivial
abbrev mE:Stmt:=top 62
def lz:aE ["cell","k","near","stir"] ["cell","k"] (ai mE):=by trivial
abbrev lA:Stmt:=top 63
def vR:aE ["cell","way"] ["cell","way"] (ai lA):=by trivial
def vS(h:let c7:=iO;let dO:=jd;let fL:=(az (cy nk dO bz) c7);let je:=kH;(az (cy Hr je bz) fL) D σ H):(az (cy Hr kH bz) (az (cy nk jd bz) iO)) D σ H:=h
abbrev qJ:Stmt:=top 64
def lB:aE ["cell","points","way","one","other"] ["cell","points","way"] (ai qJ):=by trivial
def DE(h:let c7:=iO;let dO:=(az jd c7);let fL:=(az kH dO);(az oF fL) D σ H):(az oF (az kH (az jd iO))) D σ H:=h
abbrev gC:Stmt:=top 65
def bH:aE ["script","most","ranked","head","points","way","cells","ties","marks","free","cell","tie","joined","old"] ["script","most","ranked"] (ai gC):=by trivial
def DF(h:let c7:=iO;let dO:=jd;let fL:=(az kH dO);let je:=(az oF fL);let kI:=(az tu je);let pH:=(cy nk kI bz);let uS:=(az zP pH);let BD:=(az E3 uS);let za:=(az (eV tw tD BD) c7);let BE:=(az K5 za);let uY:=(az K6 BE);let r6:=(az NT uY);let BF:=Gq;let BG:=(az MN BF);let JY:=(az (cy Hr BG bz) r6);let Sz:=(az Sv JY);let SA:=(az Sw Sz);let SD:=(az Sx SA);(az Sy SD) D σ H):(az Sy (az Sx (az Sw (az Sv (az (cy Hr (az MN Gq) bz) (az NT (az K6 (az K5 (az (eV tw tD (az E3 (az zP (cy nk (az tu (az oF (az kH jd))) bz)))) iO))))))))) D σ H:=h
abbrev jx:Stmt:=top 67
def pO:aE ["script","most","web"] ["script","most"] (ai jx):=by trivial
def ze(h:let c7:=iO;let dO:=jd;let fL:=(az (cy nk dO bz) c7);(az kH fL) D σ H):(az kH (az (cy nk jd bz) iO)) D σ H:=h
abbrev oq:Stmt:=top 68
def dP:aE ["one","other","at","ties","first","second","length","ends","point"] ["one","other","at"] (ai oq):=by trivial
def BH(h:let c7:=iO;let dO:=jd;let fL:=oF;let je:=tu;let kI:=kH;let pH:=(cy Hr fL je);let uS:=(cy nk kI pH);let BD:=(az (eV QF QG uS) dO);let za:=(az zP BD);let BE:=(az (eV tw tD za) c7);(az E3 BE) D σ H):(az E3 (az (eV tw tD (az zP (az (eV QF QG (cy nk kH (cy Hr oF tu))) jd))) iO)) D σ H:=h
abbrev xW:Stmt:=top 69
def mF:aE ["script","head","one","other","at","both","due"] ["script"] (ai xW):=by trivial
def PB(h:let c7:=iO;let dO:=(az jd c7);let fL:=kH;let je:=(az (cy nk fL bz) dO);let kI:=oF;let pH:=(az (cy Hr kI bz) je);let uS:=tu;let BD:=(az (cy TX uS bz) pH);let za:=(az zP BD);let BE:=E3;let uY:=(az (cy XH BE bz) za);let r6:=(az K5 uY);let BF:=(az K6 r6);let BG:=(az NT BF);(az Gq BG) D σ H):(az Gq (az NT (az K6 (az K5 (az (cy XH E3 bz) (az zP (az (cy TX tu bz) (az (cy Hr oF bz) (az (cy nk kH bz) (az jd iO)))))))))) D σ H:=h
end
set_option genInjectivity false
set_option genSizeOf false
structure VY where
 Gy:Addr
 Gz:FuncData
 GA:Addr
 GB:FuncData
 JZ:Addr
 J0:FuncData
 DG:Addr
 DH:FuncData
 J7:Addr
 J8:FuncData
 BI:Addr
 BJ:FuncData
 zf:Addr
 zg:FuncData
 BK:Addr
 BL:FuncData
 zh:Addr
 zj:FuncData
 qK:Addr
 qL:FuncData
 J9:Addr
 Ka:FuncData
 PC:Addr
 PD:FuncData
 GC:Addr
 GD:FuncData
 sj:Addr
 sq:FuncData
 Kc:Addr
 Kd:FuncData
 Ke:Addr
 Kf:FuncData
 vU:Addr
 vV:FuncData
 zk:Addr
 zm:FuncData
 GF:Addr
 GG:FuncData
 BN:Addr
 BO:FuncData
 Kg:Addr
 Kh:FuncData
 vW:Addr
 vX:FuncData
 GH:Addr
 GI:FuncData
 Kl:Addr
 Km:FuncData
 GJ:Addr
 GK:FuncData
 qM:Addr
 qN:FuncData
 zo:Addr
 zp:FuncData
 sr:Addr
 sy:FuncData
 qO:Addr
 qP:FuncData
 qQ:Addr
 qR:FuncData
 sA:Addr
 sC:FuncData
 BP:Addr
 BQ:FuncData
 vY:Addr
 vZ:FuncData
 GL:Addr
 GN:FuncData
 zq:Addr
 zu:FuncData
 BR:Addr
 BS:FuncData
 BU:Addr
 BV:FuncData
 wc:Addr
 we:FuncData
 wg:Addr
 wj:FuncData
 wm:Addr
 wq:FuncData
 ve:Addr
 vf:FuncData
 vg:Addr
 vh:FuncData
 wu:Addr
 wA:FuncData
 wB:Addr
 wC:FuncData
 BW:Addr
 BX:FuncData
 zy:Addr
 zz:FuncData
 GO:Addr
 GP:FuncData
 GQ:Addr
 GR:FuncData
 BY:Addr
 BZ:FuncData
 DI:Addr
 DJ:FuncData
 SE:Addr
 SG:FuncData
 dQ:Addr
 DK:Addr
 qS:Addr
 nC:Addr
 B3:Addr
 fG:Addr
 zA:Addr
 c8:Addr
structure Txt(P:Program)(w:World)(base:Heap)(K:bM)(mg:oE)(a:VY):Prop where
 nE:Dn K mg "has_tie" qC a.Gy a.Gz ["tie_set","tie"]
 gD:Dn K mg "ties_in" nq a.GA a.GB ["tie_set"]
 vj:Dn K mg "set_of" uQ a.JZ a.J0 ["web","ties"]
 gE:Dn K mg "all_ties" om a.DG a.DH ["web"]
 vm:Dn K mg "is_set" uR a.J7 a.J8 ["web","number"]
 g9:Dn K mg "check_set" mz a.BI a.BJ ["web","tie_set"]
 gh:Dn K mg "triples_in" iD a.zf a.zg ["web","tie_set"]
 jy:Dn K mg "length_of" jq a.BK a.BL ["web","tie_set"]
 lC:Dn K mg "odd_points" iE a.zh a.zj ["web","tie_set"]
 eE:Dn K mg "drawn_together" ee a.qK a.qL ["leasts","one","other"]
 mG:Dn K mg "pieces" pG a.J9 a.Ka ["web","tie_set"]
 ou:Dn K mg "rank" Dy a.PC a.PD ["web"]
 qT:Dn K mg "is_even" qD a.GC a.GD ["web","tie_set"]
 dh:Dn K mg "forest_trails" ff a.sj a.sq ["web"]
 vn:Dn K mg "forest" uT a.Kc a.Kd ["web"]
 mH:Dn K mg "chords" uU a.Ke a.Kf ["web"]
 jO:Dn K mg "ring_closed" jH a.vU a.vV ["web","trails","chord"]
 iF:Dn K mg "chord_ring" k9 a.zk a.zm ["web","tie"]
 qU:Dn K mg "is_ring" ny a.GF a.GG ["web","tie_set"]
 hU:NR K mg "by_length" jt a.BN a.BO ["web","rings"] a.B3 a.fG
 vo:Dn K mg "common" uW a.Kg a.Kh ["one","other"]
 gV:Dn K mg "bears_oddly" jJ a.vW a.vX ["tie_set","marks"]
 qV:Dn K mg "is_side" qG a.GH a.GI ["web","side"]
 vp:Dn K mg "cut_of" pJ a.Kl a.Km ["web","side"]
 qW:Dn K mg "side_of" nA a.GJ a.GK ["web","tie_set"]
 gF:Dn K mg "steps_by_point" ez a.qM a.qN ["web","marks"]
 iG:NR K mg "least_ways" fZ a.zo a.zp ["web","marks","start"] a.zA a.c8
 fh:Dn K mg "length_of_way" iw a.sr a.sy ["way"]
 gG:Dn K mg "worths_of_ways" eA a.qO a.qP ["ways"]
 gH:Dn K mg "all_least_ways" eB a.qQ a.qR ["web","marks"]
 iy:Dn K mg "worths_of_all" fg a.sA a.sC ["ways"]
 mJ:Dn K mg "least_odd" ju a.BP a.BQ ["web","marks"]
 jP:Dn K mg "least_rings" eZ a.vY a.vZ ["web"]
 kD:Dn K mg "lengths" nB a.GL a.GN ["web"]
 lD:Dn K mg "check_rank" ly a.zq a.zu ["web"]
 mK:Dn K mg "even_sets" jv a.BR a.BS ["web"]
 ic:Dn K mg "all_rings" jw a.BU a.BV ["web"]
 jQ:Dn K mg "row_to_lead" jK a.wc a.we ["rows","step"]
 jR:Dn K mg "row_cleared" gU a.wg a.wj ["row","lead_row","step","divisor"]
 jS:Dn K mg "determinant" jL a.wm a.wq ["table"]
 i8:Dn K mg "ties_between" gf a.ve a.vf ["web","one","other"]
 i9:Dn K mg "points_table" cB a.vg a.vh ["web"]
 e7:Dn K mg "forest_many" jM a.wu a.wA ["web"]
 gW:Dn K mg "_law_cell_at" jN a.wB a.wC ["script","k"]
 ie:Dn K mg "_law_mixed" mE a.BW a.BX ["cell","k"]
 lE:Dn K mg "_law_length" lA a.zy a.zz ["cell","way"]
 qX:Dn K mg "_law_tie" qJ a.GO a.GP ["cell","points","way"]
 qY:Dn K mg "_law_web" gC a.GQ a.GR ["script","most","ranked"]
 jz:Dn K mg "_law_small" jx a.BY a.BZ ["script","most"]
 oz:Dn K mg "_law_both" oq a.DI a.DJ ["one","other","at"]
 NU:Dn K mg "law" xW a.SE a.SG ["script"]
 MP:mg "ValueError"=none
 VZ:mg "bool"=none
 mL:mg "enumerate"=none
 Kn:mg "int"=none
 MQ:mg "isinstance"=none
 e8:mg "len"=none
 zB:mg "list"=none
 Ko:mg "max"=none
 Kp:mg "min"=none
 b7:mg "range"=none
 pP:mg "sorted"=none
 SH:mg "sum"=none
 pQ:mg "tuple"=none
 Kq:mg "zip"=none
 B4:∃t,mg "MOST_RANK"=some (.int 8 t)
 SJ:mg "BadSet"=some (.ref a.dQ)
 PF:mg "BadPoint"=some (.ref a.DK)
 QH:mg "NoChord"=some (.ref a.qS)
 QI:mg "TooMany"=some (.ref a.nC)
 Ks:∀h:Heap,K.In h->h.Ns mainGlobals mg->PyProof.Rows.OwnCls "BadSet" a.dQ [.type "ValueError",.type "Exception",.type "BaseException",.type "object"] "ValueError.__new__" mg h
 GS:∀h:Heap,K.In h->h.Ns mainGlobals mg->PyProof.Rows.OwnCls "NoChord" a.qS [.type "ValueError",.type "Exception",.type "BaseException",.type "object"] "ValueError.__new__" mg h
 GU:∀h:Heap,K.In h->h.Ns mainGlobals mg->PyProof.Rows.OwnCls "TooMany" a.nC [.type "ValueError",.type "Exception",.type "BaseException",.type "object"] "ValueError.__new__" mg h
section
variable {P:Program}{w:World}{K:bM}{mg:oE}{base:Heap}{a:VY}{x:Str}{st:Stmt}{f c0 p0:Addr}{fd:FuncData}{ps:List Str}
abbrev Ok(_:Txt P w base K mg a)(_:Dn K mg x st f fd ps)(k:Nat)(sp:Sp):=lT P w K mg base Ek k f fd ps sp
abbrev Hs(_:Txt P w base K mg a)(_:Dn K mg x st f fd ps)(k:Nat)(sp:Sp):=lT P w K mg base (Ig P w) k f fd ps sp
abbrev XI(_:Txt P w base K mg a)(_:NR K mg x st f fd ps c0 p0)(k:Nat)(sp:Sp):=lT P w K mg base Ek k f fd ps sp
end
def DL:Sp:=λvs H Q _=>∃(S:Int) (k:Nat),vs=[.int S,.int (k:Int)]/\Q (.bl (bit S k)) H
def DM:Sp:=λvs H Q _=>∃m:Nat,vs=[.int (m:Int)]/\Builtin.Int.intBits (m:Int)<=1000/\∀D H',H D=none->aq H H'->H' D=some (.lst (aB (bu (m:Int))))->Q (.ref D) H'
def B5:Sp:=λvs H Q _=>∃w p ts,vs=[.ref w]/\bx H w p ts/\LQ p ts/\Q (.int (2^ts.length-1)) H
def GV:Sp:=λvs H Q _=>∃w p ts S,vs=[.ref w,.int S]/\bx H w p ts/\LQ p ts/\Q (.bl (decide (0<=S/\S<2^ts.length))) H
def pR(ts:List cC)(S:Int)(bad:Prop)(R:Nat->Prop):Prop:=(∃m:Nat,S=(m:Int)/\m<2^ts.length/\R m)\/((S<0\/2^ts.length<=S)/\bad)
def zC(C:Addr):Sp:=λvs H Q E=>∃w p ts S,vs=[.ref w,.int S]/\bx H w p ts/\LQ p ts/\pR ts S (E (.ref C) none H) λ_=>Q .dS H
def wF(C:Addr):Sp:=λvs H Q E=>∃w p ts S,vs=[.ref w,.int S]/\bx H w p ts/\LQ p ts/\pR ts S (E (.ref C) none H) λm =>
 ∀D ys H',H D=none->aq H H'->H' D=some (.lst ys)->Paired (TupAt H') ys ((bu (m:Int)).map (aX ts))->Q (.ref D) H'
def wG(C:Addr):Sp:=λvs H Q E=>∃w p ts S,vs=[.ref w,.int S]/\bx H w p ts/\LQ p ts/\pR ts S (∀H',aq H H'->E (.ref C) none H') λm =>
 ∀D H',aq H H'->H' D=some (.lst (aB (tS p ts (m:Int))))->Q (.ref D) H'
def DN(C:Addr):Sp:=λvs H Q E=>∃w p ts S,vs=[.ref w,.int S]/\bx H w p ts/\LQ p ts/\pR ts S (∀H',aq H H'->E (.ref C) none H') λm=>∀H',aq H H'->Q (.bl (decide (tS p ts (m:Int)=[]))) H'
section
variable {P:Program}{w:World}{K:bM}{mg:oE}{base:Heap}{a:VY}(T:Txt P w base K mg a)
def iP:Ok T T.nE 1 DL:=by
 refine T.nE.ok Dv λ_ A _ s H vs Q E hr h=>?_
 ·obtain⟨S,k,rfl,q⟩:=h;refine⟨_,(ay (aJ (dW gX (aI HF (aI Oj (pv 0) (pv 1)) ao) ao (aO _)))),?_⟩;refine(av rfl (av rfl (cD ⟨(by lia),cD ⟨rfl,?_⟩⟩)))
  rw[aau,ON];exact q
def bQ:Ok T T.gD 2 DM:=by
 have iP:=iP T;refine T.gD.ok Dw λ_ A _ s H vs Q E hr h=>?_
 ·obtain⟨m,rfl,hm,k⟩:=h;refine⟨_,(ay (aJ (bK (own:=["tie"]) (fq:=["tie_set"]) (js:=[0]) (aC (ai nq) ["tie_set"]) rfl (bU (by rfl) T.b7 (aa (Ow PySem.F.plainAttrs_int PyProof.Rows.slot_int_bit_length PyProof.Rows.type_int_bit_length LJ (pv 0)) af)) (λ_ _ _ _=>(bB 0 (kC ["tie","tie_set"]))) (λ_ _ _ _=>(fQ (kK (aH iP hr T.nE.c aP (aa (pv 1) (aa (pv 0) af)))))) (λ_ _ _ _=>(pv 0))))),?_⟩
  refine(av rfl ⟨rfl,av rfl ⟨rfl,av rfl ⟨(by lia),(by lia),λD hD=>cz (lo:=0) (m:=Builtin.Int.intBits (m:Int)) (lW (bit (m:Int)) H D) (.start hD) (λi acc H2 _ p=>p.len) (dl (abi.mpr hm)) ?_ ?_⟩⟩⟩)
  ·intro i acc H2 hi p;rw[abl];refine⟨rfl,av rfl (av rfl ⟨(m:Int),i,rfl,av rfl (?_)⟩)⟩;cases hb:bit (m:Int) i with
   | true=>exact(av rfl (p.yes hD (aq.refl _) hb))
   | false=>exact p.no (aq.refl _) hb
  ·intro acc H2 p;exact k D H2 hD p.1 (by rw[p.2.1,p.2.2];rfl)
def b9:Ok T T.gE 1 B5:=by
 refine T.gE.ok BC λ_ A _ s H vs Q E hr h=>?_
 ·obtain⟨wb,p,ts,rfl,hw,W,q⟩:=h;refine⟨_,(ay (aJ (aI nU (aI pZ ao (cU K T.e8 (aa (aM (eO K) (pv 0) ao) af))) ao))),?_⟩;obtain⟨b,xs,h1,h2,h3⟩:=hw.ex;have hl:=h3.length;have wl:=W.len;refine(av rfl (eX (bg.of h1) (au (j:=1) rfl) (rZ rfl (.inr (bg.of h2)) (cD ⟨⟨by lia,by lia,by decide⟩,cD (?_)⟩))))
  rw[aau,hl,abU];exact q
def vq:Ok T T.vm 2 GV:=by
 have b9:=b9 T;refine T.vm.ok Gr λ_ A _ s H vs Q E hr h=>?_
 ·obtain⟨wb,p,ts,S,rfl,hw,W,q⟩:=h;refine⟨_,(ay (aJ (Hz (dW HJ (pv 1) ao (aO _)) (Hy (dW Nk (pv 1) (aH b9 hr T.gE.c aP (aa (pv 0) af)) (aO _)))))),?_⟩;refine(av rfl (cD (av rfl (nV (λhlt=>?_) (λhlt=>?_)))))
  ·have hlt:0<=S:=jB hlt;refine(av rfl (av rfl ⟨wb,p,ts,rfl,hw,W,_,_,rfl,rfl,?_⟩));have e:decide (S<=2^ts.length-1)=decide (0<=S/\S<2^ts.length):=aa9.mpr ⟨λz=>⟨hlt,by lia⟩,λz=>by lia⟩
   rw[<-e]at q;exact q
  ·have hlt : ¬ 0<=S:=λz=>hlt (cF z)
   rw[eI (λz=>hlt z.1)]at q
   exact q
def cK:Hs T T.g9 3 (zC a.dQ):=by
 have vq:=vq T;refine T.g9.Eo yZ λ_ A _ s H vs Q E hr h=>?_
 ·obtain⟨wb,p,ts,S,rfl,hw,W,q⟩:=h;refine⟨_,(ay (cN (Cs (kK (aH vq hr T.vm.c aP (aa (pv 0) (aa (pv 1) af))))) (ay (tQ fu.Vf rfl (by rfl) T.Ks acV (aa pX af))) bF)),?_⟩
  refine pF ?_;intro c7;refine(av rfl (av rfl ⟨wb,p,ts,S,rfl,hw,W,?_⟩));have h2:((2:Int)^ts.length)=((2^ts.length:Nat):Int):=by simp
  rcases q with⟨m,rfl,hm,q⟩|⟨hS,q⟩
  ·rw[cF ⟨by lia,by lia⟩]
   exact(av rfl (gn q))
  ·rw[eI (by lia)]
   exact(av rfl (jg ⟨dl rfl,q⟩))
def cj:Hs T T.gh 4 (wF a.dQ):=by
 have cK:=cK T;have bQ:=bQ T;refine T.gh.Eo vN λ_ A _ s H vs Q E hr h=>?_
 ·obtain⟨wb,p,ts,S,rfl,hw,W,q⟩:=h;refine⟨_,(aj (cY (aH cK hr T.g9.c fu.passes (aa (pv 0) (aa (pv 1) af))))
   (ay (aJ (bK (own:=["tie"]) (fq:=["web"]) (js:=[0]) (aC (ai iD) ["web","tie_set"]) rfl (rW K (aH bQ hr T.gD.c aP (aa (pv 1) af))) (λ_ _ _ _=>(bB 0 (kC ["tie","web"]))) (λ_ _ _ _=>bJ) (λ_ _ _ _=>(aM (eO K) (aM (eO K) (pv 1) ao) (pv 0))))))),?_⟩
  refine jG ?_;intro c7;refine(av rfl (av rfl ⟨wb,p,ts,S,rfl,hw,W,?_⟩));rcases q with⟨m,rfl,hm,q⟩|⟨hS,q⟩
  ·refine .inl ⟨m,rfl,hm,?_⟩;have wl:=W.len;have hb:Builtin.Int.intBits (m:Int)<=ts.length:=bits_le hm;refine(av rfl ⟨m,rfl,by lia,λL H1 _ s1 hL=>⟨L,rfl,⟨_,aL.of hL⟩,λD hD=>?_⟩⟩)
   obtain⟨b,xs,h1,h2,h3⟩:=(hw.same s1).ex;have zQ:=h3.length;refine bO (xs:=aB (bu (m:Int))) (λi acc H2=>aq H1 H2/\H2 D=some (.lst acc)/\Paired (TupAt H2) acc (((bu (m:Int)).take i).map (aX ts))/\acc.length=i) ⟨aq.new hD,ae,.nil,rfl⟩ ?_ ?_ ?_ ?_
   ·rintro i acc H2 _ ⟨s2,hd,pr,hac⟩;exact⟨aL.of (s2 _ _ hL),hd,Nat.le_of_eq hac⟩
   ·rw[aD];refine dl (abi.mpr (aaD (aaG _ _) ?_));rw[aay]
    lia
   ·rintro i x acc H2 hx ⟨s2,hd,pr,hac⟩;obtain⟨k,hk,rfl⟩:=cR hx;have xg:k<ts.length:=sG hm (iq hk);have hkx:k<xs.length:=by lia
    obtain⟨t,ht,c,hc,hct⟩:=Paired.nX h3 (i:=k) (x:=xs[k]) (by simp[hkx])
    have Sa:aX ts k=t:=by
     unfold aX;rw[aaa,ht];rfl
    refine⟨rfl,av rfl (eX (bg.of (s2 _ _ h1)) (au (j:=1) rfl) (av rfl (eX (v:=xs[k]) (bg.of (s2 _ _ h2)) (au (j:=k) (by simp[hkx])) (?_))))⟩
    rw[hc];refine⟨hd,s2.put hD,ae,?_,by rw[aah,aaU,hac]⟩
    rw[aaZ,hk,aat];refine Paired.snoc (Paired.imp' (λ_ _ z=>z.tups (dJ.put hd)) pr) ?_
    rw[Sa];exact⟨c,rfl,dJ.put hd _ _ (s2 _ _ hct)⟩
   ·rintro acc H2 ⟨s2,hd,pr,hac⟩;rw[aD,aa5]at pr;exact q D acc H2 (s1.free hD) (s1.trans s2) hd pr
  ·exact .inr ⟨hS,q⟩
def lF:Hs T T.lC 5 (wG a.dQ):=by
 have cj:=cj T;refine T.lC.Eo eY λ_ A _ s H vs Q E hr h=>?_
 ·obtain⟨wb,p,ts,S,rfl,hw,W,q⟩:=h;refine⟨_,(aj (aG (i:=2) eY.nd rfl (Or.inr rfl) (aI HV (eM (aa ao af)) (aM (eO K) (pv 0) ao)))
   (aj (yw rfl (rW K (aH cj hr T.gh.c fu.passes (aa (pv 0) (aa (pv 1) af)))) (K0 K (n:=3) rfl (aW (bB 3 eY.nd) (aW (bB 4 eY.nd) (aW (bB 5 eY.nd) fN))))
   (aj (D7 (pv 2) (pv 3) (getL K) ao D9 set_list)
   (ay (D7 (pv 2) (pv 4) (getL K) ao D9 set_list))))
   (ay (aJ (bK (own:=["point"]) (fq:=["ends"]) (js:=[2]) (aC (ai iE) ["web","tie_set","ends","one","other","length"]) rfl (bU (by rfl) T.b7 (aa (aM (eO K) (pv 0) ao) af)) (λ_ _ _ _=>(bB 0 (kC ["point","ends"]))) (λ_ _ _ _=>(fQ (aN gX (aI eJ (aM (ik K) (pv 1) (pv 0)) ao) ao (aO _)))) (λ_ _ _ _=>(pv 0))))))),?_⟩
  refine nN ?_;intro c7 dO fL je;obtain⟨b,xs,h1,h2,h3⟩:=id hw.ex;have wp:=W.pV;refine⟨dl rfl,λl0 El=>?_⟩
  have s0:aq H (upd H l0 (.lst [.int 0])):=aq.new El;refine(av rfl (eX (bg.of (s0 _ _ h1)) (au (j:=0) rfl) ⟨l0,(p:Int),av rfl ⟨rfl,ae,by lia,by lia,(by rw[aau];show 1*p<=sizeLine;exact dl (abi.mpr (by lia))),λe he=>?_⟩⟩))
  have s1:=s0.trans (aq.new (o:=.lst (List.replicate (p:Int).toNat [V.int 0]).flatten) he);have Ug:upd (upd H l0 (.lst [.int 0])) e (.lst (List.replicate (p:Int).toNat [V.int 0]).flatten) e=some (.lst (cE (List.replicate p 0))):=by
   rw[ae,aau,Ip]
  generalize upd (upd H l0 (.lst [.int 0])) e (.lst (List.replicate (p:Int).toNat [V.int 0]).flatten)=H1 at s1 Ug;have XJ:H e=none:=s0.free he;refine(av rfl (av rfl ⟨wb,p,ts,S,rfl,hw.same s1,W,?_⟩));rcases q with⟨m,rfl,hm,q⟩|⟨hS,q⟩
  ·refine .inl ⟨m,rfl,hm,λL ys H2 XM s2 hL pr=>⟨L,rfl,⟨_,aL.of hL⟩,?_⟩⟩
   have s12:=s1.trans s2;have heL:e≠L:=bj Ug XM;have Ku:ys.length<=24:=by
    rw[pr.length,aac];have hb:Builtin.Int.intBits (m:Int)<=ts.length:=bits_le hm;have wl:=W.len;have:=aaG (bit (m:Int)) (List.range (Builtin.Int.intBits (m:Int)));rw[aay]at this;exact aaD this (by lia)
   refine iN (K:=K) (a:=L) (xs:=ys) (λi σ H3=>∃v1 v2 v3,σ=[some (.ref wb),some (.int (m:Int)),some (.ref e),v1,v2,v3]/\(∀x o,H2 x=some o->x≠e->H3 x=some o)/\H3 e=some (.lst (cE ((((bu (m:Int)).map (aX ts)).take i).foldl stepT (List.replicate p 0)))))
    ⟨none,none,none,rfl,λ_ _ z _=>z,s2 _ _ Ug⟩ (λi σ H3 _ ⟨_,_,_,_,z,_⟩=>aL.of (z _ _ hL (aa2 heL))) ?_ ?_
   ·rintro i y D' σ H3 hi ⟨v1,v2,v3,rfl,z3,SK⟩;obtain⟨t,ht,c,rfl,hc⟩:=Paired.nX pr hi;have hce:c≠e:=aU hc (s2 _ _ Ug) (by intro z;cases z)
    have hc3:=z3 _ _ hc hce;have Ss:t∈ts:=by
     obtain⟨k,hk,rfl⟩:=aaH.mp (iq ht);unfold aX;have xg:=sG hm hk;rw[aaa];simp[xg]
    obtain⟨a0,a1,b0,b1⟩:=W.Xk.ends t Ss;obtain⟨t1,t2,t3⟩:=t;dsimp only at a0 a1 b0 b1;obtain⟨j1,rfl⟩:=ab2 a0;obtain⟨j2,rfl⟩:=ab2 b0;generalize hE:(((bu (m:Int)).map (aX ts)).take i).foldl stepT (List.replicate p 0)=EE at SK;have XN:EE.length=p:=by rw[<-hE,qa,abJ]
    have XO:j1<EE.length:=by lia
    have K3:j2<(bump EE (j1:Int)).length:=by rw[j8];lia
    refine⟨c,_,rfl,bg.of hc3,rfl,_,_,rfl,_,_,rfl,_,_,rfl,rfl,?_⟩;refine(av rfl (av rfl ⟨e,_,j1,_,rfl,rfl,aL.of SK,gA XO,_,_,rfl,rfl,e,_,_,j1,rfl,rfl,SK,mV (by rw[cE,aac];exact XO),?_⟩))
    rw[tT];refine(av rfl (av rfl ⟨e,_,j2,_,rfl,rfl,aL.of ae,gA K3,_,_,rfl,rfl,e,_,_,j2,rfl,rfl,ae,mV (by rw[cE,aac];exact K3),?_⟩))
    rw[tT];refine⟨_,_,_,rfl,λx o z hx=>by rw[ak hx,ak hx];exact z3 x o z hx,?_⟩
    rw[ae,aaZ,ht,acG,hE];rfl
   ·rintro σ H3 ⟨v1,v2,v3,rfl,z3,SK⟩;have hwe:wb≠e:=bj h1 XJ;have nO:aq H H3:=λx o z=>z3 x o (s12 x o z) (bj z XJ)
    have hE:H3 e=some (.lst (cE (jE p ts (m:Int)))):=by
     rw[SK,ac8 (by rw[<-pr.length];exact aae _),xj hm]
    have XN:(jE p ts (m:Int)).length=p:=by rw[xj hm,qa,abJ]
    refine(av rfl (eX (bg.of (nO _ _ h1)) (au (j:=0) rfl) (av rfl ⟨(by lia),(by lia),λD hD=>cz (lo:=0) (m:=p) (lW (λi=>decide ((jE p ts (m:Int)).getD i 0%2=1)) H3 D) (.start hD) (λi acc H4 _ p=>p.len) (dl (abi.mpr (by lia))) ?_ ?_⟩)))
    ·intro i acc H4 hi pk;rw[abl];refine⟨rfl,av rfl (av rfl (iA (aL.of (pk.1 _ _ hE)) (au (j:=i) (gA (by rw[XN];exact hi))) (cD ⟨(rV rfl),rfl,av rfl (?_)⟩)))⟩
     rw[LS];cases hb:decide ((jE p ts (m:Int)).getD i 0%2=1) with
     | true=>exact(av rfl (pk.yes hD (aq.refl _) hb))
     | false=>exact pk.no (aq.refl _) hb
    ·intro acc H4 pk;exact q D H4 (nO.trans pk.1) (by rw[pk.2.1,pk.2.2];rfl)
  ·exact .inr ⟨hS,q _ s1⟩
def qZ:Hs T T.qT 6 (DN a.dQ):=by
 have lF:=lF T;refine T.qT.Eo Dz λ_ A _ s H vs Q E hr h=>?_
 ·obtain⟨wb,p,ts,S,rfl,hw,W,q⟩:=h;refine⟨_,(ay (aJ (dW (CG K hr.units) (aH lF hr T.lC.c fu.passes (aa (pv 0) (aa (pv 1) af))) (eM af) (aO _)))),?_⟩;refine(av rfl (av rfl ⟨wb,p,ts,S,rfl,hw,W,?_⟩));rcases q with⟨m,rfl,hm,q⟩|⟨hS,q⟩
  ·refine .inl ⟨m,rfl,hm,λD H1 s1 hD=>⟨dl rfl,λl hl=>?_⟩⟩
   have s2:aq H1 (upd H1 l (.lst [])):=aq.new hl;refine⟨_,_,.lst (aL.of (s2 _ _ hD)) (Aj _),.lst (aL.of ae) .nil,Al _,rfl,?_⟩;rw[LR];exact q _ (s1.trans s2)
  ·exact .inr ⟨hS,q⟩
def Kv:Sp:=λvs H Q _=>∃(l:Addr) (L:Nat->Nat) (p u v:Nat),vs=[.ref l,.int (u:Int),.int (v:Int)]/\H l=some (.lst (gZ L p))/\p<=10/\u<p/\v<p/\
 ∀D H',H D=none->aq H H'->H' D=some (.lst (gZ (RM.join L u v) p))->Q (.ref D) H'
def GW(C:Addr):Sp:=λvs H Q E=>∃w p ts,∃g:aA p ts,∃S,vs=[.ref w,.int S]/\bx H w p ts/\pR ts S (∀H',aq H H'->E (.ref C) none H') λm =>
 ∀D ys H',H D=none->aq H H'->H' D=some (.lst ys)->Paired (Nz D H H') ys ((bY (bq p ts g m) p).map (pieceOf (bq p ts g m) p))->Q (.ref D) H'
def MR:Sp:=λvs H Q _=>∃w p ts,∃g:aA p ts,vs=[.ref w]/\bx H w p ts/\∀H',aq H H'->Q (.int (g.N.ah.length:Int)) H'
def cu:Ok T T.eE 1 Kv:=by
 refine T.eE.ok fY λ_ A _ s H vs Q E hr h=>?_
 ·obtain⟨l,L,p,u,v,rfl,hl,hp,hu,hv,q⟩:=h;refine⟨_,(aj (aG (i:=3) fY.nd rfl (Or.inr rfl) (dI (Fo rfl) (by rfl) T.Kp PyProof.Rows.boot_min (aa (aM (ik K) (pv 0) (pv 1)) (aa (aM (ik K) (pv 0) (pv 2)) af))))
   (aj (aG (i:=4) fY.nd rfl (Or.inr rfl) (dI (wY rfl) (by rfl) T.Ko adl (aa (aM (ik K) (pv 0) (pv 1)) (aa (aM (ik K) (pv 0) (pv 2)) af))))
   (ay (aJ (bK (own:=["least"]) (fq:=["low","high"]) (js:=[3,4]) (aC (ai ee) ["leasts","one","other","low","high"]) rfl (rW K (pv 0)) (λ_ _ _ _=>(bB 0 (kC ["least","low","high"]))) (λ_ _ _ _=>bJ) (λ_ _ _ _=>(jZ (aN gX (pv 0) (pv 2) (aO _)) (pv 1) (pv 0)))))))),?_⟩
  refine jr ?_;intro c7 dO;refine(av rfl (av rfl (iA (aL.of hl) (au (j:=u) (cf hu)) (av rfl (av rfl (iA (aL.of hl) (au (j:=v) (cf hv)) ⟨_,_,rfl,?_⟩))))));refine(av rfl (av rfl (iA (aL.of hl) (au (j:=u) (cf hu)) (av rfl (av rfl (iA (aL.of hl) (au (j:=v) (cf hv)) ⟨_,_,rfl,?_⟩))))));refine(av rfl ⟨l,rfl,⟨_,aL.of hl⟩,λD hD=>bO (xs:=gZ L p) (yD (RM.join L u v) H D) (.start hD) (λi acc H2 _ pd=>⟨aL.of (pd.1 _ _ hl),pd.len⟩) (by rw[fW];exact dl (abi.mpr (by lia))) ?_ ?_⟩)
  ·intro i x acc H2 hx pd;obtain⟨hi,rfl⟩:=sJ hx;refine⟨rfl,av rfl (av rfl ⟨rfl,av rfl (?_)⟩)⟩;rw[Ew,kQ]
   by_cases hm:L i=max (L u) (L v)
   ·rw[cF hm];refine jg (av rfl (pd.next hD (aq.refl _) ?_));rw[LX];unfold RM.join;rw[aad hm]
   ·rw[eI hm];refine gn (av rfl (pd.next hD (aq.refl _) ?_));unfold RM.join;rw[aab hm]
  ·intro acc H2 pd;rw[fW]at pd;exact q D H2 hD pd.1 (by rw[pd.2.1,pd.2.2])
def gi:Hs T T.mG 5 (GW a.dQ):=by
 have cj:=cj T;have cu:=cu T;refine T.mG.Eo fF λ_ A _ s H vs Q E hr h=>?_
 ·obtain⟨wb,p,ts,g,S,rfl,hw,q⟩:=h;refine⟨_,(aj (aG (i:=2) fF.nd rfl (Or.inr rfl) (bV (Ny rfl) (by rfl) T.zB acE (aa (bV Ad (by rfl) T.b7 PyProof.Rows.boot_range (aa (aM (eO K) (pv 0) ao) af)) af)))
   (aj (yw rfl (rW K (aH cj hr T.gh.c fu.passes (aa (pv 0) (aa (pv 1) af)))) (K0 K (n:=3) rfl (aW (bB 3 fF.nd) (aW (bB 4 fF.nd) (aW (bB 5 fF.nd) fN))))
   (ay (aG (i:=2) fF.nd rfl (Or.inr rfl) (aH cu hr T.eE.c aP (aa (pv 2) (aa (pv 3) (aa (pv 4) af)))))))
   (aj (aG (i:=6) fF.nd rfl (Or.inl rfl) (eM af))
   (aj (yw rfl (bU (by rfl) T.b7 (aa (aM (eO K) (pv 0) ao) af)) (yi (i:=7) fF.nd rfl (Or.inr rfl))
   (ay (cN (aN gX (aM (ik K) (pv 2) (pv 7)) (pv 7) (aO _)) (ay (cY (JX K (lV aba abd abe cO (pv 6) (aa (bK (own:=["point"]) (fq:=["leasts","start"]) (js:=[2,7]) (aC (ai pG) ["web","tie_set","leasts","one","other","length","found","start"]) rfl (bU (by rfl) T.b7 (aa (aM (eO K) (pv 0) ao) af)) (λ_ _ _ _=>(bB 0 (kC ["point","leasts","start"]))) (λ_ _ _ _=>(fQ (aN gX (aM (ik K) (pv 1) (pv 0)) (pv 2) (aO _)))) (λ_ _ _ _=>(pv 0))) af))))) bF)))
   (ay (aJ (pv 6))))))),?_⟩
  refine Gs ?_;intro c7 dO fL je kI pH uS;obtain⟨b,xs,h1,h2,h3⟩:=id hw.ex;have W:=g.Iq;have wp:=W.pV;have wl:=W.len;refine(av rfl (eX (bg.of h1) (au (j:=0) rfl) (av rfl (λr hr=>⟨r,p,rfl,ae,by lia,λl hl=>?_⟩))))
  have s1:aq H (upd (upd H r (.Fd 0 (p:Int))) l (.lst (vL p))):=(aq.new hr).trans (aq.new hl);have hl1:upd (upd H r (.Fd 0 (p:Int))) l (.lst (vL p)) l=some (.lst (gZ (λx=>x) p)):=ae
  generalize upd (upd H r (.Fd 0 (p:Int))) l (.lst (vL p))=H1 at s1 hl1;refine(av rfl (av rfl ⟨wb,p,ts,S,rfl,hw.same s1,W,?_⟩));rcases q with⟨m,rfl,hm,q⟩|⟨hS,q⟩
  ·refine .inl ⟨m,rfl,hm,λT0 ys H2 Xi s2 hT pr=>⟨T0,rfl,⟨_,aL.of hT⟩,?_⟩⟩
   have Ku:ys.length<=24:=by
    rw[pr.length,aac];have hb:Builtin.Int.intBits (m:Int)<=ts.length:=bits_le hm;have:=aaG (bit (m:Int)) (List.range (Builtin.Int.intBits (m:Int)));rw[aay]at this;exact aaD this (by lia)
   refine iN (K:=K) (a:=T0) (xs:=ys) (λi σ H3=>∃la v3 v4 v5,σ=[some (.ref wb),some (.int (m:Int)),some (.ref la),v3,v4,v5,none,none]/\aq H2 H3/\H3 la=some (.lst (gZ (rD p ts g ((bu (m:Int)).take i)) p)))
    ⟨l,none,none,none,rfl,aq.refl _,s2 _ _ hl1⟩ (λi σ H3 _ ⟨_,_,_,_,_,z,_⟩=>aL.of (z _ _ hT)) ?_ ?_
   ·rintro i y D' σ H3 hi ⟨la,v3,v4,v5,rfl,s3,hla⟩;obtain⟨t,ht,c,rfl,hc⟩:=Paired.nX pr hi;have hc3:=s3 _ _ hc;rw[aan]at ht;obtain⟨k,hk,hkt⟩:=wM.mp ht;have xg:=sG hm (iq hk);have ea:=Es (g:=g) xg;have eb:=Et (g:=g) xg;rw[hkt]at ea eb;have la':=g.N.al k xg;have lb':=g.N.bl k xg;refine⟨c,_,rfl,bg.of hc3,rfl,_,_,rfl,_,_,rfl,_,_,rfl,rfl,?_⟩;refine(av rfl (av rfl (av rfl ⟨la,rD p ts g ((bu (m:Int)).take i),p,g.N.a k,g.N.b k,?_,hla,wp,la',lb',λD H4 PJ s4 hD=>?_⟩)))
    ·rw[<-ea,<-eb];rfl
    ·refine⟨D,_,_,_,rfl,s3.trans s4,?_⟩;rw[hD,aaZ,hk];show _=some (HO.lst (gZ (rD p ts g ((bu (m:Int)).take i++[k])) p));rw[CL]
   ·rintro σ H3 ⟨la,v3,v4,v5,rfl,s3,hla⟩;have hys:ys.length=(bu (m:Int)).length:=by rw[pr.length,aac]
    rw[hys,aa5,CM hm]at hla;have nO:aq H H3:=(s1.trans s2).trans s3;refine⟨dl rfl,λD hD=>?_⟩
    have t0:tY (bq p ts g m) p H3 D 0 (upd H3 D (.lst [])):=tY.start hD;generalize upd H3 D (.lst [])=H4 at t0;refine(av rfl (eX (bg.of (t0.1 _ _ (nO _ _ h1))) (au (j:=0) rfl) (av rfl ⟨(by lia),(by lia),?_⟩)))
    refine uP (lo:=0) (n:=(p:Int).toNat) (λi σ H5=>∃v7,σ=[some (.ref wb),some (.int (m:Int)),some (.ref la),v3,v4,v5,some (.ref D),v7]/\tY (bq p ts g m) p H3 D i H5) ⟨none,rfl,t0⟩ ?_ ?_
    ·rintro i D' σ H5 hi ⟨v7,rfl,t5⟩;rw[aau]at hi;rw[abl];have SM:=t5.1 _ _ hla;refine(av rfl (av rfl (iA (aL.of SM) (au (j:=i) (cf hi)) (av rfl ⟨rfl,av rfl (?_)⟩))));rw[kQ]
     by_cases hr:bq p ts g m i=i
     ·rw[cF hr];obtain⟨K7,Kw⟩:∃ys,H5 D=some (.lst ys):=let⟨_,ys,z,_⟩:=t5;⟨ys,z⟩;refine jg (av rfl ⟨.inl ⟨rfl,_,aL.of Kw⟩,av rfl (eX (bg.of (t5.1 _ _ (nO _ _ h1))) (au (j:=0) rfl) (av rfl ⟨(by lia),(by lia),λB hB=>cz (lo:=0) (m:=(p:Int).toNat) (lW (λx=>decide (bq p ts g m x=i)) H5 B) (.start hB) (λi acc H6 _ pk=>pk.len) (dl (abi.mpr (by lia))) ?_ ?_⟩))⟩)
      ·intro x acc H6 hx pk;rw[aau]at hx;rw[abl];refine⟨rfl,av rfl (av rfl (iA (aL.of (pk.1 _ _ SM)) (au (j:=x) (cf hx)) (av rfl ⟨rfl,av rfl (?_)⟩)))⟩;rw[kQ];cases hb:decide (bq p ts g m x=i) with
       | true=>exact(av rfl (pk.yes hB (aq.refl _) hb))
       | false=>exact pk.no (aq.refl _) hb
      ·intro acc H6 pk;have V0:H6 B=some (.lst (aB (pieceOf (bq p ts g m) p i))):=by rw[pk.2.1,pk.2.2,aau];rfl
       obtain⟨ys1,SN,hl1,t7⟩:=t5.push hD hr pk.1 hB V0;exact⟨D,ys1,_,rfl,rfl,SN,c5 (by lia),av rfl (t7)⟩
     ·rw[eI hr];exact gn (av rfl (t5.skip hr))
    ·rintro σ H5 ⟨v7,rfl,t5⟩;rw[aau]at t5;obtain⟨s5,QJ,Kw,E4,hl5⟩:=t5;exact(av rfl (q D QJ H5 (nO.free hD) (nO.trans s5) Kw (Paired.imp' (λ_ _ ⟨e,he,hn,h0,z⟩=>⟨e,he,hn,nO.free h0,z⟩) E4)))
  ·exact .inr ⟨hS,q _ s1⟩
def lG:Ok T T.ou 6 MR:=by
 have gi:=gi T;have b9:=b9 T;refine T.ou.ok MO λ_ A _ s H vs Q E hr h=>?_
 ·obtain⟨wb,p,ts,g,rfl,hw,q⟩:=h;refine⟨_,(ay (aJ (aI dD (aI nU (cU K T.e8 (aa (aM (eO K) (pv 0) ao) af)) (aM (eO K) (pv 0) ao)) (cU K T.e8 (aa (aH gi hr T.mG.c nK (aa (pv 0) (aa (aH b9 hr T.gE.c aP (aa (pv 0) af)) af))) af))))),?_⟩;obtain⟨b,xs,h1,h2,h3⟩:=id hw.ex;have zQ:=h3.length;have e2:((2:Int)^ts.length-1)=((2^ts.length-1:Nat):Int):=by
   have h:((2:Int)^ts.length)=((2^ts.length:Nat):Int):=by simp
   have:=aa0 ts.length
   lia
  have hlt:2^ts.length-1<2^ts.length:=by have:=aa0 ts.length;lia
  refine(av rfl (eX (bg.of h1) (au (j:=1) rfl) (rZ rfl (.inr (bg.of h2)) (av rfl (eX (bg.of h1) (au (j:=0) rfl) (cD (?_)))))));refine(av rfl (av rfl ⟨wb,p,ts,rfl,hw,g.Iq,wb,p,ts,g,_,rfl,hw,.inl ⟨2^ts.length-1,e2,hlt,λD ys H' PJ s' hD pr=>(rZ rfl (.inl (aL.of hD)) (cD (?_)))⟩⟩))
  have hv:=LW (g:=g);have hy:ys.length=(bY (bq p ts g (2^ts.length-1)) p).length:=by rw[pr.length,aac]
  show Q (.int ((xs.length:Int)-(p:Int)+(ys.length:Int))) H';rw[zQ,hy,hv];exact q H' s'
def DO(C:Addr):Sp:=λvs H Q E=>∃w p ts,∃g:aA p ts,∃S,vs=[.ref w,.int S]/\bx H w p ts/\pR ts S (∀H',aq H H'->E (.ref C) none H') λm=>∀H',aq H H'->Q (.bl (lM p ts g m)) H'
def q9:Hs T T.qU 7 (DO a.dQ):=by
 have qZ:=qZ T;have gi:=gi T;have bQ:=bQ T;refine T.qU.Eo uV λ_ A _ s H vs Q E hr h=>?_
 ·obtain⟨wb,p,ts,g,S,rfl,hw,q⟩:=h;refine⟨_,(aj (cN (Cs (kK (aH qZ hr T.qT.c fu.passes (aa (pv 0) (aa (pv 1) af))))) (ay (aJ wQ)) bF)
   (aj (fR (i:=2) uV.nd rfl rfl (own:=["piece"]) (fq:=[]) (js:=[]) (aC (ai ny) ["web","tie_set","touched"]) rfl (rW K (aH gi hr T.mG.c fu.passes (aa (pv 0) (aa (pv 1) af)))) (λ_ _ _ _=>(bB 0 (kC ["piece"]))) (λ_ _ _ _=>(fQ (aN zY (cU K T.e8 (aa (pv 0) af)) ao (aO _)))) (λ_ _ _ _=>(pv 0)))
   (ay (aJ (Hz (dW gX (cU K T.e8 (aa (pv 2) af)) ao (aO _)) (Hy (dW gX (cU K T.e8 (aa (aM (ik K) (pv 2) ao) af)) (cU K T.e8 (aa (aH bQ hr T.gD.c aP (aa (pv 1) af)) af)) (aO _)))))))),?_⟩
  refine DA ?_;intro c7 dO fL;have W:=g.Iq;have wp:=g.p2;have wl:=g.len;refine(av rfl (av rfl ⟨wb,p,ts,S,rfl,hw,W,?_⟩));rcases q with⟨m,rfl,hm,q⟩|⟨hS,q⟩
  ·refine .inl ⟨m,rfl,hm,λH1 s1=>(av rfl (?_))⟩
   by_cases ev:tS p ts (m:Int)=[]
   ·rw[cF ev];rw[CU ev]at q;refine gn (av rfl (av rfl ⟨wb,p,ts,g,_,rfl,hw.same s1,.inl ⟨m,rfl,hm,λD ys H2 PJ s2 hD pr=>⟨D,rfl,⟨_,aL.of hD⟩,λC hC=>?_⟩⟩⟩))
    have Ku:ys.length<=10:=by
     rw[pr.length,aac];unfold bY;have:=aaG (λx=>decide (bq p ts g m x=x)) (List.range p)
     rw[aay]at this;exact aaD this wp
    refine bO (xs:=ys) (ud (λl=>decide (1<l.length)) ((bY (bq p ts g m) p).map (pieceOf (bq p ts g m) p)) H2 C) (.start hC) (λi acc H3 _ sf=>⟨aL.of (sf.1 _ _ hD),sf.len⟩) (fT (by lia)) ?_ ?_
    ·intro i x acc H3 hx sf;obtain⟨l,hl,b,rfl,hbn,hb0,hb⟩:=Paired.nX pr hx;refine⟨rfl,av rfl (rZ rfl (.inl (aL.of (sf.1 _ _ hb))) (cD (av rfl (?_))))⟩;cases MS:decide (1<l.length) with
     | true =>
       have e:decide ((1:Int)<((aB l).length:Int))=true:=cF (by have:=jB MS;rw[aD];lia)
       show if decide ((1:Int)<((aB l).length:Int))=true then _ else _
       rw[e];exact jg (av rfl (sf.yes hC hl MS ⟨b,rfl,hb⟩))
     | false =>
       have e:decide ((1:Int)<((aB l).length:Int))=false:=eI (by have:=of_decide_eq_false MS;rw[aD];lia)
       show if decide ((1:Int)<((aB l).length:Int))=true then _ else _
       rw[e];exact gn (sf.no hl MS)
    ·intro acc H3 sf;have pa:Paired (OT H2) acc ((dm (bq p ts g m) p).map (pieceOf (bq p ts g m) p)):=by
      have h:=sf.2.2;rw[pr.length,aa5,List.filter_map]at h;exact h
     have hal:=pa.length;rw[aac]at hal;refine(av rfl (rZ rfl (.inl (aL.of sf.2.1)) ⟨rfl,av rfl (?_)⟩));have nO:=(s1.trans s2).trans sf.1;have aak:Builtin.Int.intBits (m:Int)<=ts.length:=bits_le hm;generalize dm (bq p ts g m) p=tl at q pa hal;cases tl with
     | nil =>
       have hal:acc.length=0:=hal;rw[hal];exact gn (q H3 nO)
     | cons s r =>
       cases r with
       | nil =>
         cases pa with
         | cons hy pn =>
           cases pn;obtain⟨b,rfl,hb⟩:=hy;refine jg (av rfl (iA (aL.of sf.2.1) (au (j:=0) rfl) (rZ rfl (.inl (aL.of (sf.1 _ _ hb))) (av rfl ⟨m,rfl,by lia,λD4 H4 hn4 s4 xX=>(rZ rfl (.inl (aL.of xX)) ⟨rfl,?_⟩)⟩))))
           rw[aD,aD,kQ];exact q H4 (nO.trans s4)
       | cons t r =>
         have hal:acc.length=r.length+2:=hal;have e:decide (V.int ((acc.length:Nat):Int)=V.int 1)=false:=eI λz=>by
          have:=V.int.inj z
          lia
         rw[e];exact gn (q H3 nO)
   ·rw[eI ev];have er:lM p ts g m=false:=by
     unfold lM;rw[eI ev,ach]
    rw[er]at q;exact jg (q H1 s1)
  ·exact .inr ⟨hS,q⟩
def GX:Sp:=λvs H Q _=>∃w p ts,∃g:aA p ts,vs=[.ref w]/\bx H w p ts/\∀D H',H D=none->aq H H'->H' D=some (.lst (gZ (g.N.trail ts.length) p))->Q (.ref D) H'
def GY:Sp:=λvs H Q _=>∃w p ts,∃g:aA p ts,vs=[.ref w]/\bx H w p ts/\∀H',aq H H'->Q (.int ((jl p ts g:Nat):Int)) H'
def GZ:Sp:=λvs H Q _=>∃w p ts,∃g:aA p ts,vs=[.ref w]/\bx H w p ts/\∀D H',H D=none->aq H H'->H' D=some (.lst (aB g.N.ah))->Q (.ref D) H'
def vt:Sp:=λvs H Q _=>∃w p ts,∃g:aA p ts,∃(D:Addr) (c:Nat),vs=[.ref w,.ref D,.int (c:Int)]/\bx H w p ts/\H D=some (.lst (gZ (g.N.trail ts.length) p))/\c<ts.length/\Q (.int ((g.N.ring c:Nat):Int)) H
def DQ{H:Hp}{xs:List V}{p:Nat}{ts:List cC}{g:aA p ts}{k:Nat}(h3:Paired (TupAt H) xs ts)(hk:k<ts.length):∃c,xs[k]?=some (.ref c)/\H c=some (.tup [.int ((g.N.a k:Nat):Int),.int ((g.N.b k:Nat):Int),.int (aX ts k).2.2]):=by
 have hkx:k<xs.length:=by rw[h3.length];exact hk
 obtain⟨t,ht,c,hc,hct⟩:=Paired.nX h3 (i:=k) (x:=xs[k]) (by simp[hkx])
 have Sa:t=aX ts k:=by
  have z:=qf hk;rw[ht]at z;exact Option.some.inj z
 refine⟨c,by rw[<-hc];simp[hkx],?_⟩
 rw[hct,<-Es hk,<-Et hk,Sa];rfl
def bG:Ok T T.dh 2 GX:=by
 have cu:=cu T;refine T.dh.ok aZ λ_ A _ s H vs Q E hr h=>?_
 ·obtain⟨wb,p,ts,g,rfl,hw,q⟩:=h;refine⟨_,(aj (aG (i:=1) aZ.nd rfl (Or.inl rfl) (bV (Ny rfl) (by rfl) T.zB acE (aa (bV Ad (by rfl) T.b7 PyProof.Rows.boot_range (aa (aM (eO K) (pv 0) ao) af)) af)))
   (aj (aG (i:=2) aZ.nd rfl (Or.inl rfl) (aI HV (eM (aa ao af)) (aM (eO K) (pv 0) ao)))
   (aj (fO PassesOwn.never rfl (bU (by rfl) T.b7 (aa (cU K T.e8 (aa (aM (eO K) (pv 0) ao) af)) af)) (bB 3 aZ.nd)
   (aj (aG (i:=4) aZ.nd rfl (Or.inl rfl) (aM (eO K) (aM (eO K) (aM (eO K) (pv 0) ao) (pv 3)) ao))
   (aj (aG (i:=5) aZ.nd rfl (Or.inl rfl) (aM (eO K) (aM (eO K) (aM (eO K) (pv 0) ao) (pv 3)) ao))
   (ay (cN (aN tI (aM (ik K) (pv 1) (pv 4)) (aM (ik K) (pv 1) (pv 5)) (aO _)) (aj (aG (i:=6) aZ.nd rfl (Or.inr rfl) (aI iT (aI iT (aM (ik K) (pv 2) (pv 4)) (aM (ik K) (pv 2) (pv 5))) (aI pZ ao (pv 3))))
   (aj (aG (i:=7) aZ.nd rfl (Or.inr rfl) (dI (wY rfl) (by rfl) T.Ko adl (aa (aM (ik K) (pv 1) (pv 4)) (aa (aM (ik K) (pv 1) (pv 5)) af))))
   (aj (fR (i:=2) aZ.nd rfl rfl (own:=["trail","least"]) (fq:=["bridge","moved"]) (js:=[6,7]) (aC (ai ff) ["web","leasts","trails","tie","one","other","bridge","moved"]) rfl (CI K (by rfl) T.Kq (aa (pv 2) (aa (pv 1) af))) (λ_ _ _ _=>(K0 K (n:=2) rfl (aW (bB 0 (kC ["trail","least","bridge","moved"])) (aW (bB 1 (kC ["trail","least","bridge","moved"])) fN)))) (λ_ _ _ _=>bJ) (λ_ _ _ _=>(jZ (aN gX (pv 1) (pv 3) (aO _)) (aI iT (pv 0) (pv 2)) (pv 0))))
   (ay (aG (i:=1) aZ.nd rfl (Or.inl rfl) (aH cu hr T.eE.c aP (aa (pv 1) (aa (pv 4) (aa (pv 5) af))))))))) bF)))))
   (ay (aJ (pv 2)))))),?_⟩
  refine qF ?_;intro c7 dO fL je kI pH uS BD za BE;obtain⟨bt,xs,h1,h2,h3⟩:=id hw.ex;have wp:=g.p2;have wl:=g.len;have zQ:=h3.length;refine(av rfl (eX (bg.of h1) (au (j:=0) rfl) (av rfl (λr hr=>⟨r,p,rfl,ae,by lia,λl hl=>?_⟩))))
  have s1:aq H (upd (upd H r (.Fd 0 (p:Int))) l (.lst (vL p))):=(aq.new hr).trans (aq.new hl);have hl1:upd (upd H r (.Fd 0 (p:Int))) l (.lst (vL p)) l=some (.lst (gZ (g.N.b8 0) p)):=ae;generalize upd (upd H r (.Fd 0 (p:Int))) l (.lst (vL p))=H1 at s1 hl1;refine⟨dl rfl,λl0 El=>?_⟩
  have s0:aq H1 (upd H1 l0 (.lst [.int 0])):=aq.new El;refine(av rfl (eX (bg.of (s0 _ _ (s1 _ _ h1))) (au (j:=0) rfl) ⟨l0,(p:Int),av rfl ⟨rfl,ae,by lia,by lia,(by rw[aau];show 1*p<=sizeLine;exact dl (abi.mpr (by lia))),λe he=>?_⟩⟩))
  have s2:=s0.trans (aq.new (o:=.lst (List.replicate (p:Int).toNat [V.int 0]).flatten) he);have Qu:upd (upd H1 l0 (.lst [.int 0])) e (.lst (List.replicate (p:Int).toNat [V.int 0]).flatten) e=some (.lst (gZ (g.N.trail 0) p)):=by
   rw[ae,aau,IA];rfl
  generalize upd (upd H1 l0 (.lst [.int 0])) e (.lst (List.replicate (p:Int).toNat [V.int 0]).flatten)=H2 at s2 Qu;refine(av rfl (eX (bg.of ((s1.trans s2) _ _ h1)) (au (j:=1) rfl) (rZ rfl (.inr (bg.of ((s1.trans s2) _ _ h2))) (av rfl ⟨(by lia),(by lia),?_⟩))))
  refine uP (lo:=0) (n:=(xs.length:Int).toNat) (λk σ H3=>∃la ta v3 v4 v5 v6 v7,σ=[some (.ref wb),some (.ref la),some (.ref ta),v3,v4,v5,v6,v7]/\aq H H3/\H3 la=some (.lst (gZ (g.N.b8 k) p))/\H3 ta=some (.lst (gZ (g.N.trail k) p))/\H ta=none)
   ⟨l,e,none,none,none,none,none,rfl,s1.trans s2,s2 _ _ hl1,Qu,s1.free (s0.free he)⟩ ?_ ?_
  ·rintro k D' σ H3 hk ⟨la,ta,v3,v4,v5,v6,v7,rfl,s3,hla,NV,K2⟩;rw[aau,zQ]at hk;rw[abl];obtain⟨c,hxc,hct⟩:=DQ (g:=g) h3 hk;have hA:=g.N.al k hk;have hB:=g.N.bl k hk;have hls:=RM.tV (N:=g.N) k;have MT:g.N.fK k = !decide (g.N.b8 k (g.N.a k)=g.N.b8 k (g.N.b k)):=rfl;have htr:g.N.trail (k+1)=if g.N.fK k=true then λv=>if g.N.b8 k v=max (g.N.b8 k (g.N.a k)) (g.N.b8 k (g.N.b k)) then g.N.trail k v^^^(g.N.trail k (g.N.a k)^^^g.N.trail k (g.N.b k)^^^2^k) else g.N.trail k v else g.N.trail k:=rfl
   generalize g.N.a k=A0 at *;generalize g.N.b k=B0 at *;refine(av rfl (eX (bg.of (s3 _ _ h1)) (au (j:=1) rfl) (av rfl (eX (bg.of (s3 _ _ h2)) (au (j:=k) hxc) (eX (bg.of (s3 _ _ hct)) (au (j:=0) rfl) (?_))))));refine(av rfl (eX (bg.of (s3 _ _ h1)) (au (j:=1) rfl) (av rfl (eX (bg.of (s3 _ _ h2)) (au (j:=k) hxc) (eX (bg.of (s3 _ _ hct)) (au (j:=1) rfl) (?_))))));refine(av rfl (av rfl (iA (aL.of hla) (au (j:=A0) (cf hA)) (av rfl (av rfl (iA (aL.of hla) (au (j:=B0) (cf hB)) ⟨rfl,av rfl (?_)⟩))))));rw[kQ]
   by_cases he:g.N.b8 k A0=g.N.b8 k B0
   ·rw[cF he]at MT;rw[MT,aab (by decide)]at hls htr
    rw[cF he];exact gn ⟨la,ta,_,_,_,_,_,rfl,s3,by rw[hls];exact hla,by rw[htr];exact NV,K2⟩
   ·rw[eI he]at MT;rw[MT,aad (by rfl)]at hls htr
    rw[eI he];have hbr:Builtin.bitXor (Builtin.bitXor ((g.N.trail k A0:Nat):Int) ((g.N.trail k B0:Nat):Int)) (1*2^(k:Int).toNat)=((g.N.trail k A0^^^g.N.trail k B0^^^2^k:Nat):Int):=by
     rw[sI,xor_int,xor_int]
    refine jg (av rfl (av rfl (iA (aL.of NV) (au (j:=A0) (cf hA)) (av rfl (av rfl (iA (aL.of NV) (au (j:=B0) (cf hB)) (cD (av rfl (cD ⟨⟨by lia,by lia,by decide⟩,cD (?_)⟩)))))))))
    refine(av rfl (av rfl (iA (aL.of hla) (au (j:=A0) (cf hA)) (av rfl (av rfl (iA (aL.of hla) (au (j:=B0) (cf hB)) ⟨_,_,rfl,?_⟩))))));refine(av rfl (av rfl ⟨ta,la,rfl,⟨_,aL.of NV⟩,⟨_,aL.of hla⟩,λD hD=>tR (xs:=gZ (g.N.trail k) p) (ys:=gZ (g.N.b8 k) p) (by rw[fW,fW]) (yD (g.N.trail (k+1)) H3 D) (.start hD) (λi acc H4 _ pd=>⟨aL.of (pd.1 _ _ NV),aL.of (pd.1 _ _ hla),pd.len⟩) (by rw[fW];exact dl (abi.mpr (by lia))) ?_ ?_⟩))
    ·intro i x y T0 acc H4 hx hy pd hT;obtain⟨hi,rfl⟩:=sJ hx;obtain⟨_,rfl⟩:=sJ hy;refine⟨T0,_,rfl,bg.of ae,rfl,_,_,rfl,_,_,rfl,rfl,rfl,av rfl (av rfl ⟨rfl,av rfl (?_)⟩)⟩;rw[Ew,kQ]
     by_cases hm:g.N.b8 k i=max (g.N.b8 k A0) (g.N.b8 k B0)
     ·rw[cF hm];refine jg (av rfl (av rfl (cD (pd.next hD (aq.new hT) ?_))));show V.int (Builtin.bitXor _ (Builtin.bitXor (Builtin.bitXor _ _) _))=_;rw[hbr,xor_int,htr];show _=V.int (((if _ then _ else _:Nat)):Int)
      rw[aad hm]
     ·rw[eI hm];refine gn (av rfl (pd.next hD (aq.new hT) ?_));rw[htr];show _=V.int (((if _ then _ else _:Nat)):Int)
      rw[aab hm]
    ·intro acc H4 pd;rw[fW]at pd;have xX:H4 D=some (.lst (gZ (g.N.trail (k+1)) p)):=by rw[pd.2.1,pd.2.2]
     refine(av rfl (av rfl (av rfl ⟨la,g.N.b8 k,p,A0,B0,rfl,pd.1 _ _ hla,wp,hA,hB,λD2 H5 hn5 s5 iM=>?_⟩)))
     exact⟨D2,D,_,_,_,_,_,rfl,(s3.trans pd.1).trans s5,by rw[hls];exact iM,s5 _ _ xX,s3.free hD⟩
  ·rintro σ H3 ⟨la,ta,v3,v4,v5,v6,v7,rfl,s3,hla,NV,K2⟩;rw[aau,zQ]at NV;exact(av rfl (q ta H3 K2 s3 NV))
def vy:Ok T T.vn 3 GY:=by
 have bG:=bG T;refine T.vn.ok nv λ_ A _ s H vs Q E hr h=>?_
 ·obtain⟨wb,p,ts,g,rfl,hw,q⟩:=h;refine⟨_,(aj (aG (i:=1) nv.nd rfl (Or.inl rfl) ao)
   (aj (fO PassesOwn.never rfl (rW K (aH bG hr T.dh.c aP (aa (pv 0) af))) (bB 2 nv.nd)
   (ay (HB (i:=1) nv.nd rfl (Or.inl rfl) (pv 2) HG)))
   (ay (aJ (pv 1))))),?_⟩
  refine Gu ?_;intro c7 dO fL;refine(av rfl ⟨wb,p,ts,g,rfl,hw,λD H1 PJ s1 hD=>⟨D,rfl,⟨_,aL.of hD⟩,?_⟩⟩)
  refine iN (K:=K) (a:=D) (xs:=gZ (g.N.trail ts.length) p) (λi σ H2=>∃v2,σ=[some (.ref wb),some (.int ((Qw (g.N.trail ts.length) i:Nat):Int)),v2]/\H2=H1) ⟨none,rfl,rfl⟩ (λi σ H2 _ ⟨_,_,z⟩=>by rw[z];exact aL.of hD) ?_ ?_
  ·rintro i x D' σ H2 hx ⟨v2,rfl,rfl⟩;obtain⟨hi,rfl⟩:=sJ hx;refine(av rfl (av rfl (cD ⟨some (.int ((g.N.trail ts.length i:Nat):Int)),?_,rfl⟩)));show[_,some (V.int (Builtin.bitOr _ _)),_]=_;rw[or_int];rfl
  ·rintro σ H2 ⟨v2,rfl,rfl⟩;rw[fW,CP];exact(av rfl (q _ s1))
def gj:Ok T T.mH 4 GZ:=by
 have vy:=vy T;have b9:=b9 T;have bQ:=bQ T;refine T.mH.ok Gv λ_ A _ s H vs Q E hr h=>?_
 ·obtain⟨wb,p,ts,g,rfl,hw,q⟩:=h;refine⟨_,(ay (aJ (aH bQ hr T.gD.c aP (aa (aI iT (aH b9 hr T.gE.c aP (aa (pv 0) af)) (aH vy hr T.vn.c aP (aa (pv 0) af))) af)))),?_⟩;have wl:=g.len;refine(av rfl ⟨wb,p,ts,rfl,hw,g.Iq,_,rfl,wb,p,ts,g,rfl,hw,λH1 s1=>(cD ⟨(2^ts.length-1)^^^jl p ts g,?_,?_,λD H2 PJ s2 hD=>?_⟩)⟩)
  ·show[V.int (Builtin.bitXor _ _)]=_;rw[LY,xor_int]
  ·exact aaD (bits_le xw) (by lia)
  ·rw[Ar]at hD;exact q D H2 (s1.free PJ) (s1.trans s2) hD
def jT:Ok T T.jO 1 vt:=by
 refine T.jO.ok mC λ_ A _ s H vs Q E hr h=>?_
 ·obtain⟨wb,p,ts,g,D,c,rfl,hw,hD,hc,q⟩:=h;refine⟨_,(aj (aG (i:=3) mC.nd rfl (Or.inl rfl) (aM (eO K) (aM (eO K) (pv 0) ao) (pv 2)))
   (ay (aJ (aI iT (aI iT (aM (ik K) (pv 1) (aM (eO K) (pv 3) ao)) (aM (ik K) (pv 1) (aM (eO K) (pv 3) ao))) (aI pZ ao (pv 2)))))),?_⟩
  refine jG ?_;intro c7;obtain⟨bt,xs,h1,h2,h3⟩:=id hw.ex;have wl:=g.len;obtain⟨b,hxc,hct⟩:=DQ (g:=g) h3 hc;have hA:=g.N.al c hc;have hB:=g.N.bl c hc;refine(av rfl (eX (bg.of h1) (au (j:=1) rfl) (av rfl (eX (bg.of h2) (au (j:=c) hxc) (?_)))));refine(av rfl (av rfl (eX (bg.of hct) (au (j:=0) rfl) (iA (aL.of hD) (au (j:=g.N.a c) (cf hA)) (av rfl (av rfl (eX (bg.of hct) (au (j:=1) rfl) (iA (aL.of hD) (au (j:=g.N.b c) (cf hB)) (cD (av rfl (cD ⟨⟨by lia,by lia,by decide⟩,cD (?_)⟩)))))))))))
  show Q (V.int (Builtin.bitXor (Builtin.bitXor _ _) _)) H;rw[sI,xor_int,xor_int];exact q
def wH(C:Addr):Sp:=λvs H Q E=>∃w p ts,∃g:aA p ts,∃S,vs=[.ref w,.int S]/\bx H w p ts/\
 ((∃c:Nat,S=(c:Int)/\c∈g.N.ah/\∀H',aq H H'->Q (.int ((g.N.ring c:Nat):Int)) H')\/((∀c∈g.N.ah,S≠((c:Nat):Int))/\∀H',aq H H'->E (.ref C) none H'))
def eF:Hs T T.iF 5 (wH a.qS):=by
 have gj:=gj T;have bG:=bG T;have jT:=jT T;refine T.iF.Eo vO λ_ A _ s H vs Q E hr h=>?_
 ·obtain⟨wb,p,ts,g,S,rfl,hw,q⟩:=h;refine⟨_,(aj (cN (aN (Ia K) (pv 1) (aH gj hr T.mH.c aP (aa (pv 0) af)) (by with_unfolding_all rfl)) (ay (tQ fu.Vf rfl (by rfl) T.GS acV (aa pX af))) bF)
   (ay (aJ (aH jT hr T.jO.c aP (aa (pv 0) (aa (aH bG hr T.dh.c aP (aa (pv 0) af)) (aa (pv 1) af))))))),?_⟩
  refine jI ?_;intro c7 dO;refine(av rfl (av rfl ⟨wb,p,ts,g,rfl,hw,λD H1 PJ s1 hD=>(rZ rfl (.inl (aL.of hD)) ⟨rfl,mY _,_,rfl,?_⟩)⟩))
  rcases q with⟨c,rfl,hc,q⟩|⟨hS,q⟩
  ·rw[l6,cF hc];refine gn (av rfl (av rfl ⟨wb,p,ts,g,rfl,hw.same s1,λD2 H2 hn2 s2 iM=>(av rfl ⟨wb,p,ts,g,D2,c,rfl,hw.same (s1.trans s2),iM,(RM.aY.mp hc).1,q _ (s1.trans s2)⟩)⟩))
  ·rw[OR hS];exact jg ⟨dl rfl,q _ s1⟩
def G0:Sp:=λvs H Q _=>∃S1 S2,∃a b:Nat,vs=[.int S1,.int S2]/\S1=(a:Int)/\S2=(b:Int)/\Builtin.Int.intBits ((a&&&b:Nat):Int)<=1000/\∀H',aq H H'->Q (.int (((bu ((a&&&b:Nat):Int)).length:Nat):Int)) H'
def Kx:Sp:=λvs H Q _=>∃S1 S2,∃a b:Nat,vs=[.int S1,.int S2]/\S1=(a:Int)/\S2=(b:Int)/\Builtin.Int.intBits ((a&&&b:Nat):Int)<=1000/\∀H',aq H H'->Q (.bl (decide ((bu ((a&&&b:Nat):Int)).length%2=1))) H'
structure PK(p:Nat)(xs:List Nat):Prop where
 up:xs.Pairwise (· < ·)
 lt:∀x∈xs,x<p
def DR:Sp:=λvs H Q _=>∃w p ts,∃(l:Addr) (xs:List Nat),vs=[.ref w,.ref l]/\bx H w p ts/\H l=some (.lst (aB xs))/\PK p xs/\Q (.bl true) H
def G3:Sp:=λvs H Q _=>∃w p ts,∃(l:Addr) (ks:List Nat),vs=[.ref w,.ref l]/\bx H w p ts/\LQ p ts/\H l=some (.lst (aB ks))/\(∀k∈ks,k<ts.length)/\Q (.int ((orM ks:Nat):Int)) H
def G4:Sp:=λvs H Q _=>∃w p ts,∃g:aA p ts,∃(l:Addr) (xs:List Nat),vs=[.ref w,.ref l]/\bx H w p ts/\H l=some (.lst (aB xs))/\PK p xs/\
 ∀H',aq H H'->Q (.int ((g.N.cut (λx=>decide (x∈xs)):Nat):Int)) H'
def B6(p:Nat)(f:Nat->Bool):PK p ((List.range p).filter f):=⟨CN,λx hx=>aax.mp (aaC.mp hx).1⟩
def MU(n:Nat):decide (V.int (((n:Nat):Int)%2)=V.int 1)=decide (n%2=1):=aa9.mpr ⟨λz=>by have:=V.int.inj z;lia,λz=>abf V.int (by lia)⟩
def vz:Ok T T.vo 3 G0:=by
 have bQ:=bQ T;refine T.vo.ok Gw λ_ A _ s H vs Q E hr h=>?_
 ·obtain⟨S1,S2,u,v,rfl,rfl,rfl,hb,q⟩:=h;refine⟨_,(ay (aJ (cU K T.e8 (aa (aH bQ hr T.gD.c aP (aa (aI HF (pv 0) (pv 1)) af)) af)))),?_⟩;refine(av rfl (av rfl (cD ⟨u&&&v,?_,hb,λD H1 hn s1 hD=>(rZ rfl (.inl (aL.of hD)) (?_))⟩)))
  ·show[V.int (Builtin.bitAnd _ _)]=_;rw[and_int]
  ·rw[aD];exact q H1 s1
def dw:Ok T T.gV 4 Kx:=by
 have vz:=vz T;refine T.gV.ok uX λ_ A _ s H vs Q E hr h=>?_
 ·obtain⟨S1,S2,u,v,rfl,rfl,rfl,hb,q⟩:=h;refine⟨_,(ay (aJ (dW gX (aI eJ (aH vz hr T.vo.c aP (aa (pv 0) (aa (pv 1) af))) ao) ao (aO _)))),?_⟩;refine(av rfl (av rfl ⟨_,_,u,v,rfl,rfl,rfl,hb,λH1 s1=>(cD ⟨(rV rfl),rfl,?_⟩)⟩))
  rw[MU];exact q H1 s1
def rf:Ok T T.qV 1 DR:=by
 refine T.qV.ok lg λ_ A _ s H vs Q E hr h=>?_
 ·obtain⟨wb,p,ts,l,zs,rfl,hw,hl,sd,q⟩:=h;refine⟨_,(aj (aG (i:=2) lg.nd rfl (Or.inl rfl) (HE Cy ao))
   (aj (fO PassesOwn.never rfl (rW K (pv 1)) (bB 3 lg.nd)
   (aj (cN (PW.pt (D0 (aN Nk (pv 3) (pv 2) (aO _)) (yh (aN HJ (pv 3) (aM (eO K) (pv 0) ao) (aO _))))) (ay (aJ wQ)) bF)
   (ay (aG (i:=2) lg.nd rfl (Or.inl rfl) (pv 3)))))
   (ay (aJ wQ)))),?_⟩
  refine xV ?_;intro c7 dO fL je kI;obtain⟨bt,xs,h1,h2,h3⟩:=id hw.ex;refine(av rfl (av rfl ⟨l,rfl,⟨_,aL.of hl⟩,lS (K:=K) (a:=l) (xs:=aB zs) (λi σ H2=>∃z v3,σ=[some (.ref wb),some (.ref l),some (.int z),v3]/\H2=H/\∀x∈zs.drop i,z<(x:Int)) ⟨_,none,rfl,rfl,λx _=>by show(-1:Int)<_;lia⟩ (λi σ H2 _ ⟨_,_,_,z,_⟩=>by rw[z];exact aL.of hl) ?_ ?_⟩))
  ·rintro i y σ H2 hy ⟨z,v3,rfl,rfl,hz⟩;obtain⟨x,hx,rfl⟩:=cR hy;have hdr:zs.drop i=x::zs.drop (i+1):=by
    obtain⟨hi,e⟩:=jf.mp hx;rw[List.drop_eq_getElem_cons hi,e]
   have hzx:=hz x (by rw[hdr];exact aar)
   have hxp:=sd.lt x (iq hx);refine(av rfl (av rfl (cD (av rfl (Ab (by lia) (av rfl (av rfl (eX (bg.of h1) (au (j:=0) rfl) (cD (av rfl (Ab (by lia) ?_)))))))))))
   refine(av rfl ⟨(x:Int),av rfl ⟨rfl,λy hy=>?_⟩⟩)
   have pw:(zs.drop i).Pairwise (· < ·):=sd.up.sublist (List.drop_sublist _ _);rw[hdr]at pw;have:=(List.pairwise_cons.mp pw).1 y hy
   lia
  ·rintro σ H2 ⟨z,v3,rfl,rfl,_⟩;exact q
def vA:Ok T T.vj 1 G3:=by
 refine T.vj.ok nu λ_ A _ s H vs Q E hr h=>?_
 ·obtain⟨wb,p,ts,l,ks,rfl,hw,W,hl,hk,q⟩:=h;refine⟨_,(aj (aG (i:=2) nu.nd rfl (Or.inl rfl) ao)
   (aj (fO PassesOwn.never rfl (rW K (pv 1)) (bB 3 nu.nd)
   (aj (cN (PW.pt (D0 (aN wX (pv 3) ao (aO _)) (yh (aN HJ (pv 3) (cU K T.e8 (aa (aM (eO K) (pv 0) ao) af)) (aO _))))) wU bF)
   (ay (HB (i:=2) nu.nd rfl (Or.inl rfl) (aI pZ ao (pv 3)) HG))))
   (ay (aJ (pv 2))))),?_⟩
  refine xV ?_;intro c7 dO fL je kI;obtain⟨bt,xs,h1,h2,h3⟩:=id hw.ex;have zQ:=h3.length;have wl:=W.len;refine(av rfl ⟨l,rfl,⟨_,aL.of hl⟩,lS (K:=K) (a:=l) (xs:=aB ks) (λi σ H2=>∃v3,σ=[some (.ref wb),some (.ref l),some (.int ((orM (ks.take i):Nat):Int)),v3]/\H2=H) ⟨none,rfl,rfl⟩ (λi σ H2 _ ⟨_,_,z⟩=>by rw[z];exact aL.of hl) ?_ ?_⟩)
  ·rintro i x σ H2 hx ⟨v3,rfl,rfl⟩;obtain⟨k,hki,rfl⟩:=cR hx;have hkn:=hk k (iq hki);refine(av rfl (cD (av rfl (Ab (by lia) (av rfl (av rfl (eX (bg.of h1) (au (j:=1) rfl) (rZ rfl (.inr (bg.of h2)) (cD (av rfl (Ab (by lia) ?_)))))))))))
   refine(av rfl (av rfl (cD ⟨⟨by lia,by lia,by decide⟩,cD ⟨some (.int (k:Int)),?_,rfl⟩⟩)))
   show[_,_,some (V.int (Builtin.bitOr _ (1*2^(k:Int).toNat))),_]=_;rw[sI,or_int,aaZ,hki];unfold Ring.orM;rw[acG];rfl
  ·rintro σ H2 ⟨v3,rfl,rfl⟩;rw[aD,aa5];exact(av rfl (q))
def vB:Ok T T.vp 2 G4:=by
 have rf:=rf T;have vA:=vA T;refine T.vp.ok Gx λ_ A _ s H vs Q E hr h=>?_
 ·obtain⟨wb,p,ts,g,l,zs,rfl,hw,hl,sd,q⟩:=h;refine⟨_,(aj (cN (Cs (kK (aH rf hr T.qV.c aP (aa (pv 0) (aa (pv 1) af))))) wU bF)
   (ay (aJ (aH vA hr T.vj.c aP (aa (pv 0) (aa (bK (own:=["k","tie"]) (fq:=["side"]) (js:=[1]) (aC (ai pJ) ["web","side"]) rfl (Av K (by rfl) T.mL (aa (aM (eO K) (pv 0) ao) af)) (λ_ _ _ _=>(K0 K (n:=2) rfl (aW (bB 0 (kC ["k","tie","side"])) (aW (bB 1 (kC ["k","tie","side"])) fN)))) (λ_ _ _ _=>(fQ (aN tI (dW (TU K) (aM (eO K) (pv 1) ao) (pv 2) (by with_unfolding_all rfl)) (dW (TU K) (aM (eO K) (pv 1) ao) (pv 2) (by with_unfolding_all rfl)) (aO _)))) (λ_ _ _ _=>(pv 0))) af)))))),?_⟩
  refine jI ?_;intro c7 dO;obtain⟨bt,xs,h1,h2,h3⟩:=id hw.ex;have zQ:=h3.length;have wl:=g.len;refine(av rfl (av rfl ⟨wb,p,ts,l,zs,rfl,hw,hl,sd,_,rfl,gn ?_⟩));refine(av rfl (av rfl (eX (bg.of h1) (au (j:=1) rfl) ⟨bt,rfl,⟨_,bg.of h2⟩,λD hD=>CZ (xs:=xs) (lW (λk=>decide (g.N.a k∈zs)^^decide (g.N.b k∈zs)) H D) (.start hD) (λi acc H2 _ pk=>⟨bg.of (pk.1 _ _ h2),pk.len⟩) (fT (by lia)) ?_ ?_⟩)))
  ·intro i x T0 acc H2 hx pk hT;have hi:i<ts.length:=by have:=(jf.mp hx).1;lia
   obtain⟨b,hxb,hct⟩:=DQ (g:=g) h3 hi;rw[hx]at hxb;cases hxb;have MV:upd H2 T0 (.tup [.int (i:Int),.ref b]) b=some _:=aq.new hT _ _ (pk.1 _ _ hct);have hl2:upd H2 T0 (.tup [.int (i:Int),.ref b]) l=some _:=aq.new hT _ _ (pk.1 _ _ hl);refine⟨T0,_,rfl,bg.of ae,rfl,_,_,rfl,_,_,rfl,rfl,rfl,?_⟩;refine(av rfl (eX (bg.of MV) (au (j:=0) rfl) (av rfl (rZ rfl (.inl (aL.of hl2)) ⟨rfl,mY _,_,rfl,eX (bg.of MV) (au (j:=1) rfl) (av rfl (rZ rfl (.inl (aL.of hl2)) ⟨rfl,mY _,rfl,av rfl (?_)⟩))⟩))));rw[l6,l6];cases e1:decide (g.N.a i∈zs)<;>cases e2:decide (g.N.b i∈zs)
   ·exact pk.no (aq.new hT) (by rw[e1,e2];rfl)
   ·exact(av rfl (pk.yes hD (aq.new hT) (by rw[e1,e2];rfl)))
   ·exact(av rfl (pk.yes hD (aq.new hT) (by rw[e1,e2];rfl)))
   ·exact pk.no (aq.new hT) (by rw[e1,e2];rfl)
  ·intro acc H2 pk;refine⟨wb,p,ts,D,_,rfl,hw.same pk.1,g.Iq,by rw[pk.2.1,pk.2.2],λk hk=>?_,?_⟩
   ·have:=aax.mp (aaC.mp hk).1
    lia
   ·rw[C1,zQ];exact q H2 pk.1
def rO(p:Nat)(ts:List cC)(g:aA p ts)(m:Nat):List Nat:=(List.range p).filter λx=>g.N.par (g.N.trail ts.length x) m
def Told(p:Nat)(ts:List cC)(g:aA p ts)(m:Nat)(H H' : Hp)(t:Addr):Prop :=
 (m=g.N.cut (λx=>decide (x∈rO p ts g m))/\∃l,H l=none/\H' t=some (.tup [.str "side",.ref l])/\H' l=some (.lst (aB (rO p ts g m))))\/
 (∃c,c∈g.N.ah/\g.N.par (g.N.ring c) m=true/\H' t=some (.tup [.str "ring",.int ((g.N.ring c:Nat):Int)]))
def DS(C:Addr):Sp:=λvs H Q E=>∃w p ts,∃g:aA p ts,∃S,vs=[.ref w,.int S]/\bx H w p ts/\pR ts S (E (.ref C) none H) λm=>∀t H',H t=none->aq H H'->Told p ts g m H H' t->Q (.ref t) H'
def B7{p:Nat}{ts:List cC}{g:aA p ts}{m:Nat}:g.N.cut (λx=>decide (x∈rO p ts g m))=g.N.cut λx=>g.N.par (g.N.trail g.N.n x) m:=RM.FP λx hx=>by
 unfold rO;rw[abt,decide_eq_true_eq,aaC,aax];exact⟨λz=>z.2,λz=>⟨hx,z⟩⟩
def DT{m:Nat}(h:m≠0):∃c,(bu (m:Int))[0]?=some c/\m.testBit c=true:=by
 obtain⟨k,hk⟩:=abx h;have hm:k∈bu (m:Int):=by
  unfold bu;refine aaC.mpr ⟨aax.mpr (Nat.lt_of_not_le λz=>?_),by rw[mU];exact hk⟩
  have:=Ai z;rw[mU,hk]at this;cases this
 cases e:bu (m:Int) with
 | nil =>
   rw[e]at hm;cases hm
 | cons c r =>
   have hc:c∈bu (m:Int):=by rw[e];exact aar
   unfold bu at hc;have:=(aaC.mp hc).2;rw[mU]at this;exact⟨c,rfl,this⟩
def fD{u v:Nat}(h:u^^^v=0):u=v:=by
 have:=abf (λx=>x^^^v) h
 simpa[abh]using this
def Ky(n:Nat):decide (V.int ((n:Nat):Int)=V.int 0)=decide (n=0):=aa9.mpr ⟨λz=>by have:=V.int.inj z;lia,λz=>by rw[z];rfl⟩
def rh:Hs T T.qW 6 (DS a.dQ):=by
 have cK:=cK T;have bG:=bG T;have dw:=dw T;have vB:=vB T;have bQ:=bQ T;have eF:=eF T;refine T.qW.Eo lq λ_ A _ s H vs Q E hr h=>?_
 ·obtain⟨wb,p,ts,g,S,rfl,hw,q⟩:=h;refine⟨_,(aj (cY (aH cK hr T.g9.c fu.passes (aa (pv 0) (aa (pv 1) af))))
   (aj (aG (i:=2) lq.nd rfl (Or.inr rfl) (aH bG hr T.dh.c aP (aa (pv 0) af)))
   (aj (fR (i:=3) lq.nd rfl rfl (own:=["point"]) (fq:=["tie_set","trails"]) (js:=[1,2]) (aC (ai nA) ["web","tie_set","trails","side","amiss"]) rfl (bU (by rfl) T.b7 (aa (aM (eO K) (pv 0) ao) af)) (λ_ _ _ _=>(bB 0 (kC ["point","tie_set","trails"]))) (λ_ _ _ _=>(fQ (kK (aH dw hr T.gV.c aP (aa (aM (ik K) (pv 2) (pv 0)) (aa (pv 1) af)))))) (λ_ _ _ _=>(pv 0)))
   (aj (aG (i:=4) lq.nd rfl (Or.inl rfl) (aI iT (pv 1) (aH vB hr T.vp.c aP (aa (pv 0) (aa (pv 3) af)))))
   (aj (cN (aN gX (pv 4) ao (aO _)) (ay (aJ (dH (aa pX (aa (pv 3) af))))) bF)
   (ay (aJ (dH (aa pX (aa (aH eF hr T.iF.c fu.passes (aa (pv 0) (aa (aM (ik K) (aH bQ hr T.gD.c aP (aa (pv 4) af)) ao) af))) af)))))))))),?_⟩
  refine DB ?_;intro c7 dO fL je kI pH;obtain⟨bt,xs,h1,h2,h3⟩:=id hw.ex;have wl:=g.len;have wp:=g.p2;have W:=g.Iq;rcases q with⟨m,rfl,hm,q⟩|⟨hS,q⟩
  case inr=>exact(av rfl (av rfl ⟨wb,p,ts,_,rfl,hw,W,.inr ⟨hS,q⟩⟩))
  refine(av rfl (av rfl ⟨wb,p,ts,_,rfl,hw,W,.inl ⟨m,rfl,hm,?_⟩⟩));refine(av rfl ⟨wb,p,ts,g,rfl,hw,λD H1 hn1 s1 hD=>?_⟩)
  refine(av rfl (eX (bg.of (s1 _ _ h1)) (au (j:=0) rfl) (av rfl ⟨(by lia),(by lia),λC hC=>cz (lo:=0) (m:=(p:Int).toNat) (lW (λx=>g.N.par (g.N.trail ts.length x) m) H1 C) (.start hC) (λi acc H2 _ pk=>pk.len) (fT (by lia)) ?_ ?_⟩)))
  ·intro i acc H2 hi pk;rw[aau]at hi;rw[abl];have Kz:Builtin.Int.intBits ((g.N.trail ts.length i&&&m:Nat):Int)<=1000:=aaD (bits_le (adA _ hm)) (by lia)
   refine⟨rfl,av rfl (av rfl (iA (aL.of (pk.1 _ _ hD)) (au (j:=i) (cf hi)) (av rfl ⟨_,_,g.N.trail ts.length i,m,rfl,rfl,rfl,Kz,λH3 s3=>(av rfl (?_))⟩)))⟩
   rw[EA (g:=g) hm];cases hb:g.N.par (g.N.trail ts.length i) m with
   | true=>exact(av rfl (pk.yes hC s3 hb))
   | false=>exact pk.no s3 hb
  ·intro acc H2 pk;have SO:H2 C=some (.lst (aB (rO p ts g m))):=by rw[pk.2.1,pk.2.2,aau];rfl
   have s12:=s1.trans pk.1;refine(av rfl (av rfl (av rfl ⟨wb,p,ts,g,C,_,rfl,hw.same s12,SO,B6 p _,λH3 s3=>(cD (?_))⟩)))
   have nO:=s12.trans s3;dsimp only;rw[xor_int,B7];have ac:=λk=>RM.Ax (N:=g.N) (m:=m) (k:=k) hm
   have hlt:(m^^^g.N.cut λx=>g.N.par (g.N.trail g.N.n x) m)<2^ts.length:=abb hm (RM.OV _)
   have hz:(m^^^g.N.cut λx=>g.N.par (g.N.trail g.N.n x) m)=0->m=g.N.cut (λx=>decide (x∈rO p ts g m)):=λz=>by rw[B7];exact fD z
   generalize (m^^^g.N.cut λx=>g.N.par (g.N.trail g.N.n x) m)=A at ac hlt hz
   refine(av rfl ⟨rfl,av rfl (?_)⟩);rw[Ky]
   by_cases hA:A=0
   ·rw[cF hA];refine jg (av rfl ⟨dl rfl,λt ht=>q t _ (nO.free ht) (nO.trans (aq.new ht)) (.inl ⟨hz hA,C,s1.free hC,ae,aq.new ht _ _ (s3 _ _ SO)⟩)⟩)
   ·rw[eI hA];obtain⟨c,hc0,hcb⟩:=DT hA;obtain⟨hcn,hcf,hcp⟩:=ac c hcb;refine gn (av rfl (av rfl ⟨A,rfl,aaD (bits_le hlt) (by lia),λD4 H4 hn4 s4 xX=>(iA (aL.of xX) (au (j:=0) (sL hc0)) ⟨wb,p,ts,g,_,rfl,hw.same (nO.trans s4),.inl ⟨c,rfl,RM.aY.mpr ⟨hcn,hcf⟩,λH5 s5=>⟨dl rfl,λt ht=>?_⟩⟩⟩)⟩))
    have PL:=(nO.trans s4).trans s5;exact q t _ (PL.free ht) (PL.trans (aq.new ht)) (.inr ⟨c,RM.aY.mpr ⟨hcn,hcf⟩,hcp,ae⟩)
def zD(C:Addr):Sp:=λvs H Q E=>∃w p ts S,vs=[.ref w,.int S]/\bx H w p ts/\LQ p ts/\pR ts S (∀H',aq H H'->E (.ref C) none H') λm=>∀H',aq H H'->Q (.int (lenOf ts m)) H'
def fH:Hs T T.jy 5 (zD a.dQ):=by
 have cj:=cj T;refine T.jy.Eo y9 λ_ A _ s H vs Q E hr h=>?_
 ·obtain⟨wb,p,ts,S,rfl,hw,W,q⟩:=h;refine⟨_,(ay (aJ (dI (sumK K rfl) (by rfl) T.SH PyProof.Rows.boot_sum (aa (bK (own:=["tie"]) (fq:=[]) (js:=[]) (aC (ai jq) ["web","tie_set"]) rfl (rW K (aH cj hr T.gh.c fu.passes (aa (pv 0) (aa (pv 1) af)))) (λ_ _ _ _=>(bB 0 (kC ["tie"]))) (λ_ _ _ _=>bJ) (λ_ _ _ _=>(aM (eO K) (pv 0) ao))) af)))),?_⟩
  refine(av rfl (av rfl ⟨wb,p,ts,S,rfl,hw,W,?_⟩));rcases q with⟨m,rfl,hm,q⟩|⟨hS,q⟩
  ·refine .inl ⟨m,rfl,hm,λL ys H1 XM s1 hL pr=>⟨L,rfl,⟨_,aL.of hL⟩,λD hD=>?_⟩⟩
   have wl:=W.len;have Ku:ys.length=(bu (m:Int)).length:=by rw[pr.length,aac]
   have SQ:ys.length<=24:=by
    rw[Ku];have hb:Builtin.Int.intBits (m:Int)<=ts.length:=bits_le hm;have:=aaG (bit (m:Int)) (List.range (Builtin.Int.intBits (m:Int)));rw[aay]at this;exact aaD this (by lia)
   refine bO (xs:=ys) (rX (λk=>(aX ts k).2.2) (bu (m:Int)) H1 D) (.start hD) (λi acc H2 _ pm=>⟨aL.of (pm.1 _ _ hL),pm.len⟩) (fT SQ) ?_ ?_
   ·intro i x acc H2 hx pm;obtain⟨t,ht,c,rfl,hc⟩:=Paired.nX pr hx;rw[aan]at ht;obtain⟨k,hk,rfl⟩:=wM.mp ht;exact⟨rfl,av rfl (eX (bg.of (pm.1 _ _ hc)) (au (j:=2) rfl) (pm.next hD (aq.refl _) hk rfl))⟩
   ·intro acc H2 pm;rw[Ku]at pm;exact⟨D,_,rfl,aL.of pm.fin,q H2 (s1.trans pm.1)⟩
  ·exact .inr ⟨hS,q _ (aq.refl _)⟩
def vC(ts:List cC)(x y:Nat):Prop:=lenOf ts x<lenOf ts y\/(lenOf ts x=lenOf ts y/\x<=y)
def KA(t:Addr)(lp:Pos):Sp:=λvs H Q _=>∃w p ts,∃g:aA p ts,∃(l:Addr) (ms:List Nat),vs=[.ref w,.ref l]/\bx H w p ts/\H l=some (.lst (aB ms))/\ms.length<64/\(∀m∈ms,m<2^ts.length)/\H t=some (.jC (eT (qu "by_length") lp))/\
 ∀D ms' H',H D=none->aq H H'->H' D=some (.lst (aB ms'))->ms'.Perm ms->ms'.Pairwise (vC ts)->Q (.ref D) H'
def NW:∀{l:List Int},(∀x∈l,0<=x)->∃ms:List Nat,l=ms.map (λx=>((x:Nat):Int))
 | [],_=>⟨[],rfl⟩
 | x::r,h=>by
   obtain⟨ms,e⟩:=NW (l:=r) λy hy=>h y (nR _ hy)
   have hx:=h x aar;refine⟨x.toNat::ms,?_⟩;rw[aaT,<-e]
   congr 1
   lia
def fJ:XI T T.hU 9 (KA a.fG eg):=by
 have fH:=fH T;refine T.hU.ok zb λA _ s H vs Q E hr h=>?_
 ·obtain⟨wb,p,ts,g,l,ms,rfl,hw,hl,h64,hms,htb,q⟩:=h;refine⟨_,(ay (aJ (JH (x:="ring") (fq:=["web"]) (js:=[0]) hr (aC (ai jt) ["web","rings"]) rfl (by rfl) T.pP rfl T.hU.F.hd (aa (pv 1) af) (λ_ _ _ _ hr=>(dH (aa (aH fH hr T.jy.c nK (aa (pv 1) (aa (pv 0) af))) (aa (pv 0) af))))))),?_⟩
  have W:=g.Iq;have wl:=g.len;have big:(2:Nat)^ts.length<=2^24:=aaM (by decide) wl
  have PM:∀n,n∈ms.map (λx=>((x:Nat):Int))->∃m:Nat,n=(m:Int)/\m∈ms:=λn hn=>by
   obtain⟨m,hm,rfl⟩:=aaH.mp hn;exact⟨m,rfl,hm⟩
  refine(av rfl ⟨l,ms.map (λx=>((x:Nat):Int)),λz=>(lenOf ts z.toNat,z),rfl,by rw[<-kR];exact hl,by rw[aac];exact h64,λn hn=>?_,htb,λH3 hk n hn=>?_,λD ns' H4 hD s4 xX hp hs=>?_⟩)
  ·obtain⟨m,rfl,hm⟩:=PM n hn;have:=hms m hm;exact⟨by show(0:Int)<=(m:Int);lia,by show(m:Int)<1073741824;lia⟩
  ·obtain⟨m,rfl,hm⟩:=PM n hn;have tp:dJ H H3:=λb xs e=>hk b _ e (λy z=>nomatch z) (λy z=>nomatch z)
   refine(av rfl (av rfl ⟨wb,p,ts,_,rfl,hw.tups tp,W,.inl ⟨m,rfl,hms m hm,λH4 s4=>(av rfl ⟨dl rfl,λd hd=>?_⟩)⟩⟩))
   exact⟨s4.trans (aq.new hd),d,rfl,ae⟩
  ·obtain⟨ms',rfl⟩:∃ms' : List Nat,ns' = ms'.map (λx=>((x:Nat):Int)):=by
    refine NW λx hx=>?_
    obtain⟨m,rfl,_⟩:=PM x (hp.mem_iff.mp hx)
    lia
   have V1:ms'.Perm ms:=by
    have:=hp.map Int.toNat;rw[acL,acL]at this;have e:∀l:List Nat,l.map (Int.toNat∘λx=>((x:Nat):Int))=l:=λl=>by
     induction l with
     | nil=>rfl
     | cons x r ih=>rw[aaT,ih];rfl
    rw[e,e]at this;exact this
   refine q D ms' H4 hD s4 (by rw[kR];exact xX) V1 ?_
   rw[acJ]at hs;refine abZ (λ{x y} hx hy h=>?_) hs
   have hx:=hms x (V1.mem_iff.mp hx);have hy:=hms y (V1.mem_iff.mp hy);have h:lenOf ts x*1073741824+(x:Int)<=lenOf ts y*1073741824+(y:Int):=h;unfold vC
   lia
def KC:Sp:=λvs H Q _=>∃w p ts,∃g:aA p ts,∃m:Nat,vs=[.ref w,.int (m:Int)]/\bx H w p ts/\m<2^ts.length/\
 ∀D es S H',es.length=p->Gb m H D es S H'->NK g.N ts.length S->Q (.ref D) H'
def PN{b:Bool}{σ:St}{f:VK}{H:Hp}(h:f (.int (b.toNat:Int)) H):if b=true then tC (.int 1) σ H f else tC (.int 0) σ H f:=by
 cases b<;>exact h
def gJ:Ok T T.gF 2 KC:=by
 have iP:=iP T;refine T.gF.ok cJ λ_ A _ s H vs Q E hr h=>?_
 ·obtain⟨wb,p,ts,g,m,rfl,hw,hm,q⟩:=h;refine⟨_,(aj (fR (i:=2) cJ.nd rfl rfl (own:=["point"]) (fq:=[]) (js:=[]) (aC (ai ez) ["web","marks","steps","tie","ends","turn"]) rfl (bU (by rfl) T.b7 (aa (aM (eO K) (pv 0) ao) af)) (λ_ _ _ _=>(bB 0 (kC ["point"]))) (λ_ _ _ _=>bJ) (λ_ _ _ _=>(eM af)))
   (aj (fO PassesOwn.never rfl (Av K (by rfl) T.mL (aa (aM (eO K) (pv 0) ao) af)) (K0 K (n:=2) rfl (aW (bB 3 cJ.nd) (aW (bB 4 cJ.nd) fN)))
   (aj (aG (i:=5) cJ.nd rfl (Or.inl rfl) (jZ (kK (aH iP hr T.nE.c aP (aa (pv 1) (aa (pv 3) af)))) ao ao))
   (aj (cY (JX K (lV aba abd abe cO (aM (ik K) (pv 2) (aM (eO K) (pv 4) ao)) (aa (dH (aa (pv 3) (aa (aM (eO K) (pv 4) ao) (aa (pv 5) af)))) af))))
   (ay (cY (JX K (lV aba abd abe cO (aM (ik K) (pv 2) (aM (eO K) (pv 4) ao)) (aa (dH (aa (pv 3) (aa (aM (eO K) (pv 4) ao) (aa (pv 5) af)))) af))))))))
   (ay (aJ (pv 2))))),?_⟩
  refine pL ?_;intro c7 dO fL je kI;obtain⟨bt,xs,h1,h2,h3⟩:=id hw.ex;have zQ:=h3.length;have wp:=g.p2;have wl:=g.len;refine(av rfl (eX (bg.of h1) (au (j:=0) rfl) (av rfl ⟨(by lia),(by lia),λD hD=>cz (lo:=0) (m:=p) (NJ m H D) (.start hD) (λi acc H2 _ z=>z.len) (dl (abi.mpr (by lia))) ?_ ?_⟩)))
  ·rintro i acc H2 hi f2;exact⟨rfl,dl rfl,λl hl=>f2.next hl⟩
  rintro acc H2 ⟨es,rfl,hel,f2⟩;refine(av rfl (eX (bg.of (f2.same _ _ h1)) (au (j:=1) rfl) ⟨bt,rfl,⟨_,bg.of (f2.same _ _ h2)⟩,?_⟩));refine F1 (K:=K) (a:=bt) (xs:=xs) (λk σ H3=>∃v3 v4 v5,σ=[some (.ref wb),some (.int (m:Int)),some (.ref D),v3,v4,v5]/\∃S,Gb m H D es S H3/\NK g.N k S) ⟨none,none,none,rfl,_,f2,NK.start⟩ (λk σ H3 _ ⟨_,_,_,_,_,z,_⟩=>bg.of (z.same _ _ h2)) ?_ ?_
  ·rintro k x T0 σ H3 hk ⟨v3,v4,v5,rfl,S,f3,k3⟩ hT;have hkx:k<xs.length:=(jf.mp hk).1;have xg:k<ts.length:=by lia
   obtain⟨ct,ex,hct⟩:=IZ (g:=g) h3 xg;rw[hk]at ex;cases ex;have s4:aq H3 (upd H3 T0 (.tup [.int (k:Int),.ref ct])):=aq.new hT;have T3:upd H3 T0 (.tup [.int (k:Int),.ref ct]) T0=some (.tup [.int (k:Int),.ref ct]):=ae;have f4:=f3.go s4;generalize upd H3 T0 (.tup [.int (k:Int),.ref ct])=H4 at f4 T3;refine⟨T0,_,rfl,bg.of T3,rfl,_,_,rfl,_,_,rfl,rfl,?_⟩;refine(av rfl (av rfl ⟨(m:Int),k,rfl,av rfl (?_)⟩));rw[mU];have ha:g.N.a k<p:=g.N.al k xg;have hb:g.N.b k<p:=g.N.bl k xg;have PR:=f4.same _ _ hct;refine PN ?_;obtain⟨b1,V2,e1,e1',hb1,q1⟩:=f4.get (i:=g.N.a k) (by lia)
   refine(av rfl (av rfl (eX (bg.of PR) (au (j:=0) rfl) (iA (aL.of f4.lst) (au e1) (?_)))));have l1:V2.length<=2*k:=by rw[q1.length];exact k3.len _
   refine⟨.inl ⟨rfl,_,aL.of hb1⟩,av rfl (av rfl (eX (bg.of PR) (au (j:=1) rfl) (av rfl ⟨dl rfl,λt1 MW=>?_⟩)))⟩
   have s5:aq H4 (upd H4 t1 (.tup [.int (k:Int),.int (g.N.b k:Int),.int ((m.testBit k).toNat:Int)])):=aq.new MW;have u5:i0 m (upd H4 t1 (.tup [.int (k:Int),.int (g.N.b k:Int),.int ((m.testBit k).toNat:Int)])) t1 (k,g.N.b k):=ae;have f5:=f4.go s5;have XQ:=s5 _ _ hb1;have aao:=s5 _ _ PR;have q5:Paired (i0 m (upd H4 t1 (.tup [.int (k:Int),.int (g.N.b k:Int),.int ((m.testBit k).toNat:Int)]))) V2 (S (g.N.a k)):=Paired.yd q1 λ_ _ z=>s5 _ _ z
   refine⟨b1,_,_,rfl,rfl,XQ,c5 (by rw[aac];lia),?_⟩
   have f6:=f5.put e1' XQ q5 u5;have PU:=f6.same _ _ hct;generalize upd (upd H4 t1 (.tup [.int (k:Int),.int (g.N.b k:Int),.int ((m.testBit k).toNat:Int)])) b1 (.lst (V2.map V.ref++[.ref t1]))=H6 at f6 PU;obtain⟨b2,cs2,e2,e2',MS,q2⟩:=f6.get (i:=g.N.b k) (by lia)
   refine(av rfl (av rfl (eX (bg.of PU) (au (j:=1) rfl) (iA (aL.of f6.lst) (au e2) (?_)))));have l2:cs2.length<=2*k+1:=by
    rw[q2.length];unfold uA;have:=k3.len (g.N.b k)
    split
    ·rw[aah,aaU];lia
    ·lia
   refine⟨.inl ⟨rfl,_,aL.of MS⟩,av rfl (av rfl (eX (bg.of PU) (au (j:=0) rfl) (av rfl ⟨dl rfl,λt2 MX=>?_⟩)))⟩
   have s7:aq H6 (upd H6 t2 (.tup [.int (k:Int),.int (g.N.a k:Int),.int ((m.testBit k).toNat:Int)])):=aq.new MX;have u7:i0 m (upd H6 t2 (.tup [.int (k:Int),.int (g.N.a k:Int),.int ((m.testBit k).toNat:Int)])) t2 (k,g.N.a k):=ae;have f7:=f6.go s7;have QK:=s7 _ _ MS;refine⟨b2,_,_,rfl,rfl,QK,c5 (by rw[aac];lia),?_⟩
   exact⟨_,_,_,rfl,_,f7.put e2' QK (Paired.yd q2 λ_ _ z=>s7 _ _ z) u7,k3.next⟩
  ·rintro σ H3 ⟨v3,v4,v5,rfl,S,f3,k3⟩;refine(av rfl (q D es S H3 hel f3 ?_));rw[<-zQ];exact k3
def jU(p:Nat)(N:RM.Net)(L:Nat->Int)(m u:Nat)(D:Addr)(F:RM.OW)(H0 H:Hp):Prop:=∃es:List Addr,es.length=p/\H D=some (.lst (es.map V.ref))/\
 (∀(i:Nat) b,es[i]?=some b->∃v0 v1,H b=some (.lst [v0,v1])/\wV H (F i false) v0/\wV H (F i true) v1)/\(∀x s,RM.Jg N L m u x s ((F x s).map (·.1)))/\(∀x s d,F x s=some d->RM.Wz N L m u x s d.1 d.2)/\(∀b∈es,H0 b=none)/\RM.Fx N L m u F
def MY(a b:Bool):Builtin.bitXor ((a.toNat:Nat):Int) ((b.toNat:Nat):Int)=(((a^^b).toNat:Nat):Int):=by
 cases a<;>cases b<;>decide
def wI(t:Addr)(lp:Pos):Sp:=λvs H Q _=>∃w p ts,∃g:aA p ts,∃(m u:Nat),vs=[.ref w,.int (m:Int),.int (u:Int)]/\bx H w p ts/\m<2^ts.length/\u<p/\H t=some (.jC (eT (qu "least_ways") lp))/\
 ∀D F H',H D=none->aq H H'->jU p g.N (aQ ts) m u D F H H'->Q (.ref D) H'
def lH:XI T T.iG 5 (wI a.c8 cM):=by
 have gJ:=gJ T;refine T.iG.ok bC λA _ s H vs Q E hr h=>?_
 ·obtain⟨wb,p,ts,g,m,u,rfl,hw,hm,hu,htb,q⟩:=h;refine⟨_,(aj (aG (i:=3) bC.nd rfl (Or.inl rfl) (aH gJ hr T.gF.c aP (aa (pv 0) (aa (pv 1) af))))
   (aj (fR (i:=4) bC.nd rfl rfl (own:=["point"]) (fq:=[]) (js:=[]) (aC (ai fZ) ["web","marks","start","steps","found","waiting","nearest","way","tie","point","turn","part","further"]) rfl (bU (by rfl) T.b7 (aa (aM (eO K) (pv 0) ao) af)) (λ_ _ _ _=>(bB 0 (kC ["point"]))) (λ_ _ _ _=>bJ) (λ_ _ _ _=>(eM (aa iQ (aa iQ af)))))
   (aj (aG (i:=5) bC.nd rfl (Or.inr rfl) (Jv (by exact z8 hr) (dH (aa (pv 2) (aa ao af))) (dH (aa ao (aa ao af)))))
   (aj (zV PassesOwn.never (aN zY (dI VF (by rfl) T.e8 PySem.boot_len (aa (pv 5) af)) ao (aO _)) (aj (aG (i:=6) bC.nd rfl (Or.inl rfl) (Ms (x:="place") (fq:=["waiting"]) (js:=[5]) hr (aC (ai fZ) ["web","marks","start","steps","found","waiting","nearest","way","tie","point","turn","part","further"]) rfl (by rfl) T.Kp rfl T.iG.F.hd (aa (pv 5) af) (λ_ _ _ _ hr=>(L7 (by exact z8 hr) (pv 1) (pv 0) (λ_ _=>rfl)))))
   (aj (aG (i:=7) bC.nd rfl (Or.inl rfl) (Ju (by exact z8 hr) (pv 5) (pv 6) ⟨rfl,rfl,rfl,rfl⟩))
   (aj (yk (pv 7) (yj (aM (ik K) (pv 4) (aM (eO K) (pv 6) ao)) (aM (eO K) (pv 6) ao) set_list))
   (ay (fO PassesOwn.never rfl (rW K (aM (ik K) (pv 3) (aM (eO K) (pv 6) ao))) (K0 K (n:=3) rfl (aW (bB 8 bC.nd) (aW (bB 9 bC.nd) (aW (bB 10 bC.nd) fN))))
   (aj (aG (i:=11) bC.nd rfl (Or.inl rfl) (aI iT (aM (eO K) (pv 6) ao) (pv 10)))
   (aj (aG (i:=12) bC.nd rfl (Or.inl rfl) (dH (aa (aI dD (aM (eO K) (pv 7) ao) (aM (eO K) (aM (eO K) (aM (eO K) (pv 0) ao) (pv 8)) ao)) (aa (aI iT (aM (eO K) (pv 7) ao) (aI pZ ao (pv 8))) af))))
   (ay (cN (PW.pt (Cr (aN ym (aM (ik K) (aM (ik K) (pv 4) (pv 9)) (pv 11)) iQ (aO _)) (yg (aN (Pf hr.Cz) (pv 12) (IQ (by exact z8 hr) (pv 5) (dH (aa (pv 9) (aa (pv 11) af))) (pv 12) ⟨rfl,rfl,rfl,rfl⟩) (aO _))))) (ay (L8 (by exact z8 hr) (pv 5) (dH (aa (pv 9) (aa (pv 11) af))) (pv 12) rfl)) bF))))))))))
   (ay (aJ (pv 4))))))),?_⟩
  refine vP ?_;intro c7 dO fL je kI pH uS BD za BE uY r6;obtain⟨bt,xs,h1,h2,h3⟩:=id hw.ex;have zQ:=h3.length;have wp:=g.p2;have wl:=g.len;refine(av rfl (av rfl ⟨wb,p,ts,g,m,rfl,hw,hm,λDs ess S H1 hel1 f1 k1=>?_⟩))
  have s1:=f1.same;refine(av rfl (eX (bg.of (s1 _ _ h1)) (au (j:=0) rfl) (av rfl ⟨(by lia),(by lia),λD hD=>cz (lo:=0) (m:=p) (AN H1 D) (.start hD) (λi acc H2 _ z=>z.len) (dl (abi.mpr (by lia))) ?_ ?_⟩)))
  ·rintro i acc H2 hi f2;exact⟨rfl,dl rfl,λl hl=>f2.next hl⟩
  rintro acc H2 ⟨es,rfl,hel,f2⟩;refine λwd XR=>(av rfl ⟨dl rfl,λt1 MW=>⟨dl rfl,λt2 MX=>?_⟩⟩)
  have XS:aq (upd H2 wd (.dT [])) (upd (upd H2 wd (.dT [])) t1 (.tup [.int (u:Int),.int 0])):=aq.new MW;have V3:aq (upd (upd H2 wd (.dT [])) t1 (.tup [.int (u:Int),.int 0])) (upd (upd (upd H2 wd (.dT [])) t1 (.tup [.int (u:Int),.int 0])) t2 (.tup [.int 0,.int 0])):=aq.new MX;have f3:=((f2.go (aq.new XR (o:=.dT []))).go XS).go V3;have w3:=V3 _ _ (XS _ _ (ae (H:=H2) (a:=wd) (o:=.dT [])));have u3:=V3 _ _ (ae (H:=upd H2 wd (.dT [])) (a:=t1) (o:=.tup [.int (u:Int),.int 0]));have v3:(upd (upd (upd H2 wd (.dT [])) t1 (.tup [.int (u:Int),.int 0])) t2 (.tup [.int 0,.int 0])) t2=some (.tup [.int 0,.int 0]):=ae;generalize upd (upd (upd H2 wd (.dT [])) t1 (.tup [.int (u:Int),.int 0])) t2 (.tup [.int 0,.int 0])=H3 at f3 w3 u3 v3;refine⟨t1,ky u false,rfl,u3,w3,?_⟩;have lw3:=uz.start f3 hu w3 (f2.same.free XR) v3;have V4:=s1 _ _ htb;have hL:∀k,k<g.N.n->0<=aQ ts k:=xJ g;have K8:∀k,k<g.N.n->0<aQ ts k:=λk hk=>by
   have:=(g.nY _ (dZ hk)).l0;unfold aQ
   lia
  refine⟨λn σ H4=>∃v6 v7 v8 v9 v10 v11 Ht,σ=[some (.ref wb),some (.int (m:Int)),some (.int (u:Int)),some (.ref Ds),some (.ref D),some (.ref wd),v6,v7,v8,v9,v10,v11,Ht]/\∃kvs F W,uz p H1 D wd es kvs F W H4/\RM.Dx g.N (aQ ts) m u F W none (λ_ _=>False)/\n=RM.left F p,⟨_,none,none,none,none,none,none,none,rfl,_,_,_,lw3,RM.Dx.start,rfl⟩,?_⟩
  rintro n σ H4 ⟨v6,v7,v8,v9,v10,v11,Ht,rfl,kvs,F,W,lw,dj,rfl⟩;refine(av rfl ⟨wd,kvs,rfl,.inl lw.dt,_,_,rfl,rfl,av rfl (nV (λhlen=>?_) (λhlen=>?_))⟩)
  case refine_2 =>
   have hl : ¬(0:Int)<(kvs.length:Int):=λz=>hlen (cF z)
   have e:kvs=[]:=adv (by lia)
   subst e;have hW:∀x s,W x s=none:=λx s=>by
    rcases lw.val x s with⟨z,_⟩|⟨_,_,_,z,_⟩
    ·exact z
    ·rw[ue]at z;cases z
   exact(av rfl (q D F H4 (s1.free lw.Dn) (s1.trans lw.same) ⟨es,hel,lw.lst,lw.at_,dj.dj.best hW,dj.dj.fw,λb hb=>s1.free (lw.fr b hb),dj.fin K8 hu hW⟩))
  have hlen:(0:Int)<(kvs.length:Int):=jB hlen;refine⟨λσ' H'=>∃v6 v7 v8 v9 v10 v11 Ht,σ' = [some (.ref wb),some (.int (m:Int)),some (.int (u:Int)),some (.ref Ds),some (.ref D),some (.ref wd),v6,v7,v8,v9,v10,v11,Ht]/\∃kvs' F' W',uz p H1 D wd es kvs' F' W' H'/\RM.Dx g.N (aQ ts) m u F' W' none (λ_ _=>False)/\RM.left F' p<RM.left F p,λσ' H' ⟨a6,a7,a8,a9,V5,V6,V7,e,kvs',F',W',b1,b2,b3⟩=>⟨_,b3,a6,a7,a8,a9,V5,V6,V7,e,kvs',F',W',b1,b2,rfl⟩,?_⟩
  refine(av rfl ⟨wd,kvs,JA W kvs,rfl,lw.dt,(by lia),lw.same _ _ V4,λob H5 oth hfz i kv b hkv hb=>?_,λi kv b H5 hkv hmin s5 hb=>?_⟩)
  ·obtain⟨x,t,d,c,hx,ek,SR,V8,_,hc,V9⟩:=lw.entry hkv;have hcw:c≠wd:=aU hc lw.dt (by intro z;cases z)
   refine(av rfl (av rfl ⟨wd,.ref c,rfl,.inr ⟨kvs,ky x t,b,.inr ⟨ob,hfz⟩,rfl,by rw[<-ek];exact hb,V8.symm⟩,aq.refl _,c,rfl,?_⟩))
   rw[V9];exact bg.of (oth c _ hc hcw (by intro y z;cases z) (by intro y z;cases z))
  obtain⟨x,t,d,c,hx,ek,SR,V8,_,hc,V9⟩:=lw.entry hkv;rw[ek]at hb;have hmn:∀y t' d',W y t' = some d'->d.1<=d'.1:=λy t' d' hW'=>by
   obtain⟨j,Xu,hj,_,ej⟩:=lw.find hW';have:=hmin j (jf.mp hj).1;rw[ej,V9]at this;exact yR this
  have MZ:=lw.go s5;have hc5:=s5 _ _ hc;have hF:F x t=none:=dj.dj.dj x t d SR;refine(av rfl ⟨wd,rfl,.inr ⟨kvs,.inl MZ.dt⟩,av rfl ⟨kvs,ky x t,b,.ref c,MZ.dt,rfl,hb,V8,?_⟩⟩);obtain⟨rb,r0,r1,er,er',hrb,hr0,Hu⟩:=MZ.row (i:=x) (by lia)
  have bw:b≠wd:=aU hb MZ.dt (by intro z;cases z)
  have rw_:rb≠wd:=aU hrb MZ.dt (by intro z;cases z)
  have XT:upd H5 wd (.dT (dc kvs (ky x t))) b=some (.tup [.int (x:Int),.int (t.toNat:Int)]):=by rw[ak bw];exact hb
  have SN:upd H5 wd (.dT (dc kvs (ky x t))) D=some (.lst (es.map V.ref)):=by rw[ak (aa2 MZ.wD)];exact MZ.lst
  have hr6:upd H5 wd (.dT (dc kvs (ky x t))) rb=some (.lst [r0,r1]):=by rw[ak rw_];exact hrb
  refine(av rfl (av rfl (av rfl (eX (bg.of XT) (au (j:=0) rfl) (iA (aL.of SN) (au er) (av rfl (eX (bg.of XT) (au (j:=1) rfl) ⟨rb,_,_,t.toNat,rfl,rfl,hr6,mV (n:=2) (j:=t.toNat) (by cases t<;>decide),?_⟩)))))))
  have QL:=MZ.take SR hc5 er' hrb;have Wa:=dj.pop SR hmn;have hd0:0<=d.1:=by
   obtain⟨pre,w0⟩:=dj.dj.ww x t d SR;exact(RM.o9 hL hu w0).2.2.2.2.2
  have hlt:RM.left (RM.iZ F x t d) p<RM.left F p:=RM.A6 hF hx;have XU:dJ H5 (upd (upd H5 wd (.dT (dc kvs (ky x t)))) rb (.lst (([r0,r1]:List V).set t.toNat (.ref c)))):=λz ys e=>by
   rw[ak (aU e hrb (by intro z;cases z)),ak (aU e MZ.dt (by intro z;cases z))]
   exact e
  have QK:=XU _ _ hb;have QM:=XU _ _ hc5;generalize upd (upd H5 wd (.dT (dc kvs (ky x t)))) rb (.lst (([r0,r1]:List V).set t.toNat (.ref c)))=H7 at QL QK QM;generalize RM.yQ W x t=W7 at QL Wa;have Uh:RM.iZ F x t d x t=some d:=RM.bN _ _ _ _;generalize RM.iZ F x t d=F7 at QL Wa hlt Uh;obtain⟨sb,cs,esb,aaz,Sd,Wb⟩:=f1.get (i:=x) (by lia)
  have hlS:=k1.len x;refine(av rfl (av rfl (eX (bg.of QK) (au (j:=0) rfl) (iA (aL.of (QL.same _ _ f1.lst)) (au esb) ⟨sb,rfl,⟨_,aL.of (QL.same _ _ Sd)⟩,?_⟩))));refine iN (K:=K) (a:=sb) (xs:=cs.map V.ref) (λj σ H8=>∃v8 v9 v10 v11 Ht,σ=[some (.ref wb),some (.int (m:Int)),some (.int (u:Int)),some (.ref Ds),some (.ref D),some (.ref wd),some (.ref b),some (.ref c),v8,v9,v10,v11,Ht]/\dJ H7 H8/\∃zE W8,uz p H1 D wd es zE F7 W8 H8/\RM.Dx g.N (aQ ts) m u F7 W8 (some (x,t)) (λk y=>∃j',j'<j/\(S x)[j']?=some (k,y)))
   ⟨_,_,_,_,_,rfl,(aq.refl _).tups,_,_,QL,?_⟩ (λj σ H8 _ ⟨_,_,_,_,_,_,_,_,_,z,_⟩=>aL.of (z.same _ _ Sd)) ?_ ?_
  ·exact Wa.less λk y ⟨j',h0,_⟩=>absurd h0 (abn _)
  ·rintro j y D3' σ H8 hj ⟨v8,v9,v10,v11,Ht,rfl,Ui,zE,W8,PV,SS⟩;obtain⟨cc,hcc,rfl⟩:∃cc,cs[j]?=some cc/\y = .ref cc:=by
    rw[aan]at hj;obtain⟨cc,h1,h2⟩:=wM.mp hj;exact⟨cc,h1,h2.symm⟩
   have VU:j<(S x).length:=by rw[<-Wb.length];exact(jf.mp hcc).1
   have eS:(S x)[j]?=some (S x)[j]:=aaf VU;have XW:=L2.qt Wb hcc eS;generalize hkw:(S x)[j]=kw at eS XW;obtain⟨k,y⟩:=kw;have hmem:=(k1.mem x (k,y)).mp (iq eS);obtain⟨hk,Co⟩:=hmem;have hk:k<ts.length:=hk;have Co:RM.Jn g.N k x y:=Co;have hy:y<p:=Co.lt hk;have Wc:=PV.same _ _ XW;have Wc:H8 cc=some (.tup [.int (k:Int),.int (y:Int),.int ((m.testBit k).toNat:Int)]):=Wc;refine⟨cc,_,rfl,bg.of Wc,rfl,_,_,rfl,_,_,rfl,_,_,rfl,rfl,?_⟩;have hb8:=Ui _ _ QK;have XX:=Ui _ _ QM;refine(av rfl (eX (bg.of hb8) (au (j:=1) rfl) (av rfl (cD (?_)))));dsimp only;rw[MY];obtain⟨ct,ex,hct⟩:=IZ (g:=g) h3 hk;have hw8:=PV.same _ _ (s1 _ _ h1);have ht8:=PV.same _ _ (s1 _ _ h2);have Wd:=PV.same _ _ (s1 _ _ hct);refine(av rfl (eX (bg.of XX) (au (j:=0) rfl) (av rfl (eX (bg.of hw8) (au (j:=1) rfl) (av rfl (eX (bg.of ht8) (au (j:=k) ex) (eX (bg.of Wd) (au (j:=2) rfl) (?_))))))));refine(cD (av rfl (eX (bg.of XX) (au (j:=1) rfl) (av rfl (cD ⟨⟨by lia,by lia,by decide⟩,cD ⟨dl rfl,λf hf=>?_⟩⟩)))))
   have ef:Builtin.bitXor ((d.2:Nat):Int) (1*2^((k:Nat):Int).toNat)=((d.2^^^2^k:Nat):Int):=by
    rw[aau,abU,show((2:Int)^k)=((2^k:Nat):Int) by simp]
    exact xor_int _ _
   dsimp only;rw[ef];have s9:aq H8 (upd H8 f (.tup [.int (d.1+(aX ts k).2.2),.int ((d.2^^^2^k:Nat):Int)])):=aq.new hf;have XY:upd H8 f (.tup [.int (d.1+(aX ts k).2.2),.int ((d.2^^^2^k:Nat):Int)]) f=some (.tup [.int (d.1+aQ ts k),.int ((d.2^^^2^k:Nat):Int)]):=ae;have QN:=PV.go s9;have We:dJ H7 (upd H8 f (.tup [.int (d.1+(aX ts k).2.2),.int ((d.2^^^2^k:Nat):Int)])):=λz ys e=>s9 _ _ (Ui _ _ e)
   generalize upd H8 f (.tup [.int (d.1+(aX ts k).2.2),.int ((d.2^^^2^k:Nat):Int)])=H9 at QN XY We;obtain⟨rb2,q0,q1,er2,aaF,Wf,T6,hq1⟩:=QN.row (i:=y) (by lia)
   obtain⟨vv,hvv,QO⟩:∃vv,([q0,q1]:List V)[(t^^m.testBit k).toNat]?=some vv/\wV H9 (F7 y (t^^m.testBit k)) vv:=by
    cases(t^^m.testBit k) with
    | false=>exact⟨q0,rfl,T6⟩
    | true=>exact⟨q1,rfl,hq1⟩
   have Lk:=hL k hk;refine(av rfl (av rfl (iA (aL.of QN.lst) (au er2) (av rfl (iA (aL.of Wf) (au hvv) (?_))))));refine⟨rfl,av rfl (?_)⟩;have dn:∀{E5:Nat->Nat->Prop} {Wx:RM.OW},RM.Dx g.N (aQ ts) m u F7 Wx (some (x,t)) (λk' y'=>(∃j',j'<j/\(S x)[j']?=some (k',y'))\/(k' = k/\y' = y))->
    RM.Dx g.N (aQ ts) m u F7 Wx (some (x,t)) (λk' y'=>∃j',j'<j+1/\(S x)[j']?=some (k',y')):=λ{E5 Wx} h =>
    h.less λk' y' ⟨j',h0,h5⟩=>by
     by_cases ej:j' = j
     ·subst ej;rw[eS]at h5;cases h5;exact .inr ⟨rfl,rfl⟩
     ·exact .inl ⟨j',by lia,h5⟩
   cases Uj:F7 y (t^^m.testBit k) with
   | some d2 =>
     rw[Uj]at QO;obtain⟨c2,rfl,hc2⟩:=QO;refine Ab (λz=>nomatch z) ?_
     exact⟨_,_,_,_,_,rfl,We,zE,W8,QN,dn (E5:=λ_ _=>False) (SS.skip Uh (K8 k hk) (.inl Uj))⟩
   | none =>
     rw[Uj]at QO;have QO:vv = .dS:=QO;subst QO;refine LL rfl ?_;refine(av rfl (av rfl ⟨wd,rfl,.inr ⟨zE,.inl QN.dt⟩,av rfl (av rfl ⟨dl rfl,λt3 ht3=>?_⟩)⟩))
     have M0:aq H9 (upd H9 t3 (.tup [.int (y:Int),.int ((t^^m.testBit k).toNat:Int)])):=aq.new ht3;have SV:upd H9 t3 (.tup [.int (y:Int),.int ((t^^m.testBit k).toNat:Int)]) t3=some (.tup ((ky y (t^^m.testBit k)).map kV)):=ae;have G5:=QN.go M0;have KD:=M0 _ _ XY;have PX:dJ H7 (upd H9 t3 (.tup [.int (y:Int),.int ((t^^m.testBit k).toNat:Int)])):=λz ys e=>M0 _ _ (We _ _ e)
     generalize upd H9 t3 (.tup [.int (y:Int),.int ((t^^m.testBit k).toNat:Int)])=SW at G5 KD SV PX;refine(av rfl ⟨dM zE (ky y (t^^m.testBit k)),.inr ⟨zE,ky y (t^^m.testBit k),t3,.inl G5.dt,rfl,SV,rfl⟩,?_⟩);have XZ:=G5.len;have put:(∀d',W8 y (t^^m.testBit k)=some d'->RM.lx (RM.stp (aQ ts) d k) d')->dO D3' [some (.ref wb),some (.int (m:Int)),some (.int (u:Int)),some (.ref Ds),some (.ref D),some (.ref wd),some (.ref b),some (.ref c),some (.int (k:Int)),some (.int (y:Int)),some (.int ((m.testBit k).toNat:Int)),some (.int ((t^^m.testBit k).toNat:Int)),some (.ref f)] SW:=λhle=>by
      refine(av rfl (av rfl (av rfl (av rfl ⟨dl rfl,λt4 Wg=>?_⟩))))
      have PY:aq SW (upd SW t4 (.tup [.int (y:Int),.int ((t^^m.testBit k).toNat:Int)])):=aq.new Wg;have Wh:upd SW t4 (.tup [.int (y:Int),.int ((t^^m.testBit k).toNat:Int)]) t4=some (.tup ((ky y (t^^m.testBit k)).map kV)):=ae;have P0:=G5.go PY;have Wi:=PY _ _ KD;refine⟨wd,_,rfl,IL.t P0.dt Wh (iH (by lia)),?_⟩
      have Wj:=P0.wait (x:=y) (s:=(t^^m.testBit k)) (d:=(d.1+aQ ts k,d.2^^^2^k)) hy Wi;refine⟨_,_,_,_,_,rfl,λz ys e=>?_,_,_,Wj,dn (E5:=λ_ _=>False) (SS.put Uh hd0 hk (K8 k hk) Co Uj hle)⟩
      have X0:=PY _ _ (PX _ _ e);rw[ak (aU X0 P0.dt (by intro z;cases z))]
      exact X0
     rcases G5.val y (t^^m.testBit k) with⟨hWn,hvn⟩|⟨d2,c2,X3,hvs,hc2⟩
     ·rw[hvn];refine⟨f,f,_,_,_,_,rfl,rfl,bg.of KD,bg.of KD,_,rfl,nV (λ_=>put λd' e=>by rw[hWn]at e;cases e) λz=>absurd ((HT.yO _ _ _ _).mpr (.inr ⟨rfl,abL _⟩)) z⟩
     ·rw[hvs];refine⟨f,c2,_,_,_,_,rfl,rfl,bg.of KD,bg.of hc2,_,rfl,nV (λhl=>?_) (λhl=>?_)⟩
      ·have hl:=(HT.yO _ _ _ _).mp hl;refine put λd' e=>?_
       rw[X3]at e;cases e;unfold RM.lx RM.stp;simp only
       lia
      ·have hl:=λz=>hl ((HT.yO _ _ _ _).mpr z)
       refine⟨_,_,_,_,_,rfl,PX,zE,W8,G5,dn (E5:=λ_ _=>False) (SS.skip Uh (K8 k hk) (.inr ⟨X3,?_⟩))⟩
       have h6 : ¬ d.1+aQ ts k<d2.1:=λz=>hl (.inl z)
       have h7 : ¬(d.1+aQ ts k=d2.1/\((d.2^^^2^k:Nat):Int)<=(d2.2:Int)):=λz=>hl (.inr z)
       unfold RM.lx RM.stp;simp only
       lia
  ·rintro σ H8 ⟨v8,v9,v10,v11,Ht,rfl,Ui,zE,W8,PV,SS⟩;refine⟨_,_,_,_,_,_,_,rfl,zE,F7,W8,PV,SS.all λk y hk Co=>?_,hlt⟩
   have hm':=(k1.mem x (k,y)).mpr ⟨hk,Co⟩;obtain⟨j',hj'⟩:=aa3 hm';have Wm:=(jf.mp hj').1;exact⟨j',by rw[aac,Wb.length];exact Wm,hj'⟩
def G6:Sp:=λvs H Q _=>∃v o,vs=[v]/\wV H o v/\Q (oV (o.map (·.1))) H
abbrev zF(F:RM.OW):Nat->Bool->Option Int:=λx s=>(F x s).map (·.1)
def B8:Sp:=λvs H Q _=>∃(D:Addr) (es:List Addr) (F:RM.OW),vs=[.ref D]/\H D=some (.lst (es.map V.ref))/\es.length<=900/\(∀(i:Nat) b,es[i]?=some b->∃v0 v1,H b=some (.lst [v0,v1])/\wV H (F i false) v0/\wV H (F i true) v1)/\
 ∀b ys H',aq H H'->H' b=some (.tup ys)->Paired (iY H') ys (lN (zF F) es.length)->Q (.ref b) H'
def fj:Ok T T.fh 1 G6:=by
 refine T.fh.ok qH λ_ A _ s H vs Q E hr h=>?_
 ·obtain⟨v,o,rfl,hv,q⟩:=h;refine⟨_,(ay (aJ (jZ (aN ym (pv 0) iQ (aO _)) iQ (aM (eO K) (pv 0) ao)))),?_⟩;cases o with
  | none =>
    have hv:v = .dS:=hv;subst hv;exact(av rfl ⟨rfl,av rfl (LL rfl q)⟩)
  | some d =>
    obtain⟨c,rfl,hc⟩:=hv;exact(av rfl ⟨rfl,av rfl (Ab (λz=>nomatch z) (av rfl (eX (bg.of hc) (au (j:=0) rfl) (q))))⟩)
def gO:Ok T T.gG 2 B8:=by
 have fj:=fj T;refine T.gG.ok pM λ_ A _ s H vs Q E hr h=>?_
 ·obtain⟨D,es,F,rfl,hD,hl,G7,q⟩:=h;refine⟨_,(ay (aJ (bV (Ac K) (by rfl) T.pQ ab3 (aa (bK (own:=["even","odd"]) (fq:=[]) (js:=[]) (aC (ai eA) ["ways"]) rfl (rW K (pv 0)) (λ_ _ _ _=>(VN K rfl (aW (bB 0 (kC ["even","odd"])) (aW (bB 1 (kC ["even","odd"])) fN)))) (λ_ _ _ _=>bJ) (λ_ _ _ _=>(dH (aa (aH fj hr T.fh.c aP (aa (pv 0) af)) (aa (aH fj hr T.fh.c aP (aa (pv 1) af)) af))))) af)))),?_⟩
  refine(av rfl ⟨D,rfl,⟨_,aL.of hD⟩,λL hL=>bO (K:=K) (a:=D) (xs:=es.map V.ref) (λi acc H2=>aq H H2/\H2 L=some (.lst acc)/\Paired (iY H2) acc (lN (zF F) i)) ⟨aq.new hL,ae,.nil⟩ (λi acc H2 _ z=>⟨aL.of (z.1 _ _ hD),z.2.1,by rw[z.2.2.length,EH];exact aae _⟩) (dl (abi.mpr (by rw[aac];lia))) ?_ ?_⟩)
  ·rintro i x acc H2 hx ⟨s2,KG,pr⟩;obtain⟨b,hb,rfl⟩:∃b,es[i]?=some b/\x = .ref b:=by
    rw[aan]at hx;obtain⟨b,h1,h2⟩:=wM.mp hx;exact⟨b,h1,h2.symm⟩
   obtain⟨v0,v1,hv,w0,w1⟩:=G7 i b hb;refine⟨b,v0,v1,rfl,aL.of (s2 _ _ hv),_,_,rfl,_,_,rfl,rfl,rfl,av rfl ⟨v0,_,rfl,w0.tups s2.tups,_,rfl,v1,_,rfl,w1.tups s2.tups,dl rfl,λt ht=>?_⟩⟩
   have s3:aq H2 (upd H2 t (.tup [oV (zF F i false),oV (zF F i true)])):=aq.new ht;have tL:t≠L:=λz=>by rw[z,KG]at ht;cases ht
   have Sk:H L=none:=hL;refine⟨s3 _ _ KG,(s2.trans s3).put Sk,ae,?_⟩;rw[Jh];have keep:∀z pr,iY H2 z pr->iY (upd (upd H2 t (.tup [oV (zF F i false),oV (zF F i true)])) L (.lst (acc++[.ref t]))) z pr:=λz pr ⟨b,e,hb⟩=>⟨b,e,by rw[ak (aU hb KG (by intro z;cases z))];exact s3 _ _ hb⟩
   exact Paired.snoc (Paired.imp' (λ_ _ z=>keep _ _ z) pr) ⟨t,rfl,by rw[ak tL,ae]⟩
  ·rintro acc H2 ⟨s2,KG,pr⟩;rw[aac]at pr;refine⟨L,_,rfl,.inl ⟨aL.of KG,λl hl=>?_⟩⟩
   exact q l acc _ (s2.trans (aq.new hl)) ae (Paired.imp' (λ_ _ ⟨b,e,hb⟩=>⟨b,e,aq.new hl _ _ hb⟩) pr)
def jU.same{p:Nat}{N:RM.Net}{L:Nat->Int}{m u:Nat}{D:Addr}{F:RM.OW}{H0 H H' : Hp}(h:jU p N L m u D F H0 H)(s:aq H H'):jU p N L m u D F H0 H':=by
 obtain⟨es,e1,e2,e3,e4,e5,e6⟩:=h;exact⟨es,e1,s _ _ e2,λi b hb=>let⟨v0,v1,q1,q2,q3⟩:=e3 i b hb;⟨v0,v1,s _ _ q1,q2.tups s.tups,q3.tups s.tups⟩,e4,e5,e6⟩
def jU.put{p:Nat}{N:RM.Net}{L:Nat->Int}{m u:Nat}{D X:Addr}{F:RM.OW}{H0 H:Hp}{xs ys:List V}(h:jU p N L m u D F H0 H)(hD:H0 D=none)(hX:H X=some (.lst xs))(hX0:∃o,H0 X=some o):jU p N L m u D F H0 (upd H X (.lst ys)):=by
 obtain⟨es,e1,e2,e3,e4,e5,e6⟩:=h;obtain⟨o,ho⟩:=hX0;have ne:∀b,H0 b=none->b≠X:=λb hb z=>by rw[z,ho]at hb;cases hb
 have tp:dJ H (upd H X (.lst ys)):=dJ.put hX;refine⟨es,e1,by rw[ak (ne D hD)];exact e2,λi b hb=>?_,e4,e5,e6⟩
 obtain⟨v0,v1,q1,q2,q3⟩:=e3 i b hb;exact⟨v0,v1,by rw[ak (ne b (e6.1 b (iq hb)))];exact q1,q2.tups tp,q3.tups tp⟩
def E6(p:Nat)(N:RM.Net)(L:Nat->Int)(m i:Nat)(ds:List Addr)(Fs:Nat->RM.OW)(H:Hp):Prop:=ds.length=i/\∀(j:Nat) d,ds[j]?=some d->∃H0,jU p N L m j d (Fs j) H0 H
def B9(t:Addr)(lp:Pos):Sp:=λvs H Q _=>∃w p ts,∃g:aA p ts,∃m:Nat,vs=[.ref w,.int (m:Int)]/\bx H w p ts/\m<2^ts.length/\H t=some (.jC (eT (qu "least_ways") lp))/\
 ∀D ds Fs H',H D=none->aq H H'->H' D=some (.lst (ds.map V.ref))->E6 p g.N (aQ ts) m p ds Fs H'->Q (.ref D) H'
def gP:Ok T T.gH 6 (B9 a.c8 cM):=by
 have lH:=lH T;refine T.gH.ok pN λ_ A _ s H vs Q E hr h=>?_
 ·obtain⟨wb,p,ts,g,m,rfl,hw,hm,htb,q⟩:=h;refine⟨_,(ay (aJ (bK (own:=["start"]) (fq:=["web","marks"]) (js:=[0,1]) (aC (ai eB) ["web","marks"]) rfl (bU (by rfl) T.b7 (aa (aM (eO K) (pv 0) ao) af)) (λ_ _ _ _=>(bB 0 (kC ["start","web","marks"]))) (λ_ _ _ _=>bJ) (λ_ _ _ _=>(aH lH hr T.iG.c aP (aa (pv 1) (aa (pv 2) (aa (pv 0) af)))))))),?_⟩
  obtain⟨bt,xs,h1,h2,h3⟩:=id hw.ex;have wp:=g.p2;refine(av rfl (eX (bg.of h1) (au (j:=0) rfl) (av rfl ⟨(by lia),(by lia),λD hD=>cz (lo:=0) (m:=(p:Int).toNat) (λi acc H2=>aq H H2/\H2 D=some (.lst acc)/\∃ds Fs,acc=ds.map V.ref/\ds.length=i/\∀(j:Nat) d,ds[j]?=some d->∃H0,jU p g.N (aQ ts) m j d (Fs j) H0 H2/\H0 d=none/\∃o,H0 D=some o) ⟨aq.new hD,ae,[],λ_ _ _=>none,rfl,rfl,λj d e=>by cases e⟩ (λi acc H2 _ ⟨_,z,ds,_,e,l,_⟩=>⟨z,by rw[e,aac];lia⟩) (dl (abi.mpr (by lia))) ?_ ?_⟩)))
  ·rintro i acc H2 hi ⟨s2,iM,ds,Fs,rfl,hl,all⟩;rw[aau]at hi;rw[abl];refine⟨rfl,av rfl (av rfl (av rfl ⟨wb,p,ts,g,m,i,rfl,hw.same s2,hm,hi,s2 _ _ htb,λd F H3 hd s3 wa=>?_⟩))⟩
   have rT:=s3 _ _ iM;refine⟨rT,(s2.trans s3).put hD,ae,ds++[d],λj=>if j=i then F else Fs j,by simp,by simp[hl],λj d' e=>?_⟩
   by_cases ej:j<ds.length
   ·rw[aaE ej]at e;obtain⟨H0,w0,n0,o0⟩:=all j d' e;dsimp only;rw[aab (show ¬ j=i by lia)]
    exact⟨H0,(w0.same s3).put n0 rT o0,n0,o0⟩
   ·rw[aaO (by lia)]at e
    have hj:j=i:=by
     have:=(jf.mp e).1;simp at this
     lia
    subst hj;rw[hl,adq]at e;have e:d=d':=by simpa using e
    subst e;dsimp only;rw[aad rfl];exact⟨H2,wa.put hd rT ⟨_,iM⟩,hd,_,iM⟩
  ·rintro acc H2 ⟨s2,iM,ds,Fs,rfl,hl,all⟩;rw[aau]at hl;exact q D ds Fs H2 hD s2 iM ⟨hl,λj d e=>let⟨H0,w0,_⟩:=all j d e;⟨H0,w0⟩⟩
def zG:Sp:=λvs H Q _=>∃(D:Addr) (ds:List Addr) (Fs:Nat->RM.OW),∃p N L m,vs=[.ref D]/\H D=some (.lst (ds.map V.ref))/\p<=900/\E6 p N L m p ds Fs H/\
 ∀b H',aq H H'->l8 H' b ((List.range p).map λi=>lN (zF (Fs i)) p)->Q (.ref b) H'
def iz:Ok T T.iy 3 zG:=by
 have gO:=gO T;refine T.iy.ok qI λ_ A _ s H vs Q E hr h=>?_
 ·obtain⟨D,ds,Fs,p,N,L,m,rfl,hD,hp,⟨hl,all⟩,q⟩:=h;refine⟨_,(ay (aJ (bV (Ac K) (by rfl) T.pQ ab3 (aa (bK (own:=["from_point"]) (fq:=[]) (js:=[]) (aC (ai fg) ["ways"]) rfl (rW K (pv 0)) (λ_ _ _ _=>(bB 0 (kC ["from_point"]))) (λ_ _ _ _=>bJ) (λ_ _ _ _=>(aH gO hr T.gG.c aP (aa (pv 0) af)))) af)))),?_⟩
  refine(av rfl ⟨D,rfl,⟨_,aL.of hD⟩,λX hX=>bO (K:=K) (a:=D) (xs:=ds.map V.ref) (λi acc H2=>aq H H2/\H2 X=some (.lst acc)/\Paired (RowW H2) acc ((List.range i).map λi=>lN (zF (Fs i)) p)) ⟨aq.new hX,ae,.nil⟩ (λi acc H2 _ z=>⟨aL.of (z.1 _ _ hD),z.2.1,by rw[z.2.2.length,aac,aay];exact aae _⟩) (dl (abi.mpr (by rw[aac];lia))) ?_ ?_⟩)
  ·rintro i x acc H2 hx ⟨s2,hX2,pr⟩;obtain⟨d,hd,rfl⟩:∃d,ds[i]?=some d/\x = .ref d:=by
    rw[aan]at hx;obtain⟨b,h1,h2⟩:=wM.mp hx;exact⟨b,h1,h2.symm⟩
   obtain⟨H0,wa⟩:=all i d hd;obtain⟨es,e1,e2,e3,_⟩:=wa.same s2;refine⟨rfl,av rfl ⟨d,es,Fs i,rfl,e2,(by lia),e3,λb ys H3 s3 hb KH=>?_⟩⟩
   have DU:=s3 _ _ hX2;refine⟨DU,(s2.trans s3).put hX,ae,?_⟩;rw[abB,aat,e1]at *;exact Paired.snoc (Paired.imp' (λ_ _ z=>z.tups (s3.tups.trans (dJ.put DU))) pr) (RowW.tups (dJ.put DU) ⟨b,ys,rfl,hb,KH⟩)
  ·rintro acc H2 ⟨s2,hX2,pr⟩;rw[aac,hl]at pr;refine⟨X,_,rfl,.inl ⟨aL.of hX2,λl hl=>?_⟩⟩
   exact q l _ (s2.trans (aq.new hl)) ⟨acc,ae,Paired.imp' (λ_ _ z=>z.same (aq.new hl)) pr⟩
def KI{x y:V}{A B:Prop}(h:x≠y)(ha:A):if(!decide (x=y))=true then A else B:=by
 rw[eI h];exact jg ha
def M3:Sp:=λvs H Q _=>∃(t:Addr) (rs:List (List Int)) (n k:Nat),vs=[.ref t,.int (k:Int)]/\TabAt H t rs/\Tab n rs/\n<=12/\k<n/\
 (∀i:Nat,k<=i->i<n->ent rs i k≠0->Q (.int (i:Int)) H)/\((∀i:Nat,k<=i->i<n->ent rs i k=0)->Q .dS H)
def DV:Sp:=λvs H Q _=>∃(b1 b2:Addr) (r l:List Int) (n k:Nat) (d:Int) (f:Nat->Int),vs=[.ref b1,.ref b2,.int (k:Int),.int d]/\H b1=some (.lst (cE r))/\H b2=some (.lst (cE l))/\r.length=n/\l.length=n/\n<=12/\k<n/\
 d≠0/\d.natAbs<2^1000/\(∀j,j<n->(r.getD j 0).natAbs<2^1000/\(l.getD j 0).natAbs<2^1000)/\(∀j,j<n->l.getD k 0*r.getD j 0-r.getD k 0*l.getD j 0=d*f j)/\
 ∀D H',H D=none->aq H H'->H' D=some (.lst (cE (rH n f)))->Q (.ref D) H'
def P1:Sp:=λvs H Q _=>∃(t:Addr) (rs:List (List Int)) (n E:Nat),vs=[.ref t]/\TabAt H t rs/\Tab n rs/\n<=12/\1<=E/\Dt.fc E n<2^1000/\(∀r c,(ent rs r c).natAbs<=E)/\∀H',aq H H'->Q (.int (Dt.det n (ent rs))) H'
def zH{n:Nat}{rs:List (List Int)}(Tb:Tab n rs){r j:Nat}(hj:n<=j):ent rs r j=0:=by
 show(rs.getD r []).getD j 0=0
 by_cases h:r<n
 ·rw[aaa,List.getElem?_eq_none (by rw[Tb.AF h];exact hj)]
  rfl
 ·rw[aaa (l:=rs),List.getElem?_eq_none (by rw[Tb.len];lia)]
  rfl
def jV:Ok T T.jQ 1 M3:=by
 refine T.jQ.ok mD λ_ A _ s H vs Q E hr h=>?_
 ·obtain⟨t,rs,n,k,rfl,⟨ys,ht,pr⟩,Tb,hn,hk,qy,qn⟩:=h;refine⟨_,(aj (fO PassesOwn.never rfl (wW (by rfl) T.b7 (aa (pv 1) (aa (cU K T.e8 (aa (pv 0) af)) af))) (bB 2 mD.nd)
   (ay (cN (aN tI (aM (ik K) (aM (ik K) (pv 0) (pv 2)) (pv 1)) ao (aO _)) (ay (aJ (pv 2))) bF)))
   (ay (aJ iQ))),?_⟩
  refine u4 ?_;intro c7 dO fL;have Ku:ys.length=n:=by rw[pr.length,Tb.len]
  refine(av rfl (av rfl (rZ rfl (.inl (aL.of ht)) ⟨_,_,rfl,⟨by lia,by lia,by lia,by lia⟩,?_⟩)))
  refine mR (lo:=(k:Int)) (n:=_) (λi σ H2=>∃v2,σ=[some (.ref t),some (.int (k:Int)),v2]/\H2=H/\∀j:Nat,k<=j->j<k+i->ent rs j k=0) ⟨none,rfl,rfl,λj h1 h2=>by lia⟩ ?_ ?_
  ·rintro i σ H2 hi ⟨v2,rfl,rfl,hz⟩;have ek:(k:Int)+(i:Int)=((k+i:Nat):Int):=by lia
   rw[ek];have hki:k+i<n:=by lia
   obtain⟨b,hb,hbH⟩:=TabAt.get pr Tb hki;refine(av rfl (av rfl (iA (aL.of ht) (au (j:=k+i) hb) (av rfl (iA (aL.of hbH) (au (j:=k) (gA (by rw[Tb.AF hki];exact hk))) ⟨rfl,av rfl (?_)⟩)))))
   by_cases h0:ent rs (k+i) k=0
   ·refine HW (abf V.int h0) (av rfl ⟨rfl,λj h1 h2=>?_⟩)
    by_cases hj:j=k+i
    ·rw[hj];exact h0
    ·exact hz j h1 (by lia)
   ·exact KI (λz=>h0 (V.int.inj z)) (av rfl (qy (k+i) (by lia) hki h0))
  ·rintro σ H2 ⟨v2,rfl,rfl,hz⟩;exact qn λi h1 h2=>hz i h1 (by lia)
def jW:Ok T T.jR 1 DV:=by
 refine T.jR.ok u6 λ_ A _ s H vs Q E hr h=>?_
 ·obtain⟨b1,b2,r,l,n,k,d,f,rfl,h1,h2,Hu,hl1,hn,hk,hd,hdb,bn,ex,q⟩:=h;refine⟨_,(ay (aJ (bK (own:=["number","lead"]) (fq:=["row","lead_row","step","divisor"]) (js:=[0,1,2,3]) (aC (ai gU) ["row","lead_row","step","divisor"]) rfl (CI K (by rfl) T.Kq (aa (pv 0) (aa (pv 1) af))) (λ_ _ _ _=>(K0 K (n:=2) rfl (aW (bB 0 (kC ["number","lead","row","lead_row","step","divisor"])) (aW (bB 1 (kC ["number","lead","row","lead_row","step","divisor"])) fN)))) (λ_ _ _ _=>bJ) (λ_ _ _ _=>(aI IT (aI nU (aI yv (aM (ik K) (pv 3) (pv 4)) (pv 0)) (aI yv (aM (ik K) (pv 2) (pv 4)) (pv 1))) (pv 5)))))),?_⟩
  refine(av rfl (av rfl ⟨b1,b2,rfl,⟨_,aL.of h1⟩,⟨_,aL.of h2⟩,λD hD=>tR (xs:=cE r) (ys:=cE l) (by rw[kj,kj,Hu,hl1]) (AG f H D) (.start hD) (λi acc H4 _ pd=>⟨aL.of (pd.1 _ _ h1),aL.of (pd.1 _ _ h2),pd.len⟩) (by rw[kj,Hu];exact dl (abi.mpr (by lia))) ?_ ?_⟩))
  ·intro i x y T0 acc H2 hx hy pd hT;obtain⟨hi,rfl⟩:=ug hx;obtain⟨_,rfl⟩:=ug hy;rw[Hu]at hi;have s2:aq H2 (upd H2 T0 (.tup [.int (r.getD i 0),.int (l.getD i 0)])):=aq.new hT;have hT2:upd H2 T0 (.tup [.int (r.getD i 0),.int (l.getD i 0)]) T0=some (.tup [.int (r.getD i 0),.int (l.getD i 0)]):=ae;generalize upd H2 T0 (.tup [.int (r.getD i 0),.int (l.getD i 0)])=H3 at s2 hT2;have Vn:=s2 _ _ (pd.1 _ _ h1);have Vo:=s2 _ _ (pd.1 _ _ h2);refine⟨T0,_,rfl,bg.of hT2,rfl,_,_,rfl,_,_,rfl,rfl,rfl,?_⟩;refine(av rfl (av rfl (iA (aL.of Vo) (au (j:=k) (gA (by rw[hl1];exact hk))) (av rfl (cD ⟨mulOk_of (bn k hk).2 (bn i hi).1,?_⟩)))))
   refine(av rfl (av rfl (iA (aL.of Vn) (au (j:=k) (gA (by rw[Hu];exact hk))) (av rfl (cD ⟨mulOk_of (bn k hk).1 (bn i hi).2,_,_,rfl,rfl,av rfl (cD ⟨⟨hd,hdb⟩,?_⟩)⟩)))))
   exact pd.next hD s2 (abf V.int (C2 hd (ex i hi)))
  ·intro acc H2 pd;rw[kj,Hu]at pd;exact q D H2 hD pd.1 (by rw[pd.2.1,pd.2.2])
def jX:Ok T T.jS 2 P1:=by
 have jV:=jV T;have jW:=jW T;refine T.jS.ok bE λ_ A _ s H vs Q E hr h=>?_
 ·obtain⟨t,SX,n,E,rfl,⟨K7,ht,SY⟩,X4,hn,hE,hfc,bnE,q⟩:=h;refine⟨_,(aj (aG (i:=1) bE.nd rfl (Or.inl rfl) (bV (Nu K) (by rfl) T.zB acE (aa (pv 0) af)))
   (aj (aG (i:=2) bE.nd rfl (Or.inl rfl) ao)
   (aj (aG (i:=3) bE.nd rfl (Or.inl rfl) ao)
   (aj (fO PassesOwn.never rfl (bU (by rfl) T.b7 (aa (cU K T.e8 (aa (pv 1) af)) af)) (bB 4 bE.nd)
   (aj (aG (i:=5) bE.nd rfl (Or.inl rfl) (aH jV hr T.jQ.c aP (aa (pv 1) (aa (pv 4) af))))
   (aj (cN (aN ym (pv 5) iQ (aO _)) (ay (aJ ao)) bF)
   (aj (cN (aN tI (pv 5) (pv 4) (aO _)) (aj (aG (i:=6) bE.nd rfl (Or.inl rfl) (aM (ik K) (pv 1) (pv 5)))
   (aj (yk (aM (ik K) (pv 1) (pv 4)) (yj (pv 1) (pv 5) set_list))
   (aj (yk (pv 6) (yj (pv 1) (pv 4) set_list))
   (ay (aG (i:=2) bE.nd rfl (Or.inl rfl) (HE Cy (pv 2))))))) bF)
   (aj (fO PassesOwn.never rfl (wW (by rfl) T.b7 (aa (aI dD (pv 4) ao) (aa (cU K T.e8 (aa (pv 1) af)) af))) (bB 7 bE.nd)
   (ay (yk (aH jW hr T.jR.c aP (aa (aM (ik K) (pv 1) (pv 7)) (aa (aM (ik K) (pv 1) (pv 4)) (aa (pv 4) (aa (pv 3) af))))) (yj (pv 1) (pv 7) set_list))))
   (ay (aG (i:=3) bE.nd rfl (Or.inl rfl) (aM (ik K) (aM (ik K) (pv 1) (pv 4)) (pv 4)))))))))
   (ay (aJ (aI yl (pv 2) (pv 3)))))))),?_⟩
  refine u9 ?_;intro c7 dO fL je kI pH uS BD za BE uY r6 BF BG JY;refine(av rfl (rZ rfl (.inl (aL.of ht)) (λR hR=>?_)))
  have s0:aq H (upd H R (.lst K7)):=aq.new hR;have Wn:upd H R (.lst K7) R=some (.lst K7):=ae;have SY:Paired (kX R (upd H R (.lst K7))) K7 SX:=Paired.imp' (λ_ _ ⟨b,e,z⟩=>⟨b,e,bj z hR,s0 _ _ z⟩) SY
  generalize upd H R (.lst K7)=H0 at s0 Wn SY;have Ku:K7.length=n:=by rw[SY.length,X4.len]
  refine(av rfl (rZ rfl (.inl (aL.of Wn)) (av rfl ⟨(by lia),(by lia),?_⟩)))
  refine mR (lo:=0) (n:=_) (λi σ H2=>∃ys rs sg d v4 v5 v6 v7,σ=[some (.ref t),some (.ref R),some (.int sg),some (.int d),v4,v5,v6,v7]/\aq H H2/\H2 R=some (.lst ys)/\Paired (kX R H2) ys rs/\Tab n rs/\Dt.Bs n (ent SX) i sg d (ent rs))
   ⟨K7,SX,1,1,none,none,none,none,rfl,s0,Wn,SY,X4,Dt.Bs.zero _ _⟩ ?_ ?_
  ·rintro i σ H2 hi ⟨ys,rs,sg,d,v4,v5,v6,v7,rfl,s2,NX,pr,Tb,bs⟩;have hin:i<n:=by lia
   rw[abl];refine(av rfl (av rfl ⟨R,rs,n,i,rfl,⟨ys,NX,Paired.imp' (λ_ _ z=>z.is) pr⟩,Tb,hn,hin,λr0 hr0 Hu Uk=>?_,λhz=>?_⟩))
   case refine_2 =>
    have h0:Dt.det n (ent SX)=0:=bs.none hin hz;refine(av rfl ⟨rfl,av rfl (LL rfl ?_)⟩);show Q (V.int 0) _;rw[<-h0];exact q _ s2
   refine(av rfl ⟨rfl,av rfl (Ab (λz=>nomatch z) (av rfl (av rfl ⟨rfl,av rfl (?_)⟩)))⟩)
   by_cases Wo:r0=i
   case' pos =>
    refine HW (by rw[Wo]) ?_
    rw[Wo]at Uk;generalize H2=H2x at s2 NX pr;generalize ys=ysx at NX pr;generalize rs=rsx at pr Tb bs Uk;generalize sg=sgx at bs;have s3:=s2;have S0:=NX;have KH:=pr;have QS:=Tb;have P4:=bs;have M4:=Uk
   case' neg =>
    refine KI (λz=>Wo (by have:=V.int.inj z;lia)) ?_
    obtain⟨b1,e1,nb1,hb1⟩:=kX.get pr Tb Hu;obtain⟨b2,e2,nb2,MS⟩:=kX.get pr Tb hin;have SQ:ys.length=n:=by rw[pr.length,Tb.len]
    refine(av rfl (av rfl (iA (aL.of NX) (au (j:=r0) e1) (?_))));refine(av rfl (av rfl (iA (aL.of NX) (au (j:=i) e2) (av rfl (av rfl ⟨R,ys,_,r0,rfl,rfl,NX,mV (by lia),?_⟩)))))
    refine(av rfl (av rfl (av rfl ⟨R,_,_,i,rfl,rfl,ae,mV (by rw[acw];lia),av rfl (av rfl (?_))⟩)))
    have s3:aq H (upd (upd H2 R (.lst (ys.set r0 (.ref b2)))) R (.lst ((ys.set r0 (.ref b2)).set i (.ref b1)))):=(s2.put hR).put hR;have S0:upd (upd H2 R (.lst (ys.set r0 (.ref b2)))) R (.lst ((ys.set r0 (.ref b2)).set i (.ref b1))) R=some (.lst ((ys.set r0 (.ref b2)).set i (.ref b1))):=ae;have KH:Paired (kX R (upd (upd H2 R (.lst (ys.set r0 (.ref b2)))) R (.lst ((ys.set r0 (.ref b2)).set i (.ref b1))))) ((ys.set r0 (.ref b2)).set i (.ref b1)) ((rs.set r0 (rs.getD i [])).set i (rs.getD r0 [])) :=
     Paired.imp' (λ_ _ z=>z.put.put) (kW ⟨b1,rfl,nb1,hb1⟩ i (kW ⟨b2,rfl,nb2,MS⟩ r0 pr))
    have QS:Tab n ((rs.set r0 (rs.getD i [])).set i (rs.getD r0 [])):=(Tb.set r0 (Tb.AF hin)).set i (Tb.AF Hu);have esw:ent ((rs.set r0 (rs.getD i [])).set i (rs.getD r0 []))=Dt.sw (ent rs) i r0:=by
     funext r j
     rw[o6 (by rw[acw,Tb.len];exact hin),o6 (by rw[Tb.len];exact Hu)]
     unfold Dt.sw Dt.put
     by_cases c1:r=i
     ·rw[aad c1,aab (by lia),aad c1]
      rfl
     ·rw[aab c1,aab c1]
      by_cases c2:r=r0
      ·rw[aad c2,aad c2];rfl
      ·rw[aab c2,aab c2]
    have P4:Dt.Bs n (ent SX) i (-sg) d (ent ((rs.set r0 (rs.getD i [])).set i (rs.getD r0 []))):=by
     rw[esw];exact bs.sw (by lia) Hu
    have M4:ent ((rs.set r0 (rs.getD i [])).set i (rs.getD r0 [])) i i≠0:=by
     rw[o6 (by rw[acw,Tb.len];exact hin),aad rfl]
     exact Uk
    dsimp only[List.set];generalize upd (upd H2 R (.lst (ys.set r0 (.ref b2)))) R (.lst ((ys.set r0 (.ref b2)).set i (.ref b1)))=H2x at s3 S0 KH;generalize (rs.set r0 (rs.getD i [])).set i (rs.getD r0 [])=rsx at KH QS P4 M4;generalize (ys.set r0 (.ref b2)).set i (.ref b1)=ysx at S0 KH;generalize -sg=sgx at P4
   all_goals (
    have aaQ:ysx.length=n:=by rw[KH.length,QS.len]
    have bd:=P4.bnd hE bnE;have d0:d≠0:=P4.2.2.1;refine(av rfl (cD (av rfl (rZ rfl (.inl (aL.of S0)) ⟨_,_,rfl,⟨by lia,by lia,by lia,by lia⟩,?_⟩))))
    refine mR (lo:=(i:Int)+1) (n:=_) (λm σ H5=>∃ys rs v6 v7,σ=[some (.ref t),some (.ref R),some (.int sgx),some (.int d),some (.int (i:Int)),some (.int (r0:Int)),v6,v7]/\aq H H5/\H5 R=some (.lst ys)/\Paired (kX R H5) ys rs/\Tab n rs/\(∀j,ent rs i j=ent rsx i j)/\
     ∀r,i<r->r<n->∀j,if r<i+1+m then d*ent rs r j=ent rsx i i*ent rsx r j-ent rsx r i*ent rsx i j else ent rs r j=ent rsx r j)
     ⟨ysx,rsx,_,_,rfl,s3,S0,KH,QS,λj=>rfl,λr h1 h2 j=>by rw[aab (by lia)]⟩ ?_ ?_
    ·rintro m σ H5 hm ⟨QJ,QT,v6,v7,rfl,s5,P5,E4,G8,Ul,S3⟩;have ek:(i:Int)+1+(m:Int)=((i+1+m:Nat):Int):=by lia
     rw[ek];have hb:i+1+m<n:=by lia
     obtain⟨c1,e1,n1,h1⟩:=kX.get E4 G8 hb;obtain⟨c2,e2,n2,h2⟩:=kX.get E4 G8 hin;have er:∀j,(QT.getD (i+1+m) []).getD j 0=ent rsx (i+1+m) j:=λj=>by
      have:=S3 _ (by lia) hb j
      rw[aab (by lia)]at this
      exact this
     have el:∀j,(QT.getD i []).getD j 0=ent rsx i j:=Ul;obtain⟨f,hf⟩:=ac7 (λj=>P4.out M4 (i:=i+1+m) (by lia) hb j)
     refine(av rfl (av rfl (iA (aL.of P5) (au (j:=i+1+m) e1) (av rfl (av rfl (iA (aL.of P5) (au (j:=i) e2) (av rfl (av rfl ⟨c1,c2,_,_,n,i,d,f,rfl,h1,h2,G8.AF hb,G8.AF hin,hn,hin,d0,abm bd.1 hfc,λj hj=>⟨by rw[er j];exact abm (bd.2 _ _ (by lia) hb) hfc,by rw[el j];exact abm (bd.2 _ _ (aae _) hin) hfc⟩,λj hj=>?_,λD H6 hD s6 SN=>?_⟩))))))))
     ·rw[er j,el j,er i,el i];exact hf j
     ·have nD:D≠R:=λe=>by rw[e,P5]at hD;cases hD
      have hl5:QJ.length=n:=by rw[E4.length,G8.len]
      refine(av rfl (av rfl ⟨R,QJ,_,i+1+m,rfl,rfl,s6 _ _ P5,mV (by lia),?_⟩))
      refine⟨_,QT.set (i+1+m) (rH n f),_,_,rfl,(s5.trans s6).put hR,ae,Paired.imp' (λ_ _ z=>z.put) (kW ⟨D,rfl,nD,SN⟩ _ (Paired.imp' (λ_ _ z=>z.same s6) E4)),G8.set _ (qi _ _),λj=>?_,λr h1 h2 j=>?_⟩
      ·rw[o6 (by rw[G8.len];exact hb),aab (by lia)]
       exact Ul j
      ·by_cases hj:j<n
       ·rw[o6 (by rw[G8.len];exact hb)]
        by_cases c:r=i+1+m
        ·rw[aad c,aad (by lia),FZ _ hj,c]
         exact(hf j).symm
        ·rw[aab c];have:=S3 r h1 h2 j
         by_cases c2:r<i+1+m
         ·rw[aad c2]at this;rw[aad (by lia)]
          exact this
         ·rw[aab c2]at this;rw[aab (by lia)]
          exact this
       ·have z1:=zH (r:=r) (j:=j) QS (by lia)
        have z2:=zH (r:=i) (j:=j) QS (by lia)
        have z3:=zH (r:=r) (j:=j) (G8.set (i+1+m) (qi n f)) (by lia)
        rw[z3,z1,z2]
        split<;>simp
    ·rintro σ H5 ⟨QJ,QT,v6,v7,rfl,s5,P5,E4,G8,Ul,S3⟩;obtain⟨c2,e2,n2,h2⟩:=kX.get E4 G8 hin;have ed:(QT.getD i []).getD i 0=ent rsx i i:=Ul i;refine(av rfl (av rfl (iA (aL.of P5) (au (j:=i) e2) (av rfl (iA (aL.of h2) (au (j:=i) (gA (by rw[G8.AF hin];exact hin))) (?_))))))
     refine⟨QJ,QT,sgx,ent rsx i i,_,_,_,_,by rw[<-ed];rfl,s5,P5,E4,G8,P4.step hin M4 λr j h1 h2=>?_⟩
     have:=S3 r h1 h2 j;rw[aad (by lia)]at this
     exact this)
  ·rintro σ H2 ⟨ys,rs,sg,d,v4,v5,v6,v7,rfl,s2,NX,pr,Tb,bs⟩;have e:((K7.length:Int).toNat)=n:=by lia
   refine(av rfl (av rfl (cD ⟨.inl (by rcases bs.2.1 with rfl | rfl<;>decide),?_⟩)))
   rw[e]at bs;show Q (.int (sg*d)) H2;rw[bs.done];exact q _ s2
def M5(p:Nat)(ts:List cC)(g:aA p ts)(m:Nat)(H H' : Hp)(t:Addr):Prop :=
 ((∀x z,x<p->¬ RM.Wy g.N (aQ ts) m x x true z)/\m=g.N.cut (λx=>decide (x∈rO p ts g m))/\∃l,H l=none/\H' t=some (.tup [.str "side",.ref l])/\H' l=some (.lst (aB (rO p ts g m))))\/
 ∃(z:Int) (e:Nat) (b:Addr) (W:List (List Pr)),RM.Lo g.N (aQ ts) m z e/\RM.uB g.N (aQ ts) m z e/\H' t=some (.tup [.str "ring",.int (e:Int),.ref b])/\l8 H' b W/\W.length=p/\(∀R∈W,R.length=p)/\Sb p ts g m W
def zI(C t:Addr)(lp:Pos):Sp:=λvs H Q E=>∃w p ts,∃g:aA p ts,∃S,vs=[.ref w,.int S]/\bx H w p ts/\H t=some (.jC (eT (qu "least_ways") lp))/\pR ts S (E (.ref C) none H) λm=>∀r H',H r=none->aq H H'->M5 p ts g m H H' r->Q (.ref r) H'
def vD(H:Hp)(v:V)(d:Int×Nat):Prop:=∃c,v = .ref c/\H c=some (.tup [.int d.1,.int (d.2:Int)])
def vD.tups{H H' : Hp}{v:V}{d:Int×Nat}(h:vD H v d)(s:dJ H H'):vD H' v d:=let⟨c,e,q⟩:=h;⟨c,e,s _ _ q⟩
def oA(d:Int×Nat):PyData:=.tuple [.int d.1,.int (d.2:Int)]
def Ca{K:bM}{H:Hp}:∀{ys:List V} {R:List (Int×Nat)},Paired (vD H) ys R->DatVs K H ys (R.map oA)
 | _,_,.nil=>.nil
 | _,_,.cons h r=>by
   obtain⟨b,rfl,hb⟩:=h;exact .cons (.tup (bg.of hb) (.cons (.int _) (.cons (.int _) .nil))) (Ca r)
def KJ:∀l:List (Int×Nat),PyData.eqv (.list (l.map oA)) (.list [])=decide (l=[])
 | []=>rfl
 | _::_=>rfl
def Cb:∀R:List (Int×Nat),PyData.canLayAll0 (R.map oA)=true
 | []=>rfl
 | q::r=>by
   have ih:=Cb r;have e:(oA q).canLay0=true:=by simp[oA,PyData.canLay0,PyData.canLayAll0]
   simp only[aaT,PyData.canLayAll0,ih,acT,e]
def xY:∀R:List (Int×Nat),PyData.depthAll (R.map oA)<=1
 | []=>aaN _
 | q::r=>by
   have ih:=xY r;show max (PyData.depth (oA q)) (PyData.depthAll (r.map oA))<=1;have e:PyData.depth (oA q)=1:=by simp[oA,PyData.depth,PyData.depthAll]
   lia
def xZ{H:Hp}:∀{ys:List V} {R:List (Int×Nat)},Paired (vD H) ys R->∃cs:List Addr,ys=cs.map V.ref/\Paired (λ(c:Addr) (d:Int×Nat)=>H c=some (.tup [.int d.1,.int (d.2:Int)])) cs R
 | _,_,.nil=>⟨[],rfl,.nil⟩
 | _,_,.cons h r=>by
   obtain⟨b,rfl,hb⟩:=h;obtain⟨cs,rfl,pr⟩:=xZ r;exact⟨b::cs,rfl,.cons hb pr⟩
def Cc(R:List (Int×Nat)):SeqAt.shaped (.list (R.map oA))=true:=by
 unfold SeqAt.shaped;have e:(PyData.list (R.map oA)).canLay0=PyData.canLayAll0 (R.map oA):=by simp[PyData.canLay0]
 rw[e,Cb,aa7];refine cF ?_;have h:=xY R;have e2:PyData.depth (PyData.list (R.map oA))=PyData.depthAll (R.map oA)+1:=by simp[PyData.depth]
 rw[e2]
 lia
def yR{a b:Int×Nat}(h:HT.lexLt [a.1,(a.2:Int)] [b.1,(b.2:Int)]=false):RM.lx b a:=by
 rw[HT.gy]at h;unfold RM.lx
 by_cases e:a.1=b.1
 ·rw[aad e,HT.gy]at h;refine .inr ⟨e.symm,?_⟩
  by_cases e2:(a.2:Int)=(b.2:Int)
  ·lia
  ·rw[aab e2]at h;have:=of_decide_eq_false h
   lia
 ·rw[aab e]at h;have:=of_decide_eq_false h;exact .inl (by lia)
def mO:Hs T T.mJ 7 (zI a.dQ a.c8 cM):=by
 have cK:=cK T;have gP:=gP T;have iz:=iz T;have rh:=rh T;refine T.mJ.Eo lu λ_ A _ s H vs Q E hr h=>?_
 ·obtain⟨wb,p,ts,g,S,rfl,hw,htb,q⟩:=h;refine⟨_,(aj (cY (aH cK hr T.g9.c fu.passes (aa (pv 0) (aa (pv 1) af))))
   (aj (aG (i:=2) lu.nd rfl (Or.inr rfl) (aH gP hr T.gH.c aP (aa (pv 0) (aa (pv 1) af))))
   (aj (fR (i:=3) lu.nd rfl rfl (own:=["point"]) (fq:=["ways"]) (js:=[2]) (aC (ai ju) ["web","marks","ways","rounds"]) rfl (bU (by rfl) T.b7 (aa (aM (eO K) (pv 0) ao) af)) (λ_ _ _ _=>(bB 0 (kC ["point","ways"]))) (λ_ _ _ _=>(fQ (aN Ed (aM (ik K) (aM (ik K) (aM (ik K) (pv 1) (pv 0)) (pv 0)) ao) iQ (aO _)))) (λ_ _ _ _=>(aM (ik K) (aM (ik K) (aM (ik K) (pv 1) (pv 0)) (pv 0)) ao)))
   (aj (cN (aN (CG K hr.units) (pv 3) (eM af) (aO _)) (ay (aJ (aH rh hr T.qW.c fu.passes (aa (pv 0) (aa (pv 1) af))))) bF)
   (ay (aJ (dH (aa pX (aa (aM (eO K) (dI (VO hr.hd hr.in1.Cz) (by rfl) T.Kp PyProof.Rows.boot_min (aa (pv 3) af)) ao) (aa (aH iz hr T.iy.c aP (aa (pv 2) af)) af)))))))))),?_⟩
  refine zc ?_;intro c7 dO fL je kI;obtain⟨bt,xs,h1,h2,h3⟩:=id hw.ex;have wp:=g.p2;have W:=g.Iq;rcases q with⟨m,rfl,hm,q⟩|⟨hS,q⟩
  case inr=>exact(av rfl (av rfl ⟨wb,p,ts,_,rfl,hw,W,.inr ⟨hS,q⟩⟩))
  refine(av rfl (av rfl ⟨wb,p,ts,_,rfl,hw,W,.inl ⟨m,rfl,hm,?_⟩⟩));refine(av rfl (av rfl ⟨wb,p,ts,g,m,rfl,hw,hm,htb,λD ds Fs H1 hD s1 Ba al=>?_⟩))
  obtain⟨hl,all⟩:=id al;have G7:∀i,i<p->∃d H0,ds[i]?=some d/\jU p g.N (aQ ts) m i d (Fs i) H0 H1:=λi hi=>by
   have e:ds[i]?=some ds[i]:=aaf (by lia)
   obtain⟨H0,h0⟩:=all i _ e;exact⟨_,H0,e,h0⟩
  refine(av rfl (eX (bg.of (s1 _ _ h1)) (au (j:=0) rfl) (av rfl ⟨(by lia),(by lia),λX hX=>cz (lo:=0) (m:=(p:Int).toNat) (λi acc H2=>aq H1 H2/\H2 X=some (.lst acc)/\Paired (vD H2) acc ((List.range i).filterMap λj=>Fs j j true)) ⟨aq.new hX,ae,.nil⟩ (λi acc H2 _ z=>⟨z.2.1,by rw[z.2.2.length];exact aaD (List.length_filterMap_le ..) (by simp)⟩) (dl (abi.mpr (by lia))) ?_ ?_⟩)))
  ·rintro i acc H2 hi ⟨s2,hX2,pr⟩;rw[aau]at hi;rw[abl];obtain⟨d,H0,hd,es,e1,e2,e3,_⟩:=G7 i hi;have hei:es[i]?=some es[i]:=aaf (by lia)
   obtain⟨v0,v1,hv,w0,w1⟩:=e3 i _ hei;have fm:(List.range (i+1)).filterMap (λj=>Fs j j true)=(List.range i).filterMap (λj=>Fs j j true)++(Fs i i true).toList:=by
    rw[abB,List.filterMap_append];cases hF:Fs i i true<;>simp[hF]
   rw[fm];have X5:(ds.map V.ref)[i]?=some (.ref d):=by rw[aan,hd];rfl
   have hdi:(es.map V.ref)[i]?=some (.ref es[i]):=by rw[aan,hei];rfl
   refine⟨rfl,av rfl (av rfl (iA (aL.of (s2 _ _ Ba)) (au (j:=i) X5) (av rfl (iA (aL.of (s2 _ _ e2)) (au (j:=i) hdi) (iA (aL.of (s2 _ _ hv)) (au (j:=1) rfl) ⟨rfl,av rfl (?_)⟩)))))⟩;cases hF:Fs i i true with
   | none =>
     rw[hF]at w1;have w1:v1 = .dS:=w1;subst w1;refine HW rfl ⟨s2,hX2,?_⟩;rw[show(none:Option (Int×Nat)).toList=[] from rfl,abP]
     exact pr
   | some dd =>
     rw[hF]at w1;obtain⟨c,rfl,hc⟩:=w1;refine KI (λz=>nomatch z) (av rfl (av rfl (iA (aL.of (s2 _ _ Ba)) (au (j:=i) X5) (av rfl (iA (aL.of (s2 _ _ e2)) (au (j:=i) hdi) (iA (aL.of (s2 _ _ hv)) (au (j:=1) rfl) ⟨hX2,s2.put hX,ae,?_⟩))))))
     have tp:dJ H2 (upd H2 X (.lst (acc++[.ref c]))):=dJ.put hX2;exact Paired.snoc (Paired.imp' (λ_ _ z=>z.tups tp) pr) ⟨c,rfl,tp _ _ (s2 _ _ hc)⟩
  ·rintro acc H2 ⟨s2,hX2,pr⟩;rw[aau]at pr;generalize hR:(List.range p).filterMap (λj=>Fs j j true)=R at pr
   have s12:=s1.trans s2;have K8:∀k,k<g.N.n->0<aQ ts k:=λk hk=>by
    have:=(g.nY _ (dZ hk)).l0;unfold aQ
    lia
   have inR:∀j d,j<p->Fs j j true=some d->d∈R:=λj d hj hd=>by
    rw[<-hR];exact acu.mpr ⟨j,aax.mpr hj,hd⟩
   have ofR:∀d,d∈R->∃j,j<p/\Fs j j true=some d:=λd hd=>by
    rw[<-hR]at hd;obtain⟨j,hj,e⟩:=acu.mp hd;exact⟨j,aax.mp hj,e⟩
   have best:∀i,i<p->∀x s,RM.Jg g.N (aQ ts) m i x s ((Fs i x s).map (·.1)):=λi hi=>by
    obtain⟨d,H0,hd,es,e1,e2,e3,e4,_⟩:=G7 i hi;exact e4
   refine(av rfl ⟨dl rfl,λl0 El=>⟨_,_,.lst (aL.of (aq.new El _ _ hX2)) (Ca (Paired.imp' (λ_ _ z=>z.tups (aq.new El).tups) pr)),.lst (aL.of ae) .nil,Cc _,rfl,av rfl (?_)⟩⟩)
   rw[KJ];have s3:=s12.trans (aq.new (o:=.lst []) El);have KL:=s2.trans (aq.new (o:=.lst []) El);have DU:=aq.new (o:=.lst []) El _ _ hX2;have KH:=Paired.imp' (λ_ _ z=>vD.tups z (aq.new (o:=.lst []) El).tups) pr
   clear hX2 pr;generalize upd H2 l0 (.lst [])=H3 at s3 KL DU KH
   by_cases hne:R=[]
   ·rw[cF hne];have no:∀x z,x<p->¬ RM.Wy g.N (aQ ts) m x x true z:=λx z hx hw=>by
     have b:=best x hx x true;cases hF:Fs x x true with
     | none=>rw[hF]at b;exact b z hw
     | some d=>have:=inR x d hx hF;rw[hne]at this;cases this
    refine jg (av rfl (av rfl ⟨wb,p,ts,g,_,rfl,hw.same s3,.inl ⟨m,rfl,hm,λt H4 ht s4 told=>?_⟩⟩))
    refine q t H4 (s3.free ht) (s3.trans s4) (.inl ⟨no,?_⟩);rcases told with⟨h0,l,hl,Wg,Wq⟩|⟨c,hc,hp,_⟩
    ·exact⟨h0,l,s3.free hl,Wg,Wq⟩
    ·obtain⟨c1,c2⟩:=RM.aY.mp hc;rw[RM.JD (λk hk=>acM (K8 k hk)) no (RM.m4 c1 c2) (RM.mW c1)]at hp
     cases hp
   ·rw[eI hne];obtain⟨cs,rfl,X6⟩:=xZ KH;have csl:=X6.length;have hpos:0<cs.length:=by
     have:=List.length_pos_iff.mpr hne
     lia
    have hcs:∀(i:Nat) c,cs[i]?=some c->∃d,R[i]?=some d/\H3 c=some (.tup [.int d.1,.int (d.2:Int)]):=λi c hc=>Paired.nX X6 hc
    refine gn (av rfl ⟨X,cs,λi=>[(R.getD i (0,0)).1,((R.getD i (0,0)).2:Int)],rfl,aL.of DU,hpos,λi c hc=>?_,λi c hc hmin=>?_⟩)
    ·obtain⟨d,hd,h⟩:=hcs i c hc;have e:R.getD i (0,0)=d:=by rw[aaa,hd];rfl
     dsimp only;rw[e];exact bg.of h
    obtain⟨d,hd,hcd⟩:=hcs i c hc;obtain⟨u,hu,X7⟩:=ofR d (iq hd);have hlx:∀j d',j<p->Fs j j true=some d'->RM.lx d d':=λj d' hj hF=>by
     obtain⟨i',hi'⟩:=aa3 (inR j d' hj hF);have hlt:i'<cs.length:=by
      have:=(jf.mp hi').1
      lia
     have hm2:=hmin i' hlt;have e:R.getD i (0,0)=d:=by rw[aaa,hd];rfl
     have e' : R.getD i' (0,0)=d':=by rw[aaa,hi'];rfl
     dsimp only at hm2;rw[e,e']at hm2;exact yR hm2
    have hmn:∀x z',x<p->RM.Wy g.N (aQ ts) m x x true z'->d.1<=z':=λx z' hx hw=>by
     have b:=best x hx x true;cases hF:Fs x x true with
     | none=>rw[hF]at b;exact absurd hw (b z')
     | some d' =>
       rw[hF]at b;have h1:d'.1<=z':=b.2 z' hw;have h2:=hlx x d' hx hF;unfold RM.lx at h2
       lia
    obtain⟨_,_,_,es,_,_,_,_,wz,_,_⟩:=G7 u hu;have X8:=wz u true d X7;obtain⟨r1,r2,r3,r4⟩:=RM.Dl K8 (show u<g.N.p from hu) X8 hmn
    refine(eX (bg.of hcd) (au (j:=1) rfl) (av rfl ⟨D,ds,Fs,p,g.N,aQ ts,m,rfl,KL _ _ Ba,(by lia),⟨hl,λj d e=>let⟨H0,w0⟩:=all j d e;⟨H0,w0.same KL⟩⟩,λb H4 s4 hW=>⟨dl rfl,λt ht=>?_⟩⟩))
    have s5:aq H4 (upd H4 t (.tup [.str "ring",.int (d.2:Int),.ref b])):=aq.new ht;refine q t _ ((s3.trans s4).free ht) ((s3.trans s4).trans s5) (.inr ⟨d.1,d.2,b,_,⟨Fs,λi hi=>?_,⟨u,hu,X7⟩,hlx⟩,⟨r1,r2,r3,r4,⟨u,hu,?_⟩,hmn⟩,ae,hW.same s5,by rw[aac,aay],λR hR=>?_,λi hi x s hx=>?_⟩)
    ·obtain⟨_,_,_,_,_,_,_,_,_,_,fx⟩:=G7 i hi;exact fx
    ·obtain⟨pre,w0⟩:=X8;exact⟨pre,_,w0⟩
    ·obtain⟨i,_,rfl⟩:=aaH.mp hR;exact EH _ _
    ·rw[aaa,aan,acW hi];show RM.Jg _ _ m i x s (sel (Mc (lN (zF (Fs i)) p) x) s);rw[O2 hx];exact best i hi x s
def G9(t1 t2:Addr)(Wr Ws:Pos):Sp:=λvs H Q _=>∃w p ts,∃g:aA p ts,vs=[.ref w]/\bx H w p ts/\H t1=some (.jC (eT (qu "least_ways") Wr))/\H t2=some (.jC (eT (qu "by_length") Ws))/\
 ∀D rs H',H D=none->aq H H'->H' D=some (.lst (aB rs))->RM.LB g.N (aQ ts) rs->rs.Pairwise (vC ts)->(∃bs,RM.Ph g.N (aQ ts) (g.N.ah.map λc=>2^c) bs []/\rs.Perm bs)->Q (.ref D) H'
def jY:Ok T T.jP 10 (G9 a.c8 a.fG cM eg):=by
 have gj:=gj T;have mO:=mO T;have dw:=dw T;have fJ:=fJ T;refine T.jP.ok cV λ_ A _ s H vs Q E hr h=>?_
 ·obtain⟨wb,p,ts,g,rfl,hw,MW,MX,q⟩:=h;refine⟨_,(aj (fR (i:=1) cV.nd rfl rfl (own:=["chord"]) (fq:=[]) (js:=[]) (aC (ai eZ) ["web","waiting","found","marks","ring"]) rfl (rW K (aH gj hr T.mH.c aP (aa (pv 0) af))) (λ_ _ _ _=>(bB 0 (kC ["chord"]))) (λ_ _ _ _=>bJ) (λ_ _ _ _=>(aI pZ ao (pv 0))))
   (aj (aG (i:=2) cV.nd rfl (Or.inl rfl) (eM af))
   (aj (zV PassesOwn.never (aN zY (cU K T.e8 (aa (pv 1) af)) ao (aO _)) (aj (aG (i:=3) cV.nd rfl (Or.inr rfl) (aM (ik K) (pv 1) ao))
   (aj (aG (i:=4) cV.nd rfl (Or.inr rfl) (aM (eO K) (aH mO hr T.mJ.c nK (aa (pv 0) (aa (pv 3) af))) ao))
   (aj (cY (JX K (lV aba abd abe cO (pv 2) (aa (pv 4) af))))
   (ay (fR (i:=1) cV.nd rfl rfl (own:=["later"]) (fq:=["marks","ring"]) (js:=[3,4]) (aC (ai eZ) ["web","waiting","found","marks","ring"]) rfl (rW K (j7 (U6 K) (pv 1) (mT ao) mS)) (λ_ _ _ _=>(bB 0 (kC ["later","marks","ring"]))) (λ_ _ _ _=>bJ) (λ_ _ _ _=>(jZ (kK (aH dw hr T.gV.c aP (aa (pv 2) (aa (pv 0) af)))) (aI iT (pv 0) (pv 1)) (pv 0)))))))))
   (ay (aJ (aH fJ hr T.hU.c aP (aa (pv 0) (aa (pv 2) af)))))))),?_⟩
  refine uZ ?_;intro c7 dO fL je kI pH uS;have wl:=g.len;have cn:g.N.ah.length<=24:=by
   have:g.N.ah.length<=(List.range g.N.n).length:=aaG ..;rw[aay]at this;have h2:g.N.n=ts.length:=rfl
   lia
  have X9:(100:Nat)<sizeLine:=by decide
  refine(av rfl ⟨wb,p,ts,g,rfl,hw,λDc H1 hDc s1 hc1=>⟨Dc,rfl,⟨_,aL.of hc1⟩,λX hX=>bO (K:=K) (a:=Dc) (xs:=aB g.N.ah) (λi acc H2=>aq H1 H2/\H2 X=some (.lst acc)/\acc=aB ((g.N.ah.take i).map λc=>2^c)) ⟨aq.new hX,ae,rfl⟩ (λi acc H2 _ z=>⟨aL.of (z.1 _ _ hc1),z.2.1,by rw[z.2.2,aD,aac,aa8];lia⟩) (fT (by rw[aD];lia)) ?_ ?_⟩⟩)
  ·rintro i x acc H2 hx ⟨s2,hX2,rfl⟩;obtain⟨c,QU,rfl⟩:∃c,g.N.ah[i]?=some c/\x = .int (c:Int):=by
    unfold aB at hx;rw[aan]at hx;obtain⟨c,h1,h2⟩:=wM.mp hx;exact⟨c,h1,h2.symm⟩
   have hcn:=(RM.aY.mp (iq QU)).1;have hcn:c<ts.length:=hcn;refine⟨rfl,av rfl (cD ⟨⟨by lia,by lia,by decide⟩,hX2,s2.put hX,ae,?_⟩)⟩
   rw[aaZ,QU];show _=aB (List.map _ (List.take i g.N.ah++[c]));rw[aat,ac2,cZ];dsimp only;rw[sI]
  rintro acc H2 ⟨s2,hX2,rfl⟩;rw[aD,aa5]at hX2;refine⟨dl rfl,λF hF=>?_⟩
  have s3:aq H2 (upd H2 F (.lst [])):=aq.new hF;have DU:=s3 _ _ hX2;have Yb:upd H2 F (.lst []) F=some (.lst (aB [])):=ae;have hF0:H F=none:=(s1.trans s2).free hF;have hXF:X≠F:=λz=>by rw[<-z,hX2]at hF;cases hF
  have Yc:=(s1.trans s2).trans s3;generalize upd H2 F (.lst [])=H3 at DU Yb Yc;have nd:g.N.ah.Nodup:=RM.m3;have hL:=xJ g;refine⟨λn σ H4=>∃X bs us ws cs v3 v4,σ=[some (.ref wb),some (.ref X),some (.ref F),v3,v4]/\aq H H4/\H4 X=some (.lst (aB ws))/\H4 F=some (.lst (aB bs))/\X≠F/\RM.DP g.N (aQ ts) bs us/\RM.Wt g.N bs ws cs/\RM.Ph g.N (aQ ts) (g.N.ah.map λc=>2^c) bs ws/\n=ws.length,⟨_,X,[],[],_,_,none,none,rfl,Yc,DU,Yb,hXF,RM.DP.start,RM.Wt.start nd,.start,rfl⟩,?_⟩
  rintro n σ H4 ⟨X,bs,us,ws,cs,v3,v4,rfl,KN,Wu,Yd,Wv,dp,wt,lr,rfl⟩;refine(av rfl (rZ rfl (.inl (aL.of Wu)) (cD (av rfl (nV (λhlen=>?_) (λhlen=>?_))))))
  case refine_2 =>
   have hl : ¬(0:Int)<((aB ws).length:Int):=λz=>hlen (cF z)
   have e:ws=[]:=adv (by rw[aD]at hl;lia)
   subst e;have hb:bs.length=g.N.ah.length:=by
    have:=wt.sum;rw[acv]at this
    lia
   refine(av rfl (av rfl ⟨wb,p,ts,g,F,bs,rfl,hw.same KN,Yd,by lia,λm hm=>(dp.ring m hm).2,KN _ _ MX,λD ms' H5 hD s5 Kw hp hs=>?_⟩))
   exact q D ms' H5 (KN.free hD) (KN.trans s5) Kw ((dp.least hb).perm hp) hs ⟨bs,lr,hp⟩
  have hlen:(0:Int)<((aB ws).length:Int):=jB hlen;rw[aD]at hlen;refine⟨λσ' H'=>∃X bs us K9 cs v3 v4,σ' = [some (.ref wb),some (.ref X),some (.ref F),v3,v4]/\aq H H'/\H' X=some (.lst (aB K9))/\H' F=some (.lst (aB bs))/\X≠F/\RM.DP g.N (aQ ts) bs us/\RM.Wt g.N bs K9 cs/\RM.Ph g.N (aQ ts) (g.N.ah.map λc=>2^c) bs K9/\K9.length<ws.length,λσ' H' ⟨X,bs,us,K9,cs,v3,v4,e,a1,a2,a3,a4,a5,a6,a8,a7⟩=>⟨_,a7,X,bs,us,K9,cs,v3,v4,e,a1,a2,a3,a4,a5,a6,a8,rfl⟩,?_⟩
  obtain⟨m,ws,rfl⟩:∃m K9,ws=m::K9:=by
   cases ws with
   | nil=>simp at hlen
   | cons m K9=>exact⟨m,K9,rfl⟩
  have hml:m<2^ts.length:=wt.lt m aar;refine(av rfl (iA (aL.of Wu) (au (j:=0) rfl) (?_)));refine(av rfl (av rfl ⟨wb,p,ts,g,(m:Int),rfl,hw.same KN,KN _ _ MW,.inl ⟨m,rfl,hml,λr H5 S3 s5 told=>?_⟩⟩))
  obtain⟨r0,g1,g2,g3⟩:=wt.odd;rcases told with⟨n1,_⟩|⟨z,e,b2,W,lo,le,a1,_⟩
  ·obtain⟨x,hx,Um⟩:=RM.pe hL m g1 g2;rw[g3]at Um;exact absurd Um (n1 x _ hx)
  refine(eX (bg.of a1) (au (j:=1) rfl) (?_));have Ye:=s5 _ _ Yd;have QV:=s5 _ _ Wu;have hbl:bs.length<=24:=by have:=wt.sum;lia
  refine(av rfl ⟨(.inl ⟨rfl,_,aL.of Ye⟩),av rfl ⟨F,_,_,rfl,rfl,Ye,(by rw[aD];lia),?_⟩⟩)
  have Yg:aq H (upd H5 F (.lst (aB bs++[.int (e:Int)]))):=(KN.trans s5).put hF0;have Yh:upd H5 F (.lst (aB bs++[.int (e:Int)])) F=some (.lst (aB (bs++[e]))):=by rw[ae,cZ]
  have Yi:upd H5 F (.lst (aB bs++[.int (e:Int)])) X=some (.lst (aB (m::ws))):=by rw[ak Wv];exact QV
  generalize upd H5 F (.lst (aB bs++[.int (e:Int)]))=H6 at Yg Yh Yi;have Ww:rR (aB (m::ws)) (some (1:Int)) none=aB ws:=IF (m::ws) (i:=1) (by simp)
  have WA:=wt.next le.par;obtain⟨cc,cs',_,WA⟩:=WA;have dp2:=dp.snoc le.ring le.lt le.par (λr h1 h2 h3=>by
   have:=le.least hL h1 h2 h3;have e1:RM.len g.N (aQ ts) e=z:=le.len;rw[e1];exact this) (wt.c6 m aar)
  have aaV:ws.length<=24:=by have:=wt.sum;rw[abc]at this;lia
  refine(av rfl (av rfl ⟨X,_,rfl,aL.of Yi,λc hc=>?_⟩))
  rw[Ww];have Yj:aq H (upd H6 c (.lst (aB ws))):=Yg.trans (aq.new hc);have WB:=aq.new hc (o:=.lst (aB ws)) _ _ Yh;have QM:upd H6 c (.lst (aB ws)) c=some (.lst (aB ws)):=ae;generalize upd H6 c (.lst (aB ws))=H7 at Yj WB QM;refine⟨c,rfl,⟨_,aL.of QM⟩,λX' S4=>bO (K:=K) (a:=c) (xs:=aB ws) (λi acc H8=>aq H7 H8/\H8 X' = some (.lst acc)/\acc=aB ((ws.take i).map λv=>if g.N.par e v=true then v^^^m else v)) ⟨aq.new S4,ae,rfl⟩ (λi acc H8 _ z=>⟨aL.of (z.1 _ _ QM),z.2.1,by rw[z.2.2,aD,aac,aa8];lia⟩) (fT (by rw[aD];lia)) ?_ ?_⟩
  ·rintro i x acc H8 hx ⟨s8,Uo,rfl⟩;obtain⟨v,Nn,rfl⟩:∃v,ws[i]?=some v/\x = .int (v:Int):=by
    unfold aB at hx;rw[aan]at hx;obtain⟨c,h1,h2⟩:=wM.mp hx;exact⟨c,h1,h2.symm⟩
   have Uq:v<2^ts.length:=wt.lt v (nR _ (iq Nn));have Kz:Builtin.Int.intBits ((e&&&v:Nat):Int)<=1000:=aaD (bits_le (adA _ Uq)) (by lia)
   have snoc:∀y,(if g.N.par e v=true then v^^^m else v)=y->aB ((ws.take i).map λv=>if g.N.par e v=true then v^^^m else v)++[.int (y:Int)]=aB ((ws.take (i+1)).map λv=>if g.N.par e v=true then v^^^m else v):=λy hy=>by
    rw[aaZ,Nn];show _=aB (List.map _ (List.take i ws++[v]));rw[aat,ac2,cZ,hy]
   refine⟨rfl,av rfl (av rfl ⟨_,_,e,v,rfl,rfl,rfl,Kz,λH9 s9=>(av rfl (?_))⟩)⟩
   rw[EA (g:=g) Uq];have Yk:=s8.trans s9;have Yl:=s9 _ _ Uo;cases hb:g.N.par e v with
   | true =>
     refine jg (av rfl (av rfl (cD ⟨Yl,Yk.put S4,ae,?_⟩)));dsimp only;rw[xor_int];exact snoc _ (aad hb)
   | false=>exact gn (av rfl ⟨Yl,Yk.put S4,ae,snoc _ (aab (by rw[hb];decide))⟩)
  ·rintro acc H8 ⟨s8,Uo,rfl⟩;rw[aD,aa5]at Uo;refine⟨X',bs++[e],us++[m],_,cs',_,_,rfl,Yj.trans s8,Uo,s8 _ _ WB,?_,dp2,WA,lr.step lo,by rw[aac];simp⟩
   intro z;rw[z,WB]at S4;cases S4
def DW(t1 t2:Addr)(Wr Ws:Pos):Sp:=λvs H Q _=>∃w p ts,∃g:aA p ts,vs=[.ref w]/\bx H w p ts/\H t1=some (.jC (eT (qu "least_ways") Wr))/\H t2=some (.jC (eT (qu "by_length") Ws))/\
 ∀D rs H',H D=none->aq H H'->H' D=some (.lst ((rs.map (lenOf ts)).map V.int))->RM.LB g.N (aQ ts) rs->rs.Pairwise (vC ts)->(∃bs,RM.Ph g.N (aQ ts) (g.N.ah.map λc=>2^c) bs []/\rs.Perm bs)->Q (.ref D) H'
def kE:Ok T T.kD 11 (DW a.c8 a.fG cM eg):=by
 have jY:=jY T;have fH:=fH T;refine T.kD.ok DC λ_ A _ s H vs Q E hr h=>?_
 ·obtain⟨wb,p,ts,g,rfl,hw,MW,MX,q⟩:=h;refine⟨_,(ay (aJ (bK (own:=["ring"]) (fq:=["web"]) (js:=[0]) (aC (ai nB) ["web"]) rfl (rW K (aH jY hr T.jP.c aP (aa (pv 0) af))) (λ_ _ _ _=>(bB 0 (kC ["ring","web"]))) (λ_ _ _ _=>bJ) (λ_ _ _ _=>(aH fH hr T.jy.c nK (aa (pv 1) (aa (pv 0) af))))))),?_⟩
  have wl:=g.len;have W:=g.Iq;refine(av rfl ⟨wb,p,ts,g,rfl,hw,MW,MX,λD rs H1 hD s1 Ba lb pw lr=>?_⟩)
  have rsl:rs.length<=24:=by
   have h1:g.N.ah.length<=(List.range g.N.n).length:=aaG ..;rw[aay,<-lb.1.len]at h1;exact aaD h1 wl
  refine⟨D,rfl,⟨_,aL.of Ba⟩,λX hX=>bO (K:=K) (a:=D) (xs:=aB rs) (λi acc H2=>aq H1 H2/\H2 X=some (.lst acc)/\acc=((rs.take i).map (lenOf ts)).map V.int) ⟨aq.new hX,ae,rfl⟩ (λi acc H2 _ z=>⟨aL.of (z.1 _ _ Ba),z.2.1,by rw[z.2.2,aac,aac,aa8];lia⟩) (fT (by rw[aD];lia)) ?_ ?_⟩
  ·rintro i x acc H2 hx ⟨s2,hX2,rfl⟩;obtain⟨r,Ls,rfl⟩:∃r,rs[i]?=some r/\x = .int (r:Int):=by
    unfold aB at hx;rw[aan]at hx;obtain⟨c,h1,h2⟩:=wM.mp hx;exact⟨c,h1,h2.symm⟩
   have hrl:=(lb.1.ring r (iq Ls)).2;refine⟨rfl,av rfl (av rfl ⟨wb,p,ts,_,rfl,hw.same (s1.trans s2),W,.inl ⟨r,rfl,hrl,λH3 s3=>⟨s3 _ _ hX2,(s2.trans s3).put hX,ae,?_⟩⟩⟩)⟩
   rw[aaZ,Ls];show _=List.map V.int (List.map (lenOf ts) (List.take i rs++[r]));rw[aat,aat];rfl
  ·rintro acc H2 ⟨s2,hX2,rfl⟩;rw[aD,aa5]at hX2;exact q X rs H2 (s1.free hX) (s1.trans s2) hX2 lb pw lr
structure WC(p:Nat)(ts:List cC)(g:aA p ts)(l:List Nat):Prop where
 pw:l.Pairwise (vC ts)
 nd:l.Nodup
 all:∀r,r∈l↔r<2^ts.length/\g.N.Ring r
def wJ(C:Addr):Sp:=λvs H Q E=>∃w p ts,∃g:aA p ts,vs=[.ref w]/\bx H w p ts/\((g.N.ah.length<=8/\∀H',aq H H'->Q .dS H')\/(8<g.N.ah.length/\∀H',aq H H'->E (.ref C) none H'))
def zJ:Sp:=λvs H Q _=>∃w p ts,∃g:aA p ts,vs=[.ref w]/\bx H w p ts/\g.N.ah.length<=8/\∀D H',H D=none->aq H H'->H' D=some (.lst (aB (RM.uG g.N g.N.ah.length)))->Q (.ref D) H'
def zK(C t:Addr)(lp:Pos):Sp:=λvs H Q E=>∃w p ts,∃g:aA p ts,vs=[.ref w]/\bx H w p ts/\H t=some (.jC (eT (qu "by_length") lp))/\
 ((g.N.ah.length<=8/\(∀l:List Nat,l.Nodup->(∀m∈l,m<2^ts.length/\g.N.Ring m)->l.length<64)/\∀D l H',H D=none->aq H H'->H' D=some (.lst (aB l))->WC p ts g l->Q (.ref D) H')\/(8<g.N.ah.length/\∀H',aq H H'->E (.ref C) none H'))
def lJ:Hs T T.lD 7 (wJ a.nC):=by
 have lG:=lG T;refine T.lD.Eo vQ λ_ A _ s H vs Q E hr h=>?_
 ·obtain⟨wb,p,ts,g,rfl,hw,q⟩:=h;refine⟨_,(ay (cN (aN zY (aH lG hr T.ou.c aP (aa (pv 0) af)) (LK (by rfl) T.B4) (aO _)) (ay (tQ fu.Vf rfl (by rfl) T.GU acV (aa pX af))) bF)),?_⟩
  refine pF ?_;intro c7;refine(av rfl ⟨wb,p,ts,g,rfl,hw,λH1 s1=>(cD (av rfl (?_)))⟩)
  rcases q with⟨h8,q⟩|⟨h8,q⟩
  ·rw[eI (by lia)]
   exact gn (q H1 s1)
  ·rw[cF (by lia)]
   exact jg ⟨dl rfl,q H1 s1⟩
def mP:Ok T T.mK 6 zJ:=by
 have gj:=gj T;have eF:=eF T;refine T.mK.ok gb λ_ A _ s H vs Q E hr h=>?_
 ·obtain⟨wb,p,ts,g,rfl,hw,h8,q⟩:=h;refine⟨_,(aj (aG (i:=1) gb.nd rfl (Or.inl rfl) (eM (aa ao af)))
   (aj (fO PassesOwn.never rfl (rW K (aH gj hr T.mH.c aP (aa (pv 0) af))) (bB 2 gb.nd)
   (aj (aG (i:=3) gb.nd rfl (Or.inr rfl) (aH eF hr T.iF.c nK (aa (pv 0) (aa (pv 2) af))))
   (ay (aG (i:=1) gb.nd rfl (Or.inl rfl) (aI (Ih K) (pv 1) (bK (own:=["even"]) (fq:=["ring"]) (js:=[3]) (aC (ai jv) ["web","found","chord","ring"]) rfl (rW K (pv 1)) (λ_ _ _ _=>(bB 0 (kC ["even","ring"]))) (λ_ _ _ _=>bJ) (λ_ _ _ _=>(aI iT (pv 0) (pv 1)))))))))
   (ay (aJ (pv 1))))),?_⟩
  refine nN ?_;intro c7 dO fL je;have wl:=g.len;refine⟨dl rfl,λF hF=>?_⟩
  have s1:aq H (upd H F (.lst [.int 0])):=aq.new hF;have Ym:upd H F (.lst [.int 0]) F=some (.lst (aB (RM.uG g.N 0))):=by rw[RM.JK];exact ae
  generalize upd H F (.lst [.int 0])=H1 at s1 Ym;refine(av rfl ⟨wb,p,ts,g,rfl,hw.same s1,λC H2 hC s2 SO=>?_⟩)
  refine⟨C,rfl,⟨_,aL.of SO⟩,iN (K:=K) (a:=C) (xs:=aB g.N.ah) (λi σ H3=>∃D v2 v3,σ=[some (.ref wb),some (.ref D),v2,v3]/\H D=none/\aq H H3/\H3 C=some (.lst (aB g.N.ah))/\H3 D=some (.lst (aB (RM.uG g.N i)))) ⟨F,none,none,rfl,hF,s1.trans s2,SO,s2 _ _ Ym⟩ (λi σ H3 _ ⟨_,_,_,_,_,_,z,_⟩=>aL.of z) ?_ ?_⟩
  ·rintro i y D' σ H3 hi ⟨D,v2,v3,rfl,hD,s3,Yn,rT⟩;obtain⟨c,QU,rfl⟩:=cR hi;have hcm:=iq QU;have Qy:=(jf.mp QU).1;have el:(RM.uG g.N i).length=2^i:=by unfold RM.uG;rw[aac,aay]
   have pw:(2:Nat)^i<=2^7:=aaM (by decide) (by lia)
   refine(av rfl (av rfl ⟨wb,p,ts,g,_,rfl,hw.same s3,.inl ⟨c,rfl,hcm,λH4 s4=>?_⟩⟩))
   have xX:=s4 _ _ rT;refine(av rfl (av rfl ⟨D,rfl,⟨_,aL.of xX⟩,λX hX=>bO (K:=K) (a:=D) (xs:=aB (RM.uG g.N i)) (λk acc H5=>aq H4 H5/\H5 X=some (.lst acc)/\acc=aB (((RM.uG g.N i).take k).map λe=>e^^^g.N.ring c)) ⟨aq.new hX,ae,rfl⟩ (λk acc H5 _ z=>⟨aL.of (z.1 _ _ xX),z.2.1,by rw[z.2.2,aD,aac,aa8];lia⟩) (aaW (c5 (by rw[aD];lia))) ?_ ?_⟩))
   ·rintro k x acc H5 hx ⟨s5,QV,rfl⟩;obtain⟨e,hek,rfl⟩:=cR hx;refine⟨rfl,av rfl (av rfl (cD ⟨QV,s5.put hX,ae,?_⟩))⟩;rw[take3 hek,aat,ac2,cZ];show _++[V.int (Builtin.bitXor _ _)]=_;rw[xor_int]
   ·rintro acc H5 ⟨s5,QV,rfl⟩;rw[aD,aa5]at QV;have Yo:=s3.trans (s4.trans s5);refine⟨D,X,_,_,rfl,rfl,aL.of (s5 _ _ xX),aL.of QV,?_,λl hl=>?_⟩
    ·rw[aD,aD,aac];exact aaW (c5 (by lia))
    ·refine⟨l,_,_,rfl,Yo.free hl,Yo.trans (aq.new hl),?_,?_⟩
     ·exact aq.new hl _ _ ((s4.trans s5) _ _ Yn)
     ·rw[ae,RM.JL QU];unfold aB;rw[aat]
  ·rintro σ H3 ⟨D,v2,v3,rfl,hD,s3,Yn,rT⟩;rw[aD]at rT;exact(av rfl (q D H3 hD s3 rT))
def ig:Hs T T.ic 10 (zK a.nC a.fG eg):=by
 have lJ:=lJ T;have mP:=mP T;have q9:=q9 T;have fJ:=fJ T;refine T.ic.Eo zd λ_ A _ s H vs Q E hr h=>?_
 ·obtain⟨wb,p,ts,g,rfl,hw,htb,q⟩:=h;refine⟨_,(aj (cY (aH lJ hr T.lD.c fu.passes (aa (pv 0) af)))
   (ay (aJ (aH fJ hr T.hU.c aP (aa (pv 0) (aa (bK (own:=["even"]) (fq:=["web"]) (js:=[0]) (aC (ai jw) ["web"]) rfl (rW K (aH mP hr T.mK.c aP (aa (pv 0) af))) (λ_ _ _ _=>(bB 0 (kC ["even","web"]))) (λ_ _ _ _=>(fQ (kK (aH q9 hr T.qU.c nK (aa (pv 1) (aa (pv 0) af)))))) (λ_ _ _ _=>(pv 0))) af)))))),?_⟩
  refine jG ?_;intro c7;rcases q with⟨h8,h9,q⟩|⟨h8,q⟩
  ·refine(av rfl ⟨wb,p,ts,g,rfl,hw,.inl ⟨h8,λH1 s1=>?_⟩⟩)
   refine(av rfl (av rfl ⟨wb,p,ts,g,rfl,hw.same s1,h8,λD H2 hD s2 iM=>?_⟩))
   have el:(RM.uG g.N g.N.ah.length).length=2^g.N.ah.length:=by unfold RM.uG;rw[aac,aay]
   have pw:(2:Nat)^g.N.ah.length<=2^8:=aaM (by decide) h8
   refine⟨D,rfl,⟨_,aL.of iM⟩,λX hX=>bO (K:=K) (a:=D) (xs:=aB (RM.uG g.N g.N.ah.length)) (λi acc H3=>aq H2 H3/\H3 X=some (.lst acc)/\acc=aB (((RM.uG g.N g.N.ah.length).take i).filter λe=>lM p ts g e)) ⟨aq.new hX,ae,rfl⟩ (λi acc H3 _ z=>⟨aL.of (z.1 _ _ iM),z.2.1,?_⟩) (aaW (c5 (by rw[aD];lia))) ?_ ?_⟩
   ·rw[z.2.2,aD];exact aaD (aaG _ _) (by rw[aa8];lia)
   ·rintro i x acc H3 hx ⟨s3,DU,rfl⟩;obtain⟨e,hei,rfl⟩:=cR hx;have he:=RM.EL.mp (iq hei);refine⟨rfl,av rfl (av rfl ⟨wb,p,ts,g,_,rfl,hw.same ((s1.trans s2).trans s3),.inl ⟨e,rfl,he.2,λH4 s4=>(av rfl (?_))⟩⟩)⟩
    cases hb:lM p ts g e with
    | true =>
      refine jg (av rfl ⟨s4 _ _ DU,(s3.trans s4).put hX,ae,?_⟩);rw[take3 hei,abu,aaJ,aad hb];exact(cZ _ _).symm
    | false =>
      refine gn ⟨s3.trans s4,s4 _ _ DU,?_⟩;rw[take3 hei,abu,aaJ,aab (by rw[hb];decide),List.filter_nil,abP]
   ·rintro acc H3 ⟨s3,DU,rfl⟩;rw[aD,aa5]at DU;have nO:=(s1.trans s2).trans s3;have mem:∀m,m∈((RM.uG g.N g.N.ah.length).filter λe=>lM p ts g e)↔m<2^ts.length/\g.N.Ring m:=λm=>by
     rw[aaC,RM.EL];exact⟨λz=>⟨z.1.2,(xy g z.1.2).mp z.2⟩,λz=>⟨⟨z.2.2.1,z.1⟩,(xy g z.1).mpr z.2⟩⟩
    have nd:((RM.uG g.N g.N.ah.length).filter λe=>lM p ts g e).Nodup:=abM _ RM.Gh
    refine⟨wb,p,ts,g,X,_,rfl,hw.same nO,DU,h9 _ nd λm hm=>(mem m).mp hm,λm hm=>((mem m).mp hm).1,nO _ _ htb,λD2 l H4 WD s4 xX pm pwl=>?_⟩
    exact q D2 l H4 (nO.free WD) (nO.trans s4) xX ⟨pwl,pm.nodup_iff.mpr nd,λr=>by rw[pm.mem_iff];exact mem r⟩
  ·exact(av rfl ⟨wb,p,ts,g,rfl,hw,.inr ⟨h8,q⟩⟩)
def gm(t:cC)(u:Nat):Bool:=LA (.int (u:Int)) [.int t.1,.int t.2.1]
def sD(ts:List cC)(u v:Nat):Nat:=(ts.filter λt=>gm t u&&gm t v).length
def DX:Sp:=λvs H Q _=>∃w p ts,∃u v:Nat,vs=[.ref w,.int (u:Int),.int (v:Int)]/\bx H w p ts/\ts.length<=24/\∀H',aq H H'->Q (.int (sD ts u v:Int)) H'
def gQ(p:Nat)(ts:List cC)(g:aA p ts):List Nat:=(List.range p).filter λx=>!decide (bq p ts g (2^ts.length-1) x=x)
def sE(ts:List cC)(u v:Nat):Int:=if v=u then(sD ts u v:Int) else -(sD ts u v:Int)
def wK(p:Nat)(ts:List cC)(g:aA p ts):List (List Int):=(gQ p ts g).map λu=>(gQ p ts g).map λv=>sE ts u v
def sF:Sp:=λvs H Q _=>∃w p ts,∃g:aA p ts,vs=[.ref w]/\bx H w p ts/\∀D ys H',H D=none->aq H H'->H' D=some (.lst ys)->Paired (l7 D H H') ys (wK p ts g)->Q (.ref D) H'
def ja:Ok T T.i8 1 DX:=by
 refine T.i8.ok r9 λ_ A _ s H vs Q E hr h=>?_
 ·obtain⟨wb,p,ts,u,v,rfl,hw,wl,q⟩:=h;refine⟨_,(ay (aJ (cU K T.e8 (aa (bK (own:=["tie"]) (fq:=["one","other"]) (js:=[1,2]) (aC (ai gf) ["web","one","other"]) rfl (U7 K (aM (eO K) (pv 0) ao)) (λ_ _ _ _=>(bB 0 (kC ["tie","one","other"]))) (λ_ _ _ _=>(fQ (PW.pt (Cr (aN (TU K) (pv 1) (j7 (OM) (pv 0) mS (mT ao)) (by with_unfolding_all rfl)) (yg (aN (TU K) (pv 2) (j7 (OM) (pv 0) mS (mT ao)) (by with_unfolding_all rfl))))))) (λ_ _ _ _=>(pv 0))) af)))),?_⟩
  obtain⟨bt,xs,h1,h2,h3⟩:=id hw.ex;have zQ:=h3.length;refine(av rfl (eX (bg.of h1) (au (j:=1) rfl) ⟨bt,rfl,⟨_,bg.of h2⟩,λD hD=>z9 (xs:=xs) (λi acc H2=>aq H H2/\H2 D=some (.lst acc)/\acc.length=((ts.take i).filter λt=>gm t u&&gm t v).length/\acc.length<=i) ⟨aq.new hD,ae,rfl,aae _⟩ ?_ (dl (abi.mpr (by lia))) ?_ ?_⟩))
  ·rintro i acc H2 hi ⟨s2,iM,_,hl2⟩;exact⟨bg.of (s2 _ _ h2),iM,hl2⟩
  ·rintro i x acc H2 hx ⟨s2,iM,hc2,hl2⟩;obtain⟨t,ht,ct,rfl,hct⟩:=Paired.nX h3 hx;have e1:(ts.take (i+1)).filter (λt=>gm t u&&gm t v)=(ts.take i).filter (λt=>gm t u&&gm t v)++(if(gm t u&&gm t v)=true then[t] else[]):=by
    rw[aaZ,ht,abu]
    congr 1
    show List.filter _ [t]=_;rw[aaJ];rfl
   refine⟨rfl,av rfl (av rfl (av rfl ⟨ct,_,rfl,s2 _ _ hct,λc1 H3 s3 hc1=>?_⟩))⟩
   have hc1:H3 c1=some (.tup [.int t.1,.int t.2.1]):=hc1;refine(rZ rfl (.inr (bg.of hc1)) ⟨rfl,rfl,gm t u,rfl,?_⟩);cases hu:gm t u with
   | false =>
     rw[hu,ach,aab aal,abP]at e1;exact gn (gn ⟨s2.trans s3,s3 _ _ iM,by rw[e1];exact hc2,by lia⟩)
   | true =>
     refine jg (av rfl (av rfl (av rfl ⟨ct,_,rfl,(s2.trans s3) _ _ hct,λc2 H4 s4 P6=>?_⟩)))
     have P6:H4 c2=some (.tup [.int t.1,.int t.2.1]):=P6;refine(rZ rfl (.inr (bg.of P6)) ⟨rfl,rfl,gm t v,rfl,?_⟩);rw[hu,aa7]at e1;cases hv:gm t v with
     | false =>
       rw[hv,aab aal,abP]at e1;exact gn ⟨(s2.trans s3).trans s4,(s3.trans s4) _ _ iM,by rw[e1];exact hc2,by lia⟩
     | true =>
       rw[hv,aad rfl]at e1;exact jg (av rfl ⟨(s3.trans s4) _ _ iM,((s2.trans s3).trans s4).put hD,ae,by rw[e1,aah,aah,hc2];rfl,by rw[aah,aaU];lia⟩)
  ·rintro acc H2 ⟨s2,iM,hc2,_⟩;rw[zQ,aa5]at hc2;refine(rZ rfl (.inl (aL.of iM)) (?_));rw[hc2];exact q _ s2
def x6{p:Nat}{L:Nat->Nat}{x:Nat}:x∈bY L p↔x<p/\L x=x:=by
 unfold bY;rw[aaC,aax,decide_eq_true_eq]
def jc:Ok T T.i9 6 sF:=by
 have gi:=gi T;have b9:=b9 T;have ja:=ja T;refine T.i9.ok cH λ_ A _ s H vs Q E hr h=>?_
 ·obtain⟨wb,p,ts,g,rfl,hw,q⟩:=h;refine⟨_,(aj (aG (i:=1) cH.nd rfl (Or.inr rfl) (bK (own:=["piece"]) (fq:=[]) (js:=[]) (aC (ai cB) ["web","leasts","kept","table","one","counts"]) rfl (rW K (aH gi hr T.mG.c nK (aa (pv 0) (aa (aH b9 hr T.gE.c aP (aa (pv 0) af)) af)))) (λ_ _ _ _=>(bB 0 (kC ["piece"]))) (λ_ _ _ _=>bJ) (λ_ _ _ _=>(aM (ik K) (pv 0) ao))))
   (aj (fR (i:=2) cH.nd rfl rfl (own:=["point"]) (fq:=["leasts"]) (js:=[1]) (aC (ai cB) ["web","leasts","kept","table","one","counts"]) rfl (bU (by rfl) T.b7 (aa (aM (eO K) (pv 0) ao) af)) (λ_ _ _ _=>(bB 0 (kC ["point","leasts"]))) (λ_ _ _ _=>(fQ (aN (Ia K) (pv 0) (pv 1) (by with_unfolding_all rfl)))) (λ_ _ _ _=>(pv 0)))
   (aj (aG (i:=3) cH.nd rfl (Or.inl rfl) (eM af))
   (aj (fO PassesOwn.never rfl (rW K (pv 2)) (yi (i:=4) cH.nd rfl (Or.inr rfl))
   (aj (fR (i:=5) cH.nd rfl rfl (own:=["other"]) (fq:=["web","one"]) (js:=[0,4]) (aC (ai cB) ["web","leasts","kept","table","one","counts"]) rfl (rW K (pv 2)) (λ_ _ _ _=>(bB 0 (kC ["other","web","one"]))) (λ_ _ _ _=>bJ) (λ_ _ _ _=>(aH ja hr T.i8.c aP (aa (pv 1) (aa (pv 2) (aa (pv 0) af))))))
   (ay (cY (JX K (lV aba abd abe cO (pv 3) (aa (bK (own:=["other","many"]) (fq:=["one"]) (js:=[4]) (aC (ai cB) ["web","leasts","kept","table","one","counts"]) rfl (CI K (by rfl) T.Kq (aa (pv 2) (aa (pv 5) af))) (λ_ _ _ _=>(K0 K (n:=2) rfl (aW (bB 0 (kC ["other","many","one"])) (aW (bB 1 (kC ["other","many","one"])) fN)))) (λ_ _ _ _=>bJ) (λ_ _ _ _=>(jZ (aN gX (pv 0) (pv 2) (aO _)) (pv 1) (HE Cy (pv 1))))) af)))))))
   (ay (aJ (pv 3))))))),?_⟩
  refine se ?_;intro c7 dO fL je kI pH;obtain⟨bt,xs,h1,h2,h3⟩:=id hw.ex;have zQ:=h3.length;have wp:=g.p2;have wl:=g.len;have e2:((2:Int)^ts.length-1)=((2^ts.length-1:Nat):Int):=by
   have h:((2:Int)^ts.length)=((2^ts.length:Nat):Int):=by simp
   have:=aa0 ts.length
   lia
  have hlt:2^ts.length-1<2^ts.length:=by have:=aa0 ts.length;lia
  generalize hL:bq p ts g (2^ts.length-1)=L;have Hu:∀x,L (L x)=L x:=λx=>by rw[<-hL];exact RM.cS _ _
  have hle:∀x,L x<=x:=λx=>by rw[<-hL];exact RM.sH _ _
  have AF:(bY L p).length<=p:=by
   have:=aaG (λx=>decide (L x=x)) (List.range p)
   rw[aay]at this;exact this
  have WE:(gQ p ts g).length<=p:=by
   have:=aaG (λx=>!decide (bq p ts g (2^ts.length-1) x=x)) (List.range p)
   rw[aay]at this;exact this
  refine(av rfl (av rfl ⟨wb,p,ts,rfl,hw,g.Iq,wb,p,ts,g,_,rfl,hw,.inl ⟨2^ts.length-1,e2,hlt,λD ys H1 PJ s1 hD pr=>⟨D,rfl,⟨_,aL.of hD⟩,?_⟩⟩⟩))
  rw[hL]at pr;have Ku:ys.length=(bY L p).length:=by rw[pr.length,aac]
  intro D1 Ba;refine bO (xs:=ys) (λi acc H2=>aq H1 H2/\H2 D1=some (.lst acc)/\acc=aB ((bY L p).take i)) ⟨aq.new Ba,ae,rfl⟩ ?_ (dl (abi.mpr (by lia))) ?_ ?_
  ·rintro i acc H2 hi ⟨s2,iM,rfl⟩;exact⟨aL.of (s2 _ _ hD),iM,by rw[aD,aa8];exact Nat.min_le_left _ _⟩
  ·rintro i x acc H2 hx ⟨s2,iM,rfl⟩;obtain⟨l,hl,bb,rfl,_,_,VJ⟩:=Paired.nX pr hx;rw[aan]at hl;obtain⟨r,hr0,rfl⟩:=wM.mp hl;have Yp:=x6.mp (iq hr0);refine⟨rfl,av rfl (iA (aL.of (s2 _ _ VJ)) (au (j:=0) (sL (CO hle Yp.2 Yp.1))) ⟨iM,s2.put Ba,ae,?_⟩)⟩;rw[aaZ,hr0];exact(cZ _ _).symm
  ·rintro acc H2 ⟨s2,iM,rfl⟩;rw[Ku,aa5]at iM;have s12:=s1.trans s2;refine(av rfl (eX (bg.of (s12 _ _ h1)) (au (j:=0) rfl) (av rfl ⟨(by lia),(by lia),λD2 S5=>cz (lo:=0) (m:=(p:Int).toNat) (lW (λx=>!decide (L x=x)) H2 D2) (.start S5) (λi acc H3 _ pk=>pk.len) (dl (abi.mpr (by lia))) ?_ ?_⟩)))
   ·intro i acc H3 hi pk;rw[aau]at hi;rw[abl];refine⟨rfl,av rfl (av rfl (rZ rfl (.inl (aL.of (pk.1 _ _ iM))) ⟨rfl,mY _,!decide (L i=i),?_,?_⟩))⟩
    ·show V.bl (!LA (.int (i:Int)) (aB (bY L p)))=_;rw[l6];have e:decide (i∈bY L p)=decide (L i=i):=by
      rw[abt,decide_eq_true_eq,decide_eq_true_eq,x6];exact⟨λz=>z.2,λz=>⟨hi,z⟩⟩
     rw[e]
    ·cases hb : !decide (L i=i) with
     | true=>exact jg (av rfl (pk.yes S5 (aq.refl _) hb))
     | false=>exact gn (pk.no (aq.refl _) hb)
   ·intro acc H3 pk;have DY:H3 D2=some (.lst (aB (gQ p ts g))):=by
     rw[pk.2.1,pk.2.2,aau];unfold gQ;rw[hL]
    have nO:=s12.trans pk.1;generalize hks:gQ p ts g=ks at DY WE;refine⟨dl rfl,λD3 rT=>?_⟩
    have QD:aq H3 (upd H3 D3 (.lst [])):=aq.new rT;have S6:upd H3 D3 (.lst []) D3=some (.lst []):=ae;have WG:H D3=none:=nO.free rT;generalize upd H3 D3 (.lst [])=H4 at QD S6;refine(av rfl ⟨D2,rfl,⟨_,aL.of (QD _ _ DY)⟩,lS (K:=K) (a:=D2) (xs:=aB ks) (λi σ H5=>∃v4 v5 ys,σ=[some (.ref wb),some (.ref D1),some (.ref D2),some (.ref D3),v4,v5]/\aq H3 H5/\H5 D3=some (.lst ys)/\Paired (l7 D3 H H5) ys ((ks.take i).map λu=>ks.map λv=>sE ts u v)/\ys.length<=i)
     ⟨none,none,[],rfl,QD,S6,by rw[List.take_zero];exact .nil,aae _⟩ (λi σ H5 _ ⟨_,_,_,_,z,_⟩=>aL.of (z _ _ DY)) ?_ ?_⟩)
    ·rintro i y σ H5 hi ⟨v4,v5,ys,rfl,s5,Kw,E4,yl5⟩;obtain⟨u,hu,rfl⟩:=cR hi;have P7:=s5 _ _ DY;have hik:i<ks.length:=by
      have:=(jf.mp hi).1;rw[aD]at this;exact this
     refine(av rfl ⟨D2,rfl,⟨_,aL.of P7⟩,λD4 xX=>bO (xs:=aB ks) (rX (λv=>(sD ts u v:Int)) ks H5 D4) (.start xX) (λj acc H6 _ pd=>⟨aL.of (pd.1 _ _ P7),pd.len⟩) (by rw[aD];exact dl (abi.mpr (by lia))) ?_ ?_⟩)
     ·intro j x acc H6 hx pd;obtain⟨v,hv,rfl⟩:=cR hx;exact⟨rfl,av rfl (av rfl (av rfl ⟨wb,p,ts,u,v,rfl,hw.same ((nO.trans s5).trans pd.1),wl,λH7 s7=>pd.next xX s7 hv rfl⟩))⟩
     ·intro acc H6 pd;rw[aD]at pd;have S7:=pd.fin;have M6:=pd.1 _ _ P7;have WH:=pd.1 _ _ Kw;refine(av rfl ⟨.inl ⟨rfl,_,aL.of WH⟩,av rfl (av rfl ⟨D2,D4,rfl,⟨_,aL.of M6⟩,⟨_,aL.of S7⟩,λD5 KO=>tR (xs:=aB ks) (ys:=(ks.map λv=>(sD ts u v:Int)).map V.int) (by rw[aD,aac,aac]) (rX (λv=>sE ts u v) ks H6 D5) (.start KO) (λj acc H7 _ pd=>⟨aL.of (pd.1 _ _ M6),aL.of (pd.1 _ _ S7),pd.len⟩) (by rw[aD];exact dl (abi.mpr (by lia))) ?_ ?_⟩)⟩)
      ·intro j x y T0 acc H7 hx hy QW hT;obtain⟨v,hv,rfl⟩:=cR hx;have VG:y = .int (sD ts u v:Int):=by
        rw[aan,aan,hv]at hy;exact(Option.some.inj hy).symm
       subst VG;have s8:aq H7 (upd H7 T0 (.tup [.int (v:Int),.int (sD ts u v:Int)])):=aq.new hT;have Yq:upd H7 T0 (.tup [.int (v:Int),.int (sD ts u v:Int)]) T0=some (.tup [.int (v:Int),.int (sD ts u v:Int)]):=ae;generalize upd H7 T0 (.tup [.int (v:Int),.int (sD ts u v:Int)])=H8 at s8 Yq;refine⟨T0,_,rfl,bg.of Yq,rfl,_,_,rfl,_,_,rfl,rfl,rfl,?_⟩;refine(av rfl (av rfl ⟨rfl,av rfl (?_)⟩));rw[kQ]
       by_cases huv:v=u
       ·rw[cF huv];exact jg (av rfl (QW.next KO s8 hv (by unfold sE;rw[aad huv])))
       ·rw[eI huv];exact gn (av rfl (av rfl (QW.next KO s8 hv (by unfold sE;rw[aab huv]))))
      ·intro acc H7 QW;rw[aD]at QW;have WI:=QW.fin;have WJ:=pd.1.trans QW.1;have WK:=WJ _ _ Kw;have n5:D5≠D3:=(bj (pd.1 _ _ Kw) KO).symm;refine⟨D3,ys,_,rfl,rfl,WK,c5 (by lia),?_⟩
       refine⟨_,_,_,rfl,(s5.trans WJ).put rT,ae,?_,by rw[aah,aaU];lia⟩
       rw[aaZ,hu,aat];refine Paired.snoc (Paired.imp' (λ_ _ z=>(z.same WJ).put) E4) (l7.put ⟨D5,rfl,n5,((nO.trans s5).trans pd.1).free KO,WI⟩)
    ·rintro σ H5 ⟨v4,v5,ys,rfl,s5,Kw,E4,yl5⟩;rw[aD,aa5]at E4;exact(av rfl (q D3 ys H5 WG (nO.trans s5) Kw (by unfold wK;rw[hks];exact E4)))
def prs(ts:List cC):List (Nat×Nat):=ts.map λt=>(t.1.toNat,t.2.1.toNat)
def P8{p:Nat}{ts:List cC}(g:aA p ts):RM.ps g.N=prs ts:=by
 unfold RM.ps prs;refine adh (by rw[aac,aac,aay];rfl) λi h1 h2=>?_
 rw[aac]at h2;rw[acn,acn,List.getElem_range];show((aX ts i).1.toNat,(aX ts i).2.1.toNat)=_;unfold aX;rw[aaa,aaf h2];rfl
def P9(x u v:Nat):LA (.int (x:Int)) [.int (u:Int),.int (v:Int)]=decide (u=x\/v=x):=by
 have e:([.int (u:Int),.int (v:Int)]:List V)=aB [u,v]:=rfl;rw[e,l6];refine aa9.mpr ?_;simp[eq_comm]
def E7{rs:List (List Int)}{b:Nat}(h:∀r∈rs,∀x∈r,x.natAbs<=b)(i j:Nat):(ent rs i j).natAbs<=b:=by
 unfold ent;rw[aaa,aaa];cases e:rs[i]? with
 | none=>exact aaN _
 | some r =>
   show(r[j]?.getD 0).natAbs<=b;cases e2:r[j]? with
   | none=>exact aaN _
   | some x=>exact h r (iq e) x (iq e2)
def vE:Sp:=λvs H Q _=>∃w p ts,∃g:aA p ts,vs=[.ref w]/\bx H w p ts/\∀H',aq H H'->(RM.fo g.N).natAbs<2^400->Q (.int (RM.fo g.N)) H'
def x8{p:Nat}{t:cC}(z:jk (p:Int) t)(u:Nat):gm t u=decide (t.1.toNat=u\/t.2.1.toNat=u):=by
 have:=P9 u t.1.toNat t.2.1.toNat;rw[acr z.a0,acr z.b0]at this;exact this
def Hf(t:cC)(ts:List cC)(u v:Nat):sE (t::ts) u v=(if(gm t u&&gm t v)=true then(if v=u then 1 else -1) else 0)+sE ts u v:=by
 unfold sE sD;rw[aaJ]
 by_cases h:(gm t u&&gm t v)=true
 ·rw[aad h,aad h,abc]
  by_cases e:v=u
  ·rw[aad e,aad e,aad e];lia
  ·rw[aab e,aab e,aab e];lia
 ·rw[aab h,aab h]
  lia
def x9{p:Nat}{u v:Nat}:∀{ts:List cC},(∀t∈ts,jk (p:Int) t)->sE ts u v=Dt.jh (prs ts) u v
 | [],_=>by
   show(if v=u then(0:Int) else -0)=0
   split<;>rfl
 | t::ts,h=>by
   have ih:=x9 (u:=u) (v:=v) λd hd=>h d (nR _ hd)
   have z:=h t aar;rw[Hf,ih,x8 z,x8 z];show _=Dt.dl (t.1.toNat,t.2.1.toNat) u*Dt.dl (t.1.toNat,t.2.1.toNat) v+Dt.jh (prs ts) u v
   congr 1
   have ne:t.1.toNat≠t.2.1.toNat:=by
    have:=z.ne;have:=z.a0;have:=z.b0
    lia
   unfold Dt.dl Dt.un;dsimp only;generalize t.1.toNat=a at ne;generalize t.2.1.toNat=b at ne;have two:∀x:Nat,(x=a/\x≠b)\/(x≠a/\x=b)\/(x≠a/\x≠b):=λx=>by lia
   have f:∀x:Nat,(decide (a=x\/b=x))=decide (x=a\/x=b):=λx=>aa9.mpr (by lia)
   rw[f,f];rcases two u with⟨h1,h2⟩|⟨h1,h2⟩|⟨h1,h2⟩<;>rcases two v with⟨h3,h4⟩|⟨h3,h4⟩|⟨h3,h4⟩
   all_goals
    first | rw[aad h1] | rw[aab h1]
    first | rw[aad h2] | rw[aab h2]
    first | rw[aad h3] | rw[aab h3]
    first | rw[aad h4] | rw[aab h4]
    first
     | (rw[aad (by rw[cF (by lia),cF (by lia)];rfl),aad (by lia)];rfl)
     | (rw[aad (by rw[cF (by lia),cF (by lia)];rfl),aab (by lia)];rfl)
     | (rw[aab (by rw[eI (p:=v=a\/v=b) (by lia),aci];decide)];rfl)
     | (rw[aab (by rw[eI (p:=u=a\/u=b) (by lia),ach];decide)];rfl)
def M7{p:Nat}{ts:List cC}(g:aA p ts):gQ p ts g=RM.kp g.N:=by
 unfold gQ RM.kp;show(List.range p).filter _=(List.range p).filter _;refine acH λx _=>?_
 have e:bq p ts g (2^ts.length-1)=g.N.b8 ts.length:=by
  unfold bq RM.Net.b8;exact RM.n6 λk hk=>by rw[yC];simp[hk]
 rw[e];rfl
def E8{p:Nat}{ts:List cC}(g:aA p ts):Dt.det (gQ p ts g).length (ent (wK p ts g))=RM.fo g.N:=by
 unfold RM.fo;rw[Dt.EZ];have e:=M7 g;show _=Dt.det (RM.kp g.N).length (λi j=>Dt.jh (RM.ps g.N) ((RM.kp g.N).getD i 0) ((RM.kp g.N).getD j 0))
 rw[<-e,P8];refine Dt.aK λi j hi hj=>?_
 show((wK p ts g).getD i []).getD j 0=_;unfold wK;rw[aaa (l:=List.map _ _),aan,aaf hi];show(List.map (λv=>sE ts (gQ p ts g)[i] v) (gQ p ts g)).getD j 0=_
 rw[aaa,aan,aaf hj,aaa,aaf hi,aaa,aaf hj];exact x9 g.nY
def Cd{ts:List cC}(h:ts.length<=24)(u v:Nat):(sE ts u v).natAbs<=24:=by
 unfold sE;have:sD ts u v<=ts.length:=aaG _ _
 split<;>lia
def fb:Ok T T.e7 7 vE:=by
 have jc:=jc T;have jX:=jX T;refine T.e7.ok vc λ_ A _ s H vs Q E hr h=>?_
 ·obtain⟨wb,p,ts,g,rfl,hw,q⟩:=h;refine⟨_,(ay (aJ (aH jX hr T.jS.c aP (aa (aH jc hr T.i9.c aP (aa (pv 0) af)) af)))),?_⟩;have kl:(gQ p ts g).length<=10:=aaD (aaG _ _) (by rw[aay];exact g.p2)
  refine(av rfl ⟨wb,p,ts,g,rfl,hw,λD ys H1 hD s1 Ba py=>⟨D,wK p ts g,(gQ p ts g).length,24,rfl,⟨ys,Ba,Paired.imp' (λ_ _ z=>z.is) py⟩,⟨by unfold wK;rw[aac],λr hr=>by
   unfold wK at hr;obtain⟨l,_,rfl⟩:=aaH.mp hr;exact aac _⟩,by lia,by decide,abm (Dt.Bh (by decide) kl) (by decide),E7 λr hr x hx=>by
   unfold wK at hr;obtain⟨l,_,rfl⟩:=aaH.mp hr;obtain⟨c,_,rfl⟩:=aaH.mp hx;exact Cd g.len _ _,λH2 s2=>?_⟩⟩)
  have bd:(RM.fo g.N).natAbs<2^400:=by
   rw[<-E8];refine abm (aaD (Dt.sX (E:=24) (E7 λr hr x hx=>?_)) (Dt.Bh (by decide) kl)) (by decide)
   unfold wK at hr;obtain⟨l,_,rfl⟩:=aaH.mp hr;obtain⟨c,_,rfl⟩:=aaH.mp hx;exact Cd g.len _ _
  rw[E8];exact q H2 (s1.trans s2) bd
def M8(K:bM):Sp:=λvs H Q _=>∃(a:Addr) (ns:List Int) (k:Int),vs=[.ref a,.int k]/\0<=k/\aL K H a (ns.map V.int)/\∀z,Q (.int z) H
def KP:Sp:=λvs H Q _=>∃(c k:Int),vs=[.int c,.int k]/\0<=k/\k<=1000/\∀z,0<=z->z<1000000007->Q (.int z) H
def M9:Sp:=λvs H Q _=>∃(c:Int) (k:Nat),vs=[.int c,.int (k:Int)]/\∀z,1<=z->z<=1000000000000000000000000000000->Q (.int z) H
def Qa:Sp:=λvs H Q _=>∃(c:Int) (p m:Nat),vs=[.int c,.int (p:Int),.int (m:Int)]/\2<=p/\p<=10/\∀t b H',aq H H'->jk (p:Int) t->H' b=some (.tup (CJ t))->Q (.ref b) H'
def Qc(K:bM):Sp:=λvs H Q _=>∃(a:Addr) (ns:List Int) (mt rk:Nat),vs=[.ref a,.int (mt:Int),.int (rk:Int)]/\aL K H a (ns.map V.int)/\ns.length<=63/\mt<=24/\
 ∀w p ts H',aq H H'->aA p ts->2<=p->p<=6->ts.length<=mt->bx H' w p ts->Q (.ref w) H'
def S8(H:Hp)(D:Addr)(n p:Nat):Prop:=∃ks:List Nat,H D=some (.lst (aB ks))/\ks.length=n/\∀k∈ks,k<p
def dz:Ok T T.gW 1 (M8 K):=by
 refine T.gW.ok vd λ_ A _ s H vs Q E hr h=>?_
 ·obtain⟨b,ns,k,rfl,hk0,hS,q⟩:=h;refine⟨_,(aj (cN (aN wX (pv 1) (cU K T.e8 (aa (pv 0) af)) (aO _)) (ay (aJ (aM (ik K) (pv 0) (pv 1)))) bF)
   (ay (aJ ao))),?_⟩
  refine jI ?_;intro c7 dO;refine(av rfl (av rfl ⟨b,_,rfl,.inl hS,_,_,rfl,rfl,av rfl (nV (λhlt=>?_) (λ_=>q 0))⟩))
  have hlt:=jB hlt;rw[aac]at hlt;obtain⟨k,rfl⟩:=ab2 hk0;exact(av rfl (av rfl ⟨b,_,_,_,rfl,rfl,hS,au (j:=k) (Er (by lia)),q _⟩))
def dR:Ok T T.ie 1 KP:=by
 refine T.ie.ok lz λ_ A _ s H vs Q E hr h=>?_
 ·obtain⟨c,k,rfl,hk,hk2,q⟩:=h;refine⟨_,(aj (aG (i:=2) lz.nd rfl (Or.inl rfl) (aI dD (aI eJ (pv 0) ao) (aI yl ao (pv 1))))
   (aj (aG (i:=3) lz.nd rfl (Or.inl rfl) (aI eJ (aI yl (aI dD (pv 2) ao) (aI dD (pv 2) ao)) ao))
   (ay (aJ (aI kL (aI eJ (aI yl (pv 3) (pv 3)) ao) ao))))),?_⟩
  refine jr ?_;intro c7 dO;have h1:=lX c 1000000007 (by decide)
  refine(av rfl (cD ⟨(rV rfl),av rfl (cD ⟨.inl ⟨by decide,by decide⟩,cD (?_)⟩)⟩))
  refine(av rfl (cD (av rfl (cD (cD ⟨.inl ⟨by lia,by lia⟩,cD ⟨(rV rfl),?_⟩⟩)))))
  have h2:=lX ((c%1000000007+7919*k+11)*(c%1000000007+7919*k+48271)) 998244353 (by decide)
  dsimp only;generalize (c%1000000007+7919*k+11)*(c%1000000007+7919*k+48271)%998244353=st at h2;refine(av rfl (av rfl (cD ⟨.inl ⟨by lia,by lia⟩,cD ⟨(rV rfl),cD ⟨⟨by decide,by decide⟩,?_⟩⟩⟩)))
  have h3:=lX (st*st) 1000000007 (by decide)
  dsimp only;generalize st*st%1000000007=y at h3;exact q _ (by lia) (by lia)
def lK:Ok T T.lE 1 M9:=by
 refine T.lE.ok vR λ_ A _ s H vs Q E hr h=>?_
 ·obtain⟨c,k,rfl,q⟩:=h;refine⟨_,(aj (cN (aN gX (pv 1) ao (aO _)) (ay (aJ (aI dD ao (aI eJ (pv 0) ao)))) bF)
   (aj (cN (aN gX (pv 1) ao (aO _)) (ay (aJ (aI dD ao (aI eJ (pv 0) ao)))) bF)
   (ay (aJ (aI dD ao (aI eJ (pv 0) (aI Oi ao ao))))))),?_⟩
  refine vS ?_;intro c7 dO fL je;have h9:=lX c 9 (by decide)
  have h3:=lX c 3 (by decide)
  have h30:=lX c (10^(30:Int).toNat) (by decide)
  have e:(10:Int)^(30:Int).toNat=1000000000000000000000000000000:=by decide
  refine(av rfl ⟨rfl,av rfl (nV (λ_=>(av rfl (cD ⟨(rV rfl),cD (q _ (by lia) (by lia))⟩))) (λ_=>(av rfl ⟨rfl,av rfl (nV (λ_=>(av rfl (cD ⟨(rV rfl),cD (q _ (by lia) (by lia))⟩))) (λ_=>(av rfl (cD ⟨⟨by decide,by decide,by decide⟩,cD ⟨(rV (by decide)),cD (q _ (by lia) (by lia))⟩⟩))))⟩)))⟩)
def rm:Ok T T.qX 2 Qa:=by
 have lK:=lK T;refine T.qX.ok lB λ_ A _ s H vs Q E hr h=>?_
 ·obtain⟨c,p,m,rfl,hp,Qt,q⟩:=h;refine⟨_,(aj (aG (i:=3) lB.nd rfl (Or.inl rfl) (aI eJ (pv 0) (pv 1)))
   (aj (aG (i:=0) lB.nd rfl (Or.inl rfl) (aI kL (pv 0) (pv 1)))
   (aj (aG (i:=4) lB.nd rfl (Or.inl rfl) (aI eJ (aI dD (aI dD (pv 3) ao) (aI eJ (pv 0) (aI nU (pv 1) ao))) (pv 1)))
   (ay (aJ (dH (aa (pv 3) (aa (pv 4) (aa (aH lK hr T.lE.c aP (aa (aI kL (pv 0) (aI nU (pv 1) ao)) (aa (pv 2) af))) af))))))))),?_⟩
  refine DE ?_;intro c7 dO fL;obtain⟨h1,h2⟩:=lX c (p:Int) (by lia)
  obtain⟨h3,h4⟩:=lX (c/(p:Int)) ((p:Int)-1) (by lia)
  obtain⟨g1,g2,g3⟩:=Ir h1 h2 h3 h4;refine(av rfl (av rfl (cD ⟨(by lia),?_⟩)))
  refine(av rfl (av rfl (cD ⟨⟨by lia,by lia⟩,?_⟩)))
  refine(av rfl (cD (av rfl (av rfl (cD (cD ⟨(by lia),cD (av rfl (cD ⟨(by lia),?_⟩))⟩))))))
  refine(av rfl (av rfl (av rfl (av rfl (cD (cD ⟨⟨by lia,by lia⟩,av rfl ⟨_,m,rfl,λz hz hz2=>⟨dl rfl,λb hb=>?_⟩⟩⟩))))))
  exact q (_,_,z) b _ (aq.new hb) ⟨h1,h2,g1,g2,g3,hz,hz2⟩ ae
def rq:Ok T T.qY 3 (Qc K):=by
 have dz:=dz T;have dR:=dR T;have rm:=rm T;refine T.qY.ok bH λ_ A _ s H vs Q E hr h=>?_
 ·obtain⟨b,ns,mt,rk,rfl,hS,hn,hmt,q⟩:=h;refine⟨_,(aj (aG (i:=3) bH.nd rfl (Or.inr rfl) (aH dz hr T.gW.c aP (aa (pv 0) (aa ao af))))
   (aj (aG (i:=4) bH.nd rfl (Or.inl rfl) (aI dD ao (aI eJ (pv 3) ao)))
   (aj (aG (i:=5) bH.nd rfl (Or.inl rfl) (aI eJ (aI kL (pv 3) ao) ao))
   (aj (aG (i:=6) bH.nd rfl (Or.inl rfl) (j7 (U6 K) (pv 0) (mT ao) mS))
   (aj (cN (aN gX (aI eJ (aI kL (pv 3) ao) ao) ao (aO _)) (aj (fR (i:=6) bH.nd rfl rfl (own:=["k","cell"]) (fq:=[]) (js:=[]) (aC (ai gC) ["script","most","ranked","head","points","way","cells","ties","marks","free","cell","tie","joined","old"]) rfl (LO K (by rfl) T.mL (aa (j7 (U6 K) (pv 0) (mT ao) mS) af)) (λ_ _ _ _=>(K0 K (n:=2) rfl (aW (bB 0 (kC ["k","cell"])) (aW (bB 1 (kC ["k","cell"])) fN)))) (λ_ _ _ _=>bJ) (λ_ _ _ _=>(aH dR hr T.ie.c aP (aa (pv 1) (aa (pv 0) af)))))
   (ay (cY (JX K (lV aba PySem.F.slot_list_extend PySem.F.type_list_extend Ft (pv 6) (aa (bK (own:=["k"]) (fq:=["head"]) (js:=[3]) (aC (ai gC) ["script","most","ranked","head","points","way","cells","ties","marks","free","cell","tie","joined","old"]) rfl (bU (by rfl) T.b7 (aa ao af)) (λ_ _ _ _=>(bB 0 (kC ["k","head"]))) (λ_ _ _ _=>bJ) (λ_ _ _ _=>(aH dR hr T.ie.c aP (aa (pv 1) (aa (aI dD ao (pv 0)) af))))) af)))))) bF)
   (aj (aG (i:=7) bH.nd rfl (Or.inl rfl) (eM af))
   (aj (aG (i:=8) bH.nd rfl (Or.inr rfl) (bK (own:=["point"]) (fq:=[]) (js:=[]) (aC (ai gC) ["script","most","ranked","head","points","way","cells","ties","marks","free","cell","tie","joined","old"]) rfl (bU (by rfl) T.b7 (aa (pv 4) af)) (λ_ _ _ _=>(bB 0 (kC ["point"]))) (λ_ _ _ _=>bJ) (λ_ _ _ _=>(pv 0))))
   (aj (aG (i:=9) bH.nd rfl (Or.inl rfl) ao)
   (aj (fO PassesOwn.never rfl (rW K (pv 6)) (bB 10 bH.nd)
   (aj (aG (i:=11) bH.nd rfl (Or.inr rfl) (aH rm hr T.qX.c aP (aa (pv 10) (aa (pv 4) (aa (pv 5) af)))))
   (aj (aG (i:=12) bH.nd rfl (Or.inl rfl) (dW tI (aM (ik K) (pv 8) (aM (eO K) (pv 11) ao)) (aM (ik K) (pv 8) (aM (eO K) (pv 11) ao)) (aO _)))
   (ay (cN (PW.pt (Cr (aN wX (cU K T.e8 (aa (pv 7) af)) (pv 1) (aO _)) (yg (PW.pt (D0 (kK (pv 12)) (yh (aN wX (pv 9) (pv 2) (aO _)))))))) (aj (cY (JX K (lV aba abd abe cO (pv 7) (aa (pv 11) af))))
   (aj (aG (i:=9) bH.nd rfl (Or.inl rfl) (aI dD (pv 9) (bV p7 (by rfl) T.Kn adm (aa (Ob (pv 12)) af))))
   (aj (aG (i:=13) bH.nd rfl (Or.inr rfl) (aM (ik K) (pv 8) (aM (eO K) (pv 11) ao)))
   (ay (aG (i:=8) bH.nd rfl (Or.inr rfl) (bK (own:=["mark"]) (fq:=["marks","tie","old"]) (js:=[8,11,13]) (aC (ai gC) ["script","most","ranked","head","points","way","cells","ties","marks","free","cell","tie","joined","old"]) rfl (rW K (pv 8)) (λ_ _ _ _=>(bB 0 (kC ["mark","marks","tie","old"]))) (λ_ _ _ _=>bJ) (λ_ _ _ _=>(aM (ik K) (eM (aa (pv 0) (aa (aM (ik K) (pv 1) (aM (eO K) (pv 2) ao)) af))) (bV p7 (by rfl) T.Kn adm (aa (dW gX (pv 0) (pv 3) (aO _)) af)))))))))) bF)))))
   (ay (aJ (dH (aa (pv 4) (aa (bV (Ac K) (by rfl) T.pQ ab3 (aa (pv 7) af)) af)))))))))))))),?_⟩
  refine DF ?_;intro c7 dO fL je kI pH uS BD za BE uY r6 BF BG JY Sz SA SD;refine(av rfl ⟨b,ns,0,rfl,(by decide),hS,λz=>?_⟩)
  refine(av rfl (cD ⟨(rV rfl),cD (?_)⟩));obtain⟨p,hp,p1,p2⟩:∃p:Nat,2+z%5=(p:Int)/\2<=p/\p<=6:=by
   obtain⟨h1,h2⟩:=lX z 5 (by decide)
   exact⟨(2+z%5).toNat,by lia,by lia,by lia⟩
  dsimp only;rw[hp];refine(av rfl (cD ⟨⟨by decide,by decide⟩,cD ⟨(rV rfl),?_⟩⟩))
  obtain⟨wy,Um⟩:∃y:Nat,z/5%3=(y:Int):=by
   obtain⟨h1,h2⟩:=lX (z/5) 3 (by decide)
   exact⟨(z/5%3).toNat,by lia⟩
  dsimp only;rw[Um];refine(av rfl (av rfl ⟨b,_,rfl,hS,λc hc=>?_⟩))
  have Qd:=HZ ns (some 1) none;have hml:((ns.drop (HT.dU ns.length 0 (some 1))).take (HT.dU ns.length ns.length none-HT.dU ns.length 0 (some 1))).length<=63:=by
   rw[aa8,acQ]
   lia
  generalize (ns.drop (HT.dU ns.length 0 (some 1))).take (HT.dU ns.length ns.length none-HT.dU ns.length 0 (some 1))=ms at Qd hml;rw[Qd];have cont:∀(c1:Addr) (ms1:List Int) (H1:Hp),aq H H1->H1 c1=some (.lst (ms1.map V.int))->r6 { nx:=λ_ H'=>Q V.dS H',rt:=Q} [some (.ref b),some (.int (mt:Int)),some (.int (rk:Int)),some (.int z),some (.int (p:Int)),some (.int (wy:Int)),some (.ref c1),none,none,none,none,none,none,none] H1:=by
   intro c1 ms1 H1 s1 hc1;refine⟨dl rfl,λL hL=>?_⟩
   have t2:qb (p:Int) H1 L 0 (upd H1 L (.lst [])):=.start hL;generalize upd H1 L (.lst [])=H2 at t2;refine(av rfl (av rfl ⟨(by lia),(by lia),λM hM=>cz (lo:=0) (m:=(p:Int).toNat) (lW (λ_=>true) H2 M) (.start hM) (λi acc H3 _ pk=>pk.len) (fT (by lia)) ?_ ?_⟩))
   ·intro i acc H3 hi pk;rw[abl];exact⟨rfl,av rfl (pk.yes hM (aq.refl _) rfl)⟩
   intro acc H3 pk;have b3:S8 H3 M p p:=by
    refine⟨(List.range p).filter (λ_=>true),by rw[pk.2.1,pk.2.2,aau],?_,λk hk=>aax.mp (aaC.mp hk).1⟩
    rw[List.filter_eq_self.mpr (λ_ _=>rfl),aay]
   have t3:qb (p:Int) H1 L 0 H3:=by
    obtain⟨a1,acc,ts,a2,a3,a4⟩:=t2;exact⟨a1.trans pk.1,acc,ts,pk.1 _ _ a2,Paired.imp' (λ_ _ z=>z.tups pk.1.tups) a3,a4⟩
   clear pk;have fr:H1 M=none:=t2.1.free hM;refine(av rfl ⟨c1,rfl,⟨_,aL.of (t3.1 _ _ hc1)⟩,iN (K:=K) (a:=c1) (xs:=ms1.map V.int) (λi σ H4=>∃(M:Addr) (n:Nat) (f:Int) (v10 v11 Ht S9:Option V),σ=[some (.ref b),some (.int (mt:Int)),some (.int (rk:Int)),some (.int z),some (.int (p:Int)),some (.int (wy:Int)),some (.ref c1),some (.ref L),some (.ref M),some (.int f),v10,v11,Ht,S9]/\qb (p:Int) H1 L n H4/\n<=mt/\S8 H4 M p p/\H1 M=none/\M≠L) ⟨M,0,0,none,none,none,none,rfl,t3,aaN _,b3,fr,λe=>?_⟩ (λi σ H4 _ ⟨_,_,_,_,_,_,_,_,t,_⟩=>aL.of (t.1 _ _ hc1)) ?_ ?_⟩)
   ·obtain⟨_,acc,_,a2,_⟩:=t2;rw[e,a2]at hM;cases hM
   ·rintro i y D' σ H4 hi ⟨M,n,f,v10,v11,Ht,S9,rfl,t4,hnm,b4,Yr,WL⟩;rw[aan]at hi;obtain⟨ce,hce,rfl⟩:=wM.mp hi;refine(av rfl (av rfl (av rfl ⟨ce,p,wy,rfl,p1,by lia,λt bt H5 s5 gt Ur=>?_⟩)))
    obtain⟨ks,hM4,kl,kb⟩:=b4;have Cq:=s5 _ _ hM4;have t5:qb (p:Int) H1 L n H5:=by
     obtain⟨a1,acc,ts,a2,a3,a4⟩:=t4;exact⟨a1.trans s5,acc,ts,s5 _ _ a2,Paired.imp' (λ_ _ z=>z.tups s5.tups) a3,a4⟩
    obtain⟨u,hu⟩:=ab2 gt.a0;obtain⟨v,hv⟩:=ab2 gt.b0;have Ys:u<ks.length:=by have:=gt.a1;lia
    have Uq:v<ks.length:=by have:=gt.b1;lia
    have hku:(aB ks)[u]?=some (.int (ks[u]:Int)):=sL (aaf Ys);have hkv:(aB ks)[v]?=some (.int (ks[v]:Int)):=sL (aaf Uq);have iu:Hl (aB ks) t.1=some (.int (ks[u]:Int)):=by rw[hu];exact au hku
    have iv:Hl (aB ks) t.2.1=some (.int (ks[v]:Int)):=by rw[hv];exact au hkv
    have kub:=kb _ (abC Ys);refine(av rfl (av rfl (eX (bg.of Ur) (au (j:=0) rfl) (iA (aL.of Cq) (iu) (av rfl (av rfl (eX (bg.of Ur) (au (j:=1) rfl) (iA (aL.of Cq) (iv) ⟨rfl,?_⟩))))))));obtain⟨s05,DZ,tsL,NY,prL,alL,gdL⟩:=id t5;have skip:D'.nx [some (.ref b),some (.int (mt:Int)),some (.int (rk:Int)),some (.int z),some (.int (p:Int)),some (.int (wy:Int)),some (.ref c1),some (.ref L),some (.ref M),some (.int f),some (.int ce),some (.ref bt),some (.bl (!decide (V.int (ks[u]:Int)=V.int (ks[v]:Int)))),S9] H5:=⟨M,n,f,_,_,_,_,rfl,t5,hnm,⟨ks,Cq,kl,kb⟩,Yr,WL⟩;generalize (!decide (V.int (ks[u]:Int)=V.int (ks[v]:Int)))=jb at skip;have put:DZ.length<mt->kI D' [some (.ref b),some (.int (mt:Int)),some (.int (rk:Int)),some (.int z),some (.int (p:Int)),some (.int (wy:Int)),some (.ref c1),some (.ref L),some (.ref M),some (.int f),some (.int ce),some (.ref bt),some (.bl jb),S9] H5:=λhlt=>by
     obtain⟨aa4,e6,t6⟩:∃acc,H5 L=some (.lst acc)/\qb (p:Int) H1 L (n+1) (upd H5 L (.lst (acc++[.ref bt]))):=by
      have:=t5.push hL (aq.refl _) gt Ur;obtain⟨acc,e1,_,e2⟩:=this;exact⟨acc,e1,e2⟩
     rw[NY]at e6;cases e6;refine(av rfl ⟨.inl ⟨rfl,_,aL.of NY⟩,av rfl ⟨L,_,_,rfl,rfl,NY,c5 (by lia),?_⟩⟩)
     have Tc:upd H5 L (.lst (DZ++[.ref bt])) M=some (.lst (aB ks)):=by rw[ak WL];exact Cq
     have Qe:upd H5 L (.lst (DZ++[.ref bt])) bt=some (.tup (CJ t)):=dJ.put NY _ _ Ur;have QX:upd H5 L (.lst (DZ++[.ref bt])) L=some (.lst (DZ++[.ref bt])):=ae;generalize upd H5 L (.lst (DZ++[.ref bt]))=H6 at t6 Tc Qe QX;refine(av rfl (av rfl (av rfl (.inr (av rfl (cD (?_)))))));refine(av rfl (av rfl (eX (bg.of Qe) (au (j:=1) rfl) (iA (aL.of Tc) (iv) (?_)))));refine(av rfl ⟨M,rfl,⟨_,aL.of Tc⟩,λM2 Td=>bO (xs:=aB ks) (λi acc H7=>aq H6 H7/\H7 M2=some (.lst acc)/\∃E9:List Nat,acc=aB E9/\E9.length=i/\∀k∈E9,k<p) ⟨aq.new Td,ae,[],rfl,rfl,(λk hk=>nomatch hk)⟩ (λi acc H7 _ z=>⟨aL.of (z.1 _ _ Tc),z.2.1,by obtain⟨E9,e,e2,_⟩:=z.2.2;rw[e,aD,e2];exact aae _⟩) (fT (by rw[aD];lia)) ?_ ?_⟩)
     ·rintro i x acc H7 hx ⟨s7,WM,E9,rfl,Us,kb2⟩;obtain⟨k,hk,rfl⟩:=cR hx;have hkp:=kb k (iq hk);refine⟨rfl,av rfl (av rfl (av rfl (eX (bg.of (s7 _ _ Qe)) (au (j:=0) rfl) (iA (aL.of (s7 _ _ Tc)) (iu) ⟨dl rfl,λl hl=>?_⟩))))⟩
      have s8:aq H7 (upd H7 l (.lst [.int (k:Int),.int (ks[u]:Int)])):=aq.new hl;have WN:upd H7 l (.lst [.int (k:Int),.int (ks[u]:Int)]) l=some (.lst [.int (k:Int),.int (ks[u]:Int)]):=ae;generalize upd H7 l (.lst [.int (k:Int),.int (ks[u]:Int)])=H8 at s8 WN;refine(av rfl (av rfl ⟨rfl,.inr (av rfl (?_))⟩));have NZ:∀k' : Nat,k'<p->H8 M2=some (.lst (aB E9))/\aq H6 (upd H8 M2 (.lst (aB E9++[.int (k' : Int)])))/\upd H8 M2 (.lst (aB E9++[.int (k' : Int)])) M2=some (.lst (aB E9++[.int (k' : Int)]))/\∃ks3:List Nat,aB E9++[.int (k' : Int)]=aB ks3/\ks3.length=i+1/\∀k∈ks3,k<p:=λk' hk'=>by
       refine⟨s8 _ _ WM,(s7.trans s8).put Td,ae,E9++[k'],(cZ E9 k').symm,by rw[aah,Us];rfl,λx hx=>?_⟩
       rcases aaL.mp hx with hx|hx
       ·exact kb2 x hx
       ·have e:x=k':=by simpa using hx
        lia
      cases hd:decide (V.int (k:Int)=V.int (ks[v]:Int)) with
      | true=>exact(iA (aL.of WN) (au (j:=1) rfl) (NZ _ kub))
      | false=>exact(iA (aL.of WN) (au (j:=0) rfl) (NZ _ hkp))
     ·rintro acc H7 ⟨s7,WM,E9,rfl,Us,kb2⟩;rw[aD,kl]at Us;refine⟨M2,n+1,_,_,_,_,_,rfl,?_,by lia,⟨E9,WM,Us,kb2⟩,t6.1.free Td,λe=>?_⟩
      ·obtain⟨a1,acc,ts,a2,a3,a4⟩:=t6;exact⟨a1.trans s7,acc,ts,s7 _ _ a2,Paired.imp' (λ_ _ z=>z.tups s7.tups) a3,a4⟩
      ·rw[e,QX]at Td;cases Td
    refine(av rfl (rZ rfl (.inl (aL.of NY)) (av rfl (cD (av rfl (nV (λh1=>?_) (λ_=>skip)))))))
    have h1:(DZ.length:Int)<(mt:Int):=jB h1;refine(av rfl (av rfl (?_)));cases jb with
    | true=>exact jg (put (by lia))
    | false=>exact gn (av rfl (av rfl (cD (av rfl (nV (λ_=>put (by lia)) (λ_=>skip))))))
   ·rintro σ H4 ⟨M,n,f,v10,v11,Ht,S9,rfl,t4,hnm,b4,Yr,WL⟩;obtain⟨acc,ts,WO,Wq,gd,mk⟩:=t4.fin;refine(av rfl (av rfl ⟨L,_,rfl,.inl ⟨aL.of WO,λl hl=>⟨dl rfl,λw hw=>?_⟩⟩⟩))
    obtain⟨sm,WQ⟩:=mk l hl w hw;exact q w p ts _ (s1.trans sm) ⟨by lia,by lia,by lia,gd⟩ p1 p2 (by lia) WQ
  refine(av rfl (cD ⟨⟨by decide,by decide⟩,cD ⟨(rV rfl),rfl,av rfl (nV (λ_=>?_) (λ_=>cont c ms _ (aq.new hc) ae))⟩⟩))
  have s1:aq H (upd H c (.lst (ms.map V.int))):=aq.new hc;generalize upd H c (.lst (ms.map V.int))=H1 at s1;refine(av rfl (av rfl ⟨b,_,rfl,s1.seq hS,λc3 hc3=>?_⟩))
  rw[Qd];have s2:aq H1 (upd H1 c3 (.lst (ms.map V.int))):=aq.new hc3;have hc2:upd H1 c3 (.lst (ms.map V.int)) c3=some (.lst (ms.map V.int)):=ae;generalize upd H1 c3 (.lst (ms.map V.int))=H2 at s2 hc2;refine⟨c3,rfl,⟨_,aL.of hc2⟩,λD hD=>De (xs:=ms.map V.int) (λi acc H3=>aq H2 H3/\H3 D=some (.lst acc)/\∃ms2:List Int,acc=ms2.map V.int/\ms2.length=i) ⟨aq.new hD,ae,[],rfl,rfl⟩ (λi acc H3 _ z=>⟨aL.of (z.1 _ _ hc2),z.2.1,by obtain⟨ms2,e,e2⟩:=z.2.2;rw[e,aac,e2];exact aae _⟩) (aaW (c5 (by rw[aac];lia))) ?_ ?_⟩
  ·rintro i x T0 acc H3 hx ⟨s3,rT,ms2,rfl,WR⟩ hT;rw[aan]at hx;obtain⟨ce,hce,rfl⟩:=wM.mp hx;have Qy:=(jf.mp hce).1;refine⟨T0,_,rfl,bg.of ae,rfl,_,_,rfl,_,_,rfl,rfl,rfl,av rfl (av rfl ⟨ce,(i:Int),rfl,by lia,by lia,λy _ _=>?_⟩)⟩
   have s4:aq H3 (upd H3 T0 (.tup [.int (i:Int),.int ce])):=aq.new hT;exact⟨s4 _ _ rT,(s3.trans s4).put hD,ae,ms2++[y],by rw[aat];rfl,by rw[aah,WR];rfl⟩
  ·rintro acc H3 ⟨s3,rT,ms2,rfl,WR⟩;rw[aac]at WR;refine(av rfl ⟨.inl ⟨rfl,_,aL.of rT⟩,av rfl ⟨(by decide),(by decide),λD2 iM=>cz (lo:=0) (m:=5) (λi acc H4=>aq H3 H4/\H4 D2=some (.lst acc)/\∃QY:List Int,acc=QY.map V.int/\QY.length=i) ⟨aq.new iM,ae,[],rfl,rfl⟩ (λi acc H4 _ z=>⟨z.2.1,by obtain⟨ms2,e,e2⟩:=z.2.2;rw[e,aac,e2];exact aae _⟩) (fT (by decide)) ?_ ?_⟩⟩)
   ·rintro i acc H4 hi ⟨s4,xX,QY,rfl,Yt⟩;rw[abl];exact⟨rfl,av rfl (av rfl (cD ⟨z,_,rfl,by lia,by lia,λy _ _=>⟨xX,s4.put iM,ae,QY++[y],by rw[aat];rfl,by rw[aah,Yt];rfl⟩⟩))⟩
   ·rintro acc H4 ⟨s4,xX,QY,rfl,Yt⟩;have WS:=s4 _ _ rT;refine⟨D,D2,_,_,rfl,rfl,WS,xX,dl (abi.mpr (by rw[aac,aac];lia)),?_⟩
    refine cont D (ms2++QY) _ ?_ ?_
    ·exact(((s1.trans s2).trans (s3.trans s4))).put ((s1.trans s2).free hD)
    ·rw[ae,aat]
def KQ(K:bM):Sp:=λvs H Q _=>∃(a:Addr) (ns:List Int) (mt:Nat),vs=[.ref a,.int (mt:Int)]/\aL K H a (ns.map V.int)/\ns.length<=63/\mt<=24/\
 ∀w p ts H',aq H H'->aA p ts->p<=5->ts.length<=mt->bx H' w p ts->Q (.ref w) H'
def jA:Ok T T.jz 4 (KQ K):=by
 have rq:=rq T;refine T.jz.ok pO λ_ A _ s H vs Q E hr h=>?_
 ·obtain⟨b,ns,mt,rfl,hS,hn,hmt,q⟩:=h;refine⟨_,(aj (aG (i:=2) pO.nd rfl (Or.inl rfl) (aH rq hr T.qY.c aP (aa (pv 0) (aa (pv 1) (aa (pv 1) af)))))
   (aj (cN (aN wX (aM (eO K) (pv 2) ao) ao (aO _)) (ay (aJ (pv 2))) bF)
   (ay (aJ (dH (aa ao (aa (bV (Ac K) (by rfl) T.pQ ab3 (aa (bK (own:=["tie"]) (fq:=[]) (js:=[]) (aC (ai jx) ["script","most","web"]) rfl (U7 K (aM (eO K) (pv 2) ao)) (λ_ _ _ _=>(bB 0 (kC ["tie"]))) (λ_ _ _ _=>(fQ (aN wX (dI (VA K rfl) (by rfl) T.Ko adl (aa (j7 (OM) (pv 0) mS (mT ao)) af)) ao (aO _)))) (λ_ _ _ _=>(pv 0))) af)) af))))))),?_⟩
  refine ze ?_;intro c7 dO fL;refine(av rfl (av rfl (av rfl ⟨b,ns,mt,mt,rfl,hS,hn,hmt,λwb p ts H1 s1 g p2 p6 tl hw=>?_⟩)))
  obtain⟨bt,xs,h1,h2,h3⟩:=id hw.ex;have zQ:=h3.length;refine(av rfl (eX (bg.of h1) (au (j:=0) rfl) (cD (av rfl (nV (λh5=>?_) (λ_=>?_))))))
  ·have h5:=jB h5;exact(av rfl (q wb p ts H1 s1 g (by lia) tl hw))
  refine(av rfl (eX (bg.of h1) (au (j:=1) rfl) ⟨bt,rfl,⟨_,bg.of h2⟩,λD hD=>z9 (K:=K) (a:=bt) (xs:=xs) (λi acc H2=>aq H1 H2/\H2 D=some (.lst acc)/\∃us,Paired (TupAt H2) acc us/\acc.length<=i/\∀t∈us,jk ((5:Nat):Int) t) ⟨aq.new hD,ae,[],.nil,aae _,λt ht=>nomatch ht⟩ (λi acc H2 _ z=>⟨bg.of (z.1 _ _ h2),z.2.1,by obtain⟨_,_,e,_⟩:=z.2.2;exact e⟩) (fT (by lia)) ?_ ?_⟩))
  ·rintro i x acc H2 hx ⟨s2,iM,us,pr,al,gd⟩;obtain⟨t,ht,ct,rfl,hct⟩:=Paired.nX h3 hx;have gt:=g.nY t (iq ht);refine⟨rfl,av rfl (av rfl ⟨ct,_,rfl,s2 _ _ hct,λc1 H3 s3 hc1=>?_⟩)⟩
   have hc1:H3 c1=some (.tup [.int t.1,.int t.2.1]):=hc1;refine⟨c1,t.1,t.2.1,rfl,bg.of hc1,λz z1 z2 _=>(cD (av rfl (?_)))⟩
   have KL:=s2.trans s3;have rT:=s3 _ _ iM;refine nV (λhz=>?_) (λ_=>?_)
   ·have hz:z<5:=jB hz;refine(av rfl ⟨rT,KL.put hD,ae,us++[t],Paired.snoc (Paired.imp' (λ_ _ y=>y.tups (s3.tups.trans (dJ.put rT))) pr) ⟨ct,rfl,dJ.put rT _ _ (KL _ _ hct)⟩,by rw[aah,aaU];lia,λu hu=>?_⟩)
    rcases aaL.mp hu with hu|hu
    ·exact gd u hu
    ·rw[aaA.mp hu];exact⟨gt.a0,by lia,gt.b0,by lia,gt.ne,gt.l0,gt.l1⟩
   ·exact⟨KL,rT,us,Paired.imp' (λ_ _ y=>y.tups s3.tups) pr,by lia,gd⟩
  ·rintro acc H2 ⟨s2,iM,us,pr,al,gd⟩;have t4:qb ((5:Nat):Int) H1 D acc.length H2:=⟨s2,acc,us,iM,pr,rfl,gd⟩;obtain⟨acc',us',WO,Wq,gd',mk⟩:=t4.fin;refine⟨D,_,rfl,.inl ⟨aL.of WO,λl hl=>⟨dl rfl,λw hw=>?_⟩⟩⟩
   obtain⟨sm,WQ⟩:=mk l hl w hw;exact q w 5 us' _ (s1.trans sm) ⟨by decide,by decide,by lia,gd'⟩ (by decide) (by lia) WQ
def KR(o:Option Nat):V:=match o with
 | none=>.dS
 | some c=>.int (c:Int)
def Na:Sp:=λvs H Q _=>∃(w1 w2:Addr) (p q:Nat) (ts us:List cC) (o:Option Nat),vs=[.ref w1,.ref w2,KR o]/\bx H w1 p ts/\bx H w2 q us/\aA p ts/\aA q us/\(∀c,o=some c->c<p)/\ts.length<=7/\us.length<=7/\
 ∀w H',aq H H'->bx H' w (pV p q o) (ts++us.map (rM (jn p o)))->Q (.ref w) H'
def oB:Ok T T.oz 1 Na:=by
 refine T.oz.ok dP λ_ A _ s H vs Q E hr h=>?_
 ·obtain⟨w1,w2,p,q,ts,us,o,rfl,wL,Ce,g,h,ho,tl,ul,q'⟩:=h;refine⟨_,(aj (aG (i:=3) dP.nd rfl (Or.inl rfl) (bV (Nu K) (by rfl) T.zB acE (aa (aM (eO K) (pv 0) ao) af)))
   (aj (fO PassesOwn.never rfl (U7 K (aM (eO K) (pv 1) ao)) (K0 K (n:=3) rfl (aW (bB 4 dP.nd) (aW (bB 5 dP.nd) (aW (bB 6 dP.nd) fN))))
   (aj (aG (i:=7) dP.nd rfl (Or.inl rfl) (eM af))
   (aj (fO PassesOwn.never rfl (rW K (eM (aa (pv 4) (aa (pv 5) af)))) (bB 8 dP.nd)
   (ay (cN (aN ym (pv 2) iQ (aO _)) (ay (cY (JX K (lV aba abd abe cO (pv 7) (aa (aI dD (aM (eO K) (pv 0) ao) (pv 8)) af))))) (ay (cN (aN gX (pv 8) ao (aO _)) (ay (cY (JX K (lV aba abd abe cO (pv 7) (aa (pv 2) af))))) (ay (cY (JX K (lV aba abd abe cO (pv 7) (aa (aI nU (aI dD (aM (eO K) (pv 0) ao) (pv 8)) ao) af))))))))))
   (ay (cY (JX K (lV aba abd abe cO (pv 3) (aa (dH (aa (aM (ik K) (pv 7) ao) (aa (aM (ik K) (pv 7) ao) (aa (pv 6) af)))) af))))))))
   (ay (aJ (dH (aa (aI nU (aI dD (aM (eO K) (pv 0) ao) (aM (eO K) (pv 1) ao)) (bV p7 (by rfl) T.Kn adm (aa (dW Ed (pv 2) iQ (aO _)) af))) (aa (bV (Ac K) (by rfl) T.pQ ab3 (aa (pv 3) af)) af))))))),?_⟩
  refine BH ?_;intro c7 dO fL je kI pH uS BD za BE;obtain⟨b1,xs,h1,h2,h3⟩:=id wL.ex;obtain⟨b2,ys,k1,k2,k3⟩:=id Ce.ex;have zQ:=h3.length;have Ku:=k3.length;have gp:=g.p2;have hp:=h.p2;refine(av rfl (eX (bg.of h1) (au (j:=1) rfl) (rZ rfl (.inr (bg.of h2)) (λL hL=>?_))))
  have s1:aq H (upd H L (.lst xs)):=aq.new hL;have K8:upd H L (.lst xs) L=some (.lst xs):=ae;generalize upd H L (.lst xs)=H1 at s1 K8;refine(av rfl (eX (bg.of (s1 _ _ k1)) (au (j:=1) rfl) ⟨b2,rfl,⟨_,bg.of (s1 _ _ k2)⟩,?_⟩));refine Lm (K:=K) (a:=b2) (xs:=ys) (λi σ H2=>∃v4 v5 v6 v7 v8 acc,σ=[some (.ref w1),some (.ref w2),some (KR o),some (.ref L),v4,v5,v6,v7,v8]/\aq H H2/\H2 L=some (.lst acc)/\Paired (TupAt H2) acc (ts++(us.take i).map (rM (jn p o)))/\acc.length=xs.length+i) ⟨none,none,none,none,none,xs,rfl,s1,K8,?_,rfl⟩ (λi σ H2 _ ⟨_,_,_,_,_,_,_,z,_⟩=>bg.of (z _ _ k2)) ?_ ?_
  ·rw[List.take_zero];show Paired (TupAt H1) xs (ts++[]);rw[abP];exact Paired.imp' (λ_ _ z=>z.tups s1.tups) h3
  ·rintro i y σ H2 hi ⟨v4,v5,v6,v7,v8,acc,rfl,s2,KG,pr,al⟩;obtain⟨t,ht,ct,rfl,hct⟩:=Paired.nX k3 hi;have gt:=h.nY t (iq ht);have MV:=s2 _ _ hct;refine⟨ct,_,rfl,bg.of MV,rfl,_,_,rfl,_,_,rfl,_,_,rfl,rfl,?_⟩;refine⟨dl rfl,λM hM=>?_⟩
   have ML:M≠L:=(bj KG hM).symm;have s3:aq H2 (upd H2 M (.lst [])):=aq.new hM;have WT:upd H2 M (.lst []) M=some (.lst []):=ae;generalize upd H2 M (.lst [])=H3 at s3 WT;refine(av rfl (av rfl ⟨dl rfl,λZ hZ=>?_⟩))
   have s4:aq H3 (upd H3 Z (.lst [.int t.1,.int t.2.1])):=aq.new hZ;have WU:upd H3 Z (.lst [.int t.1,.int t.2.1]) Z=some (.lst [.int t.1,.int t.2.1]):=ae;have ZM:Z≠M:=(bj WT hZ).symm;generalize upd H3 Z (.lst [.int t.1,.int t.2.1])=H4 at s4 WU;have N1:=s3.trans s4;refine⟨Z,rfl,⟨_,aL.of WU⟩,lS (K:=K) (a:=Z) (xs:=[.int t.1,.int t.2.1]) (λj σ H5=>∃v8,σ=[some (.ref w1),some (.ref w2),some (KR o),some (.ref L),some (.int t.1),some (.int t.2.1),some (.int t.2.2),some (.ref M),v8]/\aq H2 H5/\H5 Z=some (.lst [.int t.1,.int t.2.1])/\H5 M=some (.lst (([t.1,t.2.1].take j).map λy=>V.int (jn p o y)))) (av rfl ⟨N1,WU,s4 _ _ WT⟩) (λj σ H5 _ ⟨_,_,_,z,_⟩=>aL.of z) ?_ ?_⟩
   ·rintro j y σ H5 hj ⟨v8,rfl,s5,Yu,Cq⟩;obtain⟨e,he,rfl⟩:∃e,[t.1,t.2.1][j]?=some e/\y = .int e:=by
     have:([t.1,t.2.1].map V.int)[j]?=some y:=hj;rw[aan]at this;obtain⟨e,h1,h2⟩:=wM.mp this;exact⟨e,h1,h2.symm⟩
    have NZ:aq H2 (upd H5 M (.lst (([t.1,t.2.1].take j).map (λy=>V.int (jn p o y))++[.int (jn p o e)])))/\upd H5 M (.lst (([t.1,t.2.1].take j).map (λy=>V.int (jn p o y))++[.int (jn p o e)])) Z=some (.lst [.int t.1,.int t.2.1])/\upd H5 M (.lst (([t.1,t.2.1].take j).map (λy=>V.int (jn p o y))++[.int (jn p o e)])) M=some (.lst (([t.1,t.2.1].take (j+1)).map λy=>V.int (jn p o y))):=by
     refine⟨s5.put hM,by rw[ak ZM];exact Yu,?_⟩
     rw[ae,aaZ,he,aat];rfl
    have ml:(([t.1,t.2.1].take j).map λy=>V.int (jn p o y)).length<=2:=by
     rw[aac,aa8];exact Nat.min_le_right _ _
    have Yv:=bg.of (K:=K) (s2.trans s5 _ _ h1);cases o with
    | none =>
      refine(av rfl ⟨rfl,av rfl (LL rfl (av rfl ⟨.inl ⟨rfl,_,aL.of Cq⟩,av rfl ⟨w1,_,0,_,rfl,rfl,Yv,au (j:=0) rfl,_,rfl,cD ⟨M,_,_,rfl,rfl,Cq,c5 (by lia),av rfl (NZ)⟩⟩⟩))⟩)
    | some c =>
      refine(av rfl ⟨rfl,av rfl (Ab (λz=>nomatch z) (av rfl ⟨rfl,av rfl (?_)⟩))⟩)
      by_cases e0:e=0
      ·rw[cF (by rw[e0])]
       rw[show jn p (some c) e=(c:Int) from aad e0]at NZ
       exact jg (av rfl ⟨.inl ⟨rfl,_,aL.of Cq⟩,av rfl ⟨M,_,_,rfl,rfl,Cq,c5 (by lia),av rfl (NZ)⟩⟩)
      ·rw[eI (λz=>e0 (V.int.inj z))]
       rw[show jn p (some c) e=(p:Int)+e-1 from aab e0]at NZ
       exact gn (av rfl ⟨.inl ⟨rfl,_,aL.of Cq⟩,av rfl ⟨w1,_,0,_,rfl,rfl,Yv,au (j:=0) rfl,_,rfl,cD (cD ⟨M,_,_,rfl,rfl,Cq,c5 (by lia),av rfl (NZ)⟩)⟩⟩)
   ·rintro σ H5 ⟨v8,rfl,s5,Yu,Cq⟩;have Cq:H5 M=some (.lst [.int (jn p o t.1),.int (jn p o t.2.1)]):=Cq;have NY:=s5 _ _ KG;refine(av rfl ⟨.inl ⟨rfl,_,aL.of NY⟩,av rfl (iA (aL.of Cq) (au (j:=0) rfl) (av rfl (iA (aL.of Cq) (au (j:=1) rfl) (av rfl ⟨dl rfl,λB hB=>?_⟩))))⟩)
    have s6:aq H5 (upd H5 B (.tup (CJ (rM (jn p o) t)))):=aq.new hB;have V0:upd H5 B (.tup (CJ (rM (jn p o) t))) B=some (.tup (CJ (rM (jn p o) t))):=ae;have QX:=s6 _ _ NY;refine⟨L,acc,_,rfl,rfl,QX,c5 (by have:=List.length_take_le i us;have:=(jf.mp ht).1;lia),_,_,_,_,_,acc++[.ref B],rfl,((s2.trans s5).trans s6).put hL,ae,?_,by rw[aah,aaU];lia⟩
    rw[aaZ,ht,aat,<-List.append_assoc];exact Paired.snoc (Paired.imp' (λ_ _ y=>y.tups ((s5.trans s6).tups.trans (dJ.put QX))) pr) ⟨B,rfl,dJ.put QX _ _ V0⟩
  ·rintro σ H2 ⟨v4,v5,v6,v7,v8,acc,rfl,s2,KG,pr,al⟩;rw[Ku,aa5]at pr;have fin:∀l,H2 l=none->∀w',upd H2 l (.tup acc) w' = none->Q (.ref w') (upd (upd H2 l (.tup acc)) w' (.tup [.int ((pV p q o:Nat):Int),.ref l])):=λl hl w' QZ=>by
    have n1:aq H2 (upd H2 l (.tup acc)):=aq.new hl;have n2:=n1.trans (aq.new (o:=.tup [.int ((pV p q o:Nat):Int),.ref l]) QZ);exact q' w' _ (s2.trans n2) ⟨l,acc,ae,by rw[ak (bj ae QZ),ae],Paired.imp' (λ_ _ z=>z.tups n2.tups) pr⟩
   have g1:=g.p1;refine(av rfl (eX (bg.of (s2 _ _ h1)) (au (j:=0) rfl) (av rfl (eX (bg.of (s2 _ _ k1)) (au (j:=0) rfl) (cD (?_))))));cases o with
   | none =>
     refine(av rfl ⟨rfl,.inr (av rfl (cD (av rfl ⟨L,_,rfl,.inl ⟨aL.of KG,λl hl=>⟨dl rfl,λw' QZ=>?_⟩⟩⟩)))⟩)
     have:=fin l hl w' QZ;rw[show((pV p q none:Nat):Int)=(p:Int)+(q:Int)-0 by show((p+q:Nat):Int)=_;lia]at this
     exact this
   | some c =>
     refine(av rfl ⟨rfl,.inr (av rfl (cD (av rfl ⟨L,_,rfl,.inl ⟨aL.of KG,λl hl=>⟨dl rfl,λw' QZ=>?_⟩⟩⟩)))⟩)
     have:=fin l hl w' QZ;rw[show((pV p q (some c):Nat):Int)=(p:Int)+(q:Int)-1 by show((p+q-1:Nat):Int)=_;lia]at this
     exact this
def kF{K:bM}{H:Hp}:∀l:List Int,DatVs K H (l.map V.int) (l.map PyData.int)
 | []=>.nil
 | x::r=>.cons (.int x) (kF r)
def lay_ints:∀l:List Int,PyData.canLayAll0 (l.map PyData.int)=true
 | []=>rfl
 | x::r=>by
   have ih:=lay_ints r;have e:(PyData.int x).canLay0=true:=by simp[PyData.canLay0]
   simp only[aaT,PyData.canLayAll0,ih,acT,e]
def yc:∀l:List Int,PyData.depthAll (l.map PyData.int)=0
 | []=>rfl
 | x::r=>by
   show max (PyData.depth (PyData.int x)) (PyData.depthAll (r.map PyData.int))=0;rw[yc r];rfl
def shaped_ints(l:List Int):SeqAt.shaped (.list (l.map PyData.int))=true:=by
 unfold SeqAt.shaped;have e:(PyData.list (l.map PyData.int)).canLay0=PyData.canLayAll0 (l.map PyData.int):=by simp[PyData.canLay0]
 rw[e,lay_ints,aa7];refine cF ?_;have e2:PyData.depth (PyData.list (l.map PyData.int))=PyData.depthAll (l.map PyData.int)+1:=by simp[PyData.depth]
 rw[e2,yc]
 lia
def Cf(l:List Int):(PyData.list (l.map PyData.int)).canLay0=true:=by
 have e:(PyData.list (l.map PyData.int)).canLay0=PyData.canLayAll0 (l.map PyData.int):=by simp[PyData.canLay0]
 rw[e,lay_ints]
def KS{ts:List cC}{l:List Nat}(h:l.Pairwise (vC ts)):(l.map (lenOf ts)).Pairwise (·<=·):=by
 rw[acJ];refine h.imp λ{x y} z=>?_
 unfold vC at z
 lia
def Hg{l l' : List Int}(h:l.Perm l')(u:l.Pairwise (·<=·))(u' : l'.Pairwise (·<=·)):l=l':=List.Perm.eq_of_pairwise (λx y _ _ h1 h2=>Int.le_antisymm h1 h2) u u' h
def Cg{p:Nat}{ts:List cC}{g:aA p ts}(h:ts.length<=8):g.N.ah.length<=8:=by
 have h1:g.N.ah.length<=(List.range g.N.n).length:=aaG ..;rw[aay]at h1;exact aaD h1 h
def rP{K:bM}{b D:Addr}{lo:Nat}{ns:List Int}{H1:Hp}{Q:Hp->Prop}(hS:aL K H1 b (ns.map V.int))(hn:ns.length<=63)(h1:1<=lo)(hD:H1 D=none)(k:∀(ms:List Int) (H2:Hp),aq H1 H2->H2 D=some (.lst (ms.map V.int))->ms.length<=32->Q H2):
 eW (IU (lo:Int) (((ns.length:Int)-(lo:Int)+1)/2).toNat) (D6 0) Nq (Qq (Oq K) (Lf 1) (Lf 0)) 1 [some (.ref b)] D Q (upd H1 D (.lst [])):=by
 refine AI (lo:=(lo:Int)) (λi acc H2=>aq H1 H2/\H2 D=some (.lst acc)/\∃ms:List Int,acc=ms.map V.int/\ms.length=i) ⟨aq.new hD,ae,[],rfl,rfl⟩ (λi acc H2 _ z=>⟨z.2.1,by obtain⟨ms,e,e2⟩:=z.2.2;rw[e,aac,e2];exact aae _⟩) (aaW (c5 (by lia))) ?_ ?_
 ·rintro i acc H2 hi ⟨s2,iM,ms,rfl,ml⟩;have hlt:lo+i*2<ns.length:=by lia
  have e:(lo:Int)+(i:Nat)*2=((lo+i*2:Nat):Int):=by lia
  rw[e];exact⟨rfl,av rfl (av rfl ⟨b,_,_,_,rfl,rfl,s2.seq hS,au (Er hlt),iM,s2.put hD,ae,ms++[_],by rw[aat];rfl,by rw[aah,ml];rfl⟩)⟩
 ·rintro acc H2 ⟨s2,iM,ms,rfl,ml⟩;exact k ms H2 s2 iM (by lia)
def zL(K:bM)(tb:rY):Sp:=λvs H Q _=>∃(a:Addr) (ns:List Int),vs=[.ref a]/\aL K H a (ns.map V.int)/\ns.length<=63/\TabsAt tb H/\∀H',Q (.bl true) H'
def Tf:Ok T T.NU 12 (zL K [(a.fG,qu "by_length",eg),(a.c8,qu "least_ways",cM)]):=by
 have dz:=dz T;have dR:=dR T;have jA:=jA T;have oB:=oB T;have kE:=kE T;have lG:=lG T;have fb:=fb T;have ig:=ig T;refine T.NU.ok mF λ_ A _ s H vs Q E hr h=>?_
 ·obtain⟨b,ns,rfl,hS,hn,hT,fin⟩:=h;have MX:=hT _ aar;have MW:=hT _ (nR _ aar);refine⟨_,(aj (aG (i:=1) mF.nd rfl (Or.inl rfl) (aH dz hr T.gW.c aP (aa (pv 0) (aa ao af))))
   (aj (aG (i:=2) mF.nd rfl (Or.inr rfl) (aH jA hr T.jz.c aP (aa (aI (Ih K) (eM (aa (pv 1) af)) (bK (own:=["k"]) (fq:=["script"]) (js:=[0]) (aC (ai xW) ["script","head","one","other","at","both","due"]) rfl (xF (by rfl) T.b7 (aa ao (aa (cU K T.e8 (aa (pv 0) af)) (aa ao af)))) (λ_ _ _ _=>(bB 0 (kC ["k","script"]))) (λ_ _ _ _=>bJ) (λ_ _ _ _=>(aM (ik K) (pv 1) (pv 0))))) (aa ao af))))
   (aj (aG (i:=3) mF.nd rfl (Or.inl rfl) (aH jA hr T.jz.c aP (aa (aI (Ih K) (eM (aa (aI kL (pv 1) ao) af)) (bK (own:=["k"]) (fq:=["script"]) (js:=[0]) (aC (ai xW) ["script","head","one","other","at","both","due"]) rfl (xF (by rfl) T.b7 (aa ao (aa (cU K T.e8 (aa (pv 0) af)) (aa ao af)))) (λ_ _ _ _=>(bB 0 (kC ["k","script"]))) (λ_ _ _ _=>bJ) (λ_ _ _ _=>(aM (ik K) (pv 1) (pv 0))))) (aa ao af))))
   (aj (aG (i:=4) mF.nd rfl (Or.inl rfl) iQ)
   (aj (cN (aN gX (aI eJ (aI kL (pv 1) ao) ao) ao (aO _)) (ay (aG (i:=4) mF.nd rfl (Or.inl rfl) (aI eJ (aH dR hr T.ie.c aP (aa (pv 1) (aa ao af))) (aM (eO K) (pv 2) ao)))) bF)
   (aj (aG (i:=5) mF.nd rfl (Or.inl rfl) (aH oB hr T.oz.c aP (aa (pv 2) (aa (pv 3) (aa (pv 4) af)))))
   (aj (cN (PW.pt (D0 (aN (OE K hr.units) (aH kE hr T.kD.c aP (aa (pv 5) af)) (dI (sortedK K) (by rfl) T.pP ac3 (aa (aI (Ih K) (aH kE hr T.kD.c aP (aa (pv 2) af)) (aH kE hr T.kD.c aP (aa (pv 3) af))) af)) (aO _)) (yh (aN tI (aH lG hr T.ou.c aP (aa (pv 5) af)) (aI dD (aH lG hr T.ou.c aP (aa (pv 2) af)) (aH lG hr T.ou.c aP (aa (pv 3) af))) (aO _))))) (ay (aJ wQ)) bF)
   (aj (cN (aN tI (aH fb hr T.e7.c aP (aa (pv 5) af)) (aI yv (aH fb hr T.e7.c aP (aa (pv 2) af)) (aH fb hr T.e7.c aP (aa (pv 3) af))) (aO _)) (ay (aJ wQ)) bF)
   (aj (cN (aN zY (aH lG hr T.ou.c aP (aa (pv 5) af)) ao (aO _)) (ay (aJ wQ)) bF)
   (aj (aG (i:=6) mF.nd rfl (Or.inl rfl) (aI (Ih K) (aH ig hr T.ic.c nK (aa (pv 2) af)) (bK (own:=["ring"]) (fq:=["one"]) (js:=[2]) (aC (ai xW) ["script","head","one","other","at","both","due"]) rfl (rW K (aH ig hr T.ic.c nK (aa (pv 3) af))) (λ_ _ _ _=>(bB 0 (kC ["ring","one"]))) (λ_ _ _ _=>bJ) (λ_ _ _ _=>(aI Me (pv 0) (cU K T.e8 (aa (aM (eO K) (pv 1) ao) af)))))))
   (ay (aJ (dW (CG K hr.units) (dI (sortedK K) (by rfl) T.pP ac3 (aa (aH ig hr T.ic.c nK (aa (pv 5) af)) af)) (dI (sortedK K) (by rfl) T.pP ac3 (aa (pv 6) af)) (aO _)))))))))))))),?_⟩
  refine PB ?_;intro c7 dO fL je kI pH uS BD za BE uY r6 BF BG;refine(av rfl ⟨b,ns,0,rfl,(by decide),hS,λz=>?_⟩)
  refine(av rfl ⟨dl rfl,λX hX=>?_⟩)
  have s1:aq H (upd H X (.lst [.int z])):=aq.new hX;have Qf:upd H X (.lst [.int z]) X=some (.lst ([z].map V.int)):=ae;generalize upd H X (.lst [.int z])=H1 at s1 Qf;have Qg:=s1.seq hS;refine(av rfl ⟨b,_,rfl,.inl Qg,?_⟩);rw[aac];refine⟨1,(ns.length:Int),rfl,⟨by decide,by decide,by lia,by lia⟩,?_⟩
  refine λD hD=>rP (lo:=1) Qg hn (aae _) hD λms H2 s2 iM ml=>?_
  refine⟨X,D,_,_,rfl,rfl,aL.of (s2 _ _ Qf),aL.of iM,?_,λl hl=>?_⟩
  ·rw[aac,aac];exact aaW (c5 (by show 1+ms.length<=900;lia))
  rw[<-aat];have s3:aq H2 (upd H2 l (.lst (([z]++ms).map V.int))):=aq.new hl;have Qh:upd H2 l (.lst (([z]++ms).map V.int)) l=some (.lst (([z]++ms).map V.int)):=ae;generalize upd H2 l (.lst (([z]++ms).map V.int))=H3 at s3 Qh;refine⟨l,[z]++ms,7,rfl,aL.of Qh,by rw[aah];show 1+ms.length<=63;lia,by decide,λw1 p ts H4 s4 g p5 tl wL=>?_⟩
  clear Qh hl iM hD ml;have KN:=((s1.trans s2).trans s3).trans s4;clear s1 s2 s3 s4 Qf hX Qg;clear ms;refine(av rfl (cD ⟨⟨by decide,by decide⟩,dl rfl,λX hX=>?_⟩))
  have s1:aq H4 (upd H4 X (.lst [.int (z/30)])):=aq.new hX;have Qf:upd H4 X (.lst [.int (z/30)]) X=some (.lst ([z/30].map V.int)):=ae;generalize upd H4 X (.lst [.int (z/30)])=H5 at s1 Qf;have Qg:=(KN.trans s1).seq hS;refine(av rfl ⟨b,_,rfl,.inl Qg,?_⟩);rw[aac];refine⟨2,(ns.length:Int),rfl,⟨by decide,by decide,by lia,by lia⟩,?_⟩
  refine λD hD=>rP (lo:=2) Qg hn (by decide) hD λms H6 s2 iM ml=>?_
  refine⟨X,D,_,_,rfl,rfl,aL.of (s2 _ _ Qf),aL.of iM,?_,λl hl=>?_⟩
  ·rw[aac,aac];exact aaW (c5 (by show 1+ms.length<=900;lia))
  rw[<-aat];have s3:aq H6 (upd H6 l (.lst (([z/30]++ms).map V.int))):=aq.new hl;have Qh:upd H6 l (.lst (([z/30]++ms).map V.int)) l=some (.lst (([z/30]++ms).map V.int)):=ae;generalize upd H6 l (.lst (([z/30]++ms).map V.int))=H7 at s3 Qh;refine⟨l,[z/30]++ms,7,rfl,aL.of Qh,by rw[aah];show 1+ms.length<=63;lia,by decide,λw2 q us H8 s4 h q5 ul Ce=>?_⟩
  have WV:=((s1.trans s2).trans s3).trans s4;have wL:=wL.same WV;have WW:=KN.trans WV;clear Qh hl iM hD ml s1 s2 s3 s4 Qf hX Qg KN WV;clear ms;have Tg:=WW _ _ MW;have htb:=WW _ _ MX;have cont:∀o:Option Nat,(∀c,o=some c->c<p)->za { nx:=λ_ H'=>Q V.dS H',rt:=Q} [some (.ref b),some (.int z),some (.ref w1),some (.ref w2),some (KR o),none,none] H8:=λo ho=>by
   refine(av rfl (av rfl (av rfl ⟨w1,w2,p,q,ts,us,o,rfl,wL,Ce,g,h,ho,tl,ul,λw3 H9 s9 Hh=>?_⟩)))
   have B:=Gn g h ho p5 q5 tl ul;have t:=BA g h B ho;have wL:=wL.same s9;have Ce:=Ce.same s9;have Tg:=s9 _ _ Tg;have htb:=s9 _ _ htb;clear s9 WW;refine(av rfl ⟨w3,_,_,B,rfl,Hh,Tg,htb,λD3 rs SW rT M0 Th lb pw _=>?_⟩)
   refine(av rfl ⟨w1,p,ts,g,rfl,wL.same M0,M0 _ _ Tg,M0 _ _ htb,λD1 as H11 Ba PY Ti la pa _=>?_⟩)
   have KU:=M0.trans PY;refine(av rfl ⟨w2,q,us,h,rfl,Ce.same KU,KU _ _ Tg,KU _ _ htb,λD2 bs Ut iM s12 Tj lc pc _=>?_⟩)
   have cl:∀{p:Nat} {ts:List cC} {g:aA p ts} {rs:List Nat},ts.length<=7->RM.LB g.N (aQ ts) rs->rs.length<=7:=λ{p ts g rs} h l=>by
    have h1:g.N.ah.length<=(List.range g.N.n).length:=aaG ..;rw[aay,<-l.1.len]at h1;exact aaD h1 h
   have al:=cl tl la;have bl:=cl ul lc;refine⟨D1,D2,_,_,rfl,rfl,aL.of (s12 _ _ Ti),aL.of Tj,?_,λl hl=>?_⟩
   ·rw[aac,aac,aac,aac];exact aaW (c5 (by lia))
   rw[<-aat];have nO:aq Ut (upd Ut l (.lst ((as.map (lenOf ts)++bs.map (lenOf us)).map V.int))):=aq.new hl;have Qi:upd Ut l (.lst ((as.map (lenOf ts)++bs.map (lenOf us)).map V.int)) l=some (.lst ((as.map (lenOf ts)++bs.map (lenOf us)).map V.int)):=ae;generalize upd Ut l (.lst ((as.map (lenOf ts)++bs.map (lenOf us)).map V.int))=H13 at nO Qi;refine⟨l,_,rfl,aL.of Qi,by rw[aah,aac,aac];lia,λl2 ns' hl2 pm up=>?_⟩
   have e:=Gp g h B ho lb la lc pm up (KS pw);subst e;have Uu:aq H13 (upd H13 l2 (.lst ((rs.map (lenOf (ts++us.map (rM (jn p o))))).map V.int))):=aq.new hl2;have Qj:upd H13 l2 (.lst ((rs.map (lenOf (ts++us.map (rM (jn p o))))).map V.int)) l2=some (.lst ((rs.map (lenOf (ts++us.map (rM (jn p o))))).map V.int)):=ae;generalize upd H13 l2 (.lst ((rs.map (lenOf (ts++us.map (rM (jn p o))))).map V.int))=H14 at Uu Qj;have Tn:=((PY.trans s12).trans (nO.trans Uu)) _ _ Th;have s9:=(KU.trans s12).trans (nO.trans Uu);have wL:=wL.same s9;have Ce:=Ce.same s9;have Hh:=Hh.same s9;have htb:=s9 _ _ htb;refine⟨_,_,.lst (aL.of Tn) (kF _),.lst (aL.of Qj) (kF _),shaped_ints _,shaped_ints _,_,rfl,?_⟩;rw[SeqAt.eqv_refl _ (Cf _)];clear Tn Qj s9 Uu hl2 pm up Qi nO hl s12 KU PY M0 Tj Ti Th;refine gn ?_;have ck:=t.iW;refine(av rfl ⟨w3,_,_,B,rfl,Hh,λH15 PL=>(av rfl ⟨w1,p,ts,g,rfl,wL.same PL,λH16 WX=>(av rfl ⟨w2,q,us,h,rfl,Ce.same (PL.trans WX),λH17 Yw=>(cD ⟨rfl,av rfl (?_)⟩)⟩)⟩)⟩)
   rw[cF (by rw[ck];rfl)]
   have s9:=(PL.trans WX).trans Yw;have wL:=wL.same s9;have Ce:=Ce.same s9;have Hh:=Hh.same s9;have htb:=s9 _ _ htb;clear s9 PL WX Yw;refine gn ?_;refine(av rfl ⟨w3,_,_,B,rfl,Hh,λH18 Uv f3=>(av rfl ⟨w1,p,ts,g,rfl,wL.same Uv,λH19 WY f1=>(av rfl ⟨w2,q,us,h,rfl,Ce.same (Uv.trans WY),λH20 Yx f2=>(cD ⟨?_,rfl,av rfl (?_)⟩)⟩)⟩)⟩)
   ·exact mulOk_of (acZ f1 (ab0 (by decide) (by decide))) (acZ f2 (ab0 (by decide) (by decide)))
   rw[cF (by rw[t.fo])]
   have s9:=(Uv.trans WY).trans Yx;have wL:=wL.same s9;have Ce:=Ce.same s9;have Hh:=Hh.same s9;have htb:=s9 _ _ htb;clear s9 Uv WY Yx;refine gn ?_;refine(av rfl ⟨w3,_,_,B,rfl,Hh,λH21 Yy=>(cD (av rfl (nV (λ_=>fin _) (λh8=>?_))))⟩)
   have h8:B.N.ah.length<=8:=by
    refine adf λz=>h8 (cF ?_)
    lia
   have s9:=Yy;have wL:=wL.same s9;have Ce:=Ce.same s9;have Hh:=Hh.same s9;have htb:=s9 _ _ htb;clear s9 Yy;refine(av rfl ⟨w1,p,ts,g,rfl,wL,htb,.inl ⟨Cg (by lia),λl nd hl=>acZ (RM.jo (N:=g.N) tl nd hl) (by decide),λD1 l1 H22 Ba Uw WZ R1=>?_⟩⟩)
   refine(av rfl ⟨w2,q,us,h,rfl,Ce.same Uw,Uw _ _ htb,.inl ⟨Cg (by lia),λl nd hl=>acZ (RM.jo (N:=h.N) ul nd hl) (by decide),λD2 l2 H23 iM KL DY R2=>?_⟩⟩)
   have n1:l1.length<32:=RM.jo (N:=g.N) tl R1.nd λm hm=>(R1.all m).mp hm
   have n2:l2.length<32:=RM.jo (N:=h.N) ul R2.nd λm hm=>(R2.all m).mp hm
   have big:∀{us:List cC} {r:Nat},us.length<=7->r<2^us.length->r<128:=λ{us r} h z=>aaj z (aaM (n:=2) (by decide) h)
   obtain⟨b1,xs,e1,e2,e3⟩:=id (wL.same (Uw.trans KL)).ex;refine⟨D2,rfl,⟨_,aL.of DY⟩,λX hX=>bO (K:=K) (a:=D2) (xs:=aB l2) (λi acc Nb=>aq H23 Nb/\Nb X=some (.lst acc)/\acc=aB ((l2.take i).map (· <<< ts.length))) ⟨aq.new hX,ae,rfl⟩ (λi acc Nb _ z=>⟨aL.of (z.1 _ _ DY),z.2.1,by rw[z.2.2,aD,aac,aa8];lia⟩) (aaW (c5 (by rw[aD];lia))) ?_ ?_⟩
   ·rintro i x acc Nb hx ⟨N1,Nc,rfl⟩;obtain⟨r,Ls,rfl⟩:=cR hx;have rl:=big ul ((R2.all r).mp (iq Ls)).1;have zQ:=e3.length;refine⟨rfl,av rfl (av rfl (eX (bg.of (N1 _ _ e1)) (au (j:=1) rfl) (rZ rfl (.inr (bg.of (N1 _ _ e2))) (cD ⟨⟨by lia,by lia,?_⟩,Nc,N1.put hX,ae,?_⟩))))⟩
    ·rw[Int.natAbs_natCast];exact acZ rl (by decide)
    ·rw[take3 Ls,aat,ac2,cZ,acp];show _++[V.int ((r:Int)*2^((xs.length:Nat):Int).toNat)]=_;rw[aau,zQ]
     congr 3
   rintro acc Nb ⟨N1,Nc,rfl⟩;rw[aD,aa5]at Nc;refine⟨D1,X,_,_,rfl,rfl,aL.of ((KL.trans N1) _ _ WZ),aL.of Nc,?_,λl hl=>?_⟩
   ·rw[aD,aD,aac];exact aaW (c5 (by lia))
   have cat:aB l1++aB (l2.map (· <<< ts.length))=aB (l1++l2.map (· <<< ts.length)):=by
    unfold aB;rw[aat]
   rw[cat];have al:=t.rings (λm=>R1.all m) λm=>R2.all m
   have nd:=t.nodup (λm=>R1.all m) (λm=>R2.all m) R1.nd R2.nd
   have ll:(l1++l2.map (· <<< ts.length)).length<64:=by
    rw[aah,aac]
    lia
   have al:∀m,m∈l1++l2.map (· <<< ts.length)↔m<2^(ts++us.map (rM (jn p o))).length/\B.N.Ring m:=al;have nd:(l1++l2.map (· <<< ts.length)).Nodup:=nd;generalize l1++l2.map (· <<< ts.length)=du at al nd ll;have Yz:aq Nb (upd Nb l (.lst (aB du))):=aq.new hl;have To:upd Nb l (.lst (aB du)) l=some (.lst (aB du)):=ae;generalize upd Nb l (.lst (aB du))=H25 at Yz To;have s9:=(Uw.trans KL).trans (N1.trans Yz);refine(av rfl ⟨w3,_,_,B,rfl,Hh.same s9,s9 _ _ htb,.inl ⟨h8,λl T7 hl=>abm (RM.ko T7 λx hx=>(al x).mpr (hl x hx)) ll,λD3 l3 Ux rT s26 M6 R3=>?_⟩⟩)
   have n3:l3.length<64:=abm (RM.ko R3.nd λx hx=>(al x).mpr ((R3.all x).mp hx)) ll
   refine⟨D3,l3.map λx=>((x:Nat):Int),rfl,by rw[<-kR];exact aL.of M6,by rw[aac];exact n3,λk1 n1 hk1 pm1 up1=>?_⟩
   have YA:aq Ux (upd Ux k1 (.lst (n1.map V.int))):=aq.new hk1;have Tp:upd Ux k1 (.lst (n1.map V.int)) k1=some (.lst (n1.map V.int)):=ae;generalize upd Ux k1 (.lst (n1.map V.int))=H27 at YA Tp;refine(av rfl ⟨l,du.map λx=>((x:Nat):Int),rfl,by rw[<-kR];exact aL.of ((s26.trans YA) _ _ To),by rw[aac];exact ll,λk2 n2 hk2 pm2 up2=>?_⟩)
   have s28:aq H27 (upd H27 k2 (.lst (n2.map V.int))):=aq.new hk2;have e:n1=n2:=Hg (pm1.trans (((acU R3.nd nd).mpr λr=>(R3.all r).trans (al r).symm).map _ |>.trans pm2.symm)) up1 up2
   subst e;refine⟨_,_,.lst (aL.of (s28 _ _ Tp)) (kF _),.lst (aL.of ae) (kF _),shaped_ints _,shaped_ints _,?_⟩;rw[SeqAt.eqv_refl _ (Cf _)];exact fin _
  refine(av rfl (cD ⟨⟨by decide,by decide⟩,cD ⟨(rV rfl),rfl,av rfl (nV (λ_=>?_) (λ_=>cont none λc hc=>nomatch hc))⟩⟩))
  obtain⟨b1,xs,e1,e2,e3⟩:=id wL.ex;refine(av rfl ⟨z,7,rfl,by decide,by decide,λy y0 y1=>?_⟩)
  have g1:=g.p1;obtain⟨m0,m1⟩:=lX y (p:Int) (by lia)
  refine(av rfl (eX (bg.of e1) (au (j:=0) rfl) (cD ⟨?_,?_⟩)))
  ·lia
  have:=cont (some (y%(p:Int)).toNat) λc hc=>by
   have e:=Option.some.inj hc
   lia
  show za _ [some (.ref b),some (.int z),some (.ref w1),some (.ref w2),some (.int (y%(p:Int))),none,none] _;rw[show some (KR (some (y%(p:Int)).toNat))=some (V.int (y%(p:Int))) by show some (V.int (((y%(p:Int)).toNat:Nat):Int))=_;rw[acr m0]]at this
  exact this
end
section
variable {l:PySem.W.OpenLaw}{w:World}{K:bM}{h:Heap}{mg:oE}{fa f0 f1 f2 f3 f4 f5 f6 f7 f8 f9 YB YC YD YE YF YG YH YI YJ YK YL YM YN YO YQ YR YS YT YU YV YW YX f32 YY YZ Y0 Y3 Y4 Y5 Y6 Y7 Y8 Y9 Za Zb Zc Zd Ze Zf Zg f50 vF vG rA rB pU eG nQ dB:Addr}{d0 d1 d2 d3 d4 d5 d6 d7 d8 d9 d10 d11 d12 d13 d14 d15 d16 d17 d18 d19 d20 d21 d22 d23 d24 d25 d26 d27 d28 d29 d30 d31 d32 d33 d34 d35 d36 d37 d38 d39 d40 d41 d42 d43 d44 d45 d46 d47 d48 d49 d50:FuncData}{ts:List Addr}{Ci:Tok}
open PySem.W
def all_mk(X:K.In h)(G:h.Ns mainGlobals mg)(hfa:mg "law"=some (.ref fa))(te:ts=[dB,eG])
 (d_BadSet:nsIn K mainGlobals "BadSet"=some (some (.ref vF)))
 (d_BadPoint:nsIn K mainGlobals "BadPoint"=some (some (.ref vG)))
 (d_NoChord:nsIn K mainGlobals "NoChord"=some (some (.ref rA)))
 (d_TooMany:nsIn K mainGlobals "TooMany"=some (some (.ref rB)))
 (xc_BadSet:excIn K vF [.type "ValueError",.type "Exception",.type "BaseException",.type "object"] "ValueError.__new__"=true)
 (xc_NoChord:excIn K rA [.type "ValueError",.type "Exception",.type "BaseException",.type "object"] "ValueError.__new__"=true)
 (xc_TooMany:excIn K rB [.type "ValueError",.type "Exception",.type "BaseException",.type "object"] "ValueError.__new__"=true)
 (nt:noTabs K=true) (pn:([eG,dB]:List Addr).Nodup) (pi:∀p∈([eG,dB]:List Addr),p∈ts)
 (a0:Dk K "has_tie" qC f0 d0)
 (a1:Dk K "ties_in" nq f1 d1)
 (a2:Dk K "set_of" uQ f2 d2)
 (a3:Dk K "all_ties" om f3 d3)
 (a4:Dk K "is_set" uR f4 d4)
 (a5:Dk K "check_set" mz f5 d5)
 (a6:Dk K "triples_in" iD f6 d6)
 (a7:Dk K "length_of" jq f7 d7)
 (a8:Dk K "odd_points" iE f8 d8)
 (a9:Dk K "drawn_together" ee f9 d9)
 (V5:Dk K "pieces" pG YB d10)
 (V6:Dk K "rank" Dy YC d11)
 (V7:Dk K "is_even" qD YD d12)
 (a13:Dk K "forest_trails" ff YE d13)
 (a14:Dk K "forest" uT YF d14)
 (a15:Dk K "chords" uU YG d15)
 (a16:Dk K "ring_closed" jH YH d16)
 (a17:Dk K "chord_ring" k9 YI d17)
 (a18:Dk K "is_ring" ny YJ d18)
 (Zh:Py K "by_length" jt YK d19 pU eG)
 (a20:Dk K "common" uW YL d20)
 (a21:Dk K "bears_oddly" jJ YM d21)
 (a22:Dk K "is_side" qG YN d22)
 (a23:Dk K "cut_of" pJ YO d23)
 (a24:Dk K "side_of" nA YQ d24)
 (a25:Dk K "steps_by_point" ez YR d25)
 (Zi:Py K "least_ways" fZ YS d26 nQ dB)
 (a27:Dk K "length_of_way" iw YT d27)
 (a28:Dk K "worths_of_ways" eA YU d28)
 (a29:Dk K "all_least_ways" eB YV d29)
 (a30:Dk K "worths_of_all" fg YW d30)
 (a31:Dk K "least_odd" ju YX d31)
 (a32:Dk K "least_rings" eZ f32 d32)
 (a33:Dk K "lengths" nB YY d33)
 (a34:Dk K "check_rank" ly YZ d34)
 (a35:Dk K "even_sets" jv Y0 d35)
 (a36:Dk K "all_rings" jw Y3 d36)
 (a37:Dk K "row_to_lead" jK Y4 d37)
 (a38:Dk K "row_cleared" gU Y5 d38)
 (a39:Dk K "determinant" jL Y6 d39)
 (a40:Dk K "ties_between" gf Y7 d40)
 (a41:Dk K "points_table" cB Y8 d41)
 (a42:Dk K "forest_many" jM Y9 d42)
 (a43:Dk K "_law_cell_at" jN Za d43)
 (a44:Dk K "_law_mixed" mE Zb d44)
 (a45:Dk K "_law_length" lA Zc d45)
 (a46:Dk K "_law_tie" qJ Zd d46)
 (a47:Dk K "_law_web" gC Ze d47)
 (a48:Dk K "_law_small" jx Zf d48)
 (a49:Dk K "_law_both" oq Zg d49)
 (W0:Dk K "law" xW f50 d50)
 (zM:Ng K "ValueError")
 (Qk:Ng K "bool")
 (Cj:Ng K "enumerate")
 (Tq:Ng K "int")
 (zN:Ng K "isinstance")
 (Tr:Ng K "len")
 (Ql:Ng K "list")
 (Tt:Ng K "max")
 (Tu:Ng K "min")
 (Nd:Ng K "range")
 (KW:Ng K "sorted")
 (Tv:Ng K "sum")
 (Nf:Ng K "tuple")
 (Tw:Ng K "zip")
 (Ck:nsIn K mainGlobals "MOST_RANK"=some (some (.int 8 Ci)))
 : ∃(fd:FuncData) (tb:rY),((tb.map (·.1)).Nodup/\noTabs K=true/\∀p∈tb,p.1∈ts/\∃c,codeHdIn K c p.1=true)/\(∀(s:Shared) (v:Value),BindsTo s fd ⟨[v],[]⟩ [("script",v)])/\∀base:Heap,K.In base->base.Ns mainGlobals mg->lT l.prog w K mg base Ek 12 fa fd ["script"] (zL K tb):=by
 have e:=hfa.symm.trans (mg_of X G W0.n);cases e;have T:∀base,Txt l.prog w base K mg ⟨f0,_,f1,_,f2,_,f3,_,f4,_,f5,_,f6,_,f7,_,f8,_,f9,_,YB,_,YC,_,YD,_,YE,_,YF,_,YG,_,YH,_,YI,_,YJ,_,YK,_,YL,_,YM,_,YN,_,YO,_,YQ,_,YR,_,YS,_,YT,_,YU,_,YV,_,YW,_,YX,_,f32,_,YY,_,YZ,_,Y0,_,Y3,_,Y4,_,Y5,_,Y6,_,Y7,_,Y8,_,Y9,_,Za,_,Zb,_,Zc,_,Zd,_,Ze,_,Zf,_,Zg,_,fa,_,vF,vG,rA,rB,pU,eG,nQ,dB⟩:=λ_=>⟨sZ X G a0,zO X G a1,sZ X G a2,zO X G a3,sZ X G a4,sZ X G a5,sZ X G a6,sZ X G a7,sZ X G a8,QE X G a9,sZ X G V5,zO X G V6,sZ X G V7,zO X G a13,zO X G a14,zO X G a15,QE X G a16,sZ X G a17,sZ X G a18,dl2 X G Zh,sZ X G a20,sZ X G a21,sZ X G a22,sZ X G a23,sZ X G a24,sZ X G a25,dl3 X G Zi,zO X G a27,zO X G a28,sZ X G a29,zO X G a30,sZ X G a31,zO X G a32,zO X G a33,zO X G a34,zO X G a35,zO X G a36,sZ X G a37,dn4 X G a38,zO X G a39,QE X G a40,zO X G a41,zO X G a42,sZ X G a43,sZ X G a44,sZ X G a45,QE X G a46,QE X G a47,sZ X G a48,QE X G a49,zO X G W0,abO X G zM.n,abO X G Qk.n,abO X G Cj.n,abO X G Tq.n,abO X G zN.n,abO X G Tr.n,abO X G Ql.n,abO X G Tt.n,abO X G Tu.n,abO X G Nd.n,abO X G KW.n,abO X G Tv.n,abO X G Nf.n,abO X G Tw.n,⟨_,mg_of X G Ck⟩,mg_of X G d_BadSet,mg_of X G d_BadPoint,mg_of X G d_NoChord,mg_of X G d_TooMany,λh1 X1 G1=>CH X1 G1 d_BadSet xc_BadSet,λh1 X1 G1=>CH X1 G1 d_NoChord xc_NoChord,λh1 X1 G1=>CH X1 G1 d_TooMany xc_TooMany⟩
 exact⟨_,[(eG,qu "by_length",eg),(dB,qu "least_ways",cM)],⟨pn,nt,λp hp=>⟨pi _ (acq (f:=(·.1)) hp),by simp only[aas,ab7,or_false]at hp;rcases hp with rfl | rfl;all_goals first | exact⟨_,Zh.F.hd⟩ | exact⟨_,Zi.F.hd⟩⟩⟩,Pz W0,λbase _ _=>Tf (T base)⟩
end
def walk{l:PySem.W.OpenLaw}{q:Program}{loose:List Str}{XP:(Str->Option Value)->Heap->Prop}{YP:World->Heap->Prop}{d:DefRec}{K:Params->bM}{ts:List Addr}(hn:l.most=some 63)(Np:d.params.defaults=[])
 (hY:∀(w:World) (h:Heap),YP w h->(K w.params).In h/\∀P∈ts,h.get? P=some (PySem.W.tabObj #[]))
 (F:∀(w:World) (mg:oE) (fa:Addr) (h:Heap),(K w.params).In h->h.Ns mainGlobals mg->mg d.name=some (.ref fa)->
  ∃(fd:FuncData) (tb:rY),((tb.map (·.1)).Nodup/\PySem.W.noTabs (K w.params)=true/\∀p∈tb,p.1∈ts/\∃c,PySem.W.codeHdIn (K w.params) c p.1=true)/\(∀(s:Shared) (u:Value),BindsTo s fd ⟨[u],[]⟩ [("script",u)])/\∀base:Heap,(K w.params).In base->base.Ns mainGlobals mg->lT l.prog w (K w.params) mg base Ek 12 fa fd ["script"] (zL (K w.params) tb)) :
 PySem.W.WalkO q loose XP YP l.row.toRowW d [] (λf vs=>PySem.call f vs) :=
 L2.Jy (n:=63) (k:=12) (x:="script") (CX:=λ_=>Ek) (sp:=λw=>zL (K w.params)) hn (by decide) Np ⟨rfl,by decide,by decide⟩ hY F (λ_ _ a ns tb hl hT hS=>⟨a,ns,rfl,hS,hl,hT,λ_=>rfl⟩) λ_ _ _ _ _ z=>z
end K66
namespace PySem.W.Fast
def tw10874179385719240396:=()
def tw9912777395088798904:=()
def tw12268995979964463301:=()
def tw935738616167083165:=()
def tw13115628890260809149:=()
def tw17229433232654117938:=()
def tw13724784027823141513:=()
def tw411597417103334456:=()
def tw13758399856573222588:=()
def tw5195535833976121249:=()
def tw15642330734755382945:=()
def tw14516387631189085914:=()
def tw6887570181387948569:=()
def tw8512865301951918735:=()
def tw4044373874617006124:=()
def tw5247428199045443460:=()
def tw11773694534864971477:=()
def tw3609750111060272463:=()
def tw14889404025578269918:=()
def tw2342557945272398623:=()
def tw8000538700877633363:=()
def tw2021961711542917638:=()
def tw17359610944323025465:=()
def tw17711675244392119061:=()
def tw3586365463809334588:=()
def tw4211793877408137558:=()
def tw8930222403603853663:=()
def tw4022482892182874688:=()
def tw7116277306232289938:=()
def tw9354472391988070775:=()
def tw16305588638759353149:=()
def tw14771562943063995140:=()
def tw6249128252929725369:=()
def tw4540478180910895585:=()
def tw7561384012223339548:=()
def tw17014194806548060388:=()
def tw10048182413246455838:=()
def tw16060706753604954619:=()
def tw4250650664312342605:=()
def tw13962937379154173620:=()
def tw4421919406684611489:=()
def tw1012149227282531576:=()
def tw2555926150938391003:=()
def tw13919406383265039003:=()
def tw7066272986485047423:=()
def tw12490586549198194378:=()
def tw4183018310227376621:=()
def tw8053119299680010175:=()
def tw9578805521950477299:=()
def tw6332654815131489668:=()
def tw3705971970372515722:=()
def tw15839170605590398388:=()
def tw11858511049804277436:=()
def tw12552988970838471424:=()
def tw3899413041047425009:=()
def tw10111978828420917357:=()
def tw6396631333946398886:=()
def tw11329922656185261455:=()
def tw4321836339608223061:=()
def tw14624021214543248564:=()
def tw17581474922772703504:=()
def tw12293497728315173428:=()
def tw5666602548966605887:=()
def tw8904069405255549281:=()
def tw9577749180645207589:=()
def tw9935081501179675985:=()
def tw9614212803267980787:=()
def tw13756876726916020348:=()
def tw6469798856014423470:=()
def tw16419068664234817735:=()
def tw8201403149547426437:=()
def tw12655471229212120891:=()
def tw11126401067236193101:=()
def tw4757225246056777354:=()
def tw5028213943495887451:=()
def tw7025079088194447624:=()
def tw11551121946267139079:=()
def tw17594004015068410299:=()
end PySem.W.Fast
open PySem PySem.W PyProof.Rows
set_option maxRecDepth 100000 in
set_option maxHeartbeats 0 in
theorem PySem.Challenge.cw_ringbase_k66_whole_webs_put_together_holds : PySem.Challenge.rw_ringbase_k66_whole_webs_put_together.Holds := by
 w_on;o_law;k_head;(case hw=>w_witness2)
 k_fill
 refine K66.walk (l:=PySem.Challenge.rw_ringbase_k66_whole_webs_put_together) rfl rfl (fun w h Y=>⟨PySem.W.km_in_of Y,PySem.W.km_tabs_of Y⟩) ?F
 case F =>
  intro w mg fa h KX G hmg;refine' K66.all_mk KX G hmg ?te ?d_BadSet ?d_BadPoint ?d_NoChord ?d_TooMany ?xc_BadSet ?xc_NoChord ?xc_TooMany ?nt ?pn ?pi ..
  (case te=>exact rfl)
  (case d_BadSet=>k_is)
  (case d_BadPoint=>k_is)
  (case d_NoChord=>k_is)
  (case d_TooMany=>k_is)
  any_goals (refine' L2.dk ?ga ?gl ?gc ?gk;(case ga=>k_is);(case gl=>k_is);(case gc=>k_is);(case gk=>k_is))
  any_goals (refine' L2.dkL ?ga ?gl ?gc ?gk ?gd;(case ga=>k_is);(case gl=>k_is);(case gd=>kernel_rfl);(case gc=>k_is);(case gk=>k_is))
  any_goals (refine' L2.Ng.mk ?ga;(case ga=>k_is))
  (case xc_BadSet=>k_exc)
  (case xc_NoChord=>k_exc)
  (case xc_TooMany=>k_exc)
  (case nt=>kernel_rfl)
  (case pn=>decide)
  (case pi=>decide)
  any_goals k_is
