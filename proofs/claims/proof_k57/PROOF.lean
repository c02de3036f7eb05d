import PyProof.Rows.All
import Wide.All
import OpenK.AllK
import Wide.FinOn
import Lean
import PyProof.EqAt
import PyProof.EqKinds
import PyProof.TupleCall
import PySem.Challenge.RW_ringbase_k57_whole_any_way_there
set_option Elab.async false
set_option linter.all false
set_option maxRecDepth 100000
abbrev dm:=@decide_eq_true
abbrev gj:=@decide_eq_false
abbrev ko:=@of_decide_eq_true
abbrev jY:=@List.mem_append_right
abbrev nU:=@List.mem_cons_of_mem
abbrev jV:=@List.mem_of_getElem?
abbrev jo:=@List.getElem?_eq_some_iff
abbrev vY:=@Option.map_eq_some_iff
abbrev aX:=List (PySem.Addr×PySem.Obj)
abbrev dR:=PySem.Value->PySem.Shared->Prop
abbrev nY:=PySem.Str->Option PySem.Value
abbrev bJ:=PySem.W.Frag
abbrev aac:=@List.length_map
abbrev aad:=@List.getD_eq_getElem?_getD
abbrev aaf:=@if_neg
abbrev aag:=@List.getElem?_eq_getElem
abbrev aai:=@if_pos
abbrev aam:=@Nat.le_refl
abbrev aao:=@PySem.Heap.get?_push_of_some
abbrev aaq:=@PySem.wpAny_pure
abbrev aav:=@Bool.false_ne_true
abbrev aaw:=@List.getElem?_map
abbrev aax:=@PySem.Heap.lt_size
abbrev aaz:=@List.length_append
abbrev aaB:=@Nat.testBit_xor
abbrev aaC:=@List.mem_cons
abbrev aaE:=@Int.toNat_natCast
abbrev aaF:=@List.mem_cons_self
abbrev aaG:=@List.size_toArray
abbrev aaH:=@List.mem_map
abbrev aaI:=@List.mem_range
abbrev aaJ:=@List.map_append
abbrev aaK:=@List.length_range
abbrev aaL:=@Nat.lt_of_lt_of_le
abbrev aaN:=@PySem.Heap.get?_push_size
abbrev aaP:=@Nat.ne_of_lt
abbrev aaQ:=@Nat.testBit_two_pow
abbrev aaR:=@List.map_cons
abbrev aaW:=@List.mem_singleton
abbrev aaX:=@List.mem_filter
abbrev aa0:=@Nat.le_trans
abbrev aa1:=@List.take_add_one
abbrev aa2:=@List.filter_cons
abbrev aa3:=@Nat.zero_le
abbrev aa4:=@congrArg
abbrev aa5:=@List.getElem?_of_mem
abbrev aa6:=@Ne.symm
abbrev aa7:=@List.take_length
abbrev aa8:=@PySem.wpAny_mono
abbrev aa9:=@List.mem_append
abbrev aba:=@List.getElem?_append_left
abbrev abb:=@Classical.byContradiction
abbrev abc:=@List.length_filter_le
abbrev abd:=@Bool.and_eq_true
abbrev abe:=@PySem.F.plainAttrs_list
abbrev abf:=@List.getElem?_append_right
abbrev abg:=@PySem.wpAny_holding
abbrev abh:=@Nat.eq_of_testBit_eq
abbrev abi:=@PySem.F.plain_min_loop
abbrev abj:=@List.length_cons
abbrev abk:=@List.length_take
abbrev abl:=@PySem.F.slot_list_append
abbrev abm:=@PySem.F.type_list_append
abbrev abn:=@List.nodup_cons
abbrev abp:=@PySem.Heap.SameBut.update
abbrev abq:=@Nat.le_of_lt
abbrev abt:=@List.length_singleton
abbrev abu:=@Nat.xor_lt_two_pow
abbrev abv:=@decide_eq_decide
abbrev abw:=@Bool.eq_iff_iff
abbrev abx:=@Bool.true_and
abbrev aby:=@Nat.testBit_lt_two_pow
abbrev abz:=@List.map_map
abbrev abA:=@PySem.mem_of_lookup
abbrev abB:=@Nat.xor_assoc
abbrev abC:=@Nat.zero_xor
abbrev abD:=@Bool.xor_false
abbrev abE:=@List.range_succ
abbrev abF:=@List.lookup_cons
abbrev abG:=@Nat.lt_succ_of_lt
abbrev abH:=@List.pairwise_map
abbrev abI:=@Nat.not_lt_zero
abbrev abJ:=@Nat.xor_zero
abbrev abK:=@Bool.false_eq_true
abbrev abL:=@Nat.exists_testBit_of_ne_zero
abbrev abM:=@Nat.ble_eq
abbrev abN:=@Nat.lt_irrefl
abbrev abO:=@Nat.le_succ
abbrev abP:=@List.filter_cons_of_pos
abbrev abQ:=@List.all_eq_true
abbrev abR:=@Nat.zero_testBit
abbrev abS:=@Int.zero_add
abbrev abT:=@PySem.Heap.get?_update_other
abbrev abU:=@List.mem_map_of_mem
abbrev abV:=@Nat.two_pow_pos
abbrev abW:=@List.length_replicate
abbrev abX:=@Nat.ne_of_gt
abbrev abY:=@List.filter_append
abbrev abZ:=@List.getElem_mem
abbrev ab0:=@List.Pairwise.imp_of_mem
abbrev ab1:=@Int.le_refl
abbrev ab2:=@PySem.wpAny_tryCatch
abbrev ab4:=@PyProof.Rows.callWith_type1
abbrev ab5:=@List.append_nil
abbrev ab6:=@List.replicate_succ
abbrev ab7:=@Nat.xor_self
abbrev ab8:=@PySem.F.entry_min_loop
abbrev ab9:=@Array.getElem?_eq_some_iff
abbrev acd:=@PySem.W.mg_none_of
abbrev ace:=@Nat.lt_succ_self
abbrev acf:=@List.mem_filterMap
abbrev acg:=@PySem.Heap.get?_update_self
abbrev ach:=@Array.getElem?_toList
abbrev aci:=@Bool.false_xor
abbrev acj:=@Option.map_some
abbrev ack:=@Nat.pow_le_pow_right
abbrev acm:=@Nat.pow_lt_pow_right
abbrev acn:=@List.sum_cons
abbrev aco:=@List.filter_cons_of_neg
abbrev acp:=@PyProof.Rows.boot_tuple
abbrev acq:=@Array.length_toList
abbrev acr:=@List.nodup_range
abbrev acs:=@Bool.and_false
abbrev acu:=@List.not_mem_nil
abbrev acv:=@Nat.lt_of_le_of_lt
abbrev acy:=@Nat.pow_succ
abbrev acz:=@List.length_nil
abbrev acA:=@List.foldl_cons
abbrev acB:=@Nat.mod_two_eq_zero_or_one
abbrev acC:=@List.foldl_append
abbrev acD:=@PySem.Heap.get?_push_ne
abbrev acE:=@PySem.F.slot_dict_keyiterator_next
abbrev acF:=@List.length_drop
abbrev acG:=@Nat.le_add_right
abbrev acI:=@Nat.testBit_succ
abbrev acJ:=@List.getElem?_replicate
abbrev acK:=@List.eraseIdx_cons_succ
abbrev acL:=@Int.eq_ofNat_of_zero_le
abbrev acM:=@Bool.and_true
abbrev acN:=@PySem.Obj.data_mapFields
abbrev acO:=@Nat.min_eq_left
abbrev acP:=@Nat.and_lt_two_pow
abbrev acQ:=@List.find?_cons
abbrev acR:=@List.take_of_length_le
abbrev acS:=@List.eq_nil_of_length_eq_zero
abbrev acT:=@List.flatten_cons
abbrev acU:=@Bool.eq_false_iff
abbrev acV:=@Nat.le_of_eq
abbrev acW:=@PySem.Obj.isFreed_of_fields
abbrev acX:=@Nat.sub_self
abbrev acY:=@PySem.F.slot_dict_pop
abbrev acZ:=@Int.le_of_lt
abbrev ac0:=@PyProof.Rows.boot_max
abbrev ac1:=@PyProof.Rows.boot_all
abbrev ac2:=@Array.getD_eq_getD_getElem?
abbrev ac3:=@List.ext_getElem
abbrev ac4:=@Bool.and_eq_true_iff
abbrev ac5:=@PySem.F.excBase_ValueError
abbrev ac6:=@List.getElem?_range
abbrev ac7:=@List.pairwise_iff_getElem
abbrev ac8:=@PySem.F.args_tuple_add_2
abbrev ac9:=@Nat.le_total
abbrev ada:=@Nat.testBit_two_pow_self
abbrev adb:=@List.pairwise_cons
abbrev ade:=@List.getElem_range
abbrev adf:=@PyProof.Rows.boot_sorted
abbrev adg:=@Bool.false_and
abbrev adh:=@PySem.Heap.size_push
abbrev adi:=@List.nodup_nil
abbrev adj:=@List.Perm.refl
abbrev adk:=@PySem.F.entry_tuple_add
abbrev adl:=@Nat.exists_eq_add_of_le
abbrev adm:=@PySem.F.plainAttrs_dict
abbrev adn:=@List.filter_congr
abbrev ado:=@List.getElem?_set_self
abbrev adp:=@PySem.F.slot_tuple_add
abbrev adq:=@PyProof.Rows.bitAnd_pp
abbrev ads:=@List.filter_eq_nil_iff
abbrev adt:=@PyProof.Rows.boot_list
abbrev adu:=@List.any_cons
abbrev adv:=@List.getElem_inj
abbrev adw:=@Nat.succ_ne_self
abbrev adx:=@Nat.max_eq_right
abbrev ady:=@Nat.min_eq_right
abbrev adz:=@List.getElem_map
abbrev adA:=@PyProof.Rows.slot_int_bit_length
abbrev adB:=@PyProof.Rows.type_int_bit_length
abbrev adC:=@List.lookup_cons_self
abbrev adD:=@PySem.F.slot_dict_get
abbrev adE:=@Classical.choose_spec
abbrev adF:=@List.eraseIdxIfInBounds_toArray
abbrev adG:=@Array.getElem?_setIfInBounds_ne
abbrev adH:=@List.mem_append_left
abbrev adI:=@List.getElem?_set_ne
abbrev adJ:=@beq_iff_eq
abbrev adK:=@Nat.max_eq_left
abbrev adL:=@List.Pairwise.filter
abbrev adM:=@List.mem_of_mem_drop
abbrev adN:=@List.take_append_of_le_length
abbrev adO:=@List.filterMap_cons
abbrev adP:=@PySem.W.plainGet_of
abbrev adQ:=@List.map_congr_left
abbrev adR:=@List.length_reverse
abbrev adS:=@List.take_zero
abbrev adT:=@PySem.W.callWith_K
abbrev adU:=@decide_eq_true_iff
abbrev adV:=@List.getElem?_take
abbrev adW:=@Bool.xor_self
abbrev adX:=@List.nodup_append
abbrev adY:=@List.reverse_cons
abbrev adZ:=@List.any_eq_true
abbrev ad0:=@List.map_snd_zip
abbrev ad1:=@Nat.xor_comm
abbrev ad2:=@Nat.testBit_zero
namespace L2
open PySem PySem.Spec PyProof.Rows
abbrev aV:=@wpAny_bind
abbrev Key:=Sum Int Str
def vG:Key->Value->Bool
 | .inl k,v=>Value.isInt k v
 | .inr x,v=>Value.isStrOf x v
def Zt(w:World):Key->Int
 | .inl k=>hashInt k
 | .inr x=>hashStr w x
def dF:∀{k:Key} {v:Value},vG k v=true->(∃i t,k=Sum.inl i/\v=Value.int i t)\/(∃x t,k=Sum.inr x/\v=Value.str x t)
 | .inl i,v,h=>by
   obtain⟨t,e⟩:=Value.isInt_shape (k:=i) (v:=v) h;exact .inl ⟨i,t,rfl,e⟩
 | .inr x,v,h=>by
   obtain⟨t,e⟩:=Value.isStrOf_shape (x:=x) (v:=v) h;exact .inr ⟨x,t,rfl,e⟩
def Ju(i:Int)(t:Tok):vG (.inl i) (.int i t)=true:=by simp[vG,Value.isInt]
def Jv(x:Str)(t:Tok):vG (.inr x) (.str x t)=true:=by simp[vG,Value.isStrOf]
def Sx(a b:Int):decide ((Sum.inl a:Key)=Sum.inl b)=(a==b):=by
 by_cases e:a=b
 ·subst e;simp
 ·have h : ¬(Sum.inl a:Key)=Sum.inl b:=λq=>e (Sum.inl.inj q)
  rw[gj h];exact(beq_eq_false_iff_ne.mpr e).symm
def Sy(a b:Str):decide ((Sum.inr a:Key)=Sum.inr b)=decide (a=b):=by
 by_cases e:a=b
 ·subst e;simp
 ·have h : ¬(Sum.inr a:Key)=Sum.inr b:=λq=>e (Sum.inr.inj q)
  rw[gj h,gj e]
def Sz(a:Int)(b:Str):decide ((Sum.inl a:Key)=Sum.inr b)=false:=gj (λq=>nomatch q)
def SD(a:Str)(b:Int):decide ((Sum.inr a:Key)=Sum.inl b)=false:=gj (λq=>nomatch q)
def cO(prog:Program)(w:World):PySem.KeyKind prog w Key where
 is:=vG
 hash:=Zt w
 inj:=λv a b ha hb=>by
  rcases dF ha with⟨i,t,rfl,rfl⟩|⟨x,t,rfl,rfl⟩
  ·rcases dF hb with⟨j,u,rfl,e⟩|⟨y,u,rfl,e⟩
   ·injection e with e1 _;rw[e1]
   ·exact nomatch e
  ·rcases dF hb with⟨j,u,rfl,e⟩|⟨y,u,rfl,e⟩
   ·exact nomatch e
   ·injection e with e1 _;rw[e1]
 byValue:=λk v h=>by
  rcases dF h with⟨i,t,rfl,rfl⟩|⟨x,t,rfl,rfl⟩<;>rfl
 pyHash:=λI h=>by
  rcases dF I with⟨i,t,rfl,rfl⟩|⟨x,t,rfl,rfl⟩
  ·exact wpAny_pyHash_int h
  ·exact wpAny_pyHash_str h
 eqBool:=λO I h=>by
  rcases dF O with⟨i,t,rfl,rfl⟩|⟨x,t,rfl,rfl⟩
  ·rcases dF I with⟨j,u,rfl,rfl⟩|⟨y,u,rfl,rfl⟩
   ·rw[Sx]at h;exact wpAny_eqBool_int h
   ·rw[Sz]at h;exact SeqAt.EqAt.int_str i t y u _ _ _ _ h
  ·rcases dF I with⟨j,u,rfl,rfl⟩|⟨y,u,rfl,rfl⟩
   ·rw[SD]at h;exact SeqAt.EqAt.str_int x t j u _ _ _ _ h
   ·rw[Sy]at h;exact wpAny_eqBool_str h
 «strs»:=λk x t v h=>by
  rcases dF h with⟨i,u,rfl,e⟩|⟨y,u,rfl,e⟩
  ·exact nomatch e
  ·injection e with e1 _
   subst e1;cases v<;>rfl
def C1(prog:Program)(w:World)(i:Int)(t:Tok):(cO prog w).is (.inl i) (.int i t)=true:=Ju i t
def C2(prog:Program)(w:World)(x:Str)(t:Tok):(cO prog w).is (.inr x) (.str x t)=true:=Jv x t
inductive V where
 | eX | bl (b:Bool) | int (i:Int) | str (x:Str) | LM (b:Array UInt8) | Yv (b:UInt64) | ref (a:Addr) | ty (n:String)
 deriving DecidableEq
def RelV:V->Value->Prop
 | .eX,u=>u=Value.none
 | .bl b,u=>u=Value.bool b
 | .int i,u=>∃t,u=Value.int i t
 | .str x,u=>∃t,u=Value.str x t
 | .LM b,u=>∃t,u=Value.bytes b t
 | .Yv b,u=>∃t,u=Value.float b t
 | .ref a,u=>u=Value.ref a
 | .ty n,u=>u=Value.type n
abbrev Vals:List V->List Value->Prop:=Paired RelV
def Vals.length{xs:List V}{us:List Value}(r:Vals xs us):xs.length=us.length:=Paired.length r
def Vals.get:∀{xs:List V} {us:List Value} {i:Nat} {x:V},Vals xs us->xs[i]?=some x->∃u,us[i]?=some u/\RelV x u
 | _,_,_,_,.nil,e=>by simp at e
 | _,_,0,_,.cons r _,e=>by simp at e;subst e;exact⟨_,rfl,r⟩
 | _,_,i+1,x,.cons _ t,e=>by
   obtain⟨u,h1,h2⟩:=Vals.get (i:=i) (x:=x) t (by simpa using e)
   exact⟨u,by simpa using h1,h2⟩
def Vals.set{x:V}{u:Value}(r:RelV x u):∀{xs:List V} {us:List Value} (i:Nat),Vals xs us->Vals (xs.set i x) (us.set i u)
 | _,_,_,.nil=>.nil
 | _,_,0,.cons _ t=>.cons r t
 | _,_,i+1,.cons q t=>.cons q (Vals.set r i t)
def Vals.append:∀{xs ys:List V} {us ws:List Value},Vals xs us->Vals ys ws->Vals (xs++ys) (us++ws)
 | _,_,_,_,.nil,s=>s
 | _,_,_,_,.cons r t,s=>.cons r (Vals.append t s)
def Vals.take:∀{xs:List V} {us:List Value} (n:Nat),Vals xs us->Vals (xs.take n) (us.take n)
 | _,_,0,_=>.nil
 | _,_,_+1,.nil=>.nil
 | _,_,n+1,.cons r t=>.cons r (Vals.take n t)
def Vals.drop:∀{xs:List V} {us:List Value} (n:Nat),Vals xs us->Vals (xs.drop n) (us.drop n)
 | _,_,0,r=>r
 | _,_,_+1,.nil=>.nil
 | _,_,n+1,.cons _ t=>Vals.drop n t
def mq:Option V->Option Value->Prop
 | some v,some u=>RelV v u
 | none,none=>True
 | _,_=>False
def KV{κ:Type}:List (κ×V)->List (κ×Value)->Prop:=Paired λ(p:κ×V) (q:κ×Value)=>p.1=q.1/\RelV p.2 q.2
def kV:Key->V
 | .inl i=>.int i
 | .inr x=>.str x
inductive HO where
 | lst (xs:List V)
 | tup (xs:List V)
 | dK (kvs:List (Key×V)) | dT (kvs:List (List Key×V))
 | set (S:Int->Bool) (n:Nat)
 | ins (C dx:Addr) (fs:List (Str×V))
 | own (x:Addr)
 | xd (fs:List (Str×V))
 | met (f x:Addr)
 | Jw (lo hi:Int)
 | n5 (o:Obj) (u:HO)
 | jF (ps:Array Value)
 | ext (φ:Heap->Prop)
abbrev Hp:=Addr->Option HO
def upd(H:Hp)(a:Addr)(o:HO):Hp:=λb=>if b=a then some o else H b
def ae{H:Hp}{a:Addr}{o:HO}:upd H a o a=some o:=by unfold upd;rw[aai rfl]
def ah{H:Hp}{a b:Addr}{o:HO}(h:b≠a):upd H a o b=H b:=by unfold upd;rw[aaf h]
def aQ{H:Hp}{a b:Addr}{o u:HO}(h:H a=some o)(h' : H b=some u)(d:o≠u):a≠b:=by
 intro e;subst e;rw[h]at h';exact d (Option.some.inj h')
def aJ{H:Hp}{a b:Addr}{o:HO}(h:H a=some o)(h' : H b=none):a≠b:=by
 intro e;subst e;rw[h]at h';cases h'
def PF(qs:Array Value):Str:=match (qs[0]?:Option Value) with | some (Value.str q _)=>q | _=>""
section
variable (P:Program)(w:World)
def bK(H:Hp)(h:Heap)(a:Addr):HO->Prop
 | .lst xs=>xs.length<=sizeLine/\∃(I:List Value) (n:Nat),Vals xs I/\h.get? a=some { cls:=.type "list",data:=.seq I.toArray n}
 | .tup xs=>xs.length<=sizeLine/\∃I:List Value,Vals xs I/\IsTup h a I.toArray
 | .dK kvs=>kvs.length<=sizeLine/\(a==sysModules)=false/\∃vs,KV kvs vs/\h.DictOf (cO P w) a vs
 | .dT kvs=>kvs.length<=sizeLine/\(a==sysModules)=false/\∃xs:List (List Key×Addr×Value),
  Paired (λ(p:List Key×V) (q:List Key×Addr×Value)=>p.1=q.1/\H q.2.1=some (.tup (p.1.map kV))/\RelV p.2 q.2.2) kvs xs/\
  ∃o es ep,h.get? a=some o/\o.ExactDict/\o.data = .dict es ep/\es.toList=xs.map (entryOfKey (tupleKind (cO P w)))/\(xs.map (·.1)).Nodup
 | .set S n=>h.SetOf (intKind P w) a S n
 | .ins C dx fs=>H dx=some (.own a)/\fs.length<=1000/\dx≠a/\h.get? a=some (PySem.W.instObj C dx)/\
  ∃mA,h.Ns1 dx mA/\(∀f,mq (fs.lookup f) (mA f))/\PySem.Within mA (fs.map (·.1))
 | .own _=>∃o,h.get? a=some o
 | .xd fs=>∃mA,h.Ns1 a mA/\∀f,mq (fs.lookup f) (mA f)
 | .Jw lo hi=>∃t u v,h.get? a=some { cls:=.type "range",data:=.fields #[.int lo t,.int hi u,.int 1 v]}
 | .n5 o u=>h.get? a=some o/\bK H h a u
 | .jF qs=>∃ps:Array Value,h.get? a=some { cls:=.none,data:=.fields ps}/\((qs.size=3/\(ps = #[]\/∃c,ps = #[qs.getD 1 .none,qs.getD 2 .none,.ref c]/\H c=some (.own a)/\h.CodeRec (.ref c) (PF qs)))\/∃q l k,qs = #[q,l,k]++ps/\ps.size=3)
 | .met f x=>h.get? a=some (PySem.W.methodObj (.ref f) (.ref x))
 | .ext φ=>φ h/\(∃o,h.get? a=some o)/\∀h1 h2:Heap,φ h1->(∀o,h1.get? a=some o->h2.get? a=some o)->φ h2
def n8(H:Hp)(h:Heap):Prop:=∀a o,H a=some o->bK P w H h a o
end
section
variable {P:Program}{w:World}{H H' : Hp}{h h' : Heap}{a:Addr}{o:HO}
def bK.lt(x:bK P w H h a o):a<h.objs.size:=by
 cases o with
 | lst xs=>obtain⟨_,_,_,_,e⟩:=x;exact aax e
 | tup xs=>obtain⟨_,_,_,p⟩:=x;exact p.lt
 | dK kvs=>obtain⟨_,_,_,_,o,_,_,e,_⟩:=x;exact aax e
 | dT kvs=>obtain⟨_,_,_,_,o,_,_,e,_⟩:=x;exact aax e
 | set S n=>obtain⟨o,_,_,_,e,_⟩:=x;exact aax e
 | ins C dx fs=>obtain⟨_,_,_,e,_⟩:=x;exact aax e
 | own y=>obtain⟨_,e⟩:=x;exact aax e
 | xd fs=>obtain⟨_,⟨_,_,_,e,_⟩,_⟩:=x;exact aax e
 | Jw lo hi=>obtain⟨_,_,_,e⟩:=x;exact aax e
 | n5 ob u=>obtain⟨e,_⟩:=x;exact aax e
 | jF ps=>obtain⟨_,e,_⟩:=x;exact aax e
 | met f y=>exact aax (show h.get? a=some _ from x)
 | ext φ=>obtain⟨_,⟨_,e⟩,_⟩:=x;exact aax e
def Paired.Bl{α β:Type}{F G:α->β->Prop}:∀{l₁:List α} {l₂:List β},Paired F l₁ l₂->(∀a b,F a b->G a b)->Paired G l₁ l₂
 | _,_,.nil,_=>.nil
 | _,_,.cons r t,f=>.cons (f _ _ r) (Paired.Bl t f)
def Paired.imp'{α β:Type}{F G:α->β->Prop}(f:∀a b,F a b->G a b){l₁:List α}{l₂:List β}(r:Paired F l₁ l₂):Paired G l₁ l₂:=Paired.Bl r f
def bK.stay(x:bK P w H h a o)(k:∀b u,(b=a\/H b=some (.own a))->h.get? b=some u->h'.get? b=some u)
 (ho:∀b,H b=some (.own a)->H' b=some (.own a)) (ht:∀b xs,H b=some (.tup xs)->H' b=some (.tup xs)):bK P w H' h' a o:=by
 induction o with
 | lst xs=>obtain⟨z,I,n,r,e⟩:=x;exact⟨z,I,n,r,k _ _ (.inl rfl) e⟩
 | tup xs=>obtain⟨z,I,r,ob,e,c⟩:=x;exact⟨z,I,r,ob,k _ _ (.inl rfl) e,c⟩
 | dK kvs=>obtain⟨z,y,vs,r,ob,es,ep,e,c⟩:=x;exact⟨z,y,vs,r,ob,es,ep,k _ _ (.inl rfl) e,c⟩
 | dT kvs =>
   obtain⟨z,y,xs,r,ob,es,ep,e,c⟩:=x;exact⟨z,y,xs,Paired.Bl r λp q z=>⟨z.1,ht _ _ z.2.1,z.2.2⟩,ob,es,ep,k _ _ (.inl rfl) e,c⟩
 | set S n=>obtain⟨ob,es,ep,t,e,c⟩:=x;exact⟨ob,es,ep,t,k _ _ (.inl rfl) e,c⟩
 | ins C dx fs =>
   obtain⟨d,z,ne,e,mA,⟨od,es,ep,O,c⟩,r⟩:=x;exact⟨ho _ d,z,ne,k _ _ (.inl rfl) e,mA,⟨od,es,ep,k _ _ (.inr d) O,c⟩,r⟩
 | own y=>obtain⟨ob,e⟩:=x;exact⟨ob,k _ _ (.inl rfl) e⟩
 | xd fs=>obtain⟨mA,⟨od,es,ep,e,c⟩,r⟩:=x;exact⟨mA,⟨od,es,ep,k _ _ (.inl rfl) e,c⟩,r⟩
 | Jw lo hi=>obtain⟨t,u,v,e⟩:=x;exact⟨t,u,v,k _ _ (.inl rfl) e⟩
 | n5 ob u ih=>obtain⟨e,q⟩:=x;exact⟨k _ _ (.inl rfl) e,ih q⟩
 | jF qs =>
   obtain⟨ps,e,f⟩:=x;refine⟨ps,k _ _ (.inl rfl) e,?_⟩;rcases f with⟨hz,f|⟨c,e1,O,c',oc,vs,tq,hc,ho',hd,hv⟩⟩|f
   ·exact .inl ⟨hz,.inl f⟩
   ·cases hc;exact .inl ⟨hz,.inr ⟨c,e1,ho _ O,c,oc,vs,tq,rfl,k _ _ (.inr O) ho',hd,hv⟩⟩
   ·exact .inr f
 | met f y =>
   have e:h.get? a=some (PySem.W.methodObj (.ref f) (.ref y)):=x;show h'.get? a=some (PySem.W.methodObj (.ref f) (.ref y));exact k a _ (.inl rfl) e
 | ext φ=>obtain⟨p,⟨o,e⟩,st⟩:=x;exact⟨st _ _ p λo q=>k _ _ (.inl rfl) q,⟨o,k _ _ (.inl rfl) e⟩,st⟩
def n8.lt(x:n8 P w H h)(e:H a=some o):a<h.objs.size:=(x a o e).lt
def n8.fresh(x:n8 P w H h)(e:h.objs.size<=a):H a=none:=by
 cases q:H a with
 | none=>rfl
 | some u=>exact absurd (aaL (x.lt q) e) (abN _)
def n8.kept(x:n8 P w H h)(k:∀b u,h.get? b=some u->h'.get? b=some u):n8 P w H h':=λa o e =>
 (x a o e).stay (λb u _ q=>k b u q) (λ_ q=>q) λ_ _ q=>q
def n8.laid(x:n8 P w H h)(k:∀b u,h.get? b=some u->h'.get? b=some u)(hp:h.objs.size<=a)(new:bK P w (upd H a o) h' a o):n8 P w (upd H a o) h':=λb u e=>by
 have hn:=x.fresh hp
 by_cases hb:b=a
 ·subst hb;rw[ae]at e;cases e;exact new
 ·rw[ah hb]at e;exact(x b u e).stay (λc v _ q=>k c v q) (λc q=>by rw[ah (aJ q hn)];exact q) λc xs q=>by rw[ah (aJ q hn)];exact q
end
def Rd(H:Hp)(a:Addr)(u:HO):Prop:=H a=some u\/∃o,H a=some (.n5 o u)
def Rd.ok{P:Program}{w:World}{H:Hp}{h:Heap}{a:Addr}{u:HO}(r:Rd H a u)(x:n8 P w H h):bK P w H h a u:=by
 rcases r with r|⟨o,r⟩
 ·exact x a u r
 ·obtain⟨_,q⟩:=x a _ r;exact q
def VC:Option HO->Prop
 | some (.lst _)=>True
 | some (.dK _)=>True
 | some (.dT _)=>True
 | some (.set _ _)=>True
 | some (.ins _ _ _)=>True
 | some (.ext _)=>True
 | _=>False
section
variable {P:Program}{w:World}{H:Hp}{h h' : Heap}{x e:Addr}{o' : HO}
def n8.write(ok:n8 P w H h)(mu:VC (H x))(he:e=x\/H e=some (.own x))(k:∀b u,b≠e->h.get? b=some u->h'.get? b=some u)(RB:∃u,h'.get? e=some u)
 (new:bK P w (upd H x o') h' x o'):n8 P w (upd H x o') h':=λb u q=>by
 have O:∀c y,H c=some (.own y)->c≠x:=λc y r z=>by subst z;rw[r]at mu;exact mu
 have U:∀c xs,H c=some (.tup xs)->c≠x:=λc xs r z=>by subst z;rw[r]at mu;exact mu
 by_cases hb:b=x
 ·subst hb;rw[ae]at q;cases q;exact new
 ·rw[ah hb]at q
  by_cases I:b=e
  ·have q' : H b=some (.own x):=by
    rcases he with z|z
    ·exact absurd (I.trans z) hb
    ·rw[I];exact z
   rw[q]at q';cases q';obtain⟨v,Y⟩:=RB;exact⟨v,by rw[I];exact Y⟩
  ·refine(ok b u q).stay (λc v hc r=>k c v ?_ r) (λc r=>by rw[ah (O c b r)];exact r) λc xs r=>by rw[ah (U c xs r)];exact r
   rcases hc with rfl|hc
   ·exact I
   ·rintro rfl;rcases he with z|z
    ·exact O c b hc z
    ·rw[hc]at z;cases z;exact hb rfl
end
structure Un(fs ex:List Addr)(H H' : Hp)(h h' : Heap):Prop where
 keep:∀b o,h.get? b=some o->H b=none->b∉fs->b∉ex->h'.get? b=some o
 slot:∀b o,h.get? b=some o->H b=none->b∈fs->b∉ex->∃sl,h'.get? b=some { o with slots:=sl}
 free:∀b o,h.get? b=some o->H b=none->b∉ex->H' b=none
 there:∀b o,h.get? b=some o->b∉ex->∃o',h'.get? b=some o'
 tups:∀b xs,H b=some (.tup xs)->H' b=some (.tup xs)
 m3:∀b o u,H b=some (.n5 o u)->H' b=some (.n5 o u)
 oh:∀b ps,H b=some (.jF ps)->∃more,H' b=some (.jF (ps++more))
section
variable {fs fs' ex ex' : List Addr}{H H1 H2:Hp}{h h1 h2 h' : Heap}{a x e:Addr}{o:HO}
def Un.any(u:Un fs ex H H1 h h1){b:Addr}{ob:Obj}(q:h.get? b=some ob)(n:H b=none)(hx:b∉ex):∃sl,h1.get? b=some { ob with slots:=sl}:=by
 by_cases hb:b∈fs
 ·exact u.slot b ob q n hb hx
 ·exact⟨ob.slots,u.keep b ob q n hb hx⟩
def Un.kept(k:∀b u,h.get? b=some u->h'.get? b=some u):Un fs ex H H h h' :=
 ⟨λb ob q _ _ _=>k b ob q,λb ob q _ _ _=>⟨ob.slots,k b ob q⟩,λ_ _ _ n _=>n,λb ob q _=>⟨ob,k b ob q⟩,λ_ _ q=>q,λ_ _ _ q=>q,λ_ ps q=>⟨#[],by rw[q];simp⟩⟩
def Un.refl:Un fs ex H H h h:=Un.kept λ_ _ q=>q
def Un.laid(k:∀b u,h.get? b=some u->h'.get? b=some u)(hp:h.objs.size<=a)(hn:H a=none):Un fs ex H (upd H a o) h h' where
 keep:=λb u q _ _ _=>k b u q
 slot:=λb u q _ _ _=>⟨u.slots,k b u q⟩
 free:=λb u q n _=>by rw[ah (aaP (aaL (aax q) hp))];exact n
 there:=λb u q _=>⟨u,k b u q⟩
 tups:=λb xs q=>by rw[ah (aJ q hn)];exact q
 m3:=λb u xs q=>by rw[ah (aJ q hn)];exact q
 oh:=λb ps q=>⟨#[],by rw[ah (aJ q hn),q];simp⟩
def Un.write(mu:VC (H x))(he:e=x\/H e=some (.own x))(k:∀b u,b≠e->h.get? b=some u->h'.get? b=some u)(RB:∃u,h'.get? e=some u):Un fs ex H (upd H x o) h h':=by
 have hx:∀b,H b=none->b≠x:=λb n z=>by subst z;rw[n]at mu;exact mu
 have hb:∀b,H b=none->b≠e:=λb n z=>by
  subst z;rcases he with r|r
  ·exact hx b n r
  ·rw[n]at r;cases r
 have hm:∀b u,H b=some u->¬ VC (some u)->b≠x:=λb u q nm z=>by subst z;rw[q]at mu;exact nm mu
 refine⟨λb u q n _ _=>k b u (hb b n) q,λb u q n _ _=>⟨u.slots,k b u (hb b n) q⟩,λb u q n _=>by rw[ah (hx b n)];exact n,λb u q _=>?_,
  λb xs q=>by rw[ah (hm b _ q λz=>z)];exact q,λb u xs q=>by rw[ah (hm b _ q λz=>z)];exact q,λb ps q=>⟨#[],by rw[ah (hm b _ q λz=>z),q];simp⟩⟩
 by_cases I:b=e
 ·subst I;exact RB
 ·exact⟨u,k b u I q⟩
end
def U4(h:Heap)(H:Hp):List Addr:=(List.range h.objs.size).filter λa=>(H a).isSome
def C3(h:Heap)(H:Hp):Heap:=PySem.W.hideAll h (U4 h H)
def Jx(h:Heap)(H:Hp):(C3 h H).objs.size=h.objs.size:=PySem.W.hideAll_size _ _
def xu{h:Heap}{H:Hp}{b:Addr}{o:Obj}(e:h.get? b=some o)(n:H b=none):(C3 h H).get? b=some o :=
 PySem.W.hideAll_get _ e λhm=>by
  have q:(H b).isSome=true:=(aaX.mp hm).2;rw[n]at q;simp at q
def PJ{h:Heap}{H:Hp}{b:Addr}{o:Obj}(e:(C3 h H).get? b=some o):h.get? b=some o/\H b=none:=by
 have e' : h.get? b=some o:=PySem.W.of_hideAll (U4 h H) e;refine⟨e',?_⟩;cases q:H b with
 | none=>rfl
 | some x =>
   have hm:b∈U4 h H:=aaX.mpr ⟨aaI.mpr (aax e'),by simp[q]⟩
   have z:(C3 h H).get? b=none:=PySem.W.hideAll_none (U4 h H) hm;rw[z]at e;cases e
def wO(g h:Heap)(L:Addr):aX:=(List.range h.objs.size).filterMap λa=>if a=L\/(g.get? a).isSome=true then none else(h.get? a).map λo=>(a,o)
def C4{g h:Heap}{L a:Addr}{o:Obj}(h1:a≠L)(h2:g.get? a=none)(h3:h.get? a=some o):(a,o)∈wO g h L :=
 acf.mpr ⟨a,aaI.mpr (aax h3),by simp[h1,h2,h3]⟩
def xw{g h:Heap}{L:Addr}{p:Addr×Obj}(hp:p∈wO g h L):p.1≠L/\g.get? p.1=none/\h.get? p.1=some p.2:=by
 obtain⟨b,_,e⟩:=acf.mp hp
 split at e
 ·cases e
 ·rename_i hn
  cases q:h.get? b with
  | none=>rw[q]at e;simp at e
  | some u =>
    rw[q]at e;simp only[acj,Option.some.injEq]at e;subst e;refine⟨λz=>hn (.inl z),?_,q⟩
    show g.get? b=none;cases r:g.get? b with
    | none=>rfl
    | some v=>exact(hn (.inr (by simp[r]))).elim
def rest(g h:Heap)(L d:Addr):aX:=(wO g h L).filter λp=>decide (p.1≠d)
def Ig{g h:Heap}{L d:Addr}:∀p∈rest g h L d,p.1≠d:=λp I=>ko (aaX.mp I).2
def LZ{g h:Heap}{L d a:Addr}{o:Obj}(h1:a≠L)(h2:g.get? a=none)(h3:h.get? a=some o)(h4:a≠d):(a,o)∈rest g h L d :=
 aaX.mpr ⟨C4 h1 h2 h3,dm h4⟩
def L0{g h:Heap}{L:Addr}:News g L h (wO g h L):=λp I=>let⟨a,b,c⟩:=xw I;⟨c,a,b⟩
def rF{g h h' : Heap}{L d:Addr}{m:nY}(k:∀b o,g.get? b=some o->h.get? b=some o)(F:Fr g L h' m)(N:News g L h' (rest g h L d)):
 ∀b o,b≠L->b≠d->h.get? b=some o->h'.get? b=some o:=λb o h1 h2 e=>by
 cases q:g.get? b with
 | some u =>
   have:=k b u q;rw[e]at this;cases this;exact F.keep b _ q
 | none=>exact(N (b,o) (LZ h1 q e h2)).1
structure Mod(K:bJ)(mg:nY)(base:Heap):Prop where
 U5:K.In base
 glob:base.Ns mainGlobals mg
 blt:∃mb,base.Ns builtinsNs mb/\∀x:Str,x≠"__name__"->mb x=bootBuiltins x
 nolimit:base.NoLimit
 bmain:∃bm ob,mg "__builtins__"=some (.ref bm)/\bm≠builtinsNs/\base.get? bm=some ob/\ob.cls = .type "module"/\ob.dict=some builtinsNs/\ob.data = .plain
structure Cx where
 prog:Program
 w:World
 K:bJ
 mg:Str->Option Value
 base:Heap
 A:Around
 N:List Str
 s₀:Shared
 H₀:Hp
 env:Env
 outer:List Env
 stack:List Env
 ex:List Addr
 fn:Str->Bool
 calm:Bool
 pn:aX
 xe:Value->Shared->Prop
def frs(l:List Env):List Addr:=l.filterMap (·.frame)
abbrev Cx.fs(X:Cx):List Addr:=frs X.outer
def Yw(sc:Scope)(x:Str):Prop:=sc.names.lookup x=some .local\/sc.names.lookup x=some .cell\/sc.names.lookup x=some .free
def Loc(sc:Scope)(x:Str):Prop:=sc.names.lookup x=some .local\/sc.names.lookup x=some .cell
def Look(env:Env)(h:Heap)(m:nY)(x:Str)(u:Value):Prop :=
 (env.kindOf x=some .local/\m x=some u)\/((env.kindOf x=some .cell\/env.kindOf x=some .free)/\∃c,env.cells.lookup x=some c/\h.IsCell c (some u))
structure Cx.Ok(X:Cx):Prop where
 mod:Mod X.K X.mg X.base
 kind:X.env.scope.kind = .function
 glob:X.env.globals=mainGlobals
 blt:X.env.builtins=builtinsNs
 above:X.s₀.heap.objs.size<=X.env.locals
 inj:∀x y c,X.env.cells.lookup x=some c->X.env.cells.lookup y=some c->x=y
 has:∀x,(X.env.kindOf x=some .cell\/X.env.kindOf x=some .free)->∃c,X.env.cells.lookup x=some c
 U6:∀x c,X.fn x=true->X.env.cells.lookup x=some c->X.s₀.heap.objs.size<=c
 hd:X.calm=true->X.A.handled=none
 frames:X.A.frames=some X.stack
 Ph:X.stack=X.outer\/(X.stack=X.env::X.outer/\X.env.frame=some X.env.locals)
 Zv:∀b∈X.ex,b≠X.env.locals/\∀x c,X.env.cells.lookup x=some c->c≠b
 bs:∀b o,X.base.get? b=some o->X.s₀.heap.get? b=some o/\X.H₀ b=none
 L1:X.base.objs.size<=X.s₀.heap.objs.size
 Jy:∀b o,X.base.get? b=some o->b∉X.ex
 L3:∀b∈X.ex,b∉X.fs
 funs:X.s₀.heap.FunFrames X.base X.outer
 PK:∀b∈X.fs,X.H₀ b=none
structure Inv(X:Cx)(pq:aX)(σ:List (Option V))(H:Hp)(s:Shared):Prop where
 ok:X.Ok
 os:s.os=X.s₀.os
 bare:AllBare s.gens
 base:Un X.fs X.ex X.H₀ H X.s₀.heap s.heap
 loc:∃m,s.heap.Ns X.env.locals m/\∀(i:Nat) (x:Str) (v:V),X.N[i]?=some x->σ[i]?=some (some v)->Yw X.env.scope x->∃u,RelV v u/\Look X.env s.heap m x u
 cell:∀x c,X.env.cells.lookup x=some c->∃v,s.heap.IsCell c v
 free:H X.env.locals=none
 gh:∀x c,X.env.cells.lookup x=some c->H c=none
 pin:∀p∈X.pn++pq,s.heap.get? p.1=some p.2/\H p.1=none/\p.1≠X.env.locals/\p.1∉X.fs/\∀v,p.2.data≠.cell v
 hok:n8 X.prog X.w H s.heap
 len:σ.length=X.N.length
section
variable {X:Cx}{pq:aX}{σ:List (Option V)}{H H' : Hp}{s:Shared}{h' : Heap}
def Cx.Ok.Zw(ok:X.Ok){b:Addr}{o:Obj}(e:X.base.get? b=some o):b∉X.fs:=λhb=>by
 have:=(ok.funs.mem hb).1;rw[e]at this;cases this
def Inv.bs(I:Inv X pq σ H s):∀b o,X.base.get? b=some o->s.heap.get? b=some o/\H b=none:=λb o e =>
 ⟨I.base.keep b o (I.ok.bs b o e).1 (I.ok.bs b o e).2 (I.ok.Zw e) (I.ok.Jy b o e),I.base.free b o (I.ok.bs b o e).1 (I.ok.bs b o e).2 (I.ok.Jy b o e)⟩
def Inv.bk(I:Inv X pq σ H s):∀b o,X.base.get? b=some o->s.heap.get? b=some o:=λb o e=>(I.bs b o e).1
def Inv.mod(I:Inv X pq σ H s):Mod X.K X.mg X.base:=I.ok.mod
def Inv.Fy(I:Inv X pq σ H s):X.K.In s.heap:=I.ok.mod.U5.keeps I.bk
def Inv.nolimit(I:Inv X pq σ H s):s.heap.NoLimit:=I.ok.mod.nolimit.keeps I.bk
def Inv.fr(I:Inv X pq σ H s):∃m,Fr X.base X.env.locals s.heap m :=
 let⟨m,hn,_⟩:=I.loc
 ⟨m,hn,I.bk,aa0 I.ok.L1 I.ok.above⟩
def Inv.lt(I:Inv X pq σ H s):X.env.locals<s.heap.objs.size:=let⟨_,hn,_⟩:=I.loc;hn.lt
def Inv.sz(I:Inv X pq σ H s):X.s₀.heap.objs.size<=s.heap.objs.size:=aa0 I.ok.above (abq I.lt)
def Inv.VE(I:Inv X pq σ H s){a:Addr}(h:s.heap.objs.size<=a):a∉X.fs:=λhb=>by
 obtain⟨_,o,O,_⟩:=I.ok.funs.mem hb;exact absurd (aaL (aax O) (aa0 I.sz h)) (abN _)
def Inv.SG(I:Inv X pq σ H s):∀x c,X.env.cells.lookup x=some c->c≠X.env.locals:=λx c e z=>by
 obtain⟨v,o,O,hd⟩:=I.cell x c e;obtain⟨m,⟨o',es,ep,ho',hd',_⟩,_⟩:=I.loc;rw[z,ho']at O;cases O;rw[hd']at hd;cases hd
def Inv.funs(I:Inv X pq σ H s):s.heap.FunFrames X.base X.outer:=by
 have all:∀(l:List Env),(∀b∈frs l,b∈X.fs)->X.s₀.heap.FunFrames X.base l->s.heap.FunFrames X.base l:=by
  intro l
  induction l with
  | nil=>intro _ _;trivial
  | cons env r U =>
    intro hs Y;obtain⟨hk,⟨L,o,hf,hn,Z,hd⟩,hr⟩:=Y;have O:L∈X.fs:=hs L (by unfold frs;rw[adO,hf];exact aaF)
    obtain⟨sl,e⟩:=I.base.slot L o Z (I.ok.PK L O) O λz=>I.ok.L3 L z O
    exact⟨hk,⟨L,_,hf,hn,e,hd⟩,U (λb hb=>hs b (by unfold frs;rw[adO,hf];exact nU _ hb)) hr⟩
 exact all X.outer (λ_ hb=>hb) I.ok.funs
def Inv.stack(I:Inv X pq σ H s):s.heap.FunFrames X.base X.stack:=by
 rcases I.ok.Ph with e|⟨e,hf⟩
 ·rw[e];exact I.funs
 ·rw[e];obtain⟨m,hn,_⟩:=I.loc;refine .cons (by rw[I.ok.kind];decide) hf hn ?_ I.funs
  exact Heap.get?_none_of_le (aa0 I.ok.L1 I.ok.above)
def Inv.xx(I:Inv X pq σ H s):∀b∈frs X.stack,b∈X.env.locals::X.fs:=λb hb=>by
 rcases I.ok.Ph with e|⟨e,hf⟩
 ·rw[e]at hb;exact nU _ hb
 ·rw[e]at hb;unfold frs at hb;rw[adO,hf]at hb;exact hb
def Inv.Bm(I:Inv X pq σ H s):∀b∈frs X.stack,H b=none:=λb hb=>by
 rcases aaC.mp (I.xx b hb) with e|hb
 ·rw[e];exact I.free
 ·obtain⟨_,o,O,_⟩:=I.ok.funs.mem hb;exact I.base.free b o O (I.ok.PK b hb) λz=>I.ok.L3 b z hb
def Inv.step{g' : Array GenState}{t' : Nat}{d' : Drawn}{ch:List Addr}(I:Inv X pq σ H s)
 (hch:∀b∈ch,(b∈X.ex\/X.s₀.heap.objs.size<=b)/\b≠X.env.locals/\(∀x c,X.env.cells.lookup x=some c->c≠b)/\∀p∈X.pn++pq,p.1≠b)
 (keep:∀b o,b≠X.env.locals->b∉X.fs->b∉ch->s.heap.get? b=some o->H b=none->h'.get? b=some o)
 (slot:∀b o,b≠X.env.locals->b∈X.fs->b∉ch->s.heap.get? b=some o->H b=none->∃sl,h'.get? b=some { o with slots:=sl}) (free:∀b o,b∉ch->s.heap.get? b=some o->H b=none->H' b=none)
 (there:∀b o,b∉ch->s.heap.get? b=some o->∃o',h'.get? b=some o')
 (tups:∀b xs,H b=some (.tup xs)->H' b=some (.tup xs)) (m3:∀b o u,H b=some (.n5 o u)->H' b=some (.n5 o u)) (oh:∀b ps,H b=some (.jF ps)->∃more,H' b=some (.jF (ps++more)))
 (ns:∀m,s.heap.Ns X.env.locals m->h'.Ns X.env.locals m) (hok:n8 X.prog X.w H' h') (hg:AllBare g') :
 Inv X pq σ H' { s with heap:=h',gens:=g',drawn:=d',toks:=t'}:=by
 have Y:∀b o,X.s₀.heap.get? b=some o->b≠X.env.locals:=λb o e=>aaP (aaL (aax e) I.ok.above)
 have Yx:∀b o,X.s₀.heap.get? b=some o->b∉X.ex->b∉ch:=λb o e hx hb=>by
  rcases(hch b hb).1 with z|z
  ·exact hx z
  ·exact absurd (aaL (aax e) z) (abN _)
 have cellK:∀x c,X.env.cells.lookup x=some c->∀v,s.heap.IsCell c v->h'.IsCell c v:=λx c e v ⟨o,U,hd⟩=>by
  have Z:c∉ch:=λz=>(hch c z).2.2.1 x c e rfl
  by_cases hc:c∈X.fs
  ·obtain⟨sl,q⟩:=slot c o (I.SG x c e) hc Z U (I.gh x c e);exact⟨_,q,hd⟩
  ·exact⟨o,keep c o (I.SG x c e) hc Z U (I.gh x c e),hd⟩
 refine⟨I.ok,I.os,hg,⟨λb o e n hb hx=>?_,λb o e n hb hx=>?_,λb o e n hx=>?_,λb o e hx=>?_,λb xs e=>tups b xs (I.base.tups b xs e),λb o xs e=>m3 b o xs (I.base.m3 b o xs e),λb ps e=>?_⟩,?_,λx c e=>?_,?_,λx c e=>?_,λp hp=>?_,hok,I.len⟩
 ·exact keep b o (Y b o e) hb (Yx b o e hx) (I.base.keep b o e n hb hx) (I.base.free b o e n hx)
 ·obtain⟨sl,O⟩:=I.base.slot b o e n hb hx;obtain⟨Yy,e2⟩:=slot b _ (Y b o e) hb (Yx b o e hx) O (I.base.free b o e n hx);exact⟨Yy,e2⟩
 ·obtain⟨o',O⟩:=I.base.there b o e hx;exact free b o' (Yx b o e hx) O (I.base.free b o e n hx)
 ·obtain⟨o',O⟩:=I.base.there b o e hx;exact there b o' (Yx b o e hx) O
 ·obtain⟨m1,O⟩:=I.base.oh b ps e;obtain⟨m2,e2⟩:=oh b _ O;exact⟨m1++m2,by rw[e2,Array.append_assoc]⟩
 ·obtain⟨m,hn,hl⟩:=I.loc;refine⟨m,ns m hn,λi x v O e2 e3=>?_⟩
  obtain⟨u,r,l⟩:=hl i x v O e2 e3;refine⟨u,r,?_⟩;rcases l with l|⟨k,c,e,z⟩
  ·exact .inl l
  ·exact .inr ⟨k,c,e,cellK x c e _ z⟩
 ·obtain⟨v,z⟩:=I.cell x c e;exact⟨v,cellK x c e v z⟩
 ·obtain⟨m,⟨o,_,_,U,_⟩,_⟩:=I.loc;exact free _ o (λz=>(hch _ z).2.1 rfl) U I.free
 ·obtain⟨v,o,U,hd⟩:=I.cell x c e;exact free c o (λz=>(hch c z).2.2.1 x c e rfl) U (I.gh x c e)
 ·obtain⟨e,n,ne,nf,d⟩:=I.pin p hp;have Z:p.1∉ch:=λz=>(hch p.1 z).2.2.2 p hp rfl
  exact⟨keep p.1 p.2 ne nf Z e n,free p.1 p.2 Z e n,ne,nf,d⟩
def Inv.un{t' : Nat}(I:Inv X pq σ H s)(u:Un X.fs [] H H' s.heap h')(hok:n8 X.prog X.w H' h'):Inv X pq σ H' { s with heap:=h',toks:=t'}:=by
 obtain⟨m,⟨o,es,ep,Y,r⟩,_⟩:=id I.loc;obtain⟨sl,hL⟩:=u.any Y I.free (by simp)
 exact I.step (g':=s.gens) (d':=s.drawn) (ch:=[]) (λ_ z=>nomatch z) (λb o _ hb _ e n=>u.keep b o e n hb (by simp)) (λb o _ hb _ e n=>u.slot b o e n hb (by simp)) (λb o _ e n=>u.free b o e n (by simp)) (λb o _ e=>u.there b o e (by simp)) u.tups u.m3 u.oh (λm' hm=>by
  obtain⟨o',U,Z,O,r'⟩:=hm;rw[Y]at O;cases O;exact⟨_,U,Z,hL,r'⟩) hok I.bare
def Inv.call{g' : Array GenState}{t' : Nat}{d' : Drawn}{ch:List Addr}(I:Inv X pq σ H s)(u:Un (frs X.stack) ch H H' s.heap h')(hok:n8 X.prog X.w H' h')(hg:AllBare g')
 (hch:∀b∈ch,(b∈X.ex\/X.s₀.heap.objs.size<=b)/\b≠X.env.locals/\(∀x c,X.env.cells.lookup x=some c->c≠b)/\∀p∈X.pn++pq,p.1≠b) :
 Inv X pq σ H' { s with heap:=h',gens:=g',drawn:=d',toks:=t'}:=by
 obtain⟨m,⟨o,es,ep,Z,r⟩,_⟩:=id I.loc;obtain⟨sl,U⟩:=u.any Z I.free λz=>(hch _ z).2.1 rfl
 exact I.step (ch:=ch) hch (λb o U hb hc e n=>u.keep b o e n (λz=>(aaC.mp (I.xx b z)).elim U hb) hc) (λb o _ _ hc e n=>u.any e n hc) (λb o hc e n=>u.free b o e n hc) (λb o hc e=>u.there b o e hc) u.tups u.m3 u.oh (λm' hm=>by
  obtain⟨o',Y,Ih,O,r'⟩:=hm;rw[Z]at O;cases O;exact⟨_,Y,Ih,U,r'⟩) hok hg
def Inv.turned{t' : Nat}{it:Addr}(I:Inv X pq σ H s)(k:∀b o,b≠it->s.heap.get? b=some o->h'.get? b=some o)(hn:H it=none)(hL:it≠X.env.locals)
 (h1:it∈X.ex\/X.s₀.heap.objs.size<=it) (h2:∀x c,X.env.cells.lookup x=some c->c≠it) (h3:∀p∈X.pn++pq,p.1≠it):Inv X pq σ H { s with heap:=h',toks:=t'}:=by
 have O:∀b u,H b=some u->b≠it:=λb u e z=>by rw[z,hn]at e;cases e
 refine I.step (g':=s.gens) (d':=s.drawn) (ch:=[it]) (λb hb=>?_) (λb o _ _ hc e _=>k b o (λz=>hc (by simp[z])) e) (λb o _ _ hc e _=>⟨o.slots,k b o (λz=>hc (by simp[z])) e⟩) (λ_ _ _ _ n=>n)
  (λb o hc e=>⟨o,k b o (λz=>hc (by simp[z])) e⟩) (λ_ _ e=>e) (λ_ _ _ e=>e) (λb ps e=>⟨#[],by rw[e];simp⟩) (λm hm=>?_) (λb u e=>?_) I.bare
 ·have e:b=it:=by simpa using hb
  subst e;exact⟨h1,hL,h2,h3⟩
 ·obtain⟨o,es,ep,U,r⟩:=hm;exact⟨o,es,ep,k _ o (aa6 hL) U,r⟩
 ·refine(I.hok b u e).stay (λc v hc q=>k c v ?_ q) (λ_ q=>q) λ_ _ q=>q
  rcases hc with z|z
  ·rw[z];exact O b u e
  ·exact O c _ z
def Inv.tok(I:Inv X pq σ H s)(t:Nat):Inv X pq σ H { s with toks:=t}:=I.un (h':=s.heap) (t':=t) Un.refl I.hok
def Inv.kept{t' : Nat}(I:Inv X pq σ H s)(k:∀b u,s.heap.get? b=some u->h'.get? b=some u):Inv X pq σ H { s with heap:=h',toks:=t'}:=I.un (Un.kept k) (I.hok.kept k)
def Inv.laid{a:Addr}{o:HO}{t' : Nat}(I:Inv X pq σ H s)(k:∀b u,s.heap.get? b=some u->h'.get? b=some u)(hp:s.heap.objs.size<=a)(new:bK X.prog X.w (upd H a o) h' a o):
 Inv X pq σ (upd H a o) { s with heap:=h',toks:=t'}:=I.un (Un.laid k hp (I.hok.fresh hp)) (I.hok.laid k hp new)
def Inv.write{x e:Addr}{o:HO}{t' : Nat}(I:Inv X pq σ H s)(mu:VC (H x))(he:e=x\/H e=some (.own x))(k:∀b u,b≠e->s.heap.get? b=some u->h'.get? b=some u)(RB:∃u,h'.get? e=some u)
 (new:bK X.prog X.w (upd H x o) h' x o):Inv X pq σ (upd H x o) { s with heap:=h',toks:=t'}:=I.un (Un.write mu he k RB) (I.hok.write mu he k RB new)
def Inv.weak{σ' : List (Option V)}(I:Inv X pq σ H s)(hl:σ'.length=σ.length)(w:∀(i:Nat) v,σ'[i]?=some (some v)->σ[i]?=some (some v)):Inv X pq σ' H s :=
 ⟨I.ok,I.os,I.bare,I.base,let⟨m,hn,hl'⟩:=I.loc;⟨m,hn,λi x v O U Y=>hl' i x v O (w i v U) Y⟩,I.cell,I.free,I.gh,I.pin,I.hok,hl.trans I.len⟩
def Inv.ia{SH:aX}(I:Inv X pq σ H s)(h:∀p∈SH,s.heap.get? p.1=some p.2/\H p.1=none/\p.1≠X.env.locals/\p.1∉X.fs/\∀v,p.2.data≠.cell v):Inv X SH σ H s :=
 ⟨I.ok,I.os,I.bare,I.base,I.loc,I.cell,I.free,I.gh,λp O=>(aa9.mp O).elim (λz=>I.pin p (adH _ z)) (h p),I.hok,I.len⟩
def C5{N:List Str}(hN:N.Nodup){i j:Nat}{x:Str}(a:N[i]?=some x)(b:N[j]?=some x):i=j:=by
 obtain⟨h1,I⟩:=jo.mp a;obtain⟨h2,e2⟩:=jo.mp b;exact(adv hN).mp (I.trans e2.symm)
def Jz{M:Model}{A:Around}{E:dR}{i:Nat}{x:Str}{v:V}{u:Value}{Q:Unit->Shared->Prop}(I:Inv X pq σ H s)(hN:X.N.Nodup)(hi:X.N[i]?=some x)(hx:Loc X.env.scope x)(r:RelV v u)
 (h:∀s',Inv X pq (σ.set i (some v)) H s'->(∃a,Heap.SameBut a s.heap s'.heap/\(a=X.env.locals\/X.env.cells.lookup x=some a))->Q () s') (hf:X.fn x=true\/X.env.scope.names.lookup x=some .local:=by first | exact .inl rfl | exact .inr rfl | assumption):wpAny M A (storeName X.env x u) Q E s:=by
 obtain⟨m,hn,hl⟩:=id I.loc;have ab:(X.env.scope.kind == .class || (X.env.scope.kind == .module&&X.env.locals != X.env.globals))=false:=by rw[I.ok.kind];rfl
 have ag:i<σ.length:=by rw[I.len];exact(jo.mp hi).1
 have SG:=I.SG;have tracked:∀{a:Addr} {h' : Heap},(∃o,s.heap.get? a=some o/\H a=none)->Heap.SameBut a s.heap h'->n8 X.prog X.w H h':=λ{a h'} ha hs b ob e=>by
  obtain⟨_,_,U⟩:=ha;refine(I.hok b ob e).stay (λc w' hc q=>(hs.2 c ?_).trans q) (λ_ q=>q) λ_ _ q=>q
  rintro rfl;rcases hc with rfl|hc
  ·rw[U]at e;cases e
  ·rw[U]at hc;cases hc
 rcases hx with hk|hk
 ·refine wpAny_storeName_local hk hn (λh' aT hs=>?_) ab
  obtain⟨oL,_,_,Al,_⟩:=id hn;refine h _ ⟨I.ok,I.os,I.bare,⟨λb o e n hb hx=>?_,λb o e n hb hx=>?_,I.base.free,λb o e hx=>?_,I.base.tups,I.base.m3,I.base.oh⟩,⟨_,aT,λj y v' O Y e3=>?_⟩,λy c e=>?_,I.free,I.gh,λp hp=>?_,tracked ⟨oL,Al,I.free⟩ hs,by simpa using I.len⟩ ⟨_,hs,.inl rfl⟩
  ·exact(hs.2 b (aaP (aaL (aax e) I.ok.above))).trans (I.base.keep b o e n hb hx)
  ·obtain⟨sl,O⟩:=I.base.slot b o e n hb hx;exact⟨sl,(hs.2 b (aaP (aaL (aax e) I.ok.above))).trans O⟩
  ·obtain⟨o',O⟩:=I.base.there b o e hx;exact⟨o',(hs.2 b (aaP (aaL (aax e) I.ok.above))).trans O⟩
  ·by_cases hj:j=i
   ·subst hj;rw[hi]at O;cases O;rw[ado ag]at Y;cases Y;exact⟨u,r,.inl ⟨hk,by simp⟩⟩
   ·rw[adI (aa6 hj)]at Y;obtain⟨u',r',q⟩:=hl j y v' O Y e3;refine⟨u',r',?_⟩;rcases q with⟨k,e⟩|⟨k,c,e,z⟩
    ·refine .inl ⟨k,?_⟩;have:y≠x:=λe=>hj (C5 hN O (e▸hi))
     simp[this,e]
    ·exact .inr ⟨k,c,e,z.sameBut hs (SG y c e)⟩
  ·obtain⟨w',z⟩:=I.cell y c e;exact⟨w',z.sameBut hs (SG y c e)⟩
  ·obtain⟨e,n,ne,nf,d⟩:=I.pin p hp;exact⟨(hs.2 p.1 ne).trans e,n,ne,nf,d⟩
 ·have Z:X.fn x=true:=by
   rcases hf with z|z
   ·exact z
   ·rw[z]at hk;cases hk
  obtain⟨c,hc⟩:=I.ok.has x (.inl hk);obtain⟨w',z⟩:=I.cell x c hc;refine wpAny_storeName_cell I.ok.kind hk hc z (λh' ar hs=>?_)
  obtain⟨oc,aw,Zx⟩:=id z;refine h { s with heap:=h'} ⟨I.ok,I.os,I.bare,⟨λb o e n hb hx=>?_,λb o e n hb hx=>?_,I.base.free,λb o e hx=>?_,I.base.tups,I.base.m3,I.base.oh⟩,⟨m,hn.sameBut hs (aa6 (SG x c hc)),λj y v' O Y e3=>?_⟩,λy c' e=>?_,I.free,I.gh,λp hp=>?_,tracked ⟨oc,aw,I.gh x c hc⟩ hs,by simpa using I.len⟩ ⟨c,hs,.inr hc⟩
  ·exact(hs.2 b (aaP (aaL (aax e) (I.ok.U6 x c Z hc)))).trans (I.base.keep b o e n hb hx)
  ·obtain⟨sl,O⟩:=I.base.slot b o e n hb hx;exact⟨sl,(hs.2 b (aaP (aaL (aax e) (I.ok.U6 x c Z hc)))).trans O⟩
  ·obtain⟨o',O⟩:=I.base.there b o e hx;exact⟨o',(hs.2 b (aaP (aaL (aax e) (I.ok.U6 x c Z hc)))).trans O⟩
  ·by_cases hj:j=i
   ·subst hj;rw[hi]at O;cases O;rw[ado ag]at Y;cases Y;exact⟨u,r,.inr ⟨.inl hk,c,hc,ar⟩⟩
   ·rw[adI (aa6 hj)]at Y;obtain⟨u',r',q⟩:=hl j y v' O Y e3;refine⟨u',r',?_⟩;rcases q with q|⟨k,c',e,z'⟩
    ·exact .inl q
    ·refine .inr ⟨k,c',e,z'.sameBut hs ?_⟩;rintro rfl;exact hj (C5 hN O (I.ok.inj _ _ _ e hc▸hi))
  ·by_cases ax:c' = c
   ·subst ax;exact⟨_,ar⟩
   ·obtain⟨w2,z2⟩:=I.cell y c' e;exact⟨w2,z2.sameBut hs ax⟩
  ·obtain⟨e,n,ne,nf,d⟩:=I.pin p hp;refine⟨(hs.2 p.1 ?_).trans e,n,ne,nf,d⟩;intro q;rw[q,aw]at e;have q' : oc=p.2:=Option.some.inj e;exact d w' (by rw[<-q'];exact Zx)
def rG{M:Model}{A:Around}{E:dR}{i:Nat}{x:Str}{v:V}{u:Value}{Q:Unit->Shared->Prop}(I:Inv X pq σ H s)(hN:X.N.Nodup)(hi:X.N[i]?=some x)(hx:Loc X.env.scope x)(r:RelV v u)
 (h:∀s',Inv X pq (σ.set i (some v)) H s'->Q () s') (hf:X.fn x=true\/X.env.scope.names.lookup x=some .local:=by first | exact .inl rfl | exact .inr rfl | assumption):wpAny M A (storeName X.env x u) Q E s :=
 Jz I hN hi hx r (λs' O _=>h s' O) hf
def Inv.L4{s' : Shared}{ch:List Addr}(I:Inv X pq σ H s)(ho:s'.os=s.os)(u:Un (frs X.stack) ch H H' s.heap s'.heap)(hok:n8 X.prog X.w H' s'.heap)(hg:AllBare s'.gens)
 (hch:∀b∈ch,(b∈X.ex\/X.s₀.heap.objs.size<=b)/\b≠X.env.locals/\(∀x c,X.env.cells.lookup x=some c->c≠b)/\∀p∈X.pn++pq,p.1≠b):Inv X pq σ H' s':=by
 obtain⟨h',g',d',t',o'⟩:=s';have e:o' = s.os:=ho;subst e;exact I.call (g':=g') (t':=t') (d':=d') u hok hg hch
end
abbrev XK:=Value->Option Addr->Hp->Prop
abbrev St:=List (Option V)
abbrev VK:=V->Hp->Prop
abbrev TE:=St->Hp->VK->Prop
abbrev TT:=St->Hp->(Bool->Hp->Prop)->Prop
abbrev TA:=St->Hp->(List V->Hp->Prop)->Prop
structure Ends where
 nx:St->Hp->Prop
 rt:VK
 bk:St->Hp->Prop:=λ_ _=>False
 ct:St->Hp->Prop:=λ_ _=>False
abbrev TS:=Ends->St->Hp->Prop
def EP(X:Cx)(pq:aX)(σ:St)(Q:VK)(u:Value)(s' : Shared):Prop:=∃v H',Inv X pq σ H' s'/\RelV v u/\Q v H'
def TP(X:Cx)(pq:aX)(σ:St)(Q:Bool->Hp->Prop)(b:Bool)(s' : Shared):Prop:=∃H',Inv X pq σ H' s'/\Q b H'
def AP(X:Cx)(pq:aX)(σ:St)(Q:List V->Hp->Prop)(us:List Value)(s' : Shared):Prop:=∃vs H',Inv X pq σ H' s'/\Vals vs us/\Q vs H'
def SP(X:Cx)(pq:aX)(D:Ends)(f:Flow)(s' : Shared):Prop :=
 match f with
 | .next=>∃σ' H',Inv X pq σ' H' s'/\D.nx σ' H'
 | .brk=>∃σ' H',Inv X pq σ' H' s'/\D.bk σ' H'
 | .cont=>∃σ' H',Inv X pq σ' H' s'/\D.ct σ' H'
 | .ret u=>∃v σ' H',Inv X pq σ' H' s'/\RelV v u/\D.rt v H'
def PE(X:Cx)(e:Expr)(t:TE):Prop :=
 ∀(pq:aX) (s:Shared) (σ:St) (H:Hp) (Q:VK),Inv X pq σ H s->t σ H Q->wpAny (model X.prog X.w) X.A (eval e X.env) (EP X pq σ Q) X.xe s
def PT(X:Cx)(e:Expr)(t:TT):Prop :=
 ∀(pq:aX) (s:Shared) (σ:St) (H:Hp) (Q:Bool->Hp->Prop),Inv X pq σ H s->t σ H Q->wpAny (model X.prog X.w) X.A (isTrue e X.env (eval e X.env)) (TP X pq σ Q) X.xe s
def PW(X:Cx)(e:Expr)(t:TT):Prop :=
 ∀(whole:Sem Value) (pq:aX) (s:Shared) (σ:St) (H:Hp) (Q:Bool->Hp->Prop),Inv X pq σ H s->t σ H Q->wpAny (model X.prog X.w) X.A (isTrue e X.env whole) (TP X pq σ Q) X.xe s
def PW.pt{X:Cx}{e:Expr}{t:TT}(h:PW X e t):PT X e t:=h _
def PA(X:Cx)(es:List Expr)(t:TA):Prop :=
 ∀(pos:Pos) (pq:aX) (s:Shared) (σ:St) (H:Hp) (Q:List V->Hp->Prop),Inv X pq σ H s->t σ H Q->wpAny (model X.prog X.w) X.A (spliced (backTo pos (starEach es X.env))) (AP X pq σ Q) X.xe s
def PS(X:Cx)(st:Stmt)(t:TS):Prop :=
 ∀(pq:aX) (s:Shared) (σ:St) (H:Hp) (D:Ends),Inv X pq σ H s->t D σ H->wpAny (model X.prog X.w) X.A (exec st X.env) (SP X pq D) X.xe s
def zA(X:Cx)(st:List Stmt)(t:TS):Prop :=
 ∀(pq:aX) (s:Shared) (σ:St) (H:Hp) (D:Ends),Inv X pq σ H s->t D σ H->wpAny (model X.prog X.w) X.A (execs st X.env) (SP X pq D) X.xe s
def dh{α:Type}{t:Sem α}{Q Q' : α->Shared->Prop}{M:Model}{A:Around}{E:dR}{s:Shared}(h:wpAny M A t Q E s)(hQ:∀a s,Q a s->Q' a s):wpAny M A t Q' E s:=aa8 h hQ λ_ _ x=>x
section
variable {X:Cx}
def VG(i:Nat):TE:=λσ H Q=>∃v,σ[i]?=some (some v)/\Q v H
def tC(v:V):TE:=λ_ H Q=>Q v H
def SJ{i:Nat}{x:Str}{pos:Pos}(hN:X.N[i]?=some x)(hv:Yw X.env.scope x)(hd:(x==("__debug__":Str))=false:=by decide)(hcd:(x==("__classdict__":Str))=false:=by decide):PE X (.Name x pos) (VG i):=by
 intro pq s σ H Q I h;obtain⟨v,e,h⟩:=h;obtain⟨m,hn,hl⟩:=I.loc;obtain⟨u,r,l⟩:=hl i x v hN e hv;have fin:EP X pq σ Q u s:=⟨v,H,I,r,h⟩;rcases l with⟨hk,hm⟩|⟨hk,c,hc,hcell⟩
 ·exact wpAny_Name (wpAny_loadName_local I.ok.kind hk hn hm fin) hd
 ·rcases hk with hk|hk
  ·exact wpAny_Name (wpAny_loadName_cell I.ok.kind hk hc hcell fin) hd
  ·exact wpAny_Name (wpAny_loadName_free I.ok.kind hk hc hcell fin hcd) hd
def ak{i j pos}:PE X (.Constant (.int i) j pos) (tC (.int i)):=λ_ _ _ H _ I h=>wpAny_Constant_int ⟨.int i,H,I.tok _,⟨_,rfl⟩,h⟩
def iE{b j pos}:PE X (.Constant (.bool b) j pos) (tC (.bl b)):=λ_ _ _ H _ I h=>Constant_bool ⟨.bl b,H,I,rfl,h⟩
def iF{j pos}:PE X (.Constant .none j pos) (tC .eX):=λ_ _ _ H _ I h=>Constant_none ⟨.eX,H,I,rfl,h⟩
def m4{x j pos}:PE X (.Constant (.str x) j pos) (tC (.str x)):=λ_ _ _ H _ I h=>Calls.Constant_str ⟨.str x,H,I.tok _,⟨_,rfl⟩,h⟩
def Gl(X:Cx)(x:Str):Prop:=X.env.kindOf x=some .globalImplicit
def wQ{E:dR}{pq:aX}{s:Shared}{σ:St}{H:Hp}{x:Str}{u:Value}{pos:Pos}{Q:dR}(I:Inv X pq σ H s)(hg:Gl X x)(hm:X.mg x=some u)(h:Q u s)
 (hd:(x==("__debug__":Str))=false:=by decide):wpAny (model X.prog X.w) X.A (eval (.Name x pos) X.env) Q E s :=
 Calls.Name_function_global I.ok.kind hg (Calls.loadGlobal_global (by rw[I.ok.glob];exact I.mod.glob.keeps I.bk) hm h) hd
def om{E:dR}{pq:aX}{s:Shared}{σ:St}{H:Hp}{x:Str}{u:Value}{pos:Pos}{Q:dR}(I:Inv X pq σ H s)(hg:Gl X x)(hm:X.mg x=none)(hv:bootBuiltins x=some u)(h:Q u s)
 (hn:x≠"__name__":=by decide) (hd:(x==("__debug__":Str))=false:=by decide):wpAny (model X.prog X.w) X.A (eval (.Name x pos) X.env) Q E s:=by
 obtain⟨mb,h1,h2⟩:=I.mod.blt;exact Calls.Name_function_global I.ok.kind hg (Calls.loadGlobal_builtin (by rw[I.ok.glob];exact I.mod.glob.keeps I.bk) hm (by rw[I.ok.blt];exact h1.keeps I.bk) ((h2 x hn).trans hv) h) hd
def PL{x:Str}{v:V}{u:Value}{pos:Pos}(hg:Gl X x)(hm:X.mg x=some u)(r:RelV v u)(hd:(x==("__debug__":Str))=false:=by decide):PE X (.Name x pos) (tC v) :=
 λ_ _ _ H _ I h=>wQ I hg hm ⟨v,H,I,r,h⟩ hd
variable {a b:Expr}{ta tb:TE}{pos:Pos}
def PC(X:Cx)(op:CmpOp)(a b:Expr)(t:TE):Prop :=
 ∀(pq:aX) (s:Shared) (σ:St) (H:Hp) (Q:VK),Inv X pq σ H s->t σ H Q->
  wpAny (model X.prog X.w) X.A (eval a X.env) (λv I=>wpAny (model X.prog X.w) X.A (eval b X.env) (λu O=>wpAny (model X.prog X.w) X.A (compareOp op v u) (EP X pq σ Q) X.xe O) X.xe I) X.xe s
def tB(t:TE):TT:=λσ H Q=>t σ H λx H1=>∃c,x = .bl c/\Q c H1
def SK{op:CmpOp}{t:TE}(h:PC X op a b t)(h1:behindInMarks op b=false:=by first | exact nobehind _ (by decide) (by decide) | rfl):PT X (.Compare a [op] [b] pos) (tB t):=by
 intro pq s σ H Q I hw;refine wpAny_isTrue_Compare1 (dh (h pq s σ H _ I hw) λv s1 h1=>dh h1 λu s2 h2=>dh h2 λc s3 ⟨x,H1,O,U,Y⟩=>?_) h1
 obtain⟨d,rfl,q⟩:=Y;cases U;exact wpAny_truthy_bool ⟨H1,O,q⟩
def dZ{e:Expr}{t:TE}(h:PE X e t)(he:∀whole,isTrue e X.env whole=(do let v←whole;standAt e.pos;holding [v] (truthy v)):=by intro _;rfl):PT X e (tB t):=by
 intro pq s σ H Q I hw;refine isTrue_plain (dh (h pq s σ H _ I hw) λv s1 ⟨x,H1,O,U,Y⟩=>?_) (he _)
 obtain⟨d,rfl,q⟩:=Y;cases U;exact wpAny_truthy_bool ⟨H1,O,q⟩
variable {tA Yz:TT}{rest:List Expr}
def Zy(t u:TT):TT:=λσ H Q=>t σ H λc H1=>if c=true then u σ H1 Q else Q false H1
def tOr(t u:TT):TT:=λσ H Q=>t σ H λc H1=>if c=true then Q true H1 else u σ H1 Q
def Zz(t:TT):TT:=λσ H Q=>t σ H λc H1=>Q (!c) H1
def Ii(ha:PT X a tA):PW X (.BoolOp .And [a] pos) tA:=by
 intro O pq s σ H Q I h;refine isTrue_and (dh (ha pq s σ H Q I h) λc s1 e=>?_)
 cases c with
 | true=>exact isTrue_and_nil e
 | false=>exact e
def jG(ha:PT X a tA):PW X (.BoolOp .Or [a] pos) tA:=by
 intro O pq s σ H Q I h;refine isTrue_or (dh (ha pq s σ H Q I h) λc s1 e=>?_)
 cases c with
 | false=>exact isTrue_or_nil e
 | true=>exact e
def L5(ha:PT X a tA)(hb:PW X (.BoolOp .And (b::rest) pos) Yz):PW X (.BoolOp .And (a::b::rest) pos) (Zy tA Yz):=by
 intro Y pq s σ H Q I h;refine isTrue_and (dh (ha pq s σ H _ I h) λc s1 ⟨H1,O,U⟩=>?_)
 cases c with
 | true=>exact hb Y pq s1 σ H1 Q O U
 | false=>exact⟨H1,O,U⟩
def nV(ha:PT X a tA)(hb:PW X (.BoolOp .Or (b::rest) pos) Yz):PW X (.BoolOp .Or (a::b::rest) pos) (tOr tA Yz):=by
 intro Y pq s σ H Q I h;refine isTrue_or (dh (ha pq s σ H _ I h) λc s1 ⟨H1,O,U⟩=>?_)
 cases c with
 | true=>exact⟨H1,O,U⟩
 | false=>exact hb Y pq s1 σ H1 Q O U
def kF(ha:PT X a tA):PT X (.UnaryOp .Not a pos) (Zz tA):=by
 intro pq s σ H Q I h;exact isTrue_not (ha pq s σ H (λc H1=>Q (!c) H1) I h)
def VH(ta tb:TE):TE:=λσ H Q=>ta σ H λx H1=>∃c,x = .bl c/\if c=true then tb σ H1 Q else Q (.bl false) H1
def ZA(ta tb:TE):TE:=λσ H Q=>ta σ H λx H1=>∃c,x = .bl c/\if c=true then Q (.bl true) H1 else tb σ H1 Q
def oq{op}{t:TE}(h:PE X a t):PE X (.BoolOp op [a] pos) t:=λpq s σ H Q I hw=>BoolOp_one (h pq s σ H Q I hw)
def ou(ha:PE X a ta)(hb:PE X (.BoolOp .And (b::rest) pos) tb):PE X (.BoolOp .And (a::b::rest) pos) (VH ta tb):=by
 intro pq s σ H Q I h;refine BoolOp_and (dh (ha pq s σ H _ I h) λv s1 ⟨x,H1,U,Y,O⟩=>?_)
 obtain⟨c,rfl,O⟩:=O;cases Y;refine wpAny_truthy_bool ?_;cases c with
 | true=>exact hb pq s1 σ H1 Q U O
 | false=>exact⟨.bl false,H1,U,rfl,O⟩
def VI(ha:PE X a ta)(hb:PE X (.BoolOp .Or (b::rest) pos) tb):PE X (.BoolOp .Or (a::b::rest) pos) (ZA ta tb):=by
 intro pq s σ H Q I h;refine BoolOp_or (dh (ha pq s σ H _ I h) λv s1 ⟨x,H1,U,Y,O⟩=>?_)
 obtain⟨c,rfl,O⟩:=O;cases Y;refine wpAny_truthy_bool ?_;cases c with
 | false=>exact hb pq s1 σ H1 Q U O
 | true=>exact⟨.bl true,H1,U,rfl,O⟩
def tIf(t:TT)(ta tb:TE):TE:=λσ H Q=>t σ H λc H1=>if c=true then ta σ H1 Q else tb σ H1 Q
def mw{c:Expr}(hc:PT X c tA)(ha:PE X a ta)(hb:PE X b tb):PE X (.IfExp c a b pos) (tIf tA ta tb):=by
 intro pq s σ H Q I h;refine wpAny_IfExp (dh (hc pq s σ H _ I h) λd s1 ⟨H1,O,U⟩=>?_)
 cases d with
 | true=>exact ha pq s1 σ H1 Q O U
 | false=>exact hb pq s1 σ H1 Q O U
end
def aR(K:bJ)(H:Hp)(a:Addr)(xs:List V):Prop :=
 Rd H a (.lst xs)\/
  ∃(o:Obj) (I:Array Value) (n:Nat),K.lookup a=some o/\o.cls = .type "list"/\o.dict=none/\o.data = .seq I n/\I.size<=sizeLine/\Vals xs I.toList
def aU(K:bJ)(H:Hp)(a:Addr)(xs:List V):Prop :=
 Rd H a (.tup xs)\/
  ∃(o:Obj) (I:Array Value) (n:Nat),K.lookup a=some o/\o.cls = .type "tuple"/\o.data = .seq I n/\I.size<=sizeLine/\Vals xs I.toList
def ZC:Value->Option V
 | .none=>some .eX
 | .bool b=>some (.bl b)
 | .int i _=>some (.int i)
 | .str x _=>some (.str x)
 | .bytes b _=>some (.LM b)
 | .float b _=>some (.Yv b)
 | .ref a=>some (.ref a)
 | .type n=>some (.ty n)
 | _=>none
def RelV.abs{x:V}{u:Value}(r:RelV x u):ZC u=some x:=by
 cases x with
 | eX=>cases r;rfl
 | bl _=>cases r;rfl
 | int _=>obtain⟨t,rfl⟩:=r;rfl
 | str _=>obtain⟨t,rfl⟩:=r;rfl
 | LM _=>obtain⟨t,rfl⟩:=r;rfl
 | Yv _=>obtain⟨t,rfl⟩:=r;rfl
 | ref _=>cases r;rfl
 | ty _=>cases r;rfl
def RelV.inj{x y:V}{u:Value}(r:RelV x u)(q:RelV y u):x=y:=Option.some.inj (r.abs.symm.trans q.abs)
def Vals.inj:∀{xs ys:List V} {us:List Value},Vals xs us->Vals ys us->xs=ys
 | _,_,_,.nil,.nil=>rfl
 | _,_,_,.cons r t,.cons r' t'=>by rw[r.inj r',Vals.inj t t']
section
variable {X:Cx}{pq:aX}{σ:St}{H:Hp}{s:Shared}{a:Addr}{xs ys:List V}
def aR.of{K:bJ}(h:H a=some (.lst xs)):aR K H a xs:=.inl (.inl h)
def aU.of{K:bJ}(h:H a=some (.tup xs)):aU K H a xs:=.inl (.inl h)
def Inv.list(I:Inv X pq σ H s)(h:aR X.K H a xs):∃O:List Value,Vals xs O/\PlainL s.heap a O.toArray/\xs.length<=sizeLine:=by
 rcases h with h|⟨o,O,n,hk,hc,hd,hs,hz,r⟩
 ·obtain⟨z,O,n,r,e⟩:=h.ok I.hok;exact⟨O,r,⟨_,n,e,rfl,rfl,rfl⟩,z⟩
 ·refine⟨O.toList,r,⟨o,n,I.Fy a o hk,hc,hd,by simpa using hs⟩,?_⟩
  have e:=r.length;simp only[acq]at e
  lia
def Inv.tuple(I:Inv X pq σ H s)(h:aU X.K H a xs):∃O:List Value,Vals xs O/\IsTup s.heap a O.toArray/\xs.length<=sizeLine:=by
 rcases h with h|⟨o,O,n,hk,hc,hs,hz,r⟩
 ·obtain⟨z,O,r,p⟩:=h.ok I.hok;exact⟨O,r,p,z⟩
 ·refine⟨O.toList,r,⟨o,I.Fy a o hk,hc,n,by simpa using hs⟩,?_⟩
  have e:=r.length;simp only[acq]at e
  lia
def Inv.rH(I:Inv X pq σ H s)(h:aR X.K H a xs)(h' : aR X.K H a ys):xs=ys:=by
 obtain⟨O,r,⟨o,n,e,_,_,d⟩,_⟩:=I.list h;obtain⟨its',r',⟨o',n',e',_,_,d'⟩,_⟩:=I.list h';rw[e]at e';cases e';rw[d]at d';injection d' with d1 _
 have:O=its':=by simpa using aa4 Array.toList d1
 subst this;exact r.inj r'
def Inv.Am(I:Inv X pq σ H s)(h:aU X.K H a xs)(h' : aU X.K H a ys):xs=ys:=by
 obtain⟨O,r,⟨o,e,_,n,d⟩,_⟩:=I.tuple h;obtain⟨its',r',⟨o',e',_,n',d'⟩,_⟩:=I.tuple h';rw[e]at e';cases e';rw[d]at d';injection d' with d1 _
 have:O=its':=by simpa using aa4 Array.toList d1
 subst this;exact r.inj r'
end
abbrev Cx.xy(X:Cx)(E:dR):Cx:={ X with xe:=E}
abbrev Cx.Fg(X:Cx):Cx:=X.xy λ_ _=>False
def Cx.Ok.xy{X:Cx}(ok:X.Ok)(E:dR):(X.xy E).Ok :=
 ⟨ok.mod,ok.kind,ok.glob,ok.blt,ok.above,ok.inj,ok.has,ok.U6,ok.hd,ok.frames,ok.Ph,ok.Zv,ok.bs,ok.L1,ok.Jy,ok.L3,ok.funs,ok.PK⟩
def Cx.Ok.kG{X:Cx}{E:dR}(ok:(X.xy E).Ok):X.Ok :=
 ⟨ok.mod,ok.kind,ok.glob,ok.blt,ok.above,ok.inj,ok.has,ok.U6,ok.hd,ok.frames,ok.Ph,ok.Zv,ok.bs,ok.L1,ok.Jy,ok.L3,ok.funs,ok.PK⟩
section
variable {X:Cx}{pq:aX}{σ:St}{H:Hp}{s:Shared}{E:dR}
def Inv.xy(I:Inv X pq σ H s)(E:dR):Inv (X.xy E) pq σ H s:=⟨I.ok.xy E,I.os,I.bare,I.base,I.loc,I.cell,I.free,I.gh,I.pin,I.hok,I.len⟩
def Inv.kG(I:Inv (X.xy E) pq σ H s):Inv X pq σ H s:=⟨I.ok.kG,I.os,I.bare,I.base,I.loc,I.cell,I.free,I.gh,I.pin,I.hok,I.len⟩
def SP.kG{D:Ends}{f:Flow}{s' : Shared}(h:SP (X.xy E) pq D f s'):SP X pq D f s':=by
 cases f with
 | next=>obtain⟨σ',H',I,q⟩:=h;exact⟨σ',H',I.kG,q⟩
 | brk=>obtain⟨σ',H',I,q⟩:=h;exact⟨σ',H',I.kG,q⟩
 | cont=>obtain⟨σ',H',I,q⟩:=h;exact⟨σ',H',I.kG,q⟩
 | ret u=>obtain⟨v,σ',H',I,r,q⟩:=h;exact⟨v,σ',H',I.kG,r,q⟩
def zA.Fg{st:List Stmt}{t:TS}(h:zA X.Fg st t):zA X st t:=λpq s σ H D I hw =>
 aa8 (h pq s σ H D (I.xy _) hw) (λ_ _ q=>q.kG) λ_ _ z=>False.elim z
end
section
variable {X:Cx}{st:Stmt}{rest:List Stmt}{t u:TS}{e:Expr}{te:TE}{pos:Pos}
def bg:TS:=λD σ H=>D.nx σ H
def Ends.on(D:Ends)(u:TS):Ends:={ D with nx:=u D}
def ay(t u:TS):TS:=λD σ H=>t (D.on u) σ H
def aY:zA X [] bg:=λ_ _ σ H _ I h=>wpAny_execs_nil ⟨σ,H,I,h⟩
def ai(h1:PS X st t)(h2:zA X rest u):zA X (st::rest) (ay t u):=by
 intro pq s σ H D I h;refine wpAny_execs_cons (dh (h1 pq s σ H { D with nx:=u D} I h) λf s1 q=>?_)
 cases f with
 | next =>
   obtain⟨σ',H',O,q⟩:=q;exact h2 pq s1 σ' H' D O q
 | ret v=>exact q
 | brk=>exact q
 | cont=>exact q
def av(h1:PS X st t):zA X [st] t:=by
 intro pq s σ H D I h;refine wpAny_execs_cons (dh (h1 pq s σ H D I h) λf s1 q=>?_)
 cases f with
 | next=>exact wpAny_execs_nil q
 | ret v=>exact q
 | brk=>exact q
 | cont=>exact q
def Inv.quiet{pq:aX}{σ:St}{H:Hp}{s:Shared}(I:Inv X pq σ H s):interactive X.env=false:=by simp[interactive,I.ok.kind]
def VJ(te:TE):TS:=λD σ H=>te σ H λ_ H1=>D.nx σ H1
def bL(he:PE X e te)(hs:swapsWith e none pos.line X.env=pure false:=by rfl):PS X (.Expr e pos) (VJ te):=by
 intro pq s σ H D I h;exact wpAny_Expr_any (dh (he pq s σ H _ I h) λv s1 ⟨x,H1,O,Y,U⟩=>⟨σ,H1,O,U⟩) I.quiet hs
def ZD(te:TE):TS:=λD σ H=>te σ H D.rt
def aF(he:PE X e te):PS X (.Return (some e) pos) (ZD te):=by
 intro pq s σ H D I h;exact wpAny_Return_some (dh (he pq s σ H _ I h) λv s1 ⟨x,H1,O,U,Y⟩=>⟨x,σ,H1,O,U,Y⟩)
def bF(c:TT)(t u:TS):TS:=λD σ H=>c σ H λb H1=>if b=true then t D σ H1 else u D σ H1
def bW{c:Expr}{a b:List Stmt}{tc:TT}(hc:PT X c tc)(ha:zA X a t)(hb:zA X b u):PS X (.If c a b pos) (bF tc t u):=by
 intro pq s σ H D I h;refine wpAny_If (dh (hc pq s σ H _ I h) λd s1 ⟨H1,O,U⟩=>?_)
 cases d with
 | true=>exact ha pq s1 σ H1 D O U
 | false=>exact hb pq s1 σ H1 D O U
def SM:TS:=λ_ _ _=>False
def fb{sts:List Stmt}:zA X sts SM:=λ_ _ _ _ _ _ h=>h.elim
end
abbrev TG:=V->St->Hp->(St->Hp->Prop)->Prop
abbrev Pj:=List V->St->Hp->(St->Hp->Prop)->Prop
def PG(X:Cx)(target:Expr)(t:TG):Prop :=
 ∀(pq:aX) (s:Shared) (σ:St) (H:Hp) (v:V) (u:Value) (Q:St->Hp->Prop),Inv X pq σ H s->RelV v u->t v σ H Q->
  wpAny (model X.prog X.w) X.A (assign target X.env u) (λ_ s'=>∃σ' H',Inv X pq σ' H' s'/\Q σ' H') X.xe s
def U7(X:Cx)(ts:List Expr)(t:Pj):Prop :=
 ∀(pq:aX) (s:Shared) (σ:St) (H:Hp) (vs:List V) (us:List Value) (Q:St->Hp->Prop),Inv X pq σ H s->Vals vs us->t vs σ H Q->
  wpAny (model X.prog X.w) X.A (assignInOrder ((assignEach ts X.env).map (·.2)) us) (λ_ s'=>∃σ' H',Inv X pq σ' H' s'/\Q σ' H') X.xe s
abbrev L6:=V->V->V->Hp->(Hp->Prop)->Prop
def SN(X:Cx)(t:L6):Prop :=
 ∀(pq:aX) (s:Shared) (σ:St) (H:Hp) (o i v:V) (I O u:Value) (Q:Hp->Prop),Inv X pq σ H s->RelV o I->RelV i O->RelV v u->t o i v H Q->
  wpAny (model X.prog X.w) X.A (setItem I O u) (λ_ s'=>∃H',Inv X pq σ H' s'/\Q H') X.xe s
abbrev VL:=V->V->Hp->VK->Prop
def PIp(X:Cx)(op:Operator)(t:VL):Prop :=
 ∀(pq:aX) (s:Shared) (σ:St) (H:Hp) (x y:V) (v u:Value) (Q:VK),Inv X pq σ H s->RelV x v->RelV y u->t x y H Q->
  wpAny (model X.prog X.w) X.A (inplaceOp op v u) (EP X pq σ Q) X.xe s
section
variable {X:Cx}{pos:Pos}
def L7(i:Nat):TG:=λv σ H Q=>Q (σ.set i (some v)) H
def wR{i:Nat}{x:Str}(hN:X.N.Nodup)(hi:X.N[i]?=some x)(hx:Loc X.env.scope x)(hf:X.fn x=true\/X.env.scope.names.lookup x=some .local:=by first | exact .inl rfl | exact .inr rfl | assumption):PG X (.Name x pos) (L7 i):=by
 intro pq s σ H v u Q I r h;exact wpAny_assign_Name (rG I hN hi hx r (λs' O=>⟨_,H,O,h⟩) hf)
def ZE:Pj:=λvs σ H Q=>vs=[]/\Q σ H
def VM(t:TG)(u:Pj):Pj:=λvs σ H Q=>∃v r,vs=v::r/\t v σ H λσ' H'=>u r σ' H' Q
def c8:U7 X [] ZE:=by
 intro pq s σ H vs us Q I r h;obtain⟨e,h⟩:=h;subst e;cases r;exact assignInOrder_nil ⟨σ,H,I,h⟩
def aL{e:Expr}{es:List Expr}{t:TG}{u:Pj}(h1:PG X e t)(h2:U7 X es u)
 (hs:(assignEach (e::es) X.env).map (·.2)=assign e X.env::(assignEach es X.env).map (·.2):=by rfl):U7 X (e::es) (VM t u):=by
 intro pq s σ H vs us Q I r h;obtain⟨v,vr,O,h⟩:=h;subst O;cases r with
 | cons r U =>
   rw[hs];refine assignInOrder_cons (dh (h1 pq s σ H _ _ _ I r h) λ_ s1 ⟨σ1,H1,Y,Z⟩=>?_)
   exact h2 pq s1 σ1 H1 _ _ Q Y U Z
def VN(K:bJ)(n:Nat)(t:Pj):TG:=λv σ H Q=>∃a xs,v = .ref a/\aU K H a xs/\xs.length=n/\t xs σ H Q
def SO{es:List Expr}{k:Nat}{t:Pj}{n:Nat}(hc:X.calm=true)(h:U7 X es t)
 (hn:(assignEach es X.env).length=n:=by rfl) (hst:(assignEach es X.env).findIdx? (·.1)=none:=by rfl):PG X (.Tuple es k pos) (VN X.K n t):=by
 intro pq s σ H v u Q I r hw;obtain⟨a,xs,O,U,Y,hw⟩:=hw;subst O;cases r;obtain⟨its,rv,ht,hz⟩:=I.tuple U;refine assign_Tuple_tuple (I.ok.hd hc) ht (by simp[hn,<-Y,rv.length]) hst λh' hx=>?_
 have Z:Inv X pq σ H { s with heap:=h'}:=I.kept (t':=s.toks) λb o e=>hx b o (aaP (aax e)) e
 exact h pq _ σ H xs _ Q Z (by simpa using rv) hw
def ZF(to ti:TE)(t:L6):TG:=λv σ H Q=>to σ H λo H1=>ti σ H1 λi H2=>t o i v H2 λH3=>Q σ H3
def SQ{o i:Expr}{to ti:TE}{t:L6}(ho:PE X o to)(hi:PE X i ti)(hs:SN X t)
 (ha:∀v,assign (.Subscript o i pos) X.env v=(do
  let O←holding [v] (eval o X.env)
  let U←holding [v,O] (eval i X.env)
  standAt pos
  holding [v,O,U] (setItem O U v)
  release [v,O,U] []):=by intro _;rfl):PG X (.Subscript o i pos) (ZF to ti t):=by
 intro pq s σ H v u Q I r h;rw[ha];refine aV (abg (dh (ho pq s σ H _ I h) λO s1 ⟨x,H1,Y,Z,q1⟩=>?_))
 refine aV (abg (dh (hi pq s1 σ H1 _ Y q1) λU s2 ⟨y,H2,I2,r2,q2⟩=>?_))
 refine aV (wpAny_standAt (aV (abg (dh (hs pq s2 σ H2 x y v O U u _ I2 Z r2 r q2) λ_ s3 ⟨H3,I3,q3⟩=>?_))))
 exact wpAny_release ⟨σ,H3,I3,q3⟩
def VO(te:TE)(g:TG):TS:=λD σ H=>te σ H λx H1=>g x σ H1 D.nx
def L8{tg e:Expr}{te:TE}{g:TG}(he:PE X e te)(hg:PG X tg g)(hs:swapsWithSole [tg] e pos.line X.env=pure false:=by rfl)(hw:swappedStores [tg] e X.env=pure none:=by rfl)
 (h1:(assignEach [tg] X.env).map (·.2)=[assign tg X.env]:=by rfl):PS X (.Assign [tg] e pos) (VO te g):=by
 intro pq s σ H D I h;refine wpAny_Assign_stores (dh (he pq s σ H _ I h) λv s1 ⟨x,H1,O,U,Y⟩=>?_) hs hw
 rw[h1];exact dh (hg pq s1 σ H1 x v _ O U Y) λ_ s2 q=>q
def aN{i:Nat}{x:Str}{e:Expr}{te:TE}{pos' : Pos}(hN:X.N.Nodup)(hi:X.N[i]?=some x)(hx:Loc X.env.scope x)(he:PE X e te)(hs:swapsWith e (some (.Name x pos')) pos.line X.env=pure false:=by rfl)(hf:X.fn x=true\/X.env.scope.names.lookup x=some .local:=by first | exact .inl rfl | exact .inr rfl | assumption):
 PS X (.Assign [.Name x pos'] e pos) (VO te (L7 i)):=by
 intro pq s σ H D I h;refine wpAny_Assign_Name (dh (he pq s σ H _ I h) λv s1 ⟨y,H1,O,U,Y⟩=>?_) hs
 exact rG O hN hi hx U (λs2 Z=>⟨_,H1,Z,Y⟩) hf
def ZG(i:Nat)(te:TE)(ti:VL):TS:=λD σ H=>∃x,σ[i]?=some (some x)/\te σ H λy H1=>ti x y H1 λz H2=>D.nx (σ.set i (some z)) H2
def Bo{i:Nat}{x:Str}{e:Expr}{te:TE}{op:Operator}{ti:VL}{pos' : Pos}(hN:X.N.Nodup)(hi:X.N[i]?=some x)(hx:Loc X.env.scope x)(he:PE X e te)(ho:PIp X op ti)(hf:X.fn x=true\/X.env.scope.names.lookup x=some .local:=by first | exact .inl rfl | exact .inr rfl | assumption):
 PS X (.AugAssign (.Name x pos') op e pos) (ZG i te ti):=by
 intro pq s σ H D I h;obtain⟨v,Y,h⟩:=h;obtain⟨m,hn,hl⟩:=I.loc;have U:Yw X.env.scope x:=by rcases hx with k | k;exact .inl k;exact .inr (.inl k)
 obtain⟨u,r,l⟩:=hl i x v hi Y U;refine wpAny_AugAssign_Name ?_;have go:wpAny (model X.prog X.w) X.A (eval e X.env) (λw Z=>wpAny (model X.prog X.w) X.A (inplaceOp op u w) (λr s₃=>wpAny (model X.prog X.w) X.A (storeName X.env x r) (λ_=>SP X pq D .next) X.xe s₃) X.xe Z) X.xe s:=by
  refine dh (he pq s σ H _ I h) λw s1 ⟨y,H1,I1,r1,q1⟩=>?_
  refine dh (ho pq s1 σ H1 v y u w _ I1 r r1 q1) λz s2 ⟨zv,H2,I2,r2,q2⟩=>?_
  exact rG I2 hN hi hx r2 (λs3 I3=>⟨_,H2,I3,q2⟩) hf
 rcases l with⟨hk,hm⟩|⟨hk,c,hc,O⟩
 ·exact wpAny_loadName_local I.ok.kind hk hn hm go
 ·rcases hk with hk|hk
  ·exact wpAny_loadName_cell I.ok.kind hk hc O go
  ·rcases hx with k|k
   ·have:X.env.scope.names.lookup x=some .free:=hk;rw[k]at this;cases this
   ·have:X.env.scope.names.lookup x=some .free:=hk;rw[k]at this;cases this
def VP(to ti te:TE)(PM:V->V->Hp->VK->Prop)(YA:VL)(PN:L6):TS:=λD σ H=>to σ H λo H1=>ti σ H1 λi H2=>PM o i H2 λx H3=>te σ H3 λy H4=>YA x y H4 λz I=>PN o i z I λO=>D.nx σ O
def VQ(X:Cx)(t:V->V->Hp->VK->Prop):Prop :=
 ∀(pq:aX) (s:Shared) (σ:St) (H:Hp) (o i:V) (I O:Value) (Q:VK),Inv X pq σ H s->RelV o I->RelV i O->t o i H Q->
  wpAny (model X.prog X.w) X.A (getItem I O) (EP X pq σ Q) X.xe s
def Ij{o i e:Expr}{to ti te:TE}{PM:V->V->Hp->VK->Prop}{YA:VL}{PN:L6}{op:Operator}{tpos:Pos}(ho:PE X o to)(hi:PE X i ti)(hg:VQ X PM)(he:PE X e te)(hp:PIp X op YA)(hs:SN X PN)
 (ha:∀O U new,augStore i O U new=(do holding [new,O,U] (setItem O U new);release [new,O,U] [];pure .next):=by intros;rfl):PS X (.AugAssign (.Subscript o i tpos) op e pos) (VP to ti te PM YA PN):=by
 intro pq s σ H D I h;refine wpAny_AugAssign_SubscriptAny (dh (ho pq s σ H _ I h) λO s1 ⟨Y,H1,I1,Z,q1⟩=>?_) ha
 refine dh (hi pq s1 σ H1 _ I1 q1) λU s2 ⟨x2,H2,I2,r2,q2⟩=>?_
 refine dh (hg pq s2 σ H2 Y x2 O U _ I2 Z r2 q2) λold s3 ⟨x3,H3,I3,r3,q3⟩=>?_
 refine dh (he pq s3 σ H3 _ I3 q3) λv s4 ⟨x4,H4,I4,r4,q4⟩=>?_
 refine dh (hp pq s4 σ H4 x3 x4 old v _ I4 r3 r4 q4) λnew s5 ⟨x5,H5,I5,r5,q5⟩=>?_
 exact dh (hs pq s5 σ H5 Y x2 x5 O U new _ I5 Z r2 r5 q5) λ_ s6 ⟨H6,I6,q6⟩=>⟨σ,H6,I6,q6⟩
def xA(c:TT)(tb:TS):TS:=λD σ H=>∃W:Nat->St->Hp->Prop,(∃m,W m σ H)/\∀m σ H,W m σ H->
 c σ H λb H1=>if b=true then ∃N:St->Hp->Prop,(∀σ' H',N σ' H'->∃m',m'<m/\W m' σ' H')/\tb { D with nx:=N,ct:=N,bk:=D.nx} σ H1 else D.nx σ H1
def C6{c:Expr}{body:List Stmt}{tc:TT}{tb:TS}(hp:PassesOwn (model X.prog X.w) X.A X.env X.xe)(hc:PT X c tc)(hb:zA X body tb):PS X (.While c body [] pos) (xA tc tb):=by
 intro pq s σ H D I h;obtain⟨W,⟨m0,w0⟩,turn⟩:=h;refine wpAny_While (codeAny_whileLoop (λn s'=>∃σ' H',Inv X pq σ' H' s'/\W n σ' H') ?_ m0 ⟨σ,H,I,w0⟩)
 rintro n s1 ⟨σ1,H1,I1,w1⟩;refine wpAny_passesOwn hp (dh (hc pq s1 σ1 H1 _ I1 (turn n σ1 H1 w1)) λb s2 ⟨H2,I2,O⟩=>?_)
 cases b with
 | true =>
   obtain⟨N,hN,O⟩:=O;rw[aai rfl];refine wpAny_passesOwn hp (dh (hb pq s2 σ1 H2 _ I2 O) λf s3 U=>?_)
   cases f with
   | next =>
     obtain⟨σ3,H3,Y,Z⟩:=U;obtain⟨m',hm,w3⟩:=hN σ3 H3 Z;exact⟨m',hm,σ3,H3,Y,w3⟩
   | cont =>
     obtain⟨σ3,H3,Y,Z⟩:=U;obtain⟨m',hm,w3⟩:=hN σ3 H3 Z;exact⟨m',hm,σ3,H3,Y,w3⟩
   | brk=>exact U
   | ret v=>exact U
 | false =>
   rw[aaf aav];exact wpAny_execs_nil ⟨σ1,H2,I2,O⟩
end
structure It where
 go:Nat->Hp->Prop
 Ma:Nat->Hp->V->Hp->Prop
 stop:Nat->Hp->Prop
def qL(X:Cx)(pq:aX)(H:Hp)(b:Addr):Prop :=
 H b=none/\b≠X.env.locals/\b∉X.fs/\(b∈X.ex\/X.s₀.heap.objs.size<=b)/\(∀x c,X.env.cells.lookup x=some c->c≠b)/\∀p∈X.pn++pq,p.1≠b
def Inv.Fz{X:Cx}{pq:aX}{σ:St}{H H' : Hp}{s:Shared}{b:Addr}(I:Inv X pq σ H s)(hb:s.heap.objs.size<=b)(hn:H' b=none):qL X pq H' b:=by
 refine⟨hn,abX (aaL I.lt hb),I.VE hb,.inr (aa0 I.sz hb),λx c e z=>?_,λp O z=>?_⟩
 ·obtain⟨v,q⟩:=I.cell x c e;exact absurd (aaL q.lt (by rw[z];exact hb)) (abN _)
 ·exact absurd (aaL (aax (I.pin p O).1) (by rw[z];exact hb)) (abN _)
structure Turn(P:Program)(w:World)(K:bJ)(tg:Expr)(J:It)(fp:List Addr)(it:Addr)(tn:Nat->Heap->Prop):Prop where
 mem:it∈fp
 obj:∀i h,tn i h->∀b∈fp,∃o,h.get? b=some o/\∀v,o.data≠.cell v
 keep:∀i h h',tn i h->(∀b∈fp,∀o,h.get? b=some o->h'.get? b=some o)->tn i h'
 item:∀(X:Cx),X.prog=P->X.w=w->X.K=K->X.calm=true->∀(i:Nat) (pq:aX) (s:Shared) (σ:St) (H:Hp) (E:dR),Inv X pq σ H s->(∀b∈fp,qL X pq H b)->tn i s.heap->J.go i H->
  wpAny (model P w) X.A (pyNext (.ref it)) (λr s1=>∃u,r=some u/\
   wpAny (model P w) X.A (letOwnedTupleGo tg (.ref it) u) (λ_ s2=>∃x H',Inv X pq σ H' s2/\RelV x u/\J.Ma i H x H'/\tn (i+1) s2.heap/\∀b∈fp,H' b=none) E s1) E s
 done:∀(X:Cx),X.prog=P->X.w=w->X.K=K->X.calm=true->∀(i:Nat) (pq:aX) (s:Shared) (σ:St) (H:Hp) (E:dR),Inv X pq σ H s->(∀b∈fp,qL X pq H b)->tn i s.heap->J.stop i H->
  wpAny (model P w) X.A (pyNext (.ref it)) (λr s1=>r=none/\Inv X pq σ H s1) E s
 self:∀(A:Around) (i:Nat) (s:Shared) (Q:dR) (E:dR),tn i s.heap->Q (.ref it) s->wpAny (model P w) A (pyIter (.ref it)) Q E s
abbrev TI:=St->Hp->(It->Hp->Prop)->Prop
def PIE(X:Cx)(pq:aX)(σ:St)(tg:Expr)(R:It->Hp->Prop)(itv:Value)(s2:Shared):Prop :=
 ∃(it:Addr) (fp:List Addr) (tn:Nat->Heap->Prop) (J:It) (H' : Hp),itv = .ref it/\Inv X pq σ H' s2/\Turn X.prog X.w X.K tg J fp it tn/\tn 0 s2.heap/\(∀b∈fp,qL X pq H' b)/\R J H'
def PI(X:Cx)(tg iter:Expr)(wi:TI):Prop :=
 ∀(pq:aX) (s:Shared) (σ:St) (H:Hp) (R:It->Hp->Prop),Inv X pq σ H s->wi σ H R->
  wpAny (model X.prog X.w) X.A (eval iter X.env) (λv s1=>wpAny (model X.prog X.w) X.A (pyIter v) (PIE X pq σ tg R) X.xe s1) X.xe s
def Mb{M:Model}{A:Around}{E:dR}{s:Shared}{tg:Expr}{it:Addr}{u:Value}{o:Obj}{n:String}{vs:Array Value}{Q:Unit->Shared->Prop}(ho:s.heap.get? it=some o)(hc:o.cls = .type n)(hd:o.data = .fields vs)
 (hn:["enumerate","zip","dict_itemiterator","dict_reverseitemiterator","odict_iterator","itertools.zip_longest","itertools.pairwise"].contains n=false) (hQ:Q () s):wpAny M A (letOwnedTupleGo tg (.ref it) u) Q E s:=by
 unfold letOwnedTupleGo;cases tg<;>first
  | exact aaq hQ
  | (cases u<;>first
   | exact aaq hQ
   | (refine aV (wpAny_load ho ?_)
      rw[hc,hd];show wpAny M A (if(["enumerate","zip","dict_itemiterator","dict_reverseitemiterator","odict_iterator","itertools.zip_longest","itertools.pairwise"].contains n&&vs[0]? == some (rawInt _))=true then _ else _) Q E s
      rw[aaf (by intro h;rw[hn,adg]at h;cases h)]
      exact aaq hQ))
def PR(K:bJ)(a:Addr):It :=
 ⟨λi H=>∃xs x,aR K H a xs/\xs[i]?=some x,λi H x H'=>H' = H/\∀xs,aR K H a xs->xs[i]?=some x,λi H=>∃xs,aR K H a xs/\xs.length<=i⟩
def U8(K:bJ)(a:Addr):It :=
 ⟨λi H=>∃xs x,aU K H a xs/\xs[i]?=some x,λi H x H'=>H' = H/\∀xs,aU K H a xs->xs[i]?=some x,λi H=>∃xs,aU K H a xs/\xs.length<=i⟩
def Pk(lo:Int)(n:Nat):It:=⟨λi _=>i<n,λi H x H'=>H' = H/\x = .int (lo+i),λi _=>n<=i⟩
def JA{P:Program}{w:World}{K:bJ}{tg:Expr}(a it:Addr):Turn P w K tg (PR K a) [it] it (λi h=>h.IsListIter it a i) where
 mem:=by simp
 obj:=λi h st b hb=>by
  have e:b=it:=by simpa using hb
  subst e;obtain⟨o,e,c,d⟩:=st;exact⟨o,e,λv z=>by rw[d]at z;cases z⟩
 keep:=λi h h' st k=>st.at λo e=>k it (by simp) o e
 item:=by
  intro X Y hw Z hc i pq s σ H E I hf st hg;subst Y hw Z;obtain⟨xs,x,U,hx⟩:=hg;obtain⟨its,rv,p,hz⟩:=I.list U;obtain⟨u,hu,ru⟩:=rv.get hx;obtain⟨f0,f1,f2,f3,f4,f5⟩:=hf it (by simp)
  refine wpAny_pyNext_list_item st p.isList (x:=u) (by simpa using hu) λh' O sb=>?_
  have I1:Inv X pq σ H { s with heap:=h'}:=I.turned (t':=s.toks) (λb o hb e=>(sb.2 b hb).trans e) f0 f1 f3 f4 f5
  obtain⟨o,e,c,d⟩:=id O;exact⟨u,rfl,Mb (s:={ s with heap:=h'}) e c d (by decide) ⟨x,H,I1,ru,⟨rfl,λys hy=>by rw[I.rH hy U];exact hx⟩,O,λb hb=>(hf b hb).1⟩⟩
 done:=by
  intro X Y hw Z hc i pq s σ H E I hf st hg;subst Y hw Z;obtain⟨xs,U,hx⟩:=hg;obtain⟨its,rv,p,hz⟩:=I.list U;obtain⟨f0,f1,f2,f3,f4,f5⟩:=hf it (by simp)
  have hl:=rv.length;exact wpAny_pyNext_list_end (I.ok.hd hc) st p.isList (by simp;lia) λh' eb=>⟨rfl,I.turned (t':=s.toks) (λb o hb e=>eb b o hb e) f0 f1 f3 f4 f5⟩
 self:=λ_ _ _ _ _ st h=>wpAny_pyIter_listiter st h
def FA{P:Program}{w:World}{K:bJ}{tg:Expr}(a it:Addr):Turn P w K tg (U8 K a) [it] it (λi h=>h.IsTupleIter it a i) where
 mem:=by simp
 obj:=λi h st b hb=>by
  have e:b=it:=by simpa using hb
  subst e;obtain⟨o,e,c,d⟩:=st;exact⟨o,e,λv z=>by rw[d]at z;cases z⟩
 keep:=λi h h' st k=>st.at λo e=>k it (by simp) o e
 item:=by
  intro X Y hw Z hc i pq s σ H E I hf st hg;subst Y hw Z;obtain⟨xs,x,U,hx⟩:=hg;obtain⟨its,rv,p,hz⟩:=I.tuple U;obtain⟨u,hu,ru⟩:=rv.get hx;obtain⟨f0,f1,f2,f3,f4,f5⟩:=hf it (by simp)
  refine wpAny_pyNext_tuple_item st (show s.heap.IsTuple a its.toArray from p) (x:=u) (by simpa using hu) λh' O sb=>?_
  have I1:Inv X pq σ H { s with heap:=h'}:=I.turned (t':=s.toks) (λb o hb e=>(sb.2 b hb).trans e) f0 f1 f3 f4 f5
  obtain⟨o,e,c,d⟩:=id O;exact⟨u,rfl,Mb (s:={ s with heap:=h'}) e c d (by decide) ⟨x,H,I1,ru,⟨rfl,λys hy=>by rw[I.Am hy U];exact hx⟩,O,λb hb=>(hf b hb).1⟩⟩
 done:=by
  intro X Y hw Z hc i pq s σ H E I hf st hg;subst Y hw Z;obtain⟨xs,U,hx⟩:=hg;obtain⟨its,rv,p,hz⟩:=I.tuple U;obtain⟨f0,f1,f2,f3,f4,f5⟩:=hf it (by simp)
  have hl:=rv.length;exact wpAny_pyNext_tuple_end (I.ok.hd hc) st (show s.heap.IsTuple a its.toArray from p) (by simp;lia) λh' eb=>⟨rfl,I.turned (t':=s.toks) (λb o hb e=>eb b o hb e) f0 f1 f3 f4 f5⟩
 self:=λ_ _ _ _ _ st h=>wpAny_pyIter_tupleiter st h
def FD{P:Program}{w:World}{K:bJ}{tg:Expr}(it:Addr)(lo:Int)(n:Nat):Turn P w K tg (Pk lo n) [it] it (λi h=>IsRangeIter h it (lo+(i:Nat)*1) ((n:Int)-(i:Nat)) 1) where
 mem:=by simp
 obj:=λi h st b hb=>by
  have e:b=it:=by simpa using hb
  subst e;exact⟨_,st,λv z=>by
   have z' : Data.fields _=Data.cell v:=z;cases z'⟩
 keep:=λi h h' st k=>k it (by simp) _ st
 item:=by
  intro X U hw Y hc i pq s σ H E I hf st Z;subst U hw Y;obtain⟨f0,f1,f2,f3,f4,f5⟩:=hf it (by simp)
  have W:=Walks.range (prog:=X.prog) (w:=X.w) (I.ok.hd hc) it lo 1 n;refine W.item i s _ _ Z st λv h' tk hv O kk=>?_
  obtain⟨t,rfl⟩:=hv;have I1:Inv X pq σ H { s with heap:=h',toks:=tk}:=I.turned (λb o hb e=>kk b o (by simpa using hb) e) f0 f1 f3 f4 f5
  refine⟨_,rfl,Mb (s:={ s with heap:=h',toks:=tk}) (n:="range_iterator") O rfl rfl (by decide) ⟨.int (lo+i),H,I1,⟨t,?_⟩,⟨rfl,rfl⟩,O,λb hb=>(hf b hb).1⟩⟩
  rw[Int.mul_one]
 done:=by
  intro X U hw Y hc i pq s σ H E I hf st Z;subst U hw Y;obtain⟨f0,f1,f2,f3,f4,f5⟩:=hf it (by simp)
  exact wpAny_pyNext_range_end (I.ok.hd hc) st (by have:n<=i:=Z;lia) λh' eb=>⟨rfl,I.turned (t':=s.toks) (λb o hb e=>eb b o hb e) f0 f1 f3 f4 f5⟩
 self:=λ_ _ _ _ _ st h=>wpAny_pyIter_rangeiter st h
section
variable {X:Cx}{tg:Expr}
def Ik(K:bJ)(tl:TE):TI:=λσ H R=>tl σ H λx H1=>∃a,x = .ref a/\(∃xs,aR K H1 a xs)/\R (PR K a) H1
def PU(K:bJ)(tl:TE):TI:=λσ H R=>tl σ H λx H1=>∃a,x = .ref a/\(∃xs,aU K H1 a xs)/\R (U8 K a) H1
def Il{l:Expr}{tl:TE}(hl:PE X l tl):PI X tg l (Ik X.K tl):=by
 intro pq s σ H R I h;refine dh (hl pq s σ H _ I h) λv s1 ⟨x,H1,O,U,Y⟩=>?_
 obtain⟨a,e,⟨xs,Z⟩,q⟩:=Y;subst e;cases U;obtain⟨its,rv,p,hz⟩:=O.list Z;refine wpAny_pyIter_list p.isList ?_;refine⟨s1.heap.objs.size,[s1.heap.objs.size],_,_,H1,rfl,O.kept (t':=s1.toks) λb o e=>aao _ e,JA a _,⟨_,aaN _ rfl,rfl,rfl⟩,λb hb=>?_,q⟩
 have e:b=s1.heap.objs.size:=by simpa using hb
 subst e;exact O.Fz (aam _) (O.hok.fresh (aam _))
def Mc{l:Expr}{tl:TE}(hl:PE X l tl):PI X tg l (PU X.K tl):=by
 intro pq s σ H R I h;refine dh (hl pq s σ H _ I h) λv s1 ⟨x,H1,O,U,Y⟩=>?_
 obtain⟨a,e,⟨xs,Z⟩,q⟩:=Y;subst e;cases U;obtain⟨its,rv,p,hz⟩:=O.tuple Z;refine wpAny_pyIter_tuple (show s1.heap.IsTuple a its.toArray from p) ?_
 refine⟨s1.heap.objs.size,[s1.heap.objs.size],_,_,H1,rfl,O.kept (t':=s1.toks) λb o e=>aao _ e,FA a _,⟨_,aaN _ rfl,rfl,rfl⟩,λb hb=>?_,q⟩
 have e:b=s1.heap.objs.size:=by simpa using hb
 subst e;exact O.Fz (aam _) (O.hok.fresh (aam _))
def Me{pq:aX}{σ:St}{H:Hp}{s:Shared}{R:It->Hp->Prop}{E:dR}{lo hi:Int}{t u v:Tok}{tk:Nat}(I:Inv X pq σ H s)(h1 : -(2^62)<=lo)(h2:lo<2^62)(h3 : -(2^62)<=hi)(h4:hi<2^62)
 (q:R (Pk lo (hi-lo).toNat) H):wpAny (model X.prog X.w) X.A (pyIter (.ref s.heap.objs.size)) (PIE X pq σ tg R) E { s with heap:=s.heap.push { cls:=.type "range",data:=.fields #[.int lo t,.int hi u,.int 1 v]},toks:=tk}:=by
 refine wpAny_pyIter_range (IsRange.new ..) (small_one h1 h2 h3 h4) ?_;have O:Inv X pq σ H { s with heap:=s.heap.push { cls:=.type "range",data:=.fields #[.int lo t,.int hi u,.int 1 v]},toks:=tk}:=I.kept λb o e=>aao _ e
 refine⟨(s.heap.push { cls:=.type "range",data:=.fields #[.int lo t,.int hi u,.int 1 v]}).objs.size,[(s.heap.push { cls:=.type "range",data:=.fields #[.int lo t,.int hi u,.int 1 v]}).objs.size],_,_,H,rfl,
  O.kept (t':=tk) λb o e=>aao _ e,FD _ lo (hi-lo).toNat,?_,λb hb=>?_,q⟩
 ·have U:lo+((0:Nat):Int)*1=lo:=by simp
  have Y:(((hi-lo).toNat:Nat):Int)-((0:Nat):Int)=Builtin.Range.rangeSize lo hi 1:=by rw[rangeSize_one];split<;>lia
  show IsRangeIter _ _ (lo+((0:Nat):Int)*1) ((((hi-lo).toNat:Nat):Int)-((0:Nat):Int)) 1;rw[U,Y];exact aaN _ rfl
 ·have e:b=(s.heap.push { cls:=.type "range",data:=.fields #[.int lo t,.int hi u,.int 1 v]}).objs.size:=by simpa using hb
  subst e;exact O.Fz (aam _) (O.hok.fresh (aam _))
def VR(ta:TA):TI:=λσ H R=>ta σ H λvs H1=>∃j:Int,vs=[.int j]/\-(2^62)<=j/\j<2^62/\R (Pk 0 j.toNat) H1
def cu{a:Expr}{ta:TA}{p pos:Pos}(hg:Gl X "range")(hm:X.mg "range"=none)(ha:PA X [a] ta)(hs:starEach [a] X.env=[(false,eval a X.env)]:=by rfl):PI X tg (.Call (.Name "range" p) [a] [] pos) (VR ta):=by
 intro pq s σ H R I h;refine Call_ (om I hg hm boot_range (ab4 (dh (ha pos pq s σ H _ I h) λus s1 ⟨vs,H1,U,Y,O⟩=>?_) hs rfl))
 obtain⟨j,e,O,Z,q⟩:=O;subst e;cases Y with
 | cons r rr =>
   cases rr;obtain⟨t,rfl⟩:=r;exact call_range_1 (Me U (by lia) (by lia) O Z (by simpa using q))
def eI(wi:TI)(g:TG)(tb:TS):TS:=λD σ H=>wi σ H λJ H1=>∃W:Nat->Nat->St->Hp->Prop,(∃m,W 0 m σ H1)/\∀i m σ H,W i m σ H->
 (J.stop i H/\D.nx σ H)\/(J.go i H/\∃N:St->Hp->Prop,(∀σ' H',N σ' H'->∃m',m'<m/\W (i+1) m' σ' H')/\∀x H',J.Ma i H x H'->g x σ H' λσ2 H2=>tb { D with nx:=N,ct:=N,bk:=D.nx} σ2 H2)
def tY(fp:List Addr)(h:Heap):aX:=fp.filterMap λb=>(h.get? b).map λo=>(b,o)
def iG{fp:List Addr}{h:Heap}{b:Addr}{o:Obj}(hb:b∈fp)(e:h.get? b=some o):(b,o)∈tY fp h:=acf.mpr ⟨b,hb,by rw[e];rfl⟩
def JB{fp:List Addr}{h:Heap}{p:Addr×Obj}(hp:p∈tY fp h):p.1∈fp/\h.get? p.1=some p.2:=by
 obtain⟨b,hb,e⟩:=acf.mp hp;cases q:h.get? b with
 | none=>rw[q]at e;cases e
 | some o =>
   rw[q]at e;have e' : (b,o)=p:=Option.some.inj e;subst e';exact⟨hb,q⟩
def Inv.pinned{pq:aX}{σ:St}{H:Hp}{s:Shared}{fp:List Addr}(I:Inv X pq σ H s)(hf:∀b∈fp,qL X pq H b)(ho:∀b∈fp,∃o,s.heap.get? b=some o/\∀v,o.data≠.cell v):Inv X (pq++tY fp s.heap) σ H s :=
 I.ia λp O=>(aa9.mp O).elim (λz=>I.pin p (jY _ z)) λz=>by
  obtain⟨hb,e⟩:=JB z;obtain⟨f0,f1,f2,_⟩:=hf p.1 hb;obtain⟨o,e',d⟩:=ho p.1 hb;rw[e]at e';cases e';exact⟨e,f0,f1,f2,d⟩
def Inv.kH{pq pl:aX}{σ:St}{H:Hp}{s:Shared}(I:Inv X (pq++pl) σ H s):Inv X pq σ H s:=I.ia λp O=>I.pin p (jY _ (adH _ O))
def fH{iter:Expr}{body:List Stmt}{wi:TI}{g:TG}{tb:TS}{pos:Pos}(hp:PassesOwn (model X.prog X.w) X.A X.env X.xe)(hc:X.calm=true)(hi:PI X tg iter wi)(hg:PG X tg g)(hb:zA X body tb)
 (hs:∀x,foldedSetIterable iter X.env x=pure x:=by intro _;rfl):PS X (.For tg iter body [] pos) (eI wi g tb):=by
 intro pq s σ H D I h;refine wpAny_For (dh (hi pq s σ H _ I h) λv s1 h1=>dh h1 λag s2 h2=>?_) hs
 obtain⟨it,fp,tn,J,H2,e,I2,T,ab,f2,W,⟨m0,w0⟩,turn⟩:=h2;subst e;have FE:∀{H' : Hp},(∀b∈fp,H' b=none)->∀b∈fp,qL X pq H' b:=λhn b hb=>⟨hn b hb,(f2 b hb).2⟩
 refine codeAny_forLoop_any (λn s'=>∃i σ' H',Inv X pq σ' H' s'/\tn i s'.heap/\(∀b∈fp,H' b=none)/\W i n σ' H') ?_ m0 ⟨0,σ,H2,I2,ab,λb hb=>(f2 b hb).1,w0⟩
 rintro n s3 ⟨i,σ3,H3,I3,Z,RC,w3⟩;rcases turn i n σ3 H3 w3 with⟨stop,qn⟩|⟨go,N,hN,step⟩
 ·refine wpAny_passesOwn hp (dh (T.done X rfl rfl rfl hc i pq s3 σ3 H3 X.xe I3 (FE RC) Z stop) λr s4 ⟨hr,I4⟩=>?_)
  subst hr;exact wpAny_execs_nil ⟨σ3,H3,I4,qn⟩
 ·refine wpAny_passesOwn hp (dh (T.item X rfl rfl rfl hc i pq s3 σ3 H3 X.xe I3 (FE RC) Z go) λr s4 ⟨u,hr,h4⟩=>?_)
  subst hr;refine wpAny_passesOwn hp (dh h4 λ_ s5 ⟨x,H5,I5,r5,y5,Mf,VS⟩=>?_)
  have VT:=I5.pinned (FE VS) (T.obj _ _ Mf);refine wpAny_passesOwn hp (dh (hg _ s5 σ3 H5 x u _ VT r5 (step x H5 y5)) λ_ s6 ⟨σ6,H6,I6,q6⟩=>?_)
  refine wpAny_passesOwn hp (dh (hb _ s6 σ6 H6 _ I6 q6) λf s7 Y=>?_)
  have again:∀{σ7:St} {O:Hp},Inv X (pq++tY fp s5.heap) σ7 O s7->N σ7 O->∃m,m<n/\∃i σ' H',Inv X pq σ' H' s7/\tn i s7.heap/\(∀b∈fp,H' b=none)/\W i m σ' H':=λ{σ7 O} U n7=>by
   obtain⟨m',hm,w7⟩:=hN σ7 O n7;refine⟨m',hm,i+1,σ7,O,U.kH,T.keep _ _ _ Mf λb hb o e=>(U.pin (b,o) (jY _ (jY _ (iG hb e)))).1,λb hb=>?_,w7⟩
   obtain⟨o,e,d⟩:=T.obj _ _ Mf b hb;exact(U.pin (b,o) (jY _ (jY _ (iG hb e)))).2.1
  cases f with
  | next=>obtain⟨σ7,O,U,n7⟩:=Y;exact again U n7
  | cont=>obtain⟨σ7,O,U,n7⟩:=Y;exact again U n7
  | brk=>obtain⟨σ7,O,U,Y⟩:=Y;exact⟨σ7,O,U.kH,Y⟩
  | ret v=>obtain⟨x7,σ7,O,U,r7,Y⟩:=Y;exact⟨x7,σ7,O,U.kH,r7,Y⟩
end
def rJ{K:bJ}{a:Addr}{xs:List V}{g:TG}{tb:TS}{D:Ends}{σ:St}{H:Hp}(Pv:Nat->St->Hp->Prop)(h0:Pv 0 σ H)(hl:∀i σ H,i<=xs.length->Pv i σ H->aR K H a xs)
 (hs:∀i x σ H,xs[i]?=some x->Pv i σ H->g x σ H λσ2 H2=>tb { D with nx:=Pv (i+1),ct:=Pv (i+1),bk:=D.nx} σ2 H2) (hd:∀σ H,Pv xs.length σ H->D.nx σ H) :
 ∃W:Nat->Nat->St->Hp->Prop,(∃m,W 0 m σ H)/\∀i m σ H,W i m σ H->
   ((PR K a).stop i H/\D.nx σ H)\/((PR K a).go i H/\∃N:St->Hp->Prop,(∀σ' H',N σ' H'->∃m',m'<m/\W (i+1) m' σ' H')/\∀x H',(PR K a).Ma i H x H'->g x σ H' λσ2 H2=>tb { D with nx:=N,ct:=N,bk:=D.nx} σ2 H2):=by
 refine⟨λi m σ H=>m=xs.length-i/\i<=xs.length/\Pv i σ H,⟨xs.length,by simp,aa3 _,h0⟩,?_⟩
 rintro i m σ H ⟨rfl,hi,p⟩;have q:=hl i σ H hi p
 by_cases I:i<xs.length
 ·refine .inr ⟨⟨xs,xs[i],q,by simp[I]⟩,Pv (i+1),λσ' H' O=>⟨xs.length-(i+1),by lia,rfl,I,O⟩,λx H' y=>?_⟩
  obtain⟨e,y⟩:=y;subst e;exact hs i x σ _ (y xs q) p
 ·have e:i=xs.length:=by lia
  subst e;exact .inl ⟨⟨xs,q,aam _⟩,hd σ H p⟩
def Im{K:bJ}{a:Addr}{xs:List V}{g:TG}{tb:TS}{D:Ends}{σ:St}{H:Hp}(Pv:Nat->St->Hp->Prop)(h0:Pv 0 σ H)(hl:∀i σ H,i<=xs.length->Pv i σ H->aU K H a xs)
 (hs:∀i x σ H,xs[i]?=some x->Pv i σ H->g x σ H λσ2 H2=>tb { D with nx:=Pv (i+1),ct:=Pv (i+1),bk:=D.nx} σ2 H2) (hd:∀σ H,Pv xs.length σ H->D.nx σ H) :
 ∃W:Nat->Nat->St->Hp->Prop,(∃m,W 0 m σ H)/\∀i m σ H,W i m σ H->
   ((U8 K a).stop i H/\D.nx σ H)\/((U8 K a).go i H/\∃N:St->Hp->Prop,(∀σ' H',N σ' H'->∃m',m'<m/\W (i+1) m' σ' H')/\∀x H',(U8 K a).Ma i H x H'->g x σ H' λσ2 H2=>tb { D with nx:=N,ct:=N,bk:=D.nx} σ2 H2):=by
 refine⟨λi m σ H=>m=xs.length-i/\i<=xs.length/\Pv i σ H,⟨xs.length,by simp,aa3 _,h0⟩,?_⟩
 rintro i m σ H ⟨rfl,hi,p⟩;have q:=hl i σ H hi p
 by_cases I:i<xs.length
 ·refine .inr ⟨⟨xs,xs[i],q,by simp[I]⟩,Pv (i+1),λσ' H' O=>⟨xs.length-(i+1),by lia,rfl,I,O⟩,λx H' y=>?_⟩
  obtain⟨e,y⟩:=y;subst e;exact hs i x σ _ (y xs q) p
 ·have e:i=xs.length:=by lia
  subst e;exact .inl ⟨⟨xs,q,aam _⟩,hd σ H p⟩
def An{lo:Int}{n:Nat}{g:TG}{tb:TS}{D:Ends}{σ:St}{H:Hp}(Pv:Nat->St->Hp->Prop)(h0:Pv 0 σ H)
 (hs:∀i σ H,i<n->Pv i σ H->g (.int (lo+i)) σ H λσ2 H2=>tb { D with nx:=Pv (i+1),ct:=Pv (i+1),bk:=D.nx} σ2 H2) (hd:∀σ H,Pv n σ H->D.nx σ H) :
 ∃W:Nat->Nat->St->Hp->Prop,(∃m,W 0 m σ H)/\∀i m σ H,W i m σ H->
   ((Pk lo n).stop i H/\D.nx σ H)\/((Pk lo n).go i H/\∃N:St->Hp->Prop,(∀σ' H',N σ' H'->∃m',m'<m/\W (i+1) m' σ' H')/\∀x H',(Pk lo n).Ma i H x H'->g x σ H' λσ2 H2=>tb { D with nx:=N,ct:=N,bk:=D.nx} σ2 H2):=by
 refine⟨λi m σ H=>m=n-i/\i<=n/\Pv i σ H,⟨n,by simp,aa3 _,h0⟩,?_⟩
 rintro i m σ H ⟨rfl,hi,p⟩
 by_cases I:i<n
 ·refine .inr ⟨I,Pv (i+1),λσ' H' O=>⟨n-(i+1),by lia,rfl,I,O⟩,λx H' y=>?_⟩
  obtain⟨e,y⟩:=y;subst e y;exact hs i σ _ I p
 ·have e:i=n:=by lia
  subst e;exact .inl ⟨aam _,hd σ H p⟩
abbrev R2:=V->V->Hp->VK->Prop
def my(X:Cx)(f:Value->Value->Sem Value)(r:R2):Prop :=
 ∀(pq:aX) (s:Shared) (σ:St) (H:Hp) (x y:V) (v u:Value) (Q:VK),Inv X pq σ H s->RelV x v->RelV y u->r x y H Q->
  wpAny (model X.prog X.w) X.A (f v u) (EP X pq σ Q) X.xe s
def ZH(X:Cx)(f:Value->Sem Value)(r:V->Hp->VK->Prop):Prop :=
 ∀(pq:aX) (s:Shared) (σ:St) (H:Hp) (x:V) (v:Value) (Q:VK),Inv X pq σ H s->RelV x v->r x H Q->
  wpAny (model X.prog X.w) X.A (f v) (EP X pq σ Q) X.xe s
def ic(X:Cx)(f:Value)(r:List V->Hp->VK->Prop):Prop :=
 ∀(pq:aX) (s:Shared) (σ:St) (H:Hp) (xs:List V) (us:List Value) (Q:VK),Inv X pq σ H s->Vals xs us->r xs H Q->
  wpAny (model X.prog X.w) X.A (call f us) (EP X pq σ Q) X.xe s
def VU(r:R2)(ta tb:TE):TE:=λσ H Q=>ta σ H λx H1=>tb σ H1 λy H2=>r x y H2 Q
def tUn(r:V->Hp->VK->Prop)(ta:TE):TE:=λσ H Q=>ta σ H λx H1=>r x H1 Q
def rI(C:Int->Int->Prop)(g:Int->Int->V):R2:=λx y H Q=>∃i j,x = .int i/\y = .int j/\C i j/\Q (g i j) H
def JC(g:Int->Int->V):R2:=λx y H Q=>∃i j,x = .int i/\y = .int j/\Q (g i j) H
def rU(g:Int->V):V->Hp->VK->Prop:=λx H Q=>∃i,x = .int i/\Q (g i) H
section
variable {X:Cx}{a b c:Expr}{ta tb tc:TE}{pos:Pos}
def SR(ha:PE X a ta)(hb:PE X b tb){pq:aX}{s:Shared}{σ:St}{H:Hp}{R:V->V->Hp->Prop}(I:Inv X pq σ H s)
 (h:ta σ H λx H1=>tb σ H1 λy H2=>R x y H2) {Q:dR} {f:Value->Value->Sem Value}
 (hf:∀v u s2 x y H2,Inv X pq σ H2 s2->RelV x v->RelV y u->R x y H2->wpAny (model X.prog X.w) X.A (f v u) Q X.xe s2) :
 wpAny (model X.prog X.w) X.A (eval a X.env) (λv O=>wpAny (model X.prog X.w) X.A (eval b X.env) (λu U=>wpAny (model X.prog X.w) X.A (f v u) Q X.xe U) X.xe O) X.xe s:=by
 refine dh (ha pq s σ H _ I h) λv s1 ⟨x,H1,Y,Z,q1⟩=>?_
 refine dh (hb pq s1 σ H1 _ Y q1) λu s2 ⟨y,H2,I2,r2,q2⟩=>?_
 exact hf v u s2 x y H2 I2 Z r2 q2
def aS{op:Operator}{r:R2}(ho:my X (binaryOp op) r)(ha:PE X a ta)(hb:PE X b tb):PE X (.BinOp a op b pos) (VU r ta tb):=by
 intro pq s σ H Q I h;exact wpAny_BinOp (SR ha hb I h λv u s2 x y H2 O rx U q=>ho pq s2 σ H2 x y v u Q O rx U q)
def VV{op:UnaryOp}{r:V->Hp->VK->Prop}(ho:ZH X (unaryOp op) r)(ha:PE X a ta):PE X (.UnaryOp op a pos) (tUn r ta):=by
 intro pq s σ H Q I h;exact UnaryOp_ (dh (ha pq s σ H _ I h) λv s1 ⟨x,H1,O,U,Y⟩=>ho pq s1 σ H1 x v Q O U Y)
def U9{f:Value->Value->Sem Value}{C:Int->Int->Prop}{g:Int->Int->Int}
 (rule:∀(i j:Int) (t u:Tok) (s:Shared) (Q:dR) (E:dR),C i j->Q (.int (g i j) s.toks) { s with toks:=s.toks+1}->wpAny (model X.prog X.w) X.A (f (.int i t) (.int j u)) Q E s) :
 my X f (rI C λi j=>.int (g i j)):=by
 intro pq s σ H x y v u Q I rx O h;obtain⟨i,j,rfl,rfl,hc,q⟩:=h;obtain⟨t,rfl⟩:=rx;obtain⟨t',rfl⟩:=O;exact rule i j t t' s _ _ hc ⟨.int (g i j),H,I.tok _,⟨_,rfl⟩,q⟩
def FF{f:Value->Value->Sem Value}{g:Int->Int->Int}
 (rule:∀(i j:Int) (t u:Tok) (s:Shared) (Q:dR) (E:dR),Q (.int (g i j) s.toks) { s with toks:=s.toks+1}->wpAny (model X.prog X.w) X.A (f (.int i t) (.int j u)) Q E s) :
 my X f (JC λi j=>.int (g i j)):=by
 intro pq s σ H x y v u Q I rx O h;obtain⟨i,j,rfl,rfl,q⟩:=h;obtain⟨t,rfl⟩:=rx;obtain⟨t',rfl⟩:=O;exact rule i j t t' s _ _ ⟨.int (g i j),H,I.tok _,⟨_,rfl⟩,q⟩
def PV{f:Value->Value->Sem Value}{g:Int->Int->Bool}
 (rule:∀(i j:Int) (t u:Tok) (s:Shared) (Q:dR) (E:dR),Q (.bool (g i j)) s->wpAny (model X.prog X.w) X.A (f (.int i t) (.int j u)) Q E s) :
 my X f (JC λi j=>.bl (g i j)):=by
 intro pq s σ H x y v u Q I rx O h;obtain⟨i,j,rfl,rfl,q⟩:=h;obtain⟨t,rfl⟩:=rx;obtain⟨t',rfl⟩:=O;exact rule i j t t' s _ _ ⟨.bl (g i j),H,I,rfl,q⟩
def SS(i j:Int):Prop:=0<j/\j<1073741824
def VW(i j:Int):Prop:=0<=j/\j<=1000000/\i.natAbs<2^64
def SV(i j:Int):Prop:=(-(2^64)<i/\i<2^64)\/(-(2^64)<j/\j<2^64)
def SV.ok{i j:Int}(h:SV i j):IntMulOk i j:=by
 rcases h with⟨h1,h2⟩|⟨h1,h2⟩
 ·exact .of_left (intBits_le_64 h1 h2)
 ·exact .of_right (intBits_le_64 h1 h2)
def FG(k:Nat):(0:Int)<=2^k:=by
 rw[two_pow_cast];exact Int.natCast_nonneg _
def ie:my X (binaryOp .Add) (JC λi j=>.int (i+j)):=FF λ_ _ _ _ _ _ _ q=>add_int q
def qM:my X (binaryOp .Sub) (JC λi j=>.int (i-j)):=FF λ_ _ _ _ _ _ _ q=>sub_int q
def FH:my X (binaryOp .Mult) (rI SV λi j=>.int (i*j)):=U9 λ_ _ _ _ _ _ _ hc q=>mul_int q hc.ok
def m5:my X (binaryOp .FloorDiv) (rI SS λi j=>.int (i/j)):=U9 λi j _ _ _ _ _ hc q=>by
 have h1:(0:Int)<j:=hc.1;have h2:j<1073741824:=hc.2;exact floordiv_int (by lia) (by rw[Int.fdiv_eq_ediv_of_nonneg i (by lia)];exact q) (.inl (PyProof.noPylong_small (by lia)))
def gG:my X (binaryOp .Mod) (rI (λ_ j=>0<j) λi j=>.int (i%j)):=U9 λi j _ _ _ _ _ hc q=>by
 have h1:(0:Int)<j:=hc;exact mod_int' (by lia) (by rw[Int.fmod_eq_emod_of_nonneg i (by lia)];exact q)
def Mg:my X (binaryOp .Pow) (rI VW λi j=>.int (i^j.toNat)):=U9 λ_ _ _ _ _ _ _ hc q=>pow_int_small hc.1 hc.2.1 hc.2.2 q
def qN:my X (binaryOp .LShift) (rI VW λi j=>.int (i*2^j.toNat)):=U9 λ_ _ _ _ _ _ _ hc q=>lshift_int_small hc.1 hc.2.1 hc.2.2 q
def SW:my X (binaryOp .RShift) (rI (λ_ j=>0<=j) λi j=>.int (i/2^j.toNat)):=U9 λi j _ _ _ _ _ hc q =>
 rshift_int hc (by rw[Int.fdiv_eq_ediv_of_nonneg i (FG _)];exact q)
def Mh:my X (binaryOp .BitAnd) (JC λi j=>.int (Builtin.bitAnd i j)):=FF λ_ _ _ _ _ _ _ q=>and_int q
def iH:my X (binaryOp .BitXor) (JC λi j=>.int (Builtin.bitXor i j)):=FF λ_ _ _ _ _ _ _ q=>xor_int q
def Io:my X (inplaceOp .Add) (JC λi j=>.int (i+j)):=FF λ_ _ _ _ _ _ _ q=>iadd_int q
def Mi:my X (inplaceOp .BitOr) (JC λi j=>.int (Builtin.bitOr i j)):=FF λ_ _ _ _ _ _ _ q=>ior_int q
def Ip:my X (inplaceOp .BitXor) (JC λi j=>.int (Builtin.bitXor i j)):=FF λ_ _ _ _ _ _ _ q=>ixor_int q
def unI{f:Value->Sem Value}{g:Int->Int}
 (rule:∀(i:Int) (t:Tok) (s:Shared) (Q:dR) (E:dR),Q (.int (g i) s.toks) { s with toks:=s.toks+1}->wpAny (model X.prog X.w) X.A (f (.int i t)) Q E s) :
 ZH X f (rU λi=>.int (g i)):=by
 intro pq s σ H x v Q I rx h;obtain⟨i,rfl,q⟩:=h;obtain⟨t,rfl⟩:=rx;exact rule i t s _ _ ⟨.int (g i),H,I.tok _,⟨_,rfl⟩,q⟩
def SY:ZH X (unaryOp .USub) (rU λi=>.int (-i)):=unI λ_ _ _ _ _ q=>neg_int q
end
def S0:V->V->Bool
 | .eX,.eX=>true | .eX,.int _=>true | .int _,.eX=>true | .eX,.bl _=>true | .bl _,.eX=>true | .eX,.str _=>true | .str _,.eX=>true
 | .int _,.int _=>true | .bl _,.bl _=>true | .str _,.str _=>true | .LM _,.LM _=>true
 | .int _,.str _=>true | .str _,.int _=>true | .bl _,.str _=>true | .str _,.bl _=>true
 | _,_=>false
def rEq:R2:=λx y H Q=>S0 x y=true/\Q (.bl (decide (x=y))) H
def rNe:R2:=λx y H Q=>S0 x y=true/\Q (.bl (!decide (x=y))) H
def Iq{i j:Int}:decide (V.int i=V.int j)=(i==j):=by
 rw[abw];simp
def Mj{i j:Bool}:decide (V.bl i=V.bl j)=(i==j):=by
 rw[abw];simp
def Ir{i j:Str}:decide (V.str i=V.str j)=(i==j):=by
 rw[abw];simp
def Iu{i j:Array UInt8}:decide (V.LM i=V.LM j)=(i.toList==j.toList):=by
 rw[abw];cases i;cases j;simp
section
variable {X:Cx}{a b c:Expr}{ta tb tc:TE}{pos:Pos}
def bN{pq:aX}{σ:St}{H:Hp}{s:Shared}{Q:VK}{k k' : Bool}(I:Inv X pq σ H s)(q:Q (.bl k) H)(e:k=k'):EP X pq σ Q (.bool k') s:=by
 subst e;exact⟨.bl k,H,I,rfl,q⟩
def jq:my X (compareOp .Eq) rEq:=by
 intro pq s σ H x y v u Q I rx O h;obtain⟨hs,q⟩:=h;cases x with
 | eX =>
   cases rx;cases y with
   | eX=>cases O;exact PySem.EqNone.eq_none_none (bN I q (by simp))
   | bl j=>cases O;exact PySem.EqNone.eq_none_bool (bN I q (by simp))
   | int j=>obtain⟨U,rfl⟩:=O;exact PySem.EqNone.eq_none_int (bN I q (by simp))
   | str j=>obtain⟨U,rfl⟩:=O;exact PySem.EqNone.eq_none_str (bN I q (by simp))
   | _=>exact absurd (show false=true from hs) aav
 | bl i =>
   cases rx;cases y with
   | eX=>cases O;exact PySem.EqNone.eq_bool_none (bN I q (by simp))
   | bl j=>cases O;exact eq_bool (bN I q Mj)
   | str j=>obtain⟨U,rfl⟩:=O;exact PySem.EqMixed.eq_bool_str (bN I q (by simp))
   | _=>exact absurd (show false=true from hs) aav
 | int i =>
   obtain⟨t,rfl⟩:=rx;cases y with
   | eX=>cases O;exact PySem.EqNone.eq_int_none (bN I q (by simp))
   | int j=>obtain⟨U,rfl⟩:=O;exact eq_int (bN I q Iq)
   | str j=>obtain⟨U,rfl⟩:=O;exact PySem.EqMixed.eq_int_str (bN I q (by simp))
   | _=>exact absurd (show false=true from hs) aav
 | str i =>
   obtain⟨t,rfl⟩:=rx;cases y with
   | eX=>cases O;exact PySem.EqNone.eq_str_none (bN I q (by simp))
   | bl j=>cases O;exact PySem.EqMixed.eq_str_bool (bN I q (by simp))
   | int j=>obtain⟨U,rfl⟩:=O;exact PySem.EqMixed.eq_str_int (bN I q (by simp))
   | str j=>obtain⟨U,rfl⟩:=O;exact eq_str (bN I q Ir)
   | _=>exact absurd (show false=true from hs) aav
 | LM i =>
   obtain⟨t,rfl⟩:=rx;cases y with
   | LM j=>obtain⟨U,rfl⟩:=O;exact PySem.W.eq_bytes (bN I q Iu)
   | _=>exact absurd (show false=true from hs) aav
 | _=>cases y<;>exact absurd (show false=true from hs) aav
def C7:my X (compareOp .NotEq) rNe:=by
 intro pq s σ H x y v u Q I rx O h;obtain⟨hs,q⟩:=h;cases x with
 | eX =>
   cases rx;cases y with
   | eX=>cases O;exact PySem.EqNone.ne_none_none (bN I q (by simp))
   | bl j=>cases O;exact PySem.EqNone.ne_none_bool (bN I q (by simp))
   | int j=>obtain⟨U,rfl⟩:=O;exact PySem.EqNone.ne_none_int (bN I q (by simp))
   | str j=>obtain⟨U,rfl⟩:=O;exact PySem.EqNone.ne_none_str (bN I q (by simp))
   | _=>exact absurd (show false=true from hs) aav
 | bl i =>
   cases rx;cases y with
   | eX=>cases O;exact PySem.EqNone.ne_bool_none (bN I q (by simp))
   | bl j=>cases O;exact ne_bool (bN I q (aa4 not Mj))
   | str j=>obtain⟨U,rfl⟩:=O;exact PySem.EqMixed.ne_bool_str (bN I q (by simp))
   | _=>exact absurd (show false=true from hs) aav
 | int i =>
   obtain⟨t,rfl⟩:=rx;cases y with
   | eX=>cases O;exact PySem.EqNone.ne_int_none (bN I q (by simp))
   | int j=>obtain⟨U,rfl⟩:=O;exact ne_int (bN I q (aa4 not Iq))
   | str j=>obtain⟨U,rfl⟩:=O;exact PySem.EqMixed.ne_int_str (bN I q (by simp))
   | _=>exact absurd (show false=true from hs) aav
 | str i =>
   obtain⟨t,rfl⟩:=rx;cases y with
   | eX=>cases O;exact PySem.EqNone.ne_str_none (bN I q (by simp))
   | bl j=>cases O;exact PySem.EqMixed.ne_str_bool (bN I q (by simp))
   | int j=>obtain⟨U,rfl⟩:=O;exact PySem.EqMixed.ne_str_int (bN I q (by simp))
   | str j=>obtain⟨U,rfl⟩:=O;exact ne_str (bN I q (aa4 not Ir))
   | _=>exact absurd (show false=true from hs) aav
 | LM i =>
   obtain⟨t,rfl⟩:=rx;cases y with
   | LM j=>obtain⟨U,rfl⟩:=O;exact PySem.W.ne_bytes (bN I q (aa4 not Iu))
   | _=>exact absurd (show false=true from hs) aav
 | _=>cases y<;>exact absurd (show false=true from hs) aav
def Ao:my X (compareOp .Lt) (JC λi j=>.bl (decide (i<j))):=PV λ_ _ _ _ _ _ _ q=>lt_int q
def Ml:my X (compareOp .LtE) (JC λi j=>.bl (decide (i<=j))):=PV λ_ _ _ _ _ _ _ q=>le_int q
def vH:my X (compareOp .Gt) (JC λi j=>.bl (decide (j<i))):=PV λ_ _ _ _ _ _ _ q=>gt_int q
def C8:my X (compareOp .GtE) (JC λi j=>.bl (decide (j<=i))):=PV λ_ _ _ _ _ _ _ q=>ge_int q
def oz:my X (compareOp .Is) (λx y H Q=>y = .eX/\Q (.bl (decide (x = .eX))) H):=by
 intro pq s σ H x y v u Q I rx O h;obtain⟨rfl,q⟩:=h;cases O;refine is_none_gen (bN I q ?_);cases x<;>first
  | (cases rx;rfl)
  | (obtain⟨t,rfl⟩:=rx;rfl)
def PX:my X (compareOp .IsNot) (λx y H Q=>y = .eX/\Q (.bl (!decide (x = .eX))) H):=by
 intro pq s σ H x y v u Q I rx O h;obtain⟨rfl,q⟩:=h;cases O;refine isnot_none_gen (bN I q ?_);cases x<;>first
  | (cases rx;rfl)
  | (obtain⟨t,rfl⟩:=rx;rfl)
def aM(b:Expr){op:CmpOp}(h:op≠.In:=by decide)(h2:op≠.NotIn:=by decide):behindInMarks op b=false:=by
 have I:(op==CmpOp.In)=false:=by cases op<;>first | rfl | exact absurd rfl h
 have O:(op==CmpOp.NotIn)=false:=by cases op<;>first | rfl | exact absurd rfl h2
 cases b<;>simp[behindInMarks,I,O]
def c9{op:CmpOp}{r:R2}(ho:my X (compareOp op) r)(ha:PE X a ta)(hb:PE X b tb)(hm:behindInMarks op b=false):PE X (.Compare a [op] [b] pos) (VU r ta tb):=by
 intro pq s σ H Q I h;exact wpAny_Compare1 (SR ha hb I h λv u s2 x y H2 O rx U q=>ho pq s2 σ H2 x y v u Q O rx U q) hm
def VX(t:TE):TT:=λσ H Q=>t σ H λx H'=>∃k,x = .bl k/\Q k H'
def aO{op:CmpOp}{r:R2}(ho:my X (compareOp op) r)(ha:PE X a ta)(hb:PE X b tb)(hm:behindInMarks op b=false):PT X (.Compare a [op] [b] pos) (VX (VU r ta tb)):=by
 intro pq s σ H Q I h;refine wpAny_isTrue_Compare1 (dh (ha pq s σ H _ I h) λv s1 ⟨x,H1,O,U,Y⟩=>dh (hb pq s1 σ H1 _ O Y) λu s2 ⟨y,H2,Z,r2,q2⟩ =>
  dh (ho pq s2 σ H2 x y v u _ Z U r2 q2) λc s3 ⟨z,H3,I3,r3,k,e,q3⟩=>?_) hm
 subst e;cases r3;exact wpAny_truthy_bool ⟨H3,I3,q3⟩
def qO:(sizeLine:Nat)<2^63:=by rw[sizeLine_eq];decide
def vals1{x:V}{us:List Value}(r:Vals [x] us):∃u,us=[u]/\RelV x u:=by
 cases r with
 | cons I O=>cases O;exact⟨_,rfl,I⟩
def vals2{x y:V}{us:List Value}(r:Vals [x,y] us):∃u I,us=[u,I]/\RelV x u/\RelV y I:=by
 cases r with
 | cons O U =>
   cases U with
   | cons Y Z=>cases Z;exact⟨_,_,rfl,O,Y⟩
def Mm:ic X (.builtin "abs") (λxs H Q=>∃i,xs=[.int i]/\Q (.int (if i<0 then -i else i)) H):=by
 intro pq s σ H xs us Q I r h;obtain⟨i,rfl,q⟩:=h;obtain⟨u,rfl,t,rfl⟩:=vals1 r;exact call_abs_int λu tk=>⟨.int (if i<0 then -i else i),H,I.tok _,⟨_,rfl⟩,q⟩
def pO(hc:X.calm=true):ic X (.builtin "max") (λxs H Q=>∃i j,xs=[.int i,.int j]/\Q (.int (if j > i then j else i)) H):=by
 intro pq s σ H xs us Q I r h;obtain⟨i,j,rfl,q⟩:=h;obtain⟨u,w',rfl,⟨t,rfl⟩,⟨t',rfl⟩⟩:=vals2 r;refine max_two_ints (I.ok.hd hc) λh' tk k=>⟨_,H,I.kept k,?_,q⟩
 by_cases hj:j > i
 ·rw[aai hj,aai hj];exact⟨_,rfl⟩
 ·rw[aaf hj,aaf hj];exact⟨_,rfl⟩
def JD(hc:X.calm=true):ic X (.builtin "min") (λxs H Q=>∃i j,xs=[.int i,.int j]/\Q (.int (if j<i then j else i)) H):=by
 intro pq s σ H xs us Q I r h;obtain⟨i,j,rfl,q⟩:=h;obtain⟨u,w',rfl,⟨t,rfl⟩,⟨t',rfl⟩⟩:=vals2 r;refine min_two_ints (I.ok.hd hc) λh' tk k=>⟨_,H,I.kept k,?_,q⟩
 by_cases hj:j<i
 ·rw[aai hj,aai hj];exact⟨_,rfl⟩
 ·rw[aaf hj,aaf hj];exact⟨_,rfl⟩
end
structure FJ(h:Heap)(x dx C:Addr)(mA:nY):Prop where
 obj:h.get? x=some (PySem.W.instObj C dx)
 ns:h.Ns1 dx mA
 ne:dx≠x
def JE{h:Heap}{dx:Addr}{mA:nY}(n:h.Ns1 dx mA):∃od,h.get? dx=some od/\∀name,PySem.W.lookIn name od=some (mA name):=by
 obtain⟨o,es,ep,O,hd,hk,_,hm⟩:=n;refine⟨o,O,λname=>?_⟩
 have e:=hm name;unfold nsFind findBy at e;rw[<-Array.find?_toList]at e;unfold PySem.W.lookIn;rw[hd];dsimp only
 split
 ·rename_i y q
  rw[q]at e;exact aa4 some e
 ·rename_i q
  rw[q]at e;have a:es.toList.any (·.refKey)=false:=by
   rw[List.any_eq_false];intro y U;obtain⟨z,t,I⟩:=hk y (Array.mem_toList_iff.mp U);simp[DictEntry.refKey,I]
  have Y : ¬ es.toList.any (·.refKey)=true:=by rw[a];exact aav
  rw[aaf Y];exact aa4 some e
def FJ.look{h:Heap}{x dx C:Addr}{mA:nY}(I:FJ h x dx C mA):∃od,PySem.W.InstAt h x (PySem.W.instObj C dx) C (some od)/\∀name,PySem.W.lookIn name od=some (mA name) :=
 let⟨od,ho,hl⟩:=JE I.ns
 ⟨od,⟨I.obj,rfl,rfl,ho⟩,hl⟩
section
variable {prog:Program}{w:World}{A:Around}{E:dR}{s:Shared}{K:bJ}{x dx C f:Addr}{mA:nY}{name:Str}{v:Value}
def get_map{expr:Bool}{Q:dR}(X:K.In s.heap)(I:FJ s.heap x dx C mA)(hg:PySem.W.plainGet K C name=true)(hh:PySem.W.hasDictIn K C=true)
 (ha:PySem.W.findIn K (.ref C) name=some none) (hv:mA name=some v) (Bp:PySem.W.handedIn v=true) (h:Q v { s with toks:=s.toks+1}) :
 wpAny (model prog w) A (getAttr (.ref x) name expr) Q E s:=by
 obtain⟨od,J,O⟩:=I.look;exact PySem.W.get_value X J (adP hg).1 (PySem.W.findObj_own hh ha rfl (by rw[O,hv])) Bp h
def Mn{pl:Sem Bool}{Q:Value×List Value->Shared->Prop}(X:K.In s.heap)(I:FJ s.heap x dx C mA)(hg:PySem.W.plainGet K C name=true)
 (hf:PySem.W.findIn K (.ref C) name=some (some (.ref f))) (ht:PySem.W.isFn K (.ref f)=true) (hv:mA name=none) (h:Q (.ref f,[.ref x]) s) :
 wpAny (model prog w) A (getMethod (.ref x) name pl) Q E s:=by
 obtain⟨od,J,O⟩:=I.look;exact PySem.W.method_fn X J (adP hg).1 (adP hg).2 hf (adJ.mp ht) (by show(PySem.W.lookIn name od).map (·.isSome)=some false;rw[O,hv];rfl) h
def PY{ns:List Str}{Q:Unit->Shared->Prop}(X:K.In s.heap)(I:FJ s.heap x dx C mA)
 (hs:PySem.W.findIn K (.ref C) "__setattr__"=some (some (.builtin "object.__setattr__"))) (hp:PySem.W.plainOver K C=true) (ht:PySem.W.takerIn K C name=some none) (hh:PySem.W.hasDictIn K C=true)
 (hw:PySem.Within mA ns) (hsz:ns.length<=sizeLine)
 (h:∀h',FJ h' x dx C (λy=>if y=name then some v else mA y)->Heap.SameBut dx s.heap h'->Q () { s with heap:=h',toks:=s.toks+2}) :
 wpAny (model prog w) A (setAttr (.ref x) name v) Q E s:=by
 obtain⟨od,J,hl⟩:=I.look;refine PySem.W.set_plain X J hs (PySem.W.osa_open (s:={ s with toks:=s.toks+1}) (r:=none) X J hp ht λb=>?_)
 obtain⟨cd,hc,Y⟩:=PySem.W.any_some hh;have hx:s.heap.get? x=some ⟨.ref C,some dx,.plain,#[]⟩:=I.obj;refine aV (aaq (aV (aV (wpAny_loadPart hx (aV (PySem.W.Looks.here (s:={ s with toks:=s.toks+1}) (PySem.W.looks_clsIn X hc) ?_))))))
 rw[Y];refine aaq (a:=some dx) (aV (aaq (aV ?_)));refine wpAny_nsSet1 (s:={ s with toks:=s.toks+1}) I.ns λh' O U=>?_
 obtain⟨oD,ag,ar,Z,ab,VY⟩:=O.count (PySem.Within.cons name v hw);refine aV (wpAny_lookBehind Z (by rw[ab];exact pastItsLine_dict (aa0 VY (by rw[abj];lia))) ?_)
 exact aaq (h _ ⟨(U.2 _ (aa6 I.ne)).trans I.obj,O,I.ne⟩ U)
def Mp{R:Result->Shared->Prop}{vs:List Value}{kw:List (Str×Value)}(X:K.In s.heap)(hm:PySem.W.makesIn K C=true)
 (hi:PySem.W.findIn K (.ref C) "__init__"=some (some (.ref f))) (hf:PySem.W.typeIn K (.ref f)=some (.type "function"))
 (h:codeAny (model prog w) (A.under (.builtin "type.__call__" ⟨.ref C::vs,kw⟩)) (.call (.ref f) ⟨.ref (s.heap.objs.size+1)::vs,kw⟩) (PySem.W.InitBack (s.heap.objs.size+1) R)
  { s with heap:=(s.heap.push PySem.W.emptyDict).push (PySem.W.instObj C s.heap.objs.size)}) :
 codeAny (model prog w) A (.call (.ref C) ⟨vs,kw⟩) R s:=by
 obtain⟨hh,g,d,t,os⟩:=s;exact PySem.W.make_core (PySem.W.makes_of X hm) (PySem.W.looks_findIn X hi) (λself=>PySem.W.bind_fn X self hf) (.inl rfl) h
end
def di(f:Str)(v:V):List (Str×V)->List (Str×V)
 | []=>[(f,v)]
 | (g,x)::r=>if g=f then(g,v)::r else(g,x)::di f v r
def bu(f g:Str)(v:V):∀fs:List (Str×V),(di f v fs).lookup g=if g=f then some v else fs.lookup g
 | []=>by
   show List.lookup g [(f,v)]=_
   by_cases h:g=f
   ·have hb:(g==f)=true:=adJ.mpr h;simp only[List.lookup,hb,aai h]
   ·have hb:(g==f)=false:=beq_eq_false_iff_ne.mpr h;simp only[List.lookup,hb,aaf h]
 | (k,x)::r=>by
   have I:=bu f g v r;rw[show di f v ((k,x)::r)=(if k=f then(k,v)::r else(k,x)::di f v r) from rfl]
   by_cases hk:k=f
   ·rw[aai hk]
    by_cases h:g=k
    ·have hb:(g==k)=true:=adJ.mpr h;simp only[List.lookup,hb,aai (h.trans hk)]
    ·have hb:(g==k)=false:=beq_eq_false_iff_ne.mpr h;simp only[List.lookup,hb,aaf (λe:g=f=>h (e.trans hk.symm))]
   ·rw[aaf hk]
    by_cases h:g=k
    ·have hb:(g==k)=true:=adJ.mpr h;simp only[List.lookup,hb,aaf (λe:g=f=>hk (h.symm.trans e))]
    ·have hb:(g==k)=false:=beq_eq_false_iff_ne.mpr h;simp only[List.lookup,hb];exact I
def tZ(f:Str)(v:V):∀fs:List (Str×V),f∈(di f v fs).map (·.1)/\∀g,g∈fs.map (·.1)->g∈(di f v fs).map (·.1)
 | []=>⟨by simp[di],λg h=>by simp at h⟩
 | (k,x)::r=>by
   obtain⟨I,O⟩:=tZ f v r;rw[show di f v ((k,x)::r)=(if k=f then(k,v)::r else(k,x)::di f v r) from rfl]
   by_cases hk:k=f
   ·rw[aai hk];subst hk;exact⟨by simp,λg h=>by simpa using h⟩
   ·rw[aaf hk];refine⟨?_,λg h=>?_⟩
    ·rw[aaR];exact nU _ I
    ·rw[aaR]at h ⊢;rcases aaC.mp h with e|e
     ·exact aaC.mpr (.inl e)
     ·exact nU _ (O g e)
def jr(f:Str)(v:V):∀fs:List (Str×V),(di f v fs).length<=fs.length+1
 | []=>by simp[di]
 | (k,x)::r=>by
   have I:=jr f v r;rw[show di f v ((k,x)::r)=(if k=f then(k,v)::r else(k,x)::di f v r) from rfl]
   by_cases hk:k=f
   ·rw[aai hk,abj,abj];lia
   ·rw[aaf hk,abj,abj];lia
def mq.some_of{v:V}{o:Option Value}(r:mq (some v) o):∃u,o=some u/\RelV v u:=by
 cases o with
 | none=>exact(show False from r).elim
 | some u=>exact⟨u,rfl,r⟩
def mq.none_of{o:Option Value}(r:mq none o):o=none:=by
 cases o with
 | none=>rfl
 | some u=>exact(show False from r).elim
def JF{v:V}{u:Value}(r:RelV v u):PySem.W.handedIn u=true:=by
 cases v with
 | eX=>cases(show u=Value.none from r);rfl
 | bl b=>cases(show u=Value.bool b from r);rfl
 | int i=>obtain⟨t,e⟩:=(show ∃t,u=Value.int i t from r);cases e;rfl
 | str x=>obtain⟨t,e⟩:=(show ∃t,u=Value.str x t from r);cases e;rfl
 | LM b=>obtain⟨t,e⟩:=(show ∃t,u=Value.bytes b t from r);cases e;rfl
 | Yv b=>obtain⟨t,e⟩:=(show ∃t,u=Value.float b t from r);cases e;rfl
 | ref a=>cases(show u=Value.ref a from r);rfl
 | ty n=>cases(show u=Value.type n from r);rfl
section
variable {P:Program}{w:World}{H H' : Hp}{h h' : Heap}{a C dx:Addr}{fs fs' : List (Str×V)}
def Bq(hok:n8 P w H h)(e:H a=some (.ins C dx fs)):∃mA,FJ h a dx C mA/\(∀f,mq (fs.lookup f) (mA f))/\PySem.Within mA (fs.map (·.1))/\fs.length<=1000/\H dx=some (.own a):=by
 obtain⟨d,z,ne,ob,mA,n,r,q⟩:=(show bK P w H h a (.ins C dx fs) from hok a _ e)
 exact⟨mA,⟨ob,n,ne⟩,r,q,z,d⟩
end
structure Pn(K:bJ)(C:Addr):Prop where
 pg:PySem.W.plainGet K C Str.empty=true
 hd:PySem.W.hasDictIn K C=true
 po:PySem.W.plainOver K C=true
 sa:PySem.W.findIn K (.ref C) "__setattr__"=some (some (.builtin "object.__setattr__"))
def Pn.get{K:bJ}{C:Addr}(c:Pn K C)(f:Str):PySem.W.plainGet K C f=true:=c.pg
def lP(K:bJ)(C:Addr)(f:Str):Prop:=PySem.W.findIn K (.ref C) f=some none
def lP.VZ{K:bJ}{C:Addr}{f:Str}(n:lP K C f):PySem.W.takerIn K C f=some none:=by
 unfold PySem.W.takerIn;rw[show PySem.W.findIn K (.ref C) f=some none from n]
 rfl
structure Meth(K:bJ)(C:Addr)(m:Str)(f:Addr):Prop where
 at_:PySem.W.findIn K (.ref C) m=some (some (.ref f))
 fn:PySem.W.isFn K (.ref f)=true
 kp:PySem.W.keepIn K (.ref f)=true
section
variable {X:Cx}{pq:aX}{σ:St}{H:Hp}{s:Shared}{a C dx:Addr}{fs:List (Str×V)}{f:Str}{v:V}{A:Around}{E:dR}
def FU{b:Bool}{Q:dR}(I:Inv X pq σ H s)(e:H a=some (.ins C dx fs))(c:Pn X.K C)(n:lP X.K C f)(l:fs.lookup f=some v)
 (h:∀u s',Inv X pq σ H s'->RelV v u->Q u s'):wpAny (model X.prog X.w) A (getAttr (.ref a) f b) Q E s:=by
 obtain⟨mA,O,r,_,_,_⟩:=Bq I.hok e;obtain⟨u,hu,ru⟩:=mq.some_of (v:=v) (o:=mA f) (by rw[<-l];exact r f)
 exact get_map I.Fy O (c.get f) c.hd n hu (JF ru) (h u _ (I.tok _) ru)
def xB{m:Str}{g:Addr}{pl:Sem Bool}{Q:Value×List Value->Shared->Prop}(I:Inv X pq σ H s)(e:H a=some (.ins C dx fs))(c:Pn X.K C)(k:Meth X.K C m g)(l:fs.lookup m=none)
 (h:Q (.ref g,[.ref a]) s):wpAny (model X.prog X.w) A (getMethod (.ref a) m pl) Q E s:=by
 obtain⟨mA,O,r,_,_,_⟩:=Bq I.hok e;have hn:mA m=none:=mq.none_of (by rw[<-l];exact r m)
 exact Mn I.Fy O (c.get m) k.at_ k.fn hn h
def FW{y:V}{u:Value}{Q:Unit->Shared->Prop}(I:Inv X pq σ H s)(e:H a=some (.ins C dx fs))(c:Pn X.K C)(n:lP X.K C f)(hl:fs.length<1000)(ry:RelV y u)
 (h:∀s',Inv X pq σ (upd H a (.ins C dx (di f y fs))) s'->Q () s'):wpAny (model X.prog X.w) A (setAttr (.ref a) f u) Q E s:=by
 obtain⟨mA,O,r,wi,_,Y⟩:=Bq I.hok e;have hz:(fs.map (·.1)).length<=sizeLine:=by rw[aac,sizeLine_eq];lia
 refine PY I.Fy O c.sa c.po n.VZ c.hd wi hz λh' U Z=>h _ ?_
 have hd:∃o,h'.get? dx=some o:=let⟨o,_,_,e',_⟩:=U.ns;⟨o,e'⟩;refine I.write (x:=a) (e:=dx) (by rw[e];exact True.intro) (.inr Y) (λb q hb z=>(Z.2 b hb).trans z) hd ?_
 refine⟨by rw[ah O.ne];exact Y,?_,O.ne,U.obj,_,U.ns,λg=>?_,λg hg=>?_⟩
 ·have:=jr f y fs;lia
 ·show mq ((di f y fs).lookup g) (if g=f then some u else mA g)
  rw[bu]
  by_cases q:g=f
  ·rw[aai q,aai q];exact ry
  ·rw[aaf q,aaf q];exact r g
 ·by_cases q:g=f
  ·rw[q];exact(tZ f y fs).1
  ·refine(tZ f y fs).2 g (wi g λz=>hg ?_)
   show(if g=f then some u else mA g)=none
   rw[aaf q];exact z
def Inv.made(I:Inv X pq σ H s):Inv X pq σ (upd (upd H s.heap.objs.size (.own (s.heap.objs.size+1))) (s.heap.objs.size+1) (.ins C s.heap.objs.size []))
 { s with heap:=(s.heap.push PySem.W.emptyDict).push (PySem.W.instObj C s.heap.objs.size)}:=by
 have O:(s.heap.push PySem.W.emptyDict).get? s.heap.objs.size=some PySem.W.emptyDict:=aaN s.heap rfl;have U:((s.heap.push PySem.W.emptyDict).push (PySem.W.instObj C s.heap.objs.size)).get? (s.heap.objs.size+1)=some (PySem.W.instObj C s.heap.objs.size):=by
  have:=aaN (s.heap.push PySem.W.emptyDict) (o:=PySem.W.instObj C s.heap.objs.size) rfl
  rwa [adh]at this
 have Y:(s.heap.push PySem.W.emptyDict).Ns s.heap.objs.size (λ_=>none):=⟨PySem.W.emptyDict,#[],_,O,rfl,(λe he=>absurd he (by simp)),λ_=>rfl⟩
 have Z:=I.laid (a:=s.heap.objs.size) (o:=.own (s.heap.objs.size+1)) (h':=s.heap.push PySem.W.emptyDict) (t':=s.toks) (λb u q=>aao _ q) (aam _) ⟨_,O⟩
 refine Z.laid (a:=s.heap.objs.size+1) (o:=.ins C s.heap.objs.size []) (t':=s.toks) (λb u q=>aao _ q) (acV (adh _ _)) ?_
 have ne:s.heap.objs.size≠s.heap.objs.size+1:=aaP (ace _);refine⟨by rw[ah ne,ae],aa3 _,ne,U,λ_=>none,(Heap.Ns1.of_empty Y).at λo q=>aao _ q,λ_=>True.intro,λy hy=>absurd rfl hy⟩
def P0{prog:Program}{w:World}{env:Env}{e:Expr}{f:Str}{pos:Pos}{s:Shared}{Q:dR}(hb:attributeBase e f env (eval e env)=eval e env)
 (h:wpAny (model prog w) A (eval e env) (λo I=>wpAny (model prog w) A (getAttr o f true) Q E I) E s):wpAny (model prog w) A (eval (.Attribute e f pos) env) Q E s :=
 Attribute_any_ h (by rw[arm_eval_Attribute,hb])
end
def V0(K:bJ)(ta:TE)(f:Str):TE:=λσ H Q=>ta σ H λx H1=>∃a C dx fs v,x = .ref a/\H1 a=some (.ins C dx fs)/\Pn K C/\lP K C f/\fs.lookup f=some v/\Q v H1
def ZI(K:bJ)(ta tv:TE)(f:Str):TS:=λD σ H=>tv σ H λy H1=>ta σ H1 λx H2=>∃a C dx fs,x = .ref a/\H2 a=some (.ins C dx fs)/\Pn K C/\lP K C f/\fs.length<1000/\
 D.nx σ (upd H2 a (.ins C dx (di f y fs)))
section
variable {X:Cx}{o e value:Expr}{f:Str}{pos pos' tpos:Pos}{ta tv:TE}
def S3(he:PE X e ta)(hb:attributeBase e f X.env (eval e X.env)=eval e X.env):PE X (.Attribute e f pos) (V0 X.K ta f):=by
 intro pq s σ H Q I h;refine P0 hb (dh (he pq s σ H _ I h) λu s1 ⟨x,H1,O,rx,a,C,dx,fs,v,ex,U,c,n,l,q⟩=>?_)
 subst ex;obtain rfl:u=Value.ref a:=rx;exact FU O U c n l λu' s2 Y Z=>⟨v,H1,Y,Z,q⟩
def ua(ha:PE X o ta)(hv:PE X value tv)(hs:swapsWith value (some (.Attribute o f pos')) pos.line X.env=pure false):PS X (.Assign [.Attribute o f pos'] value pos) (ZI X.K ta tv f):=by
 intro pq s σ H D I h;refine plainObj_wpAny_Assign_Attribute (dh (hv pq s σ H _ I h) λu s1 ⟨y,H1,O,U,q⟩=>dh (ha pq s1 σ H1 _ O q) λY s2 ⟨x,H2,Z,rx,a,C,dx,fs,ex,ea,c,n,l,q2⟩=>?_) hs
 subst ex;obtain rfl:Y=Value.ref a:=rx;exact FW Z ea c n l U λs3 I3=>⟨σ,_,I3,q2⟩
end
structure eJ(k:Nat)(A:Around):Prop where
 hd:A.handled=none
 dp:A.depth+3*k+5<recursionLimit
 un:A.units+16*k+200<cLine
def eJ.mono{j k:Nat}{A:Around}(r:eJ k A)(h:j<=k):eJ j A:=⟨r.hd,by have:=r.dp;lia,by have:=r.un;lia⟩
def eJ.deeper{k:Nat}{A:Around}(r:eJ (k+1) A)(env:Env):eJ k (A.deeper env) :=
 ⟨r.hd,by have:=r.dp;show A.depth+1+3*k+5<_;lia,by have:=r.un;show A.units+3+16*k+200<_;lia⟩
def eJ.in1{k:Nat}{A:Around}(r:eJ (k+1) A):eJ k A.in1 :=
 ⟨r.hd,by have:=r.dp;show A.depth+3*k+5<_;lia,by have:=r.un;show A.units+1+16*k+200<_;lia⟩
def FY{A:Around}{C:Addr}{us:List Value}{kw:List (Str×Value)}:(A.under (.builtin "type.__call__" ⟨.ref C::us,kw⟩)).depth=A.depth+1:=by
 first | rfl | simp[Around.under,Code.weight,Code.isCreation,Code.isGuard,Code.isCaller,Code.frames,Code.isFrame,guardIds]
def FZ{A:Around}{C:Addr}{us:List Value}{kw:List (Str×Value)}:(A.under (.builtin "type.__call__" ⟨.ref C::us,kw⟩)).units=A.units+1:=by
 first | rfl | simp[Around.under,Code.cUnits,Code.frames,Code.isFrame]
def eJ.make{k:Nat}{A:Around}(r:eJ (k+1) A)(C:Addr)(us:List Value)(kw:List (Str×Value)):eJ k (A.under (.builtin "type.__call__" ⟨.ref C::us,kw⟩)) :=
 ⟨r.hd,by have:=r.dp;rw[FY];lia,by have:=r.un;rw[FZ];lia⟩
def eJ.depth{k:Nat}{A:Around}(r:eJ k A):A.depth<recursionLimit:=by have:=r.dp;lia
def eJ.units{k:Nat}{A:Around}(r:eJ k A):A.units+64<cLine:=by have:=r.un;lia
def eJ.F0{k:Nat}{A:Around}(r:eJ k A):A.units<cLine:=by have:=r.un;lia
def V1:TA:=λ_ H Q=>Q [] H
def V2(ta:TE)(tr:TA):TA:=λσ H Q=>ta σ H λx H1=>tr σ H1 λxs H2=>Q (x::xs) H2
section
variable {X:Cx}{e:Expr}{es:List Expr}{te:TE}{t:TA}{pos:Pos}
def af:PA X [] V1:=λ_ _ _ _ H Q I h=>Calls.spliced_nil ⟨[],H,I,.nil,h⟩
def aa(ha:PE X e te)(hr:PA X es t)(hs:starEach (e::es) X.env=(false,eval e X.env)::starEach es X.env:=by rfl):PA X (e::es) (V2 te t):=by
 intro pos pq s σ H Q I h;rw[hs];show wpAny _ _ (spliced ((false,eval e X.env)::backTo pos (starEach es X.env))) _ _ s;refine Calls.spliced_cons (dh (ha pq s σ H _ I h) λu s1 ⟨x,H1,O,U,Y⟩=>?_)
 exact dh (hr pos pq s1 σ H1 _ O Y) λus s2 ⟨xs,H2,Z,r2,q2⟩=>⟨x::xs,H2,Z,.cons U r2,q2⟩
def ZJ(t:TA):TE:=λσ H Q=>t σ H λxs H1=>xs.length<=sizeLine/\∀p,H1 p=none->Q (.ref p) (upd H1 p (.tup xs))
def ZK(t:TA):TE:=λσ H Q=>t σ H λxs H1=>xs.length<=sizeLine/\∀p,H1 p=none->Q (.ref p) (upd H1 p (.lst xs))
def cy{x1}(h:PA X es t):PE X (.Tuple es x1 pos) (ZJ t):=by
 intro pq s σ H Q I U;refine wpAny_Tuple_spliced (dh (h pos pq s σ H _ I U) λus s1 ⟨xs,H1,O,r,z,q⟩=>⟨by rw[<-r.length];exact z,?_⟩)
 have hf:H1 s1.heap.objs.size=none:=O.hok.fresh (aam _);refine⟨.ref s1.heap.objs.size,upd H1 s1.heap.objs.size (.tup xs),O.laid (t':=s1.toks) (λb u e=>aao _ e) (aam _) ?_,rfl,q _ hf⟩
 exact⟨z,us,r,⟨_,aaN _ rfl,rfl,_,rfl⟩⟩
def eg(h:PA X es t):PE X (.List es pos) (ZK t):=by
 intro pq s σ H Q I U;refine wpAny_List_spliced (dh (h pos pq s σ H _ I U) λus s1 ⟨xs,H1,O,r,z,q⟩=>⟨by rw[<-r.length];exact z,?_⟩)
 have hf:H1 s1.heap.objs.size=none:=O.hok.fresh (aam _);refine⟨.ref s1.heap.objs.size,upd H1 s1.heap.objs.size (.lst xs),O.laid (t':=s1.toks) (λb u e=>aao _ e) (aam _) ?_,rfl,q _ hf⟩
 exact⟨z,us,0,r,aaN _ rfl⟩
end
abbrev Sp:=List V->Hp->VK->XK->Prop
abbrev LN:=List Env->Hp->Shared->XK->Value->Shared->Prop
structure F1(P:Program)(w:World)(K:bJ)(mg:nY)(base:Heap)(A:Around)(outer:List Env)(s:Shared)(H:Hp):Prop where
 frames:A.frames=some outer
 mod:Mod K mg base
 bs:∀b o,base.get? b=some o->s.heap.get? b=some o/\H b=none
 L1:base.objs.size<=s.heap.objs.size
 funs:s.heap.FunFrames base outer
 PK:∀b∈frs outer,H b=none
 hok:n8 P w H s.heap
 bare:AllBare s.gens
def CE(outer:List Env)(P:Program)(w:World)(H:Hp)(s:Shared)(Q:VK)(u:Value)(s' : Shared):Prop :=
 ∃v H',s'.os=s.os/\AllBare s'.gens/\Un (frs outer) [] H H' s.heap s'.heap/\n8 P w H' s'.heap/\RelV v u/\Q v H'
def CR(CX:LN)(outer:List Env)(P:Program)(w:World)(H:Hp)(s:Shared)(Q:VK)(E:XK)(r:Result)(s' : Shared):Prop :=
 match r with
 | .ok (.ret u)=>CE outer P w H s Q u s'
 | .ok _=>False
 | .error e=>CX outer H s E e s'
structure gH(P:Program)(w:World)(K:bJ)(mg:nY)(base:Heap)(CX:LN)(k:Nat)(f:Addr)(fd:FuncData)(ps:List Str)(sp:Sp):Prop where
 len:∀vs H Q E,sp vs H Q E->vs.length=ps.length
 run:∀(A:Around) (outer:List Env) (s:Shared) (H:Hp) (args:Args) (us:List Value) (vs:List V) (Q:VK) (E:XK),eJ k A->F1 P w K mg base A outer s H->BindsTo s fd args (ps.zip us)->Vals vs us->sp vs H Q E->
  codeAny (model P w) A (.call (.ref f) args) (CR CX outer P w H s Q E) s
def F1.make{P:Program}{w:World}{K:bJ}{mg:nY}{base:Heap}{A:Around}{outer:List Env}{s:Shared}{H:Hp}(e:F1 P w K mg base A outer s H)(C:Addr)(us:List Value)(kw:List (Str×Value)):
 F1 P w K mg base (A.under (.builtin "type.__call__" ⟨.ref C::us,kw⟩)) outer s H:=⟨by first | exact e.frames | (simpa[Around.under,Code.envs,Code.isFrame,pushEnvs]using e.frames),e.mod,e.bs,e.L1,e.funs,e.PK,e.hok,e.bare⟩
section
variable {X:Cx}{pq:aX}{σ:St}{H:Hp}{s s' : Shared}
def Inv.V3(I:Inv X pq σ H s):F1 X.prog X.w X.K X.mg X.base X.A X.stack s H :=
 ⟨I.ok.frames,I.ok.mod,I.bs,aa0 I.ok.L1 I.sz,I.stack,I.Bm,I.hok,I.bare⟩
def Inv.after{Q:VK}{u:Value}(I:Inv X pq σ H s)(h:CE X.stack X.prog X.w H s Q u s'):EP X pq σ Q u s':=by
 obtain⟨v,H',os,bare,un,hok,r,q⟩:=h;obtain⟨hh,g,d,t,os'⟩:=s';obtain rfl:os' = s.os:=os;exact⟨v,H',I.call (h':=hh) (g':=g) (d':=d) (t':=t) (ch:=[]) un hok bare (λb z=>absurd z (by simp)),r,q⟩
end
def RD(sp:Sp)(zB:List V)(E:XK)(t:TA):TE:=λσ H Q=>t σ H λvs H1=>sp (vs++zB) H1 Q E
def RE(C:Addr)(m:Str)(sp:Sp)(zB:List V)(E:XK)(ta:TE)(t:TA):TE:=λσ H Q=>ta σ H λx H1=>∃a dx fs,x = .ref a/\H1 a=some (.ins C dx fs)/\fs.lookup m=none/\
 t σ H1 λvs H2=>sp (x::(vs++zB)) H2 Q E
def V4(C:Addr)(sp:Sp)(zB:List V)(E:XK)(t:TA):TE:=λσ H Q=>t σ H λvs H1=>∀x dx,H1 x=none->H1 dx=none->dx≠x->
 sp (.ref x::(vs++zB)) (upd (upd H1 dx (.own x)) x (.ins C dx [])) (λv H2=>v = .eX/\Q (.ref x) H2) E
def Binds(K:bJ)(fd:FuncData)(ps:List Str)(ds:List Value):Prop :=
 ∀(s:Shared) (us:List Value),K.In s.heap->(us++ds).length=ps.length->BindsTo s fd ⟨us,[]⟩ (ps.zip (us++ds))
def Binds.all{K:bJ}{fd:FuncData}{ps:List Str}(h:∀us:List Value,us.length=ps.length->bindArgs fd ⟨us,[]⟩=pure (ps.zip us)):Binds K fd ps []:=λs us _ I=>by
 rw[ab5]at I ⊢;exact .of_eq (h us I)
def Passes(CX:LN)(X:Cx)(E:XK):Prop:=∀(pq:aX) (σ:St) (H:Hp) (s:Shared) (e:Value) (s' : Shared),Inv X pq σ H s->CX X.stack H s E e s'->X.xe e s'
section
variable {X:Cx}{CX:LN}{k:Nat}{f C:Addr}{fd:FuncData}{ps:List Str}{sp:Sp}{zB:List V}{ds:List Value}{E:XK}{x m:Str}{p pos apos:Pos}{e o:Expr}{es:List Expr}{ta:TE}{t:TA}
def F2{pq:aX}{σ:St}{H:Hp}{s:Shared}{Q:VK}{us:List Value}{vs:List V}(F:gH X.prog X.w X.K X.mg X.base CX k f fd ps sp)(hr:eJ k X.A)(hb:Binds X.K fd ps ds)(hd:Vals zB ds)(hx:Passes CX X E)
 (I:Inv X pq σ H s) (r:Vals vs us) (h:sp (vs++zB) H Q E):wpAny (model X.prog X.w) X.A (call (.ref f) us) (EP X pq σ Q) X.xe s:=by
 have U:Vals (vs++zB) (us++ds):=r.append hd;have Y:(us++ds).length=ps.length:=by rw[<-U.length];exact F.len _ _ _ _ h
 refine wpAny_call (codeAny_mono (F.run X.A X.stack s H ⟨us,[]⟩ (us++ds) (vs++zB) Q E hr I.V3 (hb s us I.Fy Y) U h) λr s' O=>?_)
 cases r with
 | error e=>exact hx pq σ H s e s' I O
 | ok fl =>
   cases fl with
   | ret u=>exact I.after O
   | next=>exact False.elim O
   | brk=>exact False.elim O
   | cont=>exact False.elim O
def P1(F:gH X.prog X.w X.K X.mg X.base CX k f fd ps sp)(hr:eJ k X.A)(hg:Gl X x)(hm:X.mg x=some (.ref f))(hk:PySem.W.keepIn X.K (.ref f)=true)(hb:Binds X.K fd ps ds)(hd:Vals zB ds)(hx:Passes CX X E)
 (ha:PA X (e::es) t) (hdb:(x==("__debug__":Str))=false:=by decide) (he:starEach (e::es) X.env=(false,eval e X.env)::starEach es X.env:=by rfl) (hpl:(backTo pos (starEach es X.env)).any (·.1)=false:=by rfl) :
 PE X (.Call (.Name x p) (e::es) [] pos) (RD sp zB E t):=by
 intro pq s σ H Q I h;refine wpAny_Call_Name_kw (wQ I hg hm ?_ hdb);refine adT (h₀:=X.base) I.ok.mod.U5 hk (dh (ha pos pq s σ H _ I h) λus s1 ⟨vs,H1,O,r,q⟩=>⟨O.Fy,?_⟩) he hpl
 exact F2 F hr hb hd hx O r q
def wU{pl:Sem Bool}(he:PE X o ta)(c:Pn X.K C)(hm:Meth X.K C m f)(F:gH X.prog X.w X.K X.mg X.base CX k f fd ps sp)(hr:eJ k X.A)(hb:Binds X.K fd ps ds)(hd:Vals zB ds)(hx:Passes CX X E)(ha:PA X (e::es) t)
 (hst:starEach (e::es) X.env=(false,eval e X.env)::starEach es X.env:=by rfl) (hpl:(backTo pos (starEach es X.env)).any (·.1)=false:=by rfl)
 (ht:eval (.Call (.Attribute o m apos) (e::es) [] pos) X.env=(do
  let O←eval o X.env
  standAt apos.atName
  let(f,first)←holding [O] (getMethod O m pl)
  callWith pos f first (backTo pos (starEach (e::es) X.env)) (backToKw pos (keywordEach [] X.env))):=by rfl) :
 PE X (.Call (.Attribute o m apos) (e::es) [] pos) (RE C m sp zB E ta t):=by
 intro pq s σ H Q I h;refine PySem.W.methodCall_KW (pl:=pl) (dh (he pq s σ H _ I h) λu s1 ⟨x,H1,U,rx,a,dx,fs,ex,Z,l,q⟩=>?_) ht
 subst ex;obtain rfl:u=Value.ref a:=rx;refine xB U Z c hm l ?_;refine adT (first:=[.ref a]) (h₀:=X.base) I.ok.mod.U5 hm.kp (dh (ha pos pq s1 σ H1 _ U q) λus s2 ⟨vs,H2,Y,r,q2⟩=>⟨Y.Fy,?_⟩) hst hpl
 exact F2 (us:=.ref a::us) (vs:=.ref a::vs) F hr hb hd hx Y (.cons rfl r) q2
def bX{pl:Sem Bool}(he:PE X o ta)(c:Pn X.K C)(hm:Meth X.K C m f)(F:gH X.prog X.w X.K X.mg X.base CX k f fd ps sp)(hr:eJ k X.A)(hb:Binds X.K fd ps ds)(hd:Vals zB ds)(hx:Passes CX X E)
 (ht:eval (.Call (.Attribute o m apos) [] [] pos) X.env=(do
  let U←eval o X.env
  standAt apos.atName
  let(f,first)←holding [U] (getMethod U m pl)
  callWith pos f first (backTo pos (starEach [] X.env)) (backToKw pos (keywordEach [] X.env))):=by rfl) :
 PE X (.Call (.Attribute o m apos) [] [] pos) (RE C m sp zB E ta V1):=by
 intro pq s σ H Q I h;refine PySem.W.methodCall_KW (pl:=pl) (dh (he pq s σ H _ I h) λu s1 ⟨x,H1,O,rx,a,dx,fs,ex,Y,l,q⟩=>?_) ht
 subst ex;obtain rfl:u=Value.ref a:=rx;refine xB O Y c hm l ?_;exact PySem.W.callWith_K0 (first:=[.ref a]) O.Fy hm.kp (F2 (us:=[.ref a]) (vs:=[.ref a]) F hr hb hd hx O (.cons rfl .nil) q)
structure Mk(K:bJ)(C f:Addr):Prop where
 makes:PySem.W.makesIn K C=true
 init:PySem.W.findIn K (.ref C) "__init__"=some (some (.ref f))
 fn:PySem.W.isFn K (.ref f)=true
 kp:PySem.W.keepIn K (.ref C)=true
def Mq{pq:aX}{σ:St}{H:Hp}{s:Shared}{Q:VK}{us:List Value}{vs:List V}(M:Mk X.K C f)(F:gH X.prog X.w X.K X.mg X.base CX k f fd ps sp)(hr:eJ (k+1) X.A)(hb:Binds X.K fd ps ds)(hd:Vals zB ds)
 (hx:Passes CX X E) (I:Inv X pq σ H s) (r:Vals vs us)
 (h:∀x dx,H x=none->H dx=none->dx≠x->sp (.ref x::(vs++zB)) (upd (upd H dx (.own x)) x (.ins C dx [])) (λv H2=>v = .eX/\Q (.ref x) H2) E) :
 wpAny (model X.prog X.w) X.A (call (.ref C) us) (EP X pq σ Q) X.xe s:=by
 have Y:=h (s.heap.objs.size+1) s.heap.objs.size (I.hok.fresh (abO _)) (I.hok.fresh (aam _)) (aaP (ace _));have U:=Inv.made (C:=C) I;have Z:Vals (V.ref (s.heap.objs.size+1)::(vs++zB)) (Value.ref (s.heap.objs.size+1)::(us++ds)):=.cons rfl (r.append hd);have hl:(Value.ref (s.heap.objs.size+1)::us++ds).length=ps.length:=by
  have e:=Z.length;rw[F.len _ _ _ _ Y]at e;exact e.symm
 refine wpAny_call (Mp (f:=f) I.Fy M.makes M.init (adJ.mp M.fn) (codeAny_mono (F.run _ X.stack _ _ ⟨Value.ref (s.heap.objs.size+1)::us,[]⟩ (Value.ref (s.heap.objs.size+1)::(us++ds)) _ _ E (hr.make C us [])
  (U.V3.make C us []) (hb _ (Value.ref (s.heap.objs.size+1)::us) U.Fy hl) Z Y) λr s' O=>?_))
 cases r with
 | error e=>exact hx pq σ _ _ e s' U O
 | ok fl =>
   cases fl with
   | ret u =>
     obtain⟨v,H',I3,rv,ev,q3⟩:=U.after O;subst ev;exact⟨rv,⟨V.ref (s.heap.objs.size+1),H',I3,rfl,q3⟩⟩
   | next=>exact False.elim O
   | brk=>exact False.elim O
   | cont=>exact False.elim O
def Iv(M:Mk X.K C f)(F:gH X.prog X.w X.K X.mg X.base CX k f fd ps sp)(hr:eJ (k+1) X.A)(hg:Gl X x)(hm:X.mg x=some (.ref C))(hb:Binds X.K fd ps ds)(hd:Vals zB ds)(hx:Passes CX X E)
 (ha:PA X (e::es) t) (hdb:(x==("__debug__":Str))=false:=by decide) (he:starEach (e::es) X.env=(false,eval e X.env)::starEach es X.env:=by rfl) (hpl:(backTo pos (starEach es X.env)).any (·.1)=false:=by rfl) :
 PE X (.Call (.Name x p) (e::es) [] pos) (V4 C sp zB E t):=by
 intro pq s σ H Q I h;refine wpAny_Call_Name_kw (wQ I hg hm ?_ hdb);refine adT (h₀:=X.base) I.ok.mod.U5 M.kp (dh (ha pos pq s σ H _ I h) λus s1 ⟨vs,H1,O,r,q⟩=>⟨O.Fy,?_⟩) he hpl
 exact Mq M F hr hb hd hx O r q
end
structure aC(N P:List Str)(sc:Scope):Prop where
 kind:sc.kind = .function
 co:sc.isCoroutine=false
 gen:sc.isGenerator=false
 nd:N.Nodup
 pre:N.take P.length=P
 par:∀x∈P,sc.names.lookup x=some .local\/sc.names.lookup x=some .cell
 S4:∀y∈sc.names,y.2≠.free
def Aq{kindOf:Str->Option NameKind}{x:Str}:∀{binds:List (Str×Value)} {m:nY},(∀v,(x,v)∉binds)->bindL kindOf binds m x=m x
 | [],_,_=>rfl
 | (n,v)::r,m,h=>by
   unfold bindL;rw[Aq λw hw=>h w (nU _ hw)]
   split
   ·have:x≠n:=by rintro rfl;exact h v aaF
    simp[this]
   ·rfl
def Ar{kindOf:Str->Option NameKind}{x:Str}:∀{binds:List (Str×Value)} {m:nY},(∀v,(x,v)∉binds)->bindC kindOf binds m x=m x
 | [],_,_=>rfl
 | (n,v)::r,m,h=>by
   unfold bindC;rw[Ar λw hw=>h w (nU _ hw)]
   split
   ·rfl
   ·have:x≠n:=by rintro rfl;exact h v aaF
    simp[this]
def As{kindOf:Str->Option NameKind}{x:Str}{v:Value}:∀{P:List Str} {vs:List Value} {i:Nat} {m:nY},P.Nodup->P[i]?=some x->vs[i]?=some v->kindOf x=some .local->
 bindL kindOf (P.zip vs) m x=some v
 | [],_,_,_,_,h,_,_=>by simp at h
 | _::_,[],_,_,_,_,h,_=>by simp at h
 | p::P,w::vs,0,m,nd,h1,h2,hk=>by
   simp at h1 h2;subst h1;subst h2;show bindL kindOf ((p,w)::P.zip vs) m p=_;unfold bindL;rw[Aq λv I=>(abn.mp nd).1 (List.of_mem_zip I).1,aai hk]
   simp
 | p::P,w::vs,i+1,m,nd,h1,h2,hk=>by
   show bindL kindOf ((p,w)::P.zip vs) m x=_;unfold bindL;exact As (i:=i) (abn.mp nd).2 (by simpa using h1) (by simpa using h2) hk
def Au{kindOf:Str->Option NameKind}{x:Str}{v:Value}:∀{P:List Str} {vs:List Value} {i:Nat} {m:nY},P.Nodup->P[i]?=some x->vs[i]?=some v->kindOf x≠some .local->
 bindC kindOf (P.zip vs) m x=some v
 | [],_,_,_,_,h,_,_=>by simp at h
 | _::_,[],_,_,_,_,h,_=>by simp at h
 | p::P,w::vs,0,m,nd,h1,h2,hk=>by
   simp at h1 h2;subst h1;subst h2;show bindC kindOf ((p,w)::P.zip vs) m p=_;unfold bindC;rw[Ar λv I=>(abn.mp nd).1 (List.of_mem_zip I).1,aaf hk]
   simp
 | p::P,w::vs,i+1,m,nd,h1,h2,hk=>by
   show bindC kindOf ((p,w)::P.zip vs) m x=_;unfold bindC;exact Au (i:=i) (abn.mp nd).2 (by simpa using h1) (by simpa using h2) hk
def start(N:List Str)(vs:List V):St:=vs.map some++List.replicate (N.length-vs.length) none
def vZ(CX:LN)(P:Program)(w:World)(K:bJ)(mg:nY)(base:Heap)(N:List Str)(qual:Str)(scope:Scope)(f:Addr)(cd:Value)(A:Around)(outer:List Env)(s:Shared)(H:Hp)(E:XK):Cx where
 prog:=P
 w:=w
 K:=K
 mg:=mg
 base:=base
 A:=A.deeper (envOfC qual scope s.heap.objs.size f cd)
 N:=N
 s₀:=s
 H₀:=H
 env:=envOfC qual scope s.heap.objs.size f cd
 outer:=outer
 stack:=envOfC qual scope s.heap.objs.size f cd::outer
 ex:=[]
 calm:=true
 fn:=λ_=>true
 pn:=[]
 xe:=λe s'=>wpAny (model P w) (A.deeper (envOfC qual scope s.heap.objs.size f cd)) (leaving (envOfC qual scope s.heap.objs.size f cd) e) (λ_ s''=>CX outer H s E e s'') (λe' s''=>CX outer H s E e' s'') s'
def C9{sc:Scope}{n:Nat}{x:Str}(h:sc.names.lookup x=some .cell):∃c,(cellsFrom n sc.names []).lookup x=some c:=by
 have q:=PySem.W.cellsFrom_some sc.names n [] (.inl h);exact Option.isSome_iff_exists.mp q
def JH{CX:LN}{P:Program}{w:World}{K:bJ}{mg:nY}{base:Heap}{N ps:List Str}{qual:Str}{scope:Scope}{f:Addr}{cd:Value}{A:Around}{outer:List Env}{s s1:Shared}{H:Hp}{E:XK}{us:List Value}{vs:List V}
 (S:aC N ps scope) (hd:A.handled=none) (e0:F1 P w K mg base A outer s H) (hl:vs.length=ps.length) (r:Vals vs us)
 (x:InCallC s s.heap.objs.size (bindL (envOfC qual scope s.heap.objs.size f cd).kindOf (ps.zip us) λ_=>none) (cellsFrom (s.heap.objs.size+1) scope.names []) (bindC (envOfC qual scope s.heap.objs.size f cd).kindOf (ps.zip us) λ_=>none) s1) :
 Inv (vZ CX P w K mg base N qual scope f cd A outer s H E) [] (start N vs) H s1:=by
 have ab:ps.length<=N.length:=by have:=aa4 List.length S.pre;rw[abk]at this;lia
 obtain⟨h1,tk,rfl,hk⟩:=x.done;have Y:∀b:Addr,b∉(vZ CX P w K mg base N qual scope f cd A outer s H E).ex:=λb z=>absurd (show b∈([]:List Addr) from z) (by simp)
 refine⟨⟨e0.mod,S.kind,rfl,rfl,aam _,λy z c h1 h2=>?_,λy I=>?_,λy c _ h=>?_,λ_=>hd,Around.frames_deeper e0.frames,.inr ⟨rfl,rfl⟩,λb z=>absurd z (Y b),e0.bs,e0.L1,λb _ _=>Y b,λb z=>absurd z (Y b),e0.funs,e0.PK⟩,
  rfl,e0.bare,Un.kept hk,⟨_,x.toInCall.ns,λi y v h1 h2 h3=>?_⟩,λy c h=>⟨_,x.cell y c h⟩,e0.hok.fresh (aam _),λy c h=>?_,λp O=>absurd (show p∈([]:aX) from O) (by simp),e0.hok.kept hk,?_⟩
 ·exact name_of_addr x.apart (abA h1) (abA h2)
 ·have I:scope.names.lookup y=some .cell\/scope.names.lookup y=some .free:=I;rcases I with I|I
  ·exact C9 I
  ·exact absurd rfl (S.S4 _ (abA I))
 ·exact abq (x.above y c (abA h))
 ·have hi:i<vs.length:=by
   unfold start at h2
   by_cases hi:i<vs.length
   ·exact hi
   ·rw[abf (by simpa using hi)]at h2
    rw[acJ]at h2
    split at h2<;>cases h2
  have ha:vs[i]?=some v:=by
   unfold start at h2;rw[aba (by simpa using hi),aaw]at h2
   cases e:vs[i]? with
   | none=>rw[e]at h2;cases h2
   | some a=>rw[e]at h2;cases h2;rfl
  obtain⟨u,Z,rv⟩:=r.get ha;have O:ps[i]?=some y:=by
   rw[<-S.pre,List.getElem?_take_of_lt (by lia)];exact h1
  have U:ps.Nodup:=by rw[<-S.pre];exact S.nd.sublist (List.take_sublist _ _)
  refine⟨u,rv,?_⟩;rcases S.par y (jV O) with k|k
  ·exact .inl ⟨k,As U O Z k⟩
  ·obtain⟨c,e⟩:=C9 (n:=s.heap.objs.size+1) k;refine .inr ⟨.inl k,c,e,?_⟩;have q:=x.cell y c e;rw[Au U O Z (by show scope.names.lookup y≠_;rw[k];decide)]at q
   exact q
 ·exact e0.hok.fresh (abq (x.above y c (abA h)))
 ·unfold start;show _=N.length;rw[aaz,aac,abW]
  lia
def Mr{CX:LN}{P:Program}{w:World}{K:bJ}{mg:nY}{base:Heap}{k:Nat}{f:Addr}{name qual:Str}{params:Arguments}{body:List Stmt}{scope:Scope}{dV kV doc pm cdv ct oc:Value}{an od:Option Addr}
 {osl:Array (Option Value)} {N ps:List Str} {sp:Sp} (lk:K.lookup f=some ⟨oc,od,.func (PySem.W.fnOf name qual params body scope dV kV doc pm an cdv ct),osl⟩) (hcd:PySem.W.codeIn K cdv qual=true) (S:aC N ps scope)
 (len:∀vs H Q E,sp vs H Q E->vs.length=ps.length)
 (hbody:∀(A:Around) (outer:List Env) (s:Shared) (H:Hp) (vs:List V) (Q:VK) (E:XK),eJ k (A.deeper (envOfC qual scope s.heap.objs.size f cdv))->sp vs H Q E->
  ∃t,zA (vZ CX P w K mg base N qual scope f cdv A outer s H E) body t/\t { nx:=λ_ H'=>Q .eX H',rt:=Q} (start N vs) H) :
 gH P w K mg base CX (k+1) f (PySem.W.fnOf name qual params body scope dV kV doc pm an cdv ct) ps sp:=by
 refine⟨len,λA outer s H args us vs Q E hr U hb r Z=>?_⟩
 have hl:=len _ _ _ _ Z;have KX:K.In s.heap:=U.mod.U5.keeps λb o e=>(U.bs b o e).1
 have lim:s.heap.NoLimit:=U.mod.nolimit.keeps λb o e=>(U.bs b o e).1
 have O:∀y∈ps.zip us,scope.names.lookup y.1=some .local\/(scope.names.lookup y.1=some .cell/\((cellsFrom (s.heap.objs.size+1) scope.names []).lookup y.1).isSome=true):=λ⟨n,v⟩ hy=>by
  rcases S.par n (List.of_mem_zip hy).1 with q|q
  ·exact .inl q
  ·exact .inr ⟨q,PySem.W.cellsFrom_some _ _ _ (.inl q)⟩
 refine codeAny_call_function hr.depth (KX _ _ lk) rfl S.co S.gen rfl (PySem.W.codeRec_of KX hcd) (hb _ _ _ _ ?_);refine wpAny_newFunctionEnv_cells S.kind O λenv he s1 x=>?_
 subst he;refine⟨lim.keeps x.toInCall.keep,codeAny_func ?_⟩;obtain⟨t,ht,hq⟩:=hbody A outer s H vs Q E (hr.deeper _) Z;have I:Inv (vZ CX P w K mg base N qual scope f cdv A outer s H E) [] (start N vs) H s1:=JH S hr.hd U hl r x;refine aa8 (ht [] s1 (start N vs) H _ I hq) (λfl s' hs=>?_) λe s' hs=>hs
 have fin:∀{σ' : St} {H' : Hp} {v:V} {u:Value},Inv (vZ CX P w K mg base N qual scope f cdv A outer s H E) [] σ' H' s'->RelV v u->Q v H'->CE outer P w H s Q u s' :=
  λ{σ' H' v u} J Y q=>⟨v,H',J.os,J.bare,J.base,J.hok,Y,q⟩
 cases fl with
 | ret u =>
   obtain⟨v,σ',H',J,Y,q⟩:=hs;exact fin J Y q
 | next =>
   obtain⟨σ',H',J,q⟩:=hs;exact fin (v:=V.eX) (u:=Value.none) J rfl q
 | brk =>
   obtain⟨_,_,_,q⟩:=hs;exact False.elim q
 | cont =>
   obtain⟨_,_,_,q⟩:=hs;exact False.elim q
section
variable {X:Cx}{x:Str}{p pos:Pos}{e:Expr}{es:List Expr}{t:TA}{id T:String}{r:List V->Hp->VK->Prop}
def ZM(r:List V->Hp->VK->Prop)(t:TA):TE:=λσ H Q=>t σ H λvs H1=>r vs H1 Q
def cF(hc:ic X (.builtin id) r)(hg:Gl X x)(hm:X.mg x=none)(hv:bootBuiltins x=some (.builtin id))(ha:PA X (e::es) t)(hn:x≠"__name__":=by decide)(hdb:(x==("__debug__":Str))=false:=by decide)
 (he:starEach (e::es) X.env=(false,eval e X.env)::starEach es X.env:=by rfl) (hpl:(backTo pos (starEach es X.env)).any (·.1)=false:=by rfl):PE X (.Call (.Name x p) (e::es) [] pos) (ZM r t):=by
 intro pq s σ H Q I h;refine wpAny_Call_Name_kw (om I hg hm hv ?_ hn hdb);exact PyProof.Rows.callWith_builtin1 (dh (ha pos pq s σ H _ I h) λus s1 ⟨vs,H1,O,U,Y⟩=>hc pq s1 σ H1 vs us Q O U Y) he hpl
def fc(hc:ic X (.type T) r)(hg:Gl X x)(hm:X.mg x=none)(hv:bootBuiltins x=some (.type T))(ha:PA X (e::es) t)(hn:x≠"__name__":=by decide)(hdb:(x==("__debug__":Str))=false:=by decide)
 (he:starEach (e::es) X.env=(false,eval e X.env)::starEach es X.env:=by rfl) (hpl:(backTo pos (starEach es X.env)).any (·.1)=false:=by rfl):PE X (.Call (.Name x p) (e::es) [] pos) (ZM r t):=by
 intro pq s σ H Q I h;refine wpAny_Call_Name_kw (om I hg hm hv ?_ hn hdb);exact ab4 (dh (ha pos pq s σ H _ I h) λus s1 ⟨vs,H1,O,U,Y⟩=>hc pq s1 σ H1 vs us Q O U Y) he hpl
end
end L2
namespace HT
open PySem PyProof.Rows
def lexLt:List Int->List Int->Bool
 | [],[]=>false
 | [],_::_=>true
 | _::_,[]=>false
 | x::xs,y::ys=>if x=y then lexLt xs ys else decide (x<y)
def iI(x y:Int)(xs ys:List Int):lexLt (x::xs) (y::ys)=if x=y then lexLt xs ys else decide (x<y):=rfl
def qz:lexLt [] []=false:=rfl
def xC(y:Int)(ys:List Int):lexLt [] (y::ys)=true:=rfl
def ig(x:Int)(xs:List Int):lexLt (x::xs) []=false:=rfl
def De(A:Around)(s:Shared)(a:Int)(t:Tok)(c:Int)(u:Tok):∃e,SeqAt.EqAt A s (.int a t) (.int c u) e/\(e=true↔a=c) :=
 ⟨(a==c),SeqAt.EqAt.int_int a t c u,by simp⟩
def Ms(A:Around)(s:Shared)(a:Int)(t:Tok)(c:Int)(u:Tok)(prog:Program)(w:World)(E:dR)(Q:dR)(h:Q (.bool (decide (a<c))) s):
 wpAny (model prog w) A (richCompare .Lt (.int a t) (.int c u)) Q E s :=
 (PyProof.Rows.lt_int h:wpAny (model prog w) A (compareOp .Lt (.int a t) (.int c u)) Q E s)
section
open PySem.SeqAt
open PySem.AutoSeq1 (wpAny_loadPart')
open PySem.MeetsSeq PySem.MeetsSeq2 PySem.MeetsSeq3
def zC(l b:Addr)(items items2:Array Value)(n n2:Nat)(dd dd2:Option Addr)(sl sl2:Array (Option Value))(ns ms:List Int)(hi:IntsAre items.toList ns)(hj:IntsAre items2.toList ms):
 Meets (Builtin.«tuple.__lt__» ⟨[.ref l,.ref b],[]⟩)
  (λ_ R s=>s.heap.get? l=some { cls:=.type "tuple",dict:=dd,data:=.seq items n,slots:=sl}/\s.heap.get? b=some { cls:=.type "tuple",dict:=dd2,data:=.seq items2 n2,slots:=sl2}/\
   R (.ok (.ret (.bool (lexLt ns ms)))) s) :=
 .of_wp λprog w A R s h=>by
  obtain⟨hp,g,d,tk,os⟩:=s;obtain⟨hl,hb,h⟩:=h;have f2:=AutoSeq1.sub_tuple_tuple;have z1:items.size=ns.length:=by rw[<-hi.length];simp
  have z2:items2.size=ms.length:=by rw[<-hj.length];simp
  wp_walk using wpAny_loadPart' hl,wpAny_loadPart' hb,wpAny_forIn_list _ (λrest b s'=>b.1=none/\s' = ⟨hp,g,d,tk,os⟩/\∃(vs ws:List Value) (I O : List Int),rest=vs.zip ws/\
   IntsAre vs I/\IntsAre ws O/\I.length+items2.size=O.length+items.size/\R (.ok (.ret (.bool (lexLt I O)))) ⟨hp,g,d,tk,os⟩) _
  case turn =>
   rintro⟨y,x⟩ rest b s' ⟨Z,rfl,vs,ws,I,O,hz,RG,U,hlen,Y⟩;cases RG with
   | nil=>rw[List.zip_nil_left]at hz;cases hz
   | cons a t ab =>
     cases U with
     | nil=>rw[List.zip_nil_right]at hz;cases hz
     | cons c u ag =>
       rw[List.zip_cons_cons]at hz;injection hz with hyx hrest
       injection hyx with hy hx
       subst hy hx;rw[iI]at Y;simp only[abj]at hlen;obtain⟨e,he,Mt⟩:=De A.in1 ⟨hp,g,d,tk,os⟩ a t c u;refine wpAny_bind (he prog w _ _ ?_);cases e with
       | true =>
         rw[aai (Mt.mp rfl)]at Y
         wp_walk
         exact⟨rfl,rfl,_,_,_,_,hrest,ab,ag,by lia,Y⟩
       | false =>
         rw[aaf (λq=>absurd (Mt.mpr q) aav)]at Y
         have Df:=Ms A.in1 ⟨hp,g,d,tk,os⟩ a t c u prog w
         wp_walk using Df
         exact⟨_,rfl,by simpa using Y⟩
  case fin =>
   rintro⟨b1,b2⟩ s' ⟨Z,rfl,vs,ws,I,O,hz,RG,U,hlen,Y⟩;simp only at Z;subst Z;have hv:lexLt I O = decide (items.size<items2.size):=by
    cases RG with
    | nil =>
      cases U with
      | nil =>
        simp only[acz]at hlen;rw[qz];exact(gj (by lia)).symm
      | cons c u hw =>
        simp only[acz,abj]at hlen;rw[xC];exact(dm (by lia)).symm
    | cons a t hv =>
      cases U with
      | nil =>
        simp only[acz,abj]at hlen;rw[ig];exact(gj (by lia)).symm
      | cons c u hw =>
        rw[List.zip_cons_cons]at hz;cases hz
   rw[hv]at Y
   wp_walk
   exact⟨_,rfl,by simpa[Builtin.Tuple.tupleCompareSizes]using Y⟩
  case h =>
   exact⟨rfl,rfl,items.toList,items2.toList,ns,ms,rfl,hi,hj,by lia,h⟩
end
section
variable {prog:Program}{w:World}{A:Around}{E:dR}{s:Shared}
def F3{l b:Addr}{items items2:Array Value}{ns ms:List Int}{Q:dR}(hl:IsTup s.heap l items)(hb:IsTup s.heap b items2)(hi:IntsAre items.toList ns)(hj:IntsAre items2.toList ms)
 (hu:A.units<cLine) (h:Q (.bool (lexLt ns ms)) s):wpAny (model prog w) A (compareOp .Lt (.ref l) (.ref b)) Q E s:=by
 obtain⟨⟨cls,O,data,sl⟩,I,hc,n,hd⟩:=id hl;obtain⟨⟨P4,dd2,data2,sl2⟩,ho2,hc2,n2,hd2⟩:=id hb;simp only at hc hd hc2 hd2;subst hc hd hc2 hd2;exact richCompare_meets_room (op:=.Lt) ⟨_,I,rfl⟩ ⟨_,ho2,rfl⟩ PySem.F.slot_tuple_lt PySem.F.entry_tuple_lt (PySem.F.args_tuple_lt_2 _ _) (zC l b items items2 n n2 O dd2 sl sl2 ns ms hi hj)
  ⟨I,ho2,show Value.bool (lexLt ns ms)≠Value.notImplemented/\Q (.bool (lexLt ns ms)) s from⟨(λx=>nomatch x),h⟩⟩ hu
def P5{t b:Addr}{vs ws:List Value}{Q:dR}(ht:IsTup s.heap t vs.toArray)(hb:IsTup s.heap b ws.toArray)(hv:vs≠[])
 (h1:ws=[]->Q (.ref t) s) (h2:ws≠[]->Q (.ref s.heap.objs.size) { s with heap:=s.heap.push { cls:=.type "tuple",data:=.seq (vs++ws).toArray}})
 (hsz:vs.length+ws.length<=sizeLine):wpAny (model prog w) A (binaryOp .Add (.ref t) (.ref b)) Q E s:=by
 obtain⟨⟨cls,O,data,sl⟩,I,hc,n,hd⟩:=id ht;obtain⟨⟨P4,dd2,data2,sl2⟩,ho2,hc2,n2,hd2⟩:=id hb;simp only at hc hd hc2 hd2;subst hc hd hc2 hd2;have e:vs.toArray++ws.toArray=(vs++ws).toArray:=by simp
 by_cases hw:ws=[]
 ·exact concat_meets ⟨_,I,rfl⟩ ⟨_,ho2,rfl⟩ noFill_tuple_add seq_tuple_add adp adk (ac8 _ _)
   (tuple_addW1 t b vs.toArray ws.toArray n n2 O dd2 sl sl2 (by simpa using hv) (by simp[hw])) ⟨I,ho2,h1 hw⟩
 ·refine concat_meets ⟨_,I,rfl⟩ ⟨_,ho2,rfl⟩ noFill_tuple_add seq_tuple_add adp adk (ac8 _ _)
   (tuple_addW2 t b vs.toArray ws.toArray n n2 O dd2 sl sl2 (by simpa using hv) (by simpa using hw) (by rw[aaG,aaG];exact hsz)) ⟨I,ho2,?_⟩
  rw[e];exact h2 hw
def Aw(n d:Nat):Option Int->Nat
 | none=>d
 | some v=>if v<0 then(v+(n:Int)).toNat else min v.toNat n
def Mu(n d:Nat):Aw n d none=d:=rfl
def P6(n d k:Nat):Aw n d (some (k:Int))=min k n:=by
 show(if(k:Int)<0 then((k:Int)+(n:Int)).toNat else min (k:Int).toNat n)=min k n
 rw[aaf (by lia),aaE]
end
end HT
namespace L2
open PySem PySem.Spec PyProof.Rows
abbrev TO:=St->Hp->(Option Int->Hp->Prop)->Prop
def PO(X:Cx)(e:Option Expr)(t:TO):Prop :=
 ∀(pq:aX) (s:Shared) (σ:St) (H:Hp) (Q:Option Int->Hp->Prop),Inv X pq σ H s->t σ H Q->
  wpAny (model X.prog X.w) X.A (evalPart e X.env) (λu s'=>∃o H',Inv X pq σ H' s'/\IsPart u o/\Q o H') X.xe s
def P7:TO:=λ_ H Q=>Q none H
def V5(t:TE):TO:=λσ H Q=>t σ H λx H1=>∃i,x = .int i/\Q (some i) H1
def intsAre_of{ns:List Int}:∀{us:List Value},Vals (ns.map V.int) us->IntsAre us ns:=by
 induction ns with
 | nil=>intro us r;rw[List.map_nil]at r;cases r;exact .nil
 | cons n ns I =>
   intro us r;rw[aaR]at r;cases r with
   | cons O U =>
     obtain⟨t,e⟩:=O;subst e;exact .cons n t (I U)
section
variable {X:Cx}{e:Expr}{te:TE}{lo hi:Option Expr}{tl th:TO}{pos p2:Pos}
def P8:PO X none P7:=by
 intro pq s σ H Q I h;rw[evalPart_none];exact aaq ⟨none,H,I,.none,h⟩
def Br(h:PE X e te):PO X (some e) (V5 te):=by
 intro pq s σ H Q I hw;rw[evalPart_some];refine dh (h pq s σ H _ I hw) λu s1 ⟨x,H1,O,U,Y⟩=>?_
 obtain⟨i,rfl,q⟩:=Y;obtain⟨t,rfl⟩:=U;exact⟨some i,H1,O,.int i t,q⟩
def ZN(X:Cx)(r:V->Option Int->Option Int->Hp->VK->Prop):Prop :=
 ∀(pq:aX) (s:Shared) (σ:St) (H:Hp) (x:V) (v I O:Value) (lo hi:Option Int) (sl:Addr) (Q:VK),Inv X pq σ H s->RelV x v->s.heap.IsSliceOf sl I O .none->IsPart I lo->IsPart O hi->r x lo hi H Q->
  ∃T id,typeLookup (.type T) "__getitem__"=pure (some (.builtin id))/\s.TypeIs v T/\wpAny (model X.prog X.w) X.A (getItem v (.ref sl)) (EP X pq σ Q) X.xe s
def tSl(r:V->Option Int->Option Int->Hp->VK->Prop)(te:TE)(tl th:TO):TE:=λσ H Q=>te σ H λx H1=>tl σ H1 λl H2=>th σ H2 λu H3=>r x l u H3 Q
def Dg{r:V->Option Int->Option Int->Hp->VK->Prop}(hr:ZN X r)(he:PE X e te)(hl:PO X lo tl)(hu:PO X hi th):PE X (.Subscript e (.Slice lo hi none p2) pos) (tSl r te tl th):=by
 intro pq s σ H Q I h;refine Subscript_ (dh (he pq s σ H _ I h) λv s1 ⟨x,H1,Y,Z,q1⟩=>?_)
 refine wpAny_Slice (dh (hl pq s1 σ H1 _ Y q1) λO s2 ⟨l,H2,I2,pl,q2⟩=>dh (hu pq s2 σ H2 _ I2 q2) λU s3 ⟨u,H3,I3,pu,q3⟩=>?_)
 rw[evalPart_none];refine aaq ?_;have I4:Inv X pq σ H3 { s3 with heap:=s3.heap.push { cls:=.type "slice",data:=.fields #[O,U,.none]}}:=I3.kept (t':=s3.toks) λb ob q=>aao _ q
 obtain⟨T,id,hT,ht,hg⟩:=hr pq { s3 with heap:=s3.heap.push { cls:=.type "slice",data:=.fields #[O,U,.none]}} σ H3 x v O U l u s3.heap.objs.size Q I4 Z (Heap.IsSliceOf.new ..) pl pu q3
 show wpAny (model X.prog X.w) X.A (subscriptTail e (.Slice lo hi none p2) v (.ref s3.heap.objs.size)) (EP X pq σ Q) X.xe { s3 with heap:=s3.heap.push { cls:=.type "slice",data:=.fields #[O,U,.none]}}
 exact tail_any (ops:=[.ref s3.heap.objs.size,v]) ht hT hg (by with_unfolding_all rfl)
def zD(xs:List V)(lo hi:Option Int):List V:=(xs.drop (HT.Aw xs.length 0 lo)).take (HT.Aw xs.length xs.length hi-HT.Aw xs.length 0 lo)
def Dh(xs:List V)(lo hi:Option Int):(zD xs lo hi).length<=xs.length:=by
 unfold zD;rw[abk,acF]
 lia
def V6(K:bJ):R2:=λx y H Q=>∃a b xs ys,x = .ref a/\y = .ref b/\aU K H a xs/\aU K H b ys/\xs≠[]/\xs.length+ys.length<=sizeLine/\
 (ys=[]->Q (.ref a) H)/\(ys≠[]->∀p,H p=none->Q (.ref p) (upd H p (.tup (xs++ys))))
def Vals.Bs{xs:List V}{us:List Value}(r:Vals xs us):us=[]↔xs=[]:=by
 cases r with
 | nil=>simp
 | cons _ _=>simp
def P9:my X (binaryOp .Add) (V6 X.K):=by
 intro pq s σ H x y v u Q I rx O h;obtain⟨a,b,xs,ys,rfl,rfl,ha,hb,hx,hz,U,Y⟩:=h;cases rx;cases O;obtain⟨its,r1,p1,_⟩:=I.tuple ha;obtain⟨its2,r2,p2,_⟩:=I.tuple hb;refine HT.P5 p1 p2 (λz=>hx (r1.Bs.mp z)) (λz=>⟨.ref a,H,I,rfl,U (r2.Bs.mp z)⟩) (λz=>?_) (by rw[<-r1.length,<-r2.length];exact hz)
 refine⟨.ref s.heap.objs.size,_,I.laid (t':=s.toks) (o:=.tup (xs++ys)) (λb ob q=>aao _ q) (aam _) ?_,rfl,Y (λw=>z (r2.Bs.mpr w)) _ (I.hok.fresh (aam _))⟩
 exact⟨by rw[aaz];exact hz,_,r1.append r2,IsTup.new _ _⟩
end
def Qa(n:Nat)(i:Int):Option Nat:=if 0<=i then(if i<n then some i.toNat else none) else if -(n:Int)<=i then some (i+n).toNat else none
def Fi{α:Type}(xs:List α)(i:Int):Option α:=(Qa xs.length i).bind λj=>xs[j]?
def Iw{n:Nat}{i:Int}{j:Nat}(h:Qa n i=some j):seqIndex? i n=some j/\j<n/\-(n:Int)<=i/\i<n:=by
 unfold Qa at h
 by_cases h0:0<=i
 ·rw[aai h0]at h
  by_cases h1:i<n
  ·rw[aai h1]at h;have e:i.toNat=j:=Option.some.inj h;exact⟨by rw[seqIndex_of h0 h1,e],by lia,by lia,h1⟩
  ·rw[aaf h1]at h;cases h
 ·rw[aaf h0]at h
  by_cases h1 : -(n:Int)<=i
  ·rw[aai h1]at h;have e:(i+n).toNat=j:=Option.some.inj h;exact⟨by rw[seqIndex_neg (by lia) h1,e],by lia,h1,by lia⟩
  ·rw[aaf h1]at h;cases h
def Bt{α:Type}{xs:List α}{i:Int}{v:α}(h:Fi xs i=some v):∃j,seqIndex? i xs.length=some j/\xs[j]?=some v/\j<xs.length/\-(xs.length:Int)<=i/\i<xs.length:=by
 unfold Fi at h;cases e:Qa xs.length i with
 | none=>rw[e]at h;cases h
 | some j =>
   rw[e]at h;obtain⟨h1,h2,I,O⟩:=Iw e;exact⟨j,h1,h,h2,I,O⟩
def ao{α:Type}{xs:List α}{j:Nat}{v:α}(h:xs[j]?=some v):Fi xs (j:Int)=some v:=by
 have hj:j<xs.length:=(jo.mp h).1;have e:Qa xs.length (j:Int)=some j:=by
  unfold Qa;rw[aai (by lia),aai (by lia)];simp
 unfold Fi;rw[e];exact h
def Iz(b:Expr):Prop:=∀o i,subscripted b false o i=operate [o,i] (getItem o i)
def JI(X:Cx)(r:R2):Prop :=
 ∀(value slice:Expr) (pq:aX) (s:Shared) (σ:St) (H:Hp) (x y:V) (v u:Value) (Q:VK),Inv X pq σ H s->RelV x v->RelV y u->r x y H Q->
  subscripted slice false v u=operate [v,u] (getItem v u)->wpAny (model X.prog X.w) X.A (subscriptTail value slice v u) (EP X pq σ Q) X.xe s
def ZO(X:Cx)(id:String)(r:V->List V->Hp->VK->Prop):Prop :=
 ∀(pq:aX) (s:Shared) (σ:St) (H:Hp) (x:V) (xs:List V) (v:Value) (us:List Value) (Q:VK),Inv X pq σ H s->RelV x v->Vals xs us->r x xs H Q->
  wpAny (model X.prog X.w) X.A (call (.builtin id) (v::us)) (EP X pq σ Q) X.xe s
section
variable {X:Cx}{a b:Expr}{ta tb:TE}{pos:Pos}
def JI.or{r r' : R2}(h:JI X r)(h' : JI X r'):JI X (λx y H Q=>r x y H Q\/r' x y H Q):=by
 intro value slice pq s σ H x y v u Q I rx O q hs;rcases q with q|q
 ·exact h value slice pq s σ H x y v u Q I rx O q hs
 ·exact h' value slice pq s σ H x y v u Q I rx O q hs
def V7{r:R2}(hr:JI X r)(ha:PE X a ta)(hb:PE X b tb)(hs:Iz b):PE X (.Subscript a b pos) (VU r ta tb):=by
 intro pq s σ H Q I h;exact Subscript_ (SR ha hb I h λv u s2 x y H2 O rx U q=>hr a b pq s2 σ H2 x y v u Q O rx U q (hs _ _))
def S8(K:bJ):R2:=λx y H Q=>∃p xs i v,x = .ref p/\y = .int i/\aR K H p xs/\Fi xs i=some v/\Q v H
def Tc(K:bJ):R2:=λx y H Q=>∃p xs i v,x = .ref p/\y = .int i/\aU K H p xs/\Fi xs i=some v/\Q v H
def V8:R2:=λx y H Q=>∃z i c,x = .str z/\y = .int i/\z.length<=sizeLine/\Fi z.cps.toList i=some c/\Q (.str ⟨#[c]⟩) H
def IA:JI X (S8 X.K):=by
 intro value slice pq s σ H x y v u Q I rx O h hs;obtain⟨p,xs,i,z,rfl,rfl,U,he,q⟩:=h;cases rx;obtain⟨t,rfl⟩:=O;obtain⟨its,r,pl,hz⟩:=I.list U;obtain⟨j,h1,h2,h3,h4,h5⟩:=Bt he;obtain⟨w,ew,rw'⟩:=r.get h2;have Y:=r.length;have hn:=qO;have fin:EP X pq σ Q w s:=⟨z,H,I,rw',q⟩
 by_cases h0:0<=i
 ·have hj:i.toNat=j:=by
   rw[seqIndex_of h0 h5]at h1;exact Option.some.inj h1
  exact item_listR pl.isList h0 (by lia) (by rw[hj];simpa using ew) fin hs
 ·have hj:(i+(its.toArray.size:Int)).toNat=j:=by
   rw[seqIndex_neg (by lia) h4]at h1
   rw[aaG,<-Y];exact Option.some.inj h1
  exact subscriptTail_builtinR (x:=w) pl.isList.typeIs slot_list_getitem.lookup
   (wpAny_getItem_list_neg (Q:=λr s'=>r=w/\EP X pq σ Q r s') pl.isList (by lia) (by rw[aaG]<;>lia) (by lia) (by rw[hj];simpa using ew) ⟨rfl,fin⟩) hs
def Mv:JI X (Tc X.K):=by
 intro value slice pq s σ H x y v u Q I rx O h hs;obtain⟨p,xs,i,z,rfl,rfl,U,he,q⟩:=h;cases rx;obtain⟨t,rfl⟩:=O;obtain⟨its,r,pl,hz⟩:=I.tuple U;obtain⟨j,h1,h2,h3,h4,h5⟩:=Bt he;obtain⟨w,ew,rw'⟩:=r.get h2;have Y:=r.length;have hn:=qO;have fin:EP X pq σ Q w s:=⟨z,H,I,rw',q⟩;exact subscriptTail_builtinR (x:=w) pl.typeIs slot_tuple_getitem.lookup
  (getItem_tuple (j:=j) (Q:=λr s'=>r=w/\EP X pq σ Q r s') pl (by lia) (by lia) (by rw[aaG,<-Y];exact h1) (by simpa using ew) ⟨rfl,fin⟩) hs
def Td:JI X V8:=by
 intro value slice pq s σ H x y v u Q I rx O h hs;obtain⟨z,i,c,rfl,rfl,hz,he,q⟩:=h;obtain⟨t,rfl⟩:=rx;obtain⟨t',rfl⟩:=O;obtain⟨j,h1,h2,h3,h4,h5⟩:=Bt he;have U:z.cps.toList.length=z.length:=by simp[Str.length]
 rw[U]at h1 h4 h5;have hn:=qO;exact tail_any (typeIs_str s z t) slot_str_getitem.lookup (getItem_str (c:=c) (by
  have Y:decide (i < -(2^63:Int))=false:=gj (by lia)
  have Z:decide (i ≥ 2^63)=false:=gj (by lia)
  rw[Y,Z,Bool.or_false]) (by rw[h1];simpa using h2) ⟨.str ⟨#[c]⟩,H,I.tok _,⟨_,rfl⟩,q⟩) hs
def ZP(K:bJ):R2:=λx y H Q=>S8 K x y H Q\/Tc K x y H Q\/V8 x y H Q
def Tf:JI X (ZP X.K):=IA.or (Mv.or Td)
def F4(its:List Value)(n j:Nat)(u:Value):Obj.mapSeq (·.setIfInBounds j u) { cls:=.type "list",data:=.seq its.toArray n}={ cls:=.type "list",data:=.seq (its.set j u).toArray n}:=by
 simp[Obj.mapSeq]
def Inv.lst{pq:aX}{σ:St}{H:Hp}{s:Shared}{p:Addr}{xs:List V}(I:Inv X pq σ H s)(h:H p=some (.lst xs)):
 ∃(O:List Value) (n:Nat),Vals xs O/\s.heap.get? p=some { cls:=.type "list",data:=.seq O.toArray n}/\xs.length<=sizeLine:=by
 obtain⟨z,O,n,r,e⟩:=I.hok p _ h;exact⟨O,n,r,e,z⟩
def Inv.Tg{pq:aX}{σ:St}{H:Hp}{s:Shared}{p:Addr}{xs ys:List V}{its its' : List Value}{n n' : Nat}{f:Obj->Obj}(I:Inv X pq σ H s)(h:H p=some (.lst xs))
 (ho:s.heap.get? p=some { cls:=.type "list",data:=.seq its.toArray n}) (hf:f { cls:=.type "list",data:=.seq its.toArray n}={ cls:=.type "list",data:=.seq its'.toArray n'}) (r:Vals ys its') (hz:ys.length<=sizeLine) (t:Nat) :
 Inv X pq σ (upd H p (.lst ys)) { s with heap:=s.heap.update p f,toks:=t}:=by
 have e:(s.heap.update p f).get? p=some { cls:=.type "list",data:=.seq its'.toArray n'}:=by
  rw[acg f ho (by rw[hf]<;>rfl),hf]
 refine I.write (x:=p) (e:=p) (by rw[h];trivial) (.inl rfl) (λb u hb q=>(abT _ _ (aa6 hb)).trans q) ⟨_,e⟩ ?_
 exact⟨hz,its',n',r,e⟩
def V9:V->V->V->Hp->(Hp->Prop)->Prop:=λo i v H Q=>∃p xs k j,o = .ref p/\i = .int k/\H p=some (.lst xs)/\Qa xs.length k=some j/\Q (upd H p (.lst (xs.set j v)))
def set_list:SN X V9:=by
 intro pq s σ H o i v ov iv u Q I Z ri rv h;obtain⟨p,xs,k,j,rfl,rfl,U,hj,q⟩:=h;cases Z;obtain⟨t,rfl⟩:=ri;obtain⟨its,n,r,ho,hz⟩:=I.lst U;obtain⟨h1,h2,h3,h4⟩:=Iw hj;have O:=r.length;have hn:=qO;have Y : Inv X pq σ (upd H p (.lst (xs.set j v))) { s with heap:=s.heap.update p (Obj.mapSeq (·.setIfInBounds j u))} :=
  I.Tg U ho (F4 its n j u) (r.set rv j) (by rw[List.length_set];exact hz) s.toks
 by_cases h0:0<=k
 ·have hk:k.toNat=j:=by
   rw[seqIndex_of h0 h4]at h1;exact Option.some.inj h1
  exact PySem.W.ki_setAt ho h0 (by lia) (by rw[aaG,<-O];exact h4) (by rw[hk];exact⟨_,Y,q⟩)
 ·have hk:(k+(its.toArray.size:Int)).toNat=j:=by
   rw[seqIndex_neg (by lia) h3]at h1
   rw[aaG,<-O];exact Option.some.inj h1
  exact PySem.W.ki_setBack ho (by lia) (by rw[aaG,<-O];exact h3) (by lia) (by rw[hk];exact⟨_,Y,q⟩)
def Bu(lo hi:Option Int)(n:Nat):(sliceBounds lo hi none n).1=((HT.Aw n 0 lo:Nat):Int)/\(sliceBounds lo hi none n).2.1=((HT.Aw n n hi:Nat):Int)/\(sliceBounds lo hi none n).2.2=1:=by
 refine⟨?_,?_,rfl⟩
 ·cases lo with
  | none=>simp[sliceBounds,HT.Aw]
  | some i =>
    simp only[sliceBounds,HT.Aw,Option.getD_none,show(1:Int) > 0 by decide,if_true]
    by_cases h:i<0
    ·simp only[h,if_true]<;>lia
    ·simp only[h,if_false]<;>lia
 ·cases hi with
  | none=>simp[sliceBounds,HT.Aw]
  | some i =>
    simp only[sliceBounds,HT.Aw,Option.getD_none,show(1:Int) > 0 by decide,if_true]
    by_cases h:i<0
    ·simp only[h,if_true]<;>lia
    ·simp only[h,if_false]<;>lia
def zE(its:List Value)(lo hi:Option Int):slicePick its.toArray lo hi none=((its.drop (HT.Aw its.length 0 lo)).take (HT.Aw its.length its.length hi-HT.Aw its.length 0 lo)).toArray:=by
 obtain⟨h1,h2,I⟩:=Bu lo hi its.toArray.size;unfold slicePick;rw[h1,h2,I];simp only[sliceRange_one,pick_run,aaG]<;>rfl
def Wa(K:bJ):V->Option Int->Option Int->Hp->VK->Prop:=λx lo hi H Q=>∃a xs,x = .ref a/\aR K H a xs/\∀p,H p=none->Q (.ref p) (upd H p (.lst (zD xs lo hi)))
def Qc:ZN X (Wa X.K):=by
 intro pq s σ H x v U Y lo hi sl Q I rx hs O pu h;obtain⟨a,xs,rfl,hx,q⟩:=h;cases rx;obtain⟨its,r,ht,hz⟩:=I.list hx;have hlen:=r.length;refine⟨"list",_,slot_list_getitem.lookup,ht.isList.typeIs,?_⟩;refine wpAny_getItem_list_slice ht.isList hs O pu .none (by simp) ?_ (by rw[aaG]<;>lia)
 rw[zE,<-hlen];refine⟨.ref s.heap.objs.size,_,I.laid (t':=s.toks) (o:=.lst (zD xs lo hi)) (λb ob q=>aao _ q) (aam _) ?_,rfl,q _ (I.hok.fresh (aam _))⟩
 exact⟨aa0 (Dh xs lo hi) hz,_,0,(r.drop (HT.Aw xs.length 0 lo)).take (HT.Aw xs.length xs.length hi-HT.Aw xs.length 0 lo),aaN _ rfl⟩
def rK:V->Bool
 | .eX=>true
 | .bl _=>true
 | .int _=>true
 | .str _=>true
 | _=>false
def Qd:V->V->Bool
 | .eX,.eX=>true
 | .bl a,.bl b=>a==b
 | .bl a,.int b=>(if a then 1 else 0)==b
 | .int a,.bl b=>a==(if b then 1 else 0)
 | .int a,.int b=>a==b
 | .str a,.str b=>a==b
 | _,_=>false
def Th{A:Around}{s:Shared}{y x:V}{u v:Value}(ry:RelV y u)(rx:RelV x v)(fy:rK y=true)(fx:rK x=true):SeqAt.EqAt A s u v (Qd y x):=by
 cases y with
 | eX =>
   cases ry;cases x with
   | eX=>cases rx;exact SeqAt.EqAt.same _
   | bl b=>cases rx;exact SeqAt.EqAt.none_bool b
   | int b=>obtain⟨t,rfl⟩:=rx;exact SeqAt.EqAt.none_int b t
   | str b=>obtain⟨t,rfl⟩:=rx;exact SeqAt.EqAt.none_str b t
   | _=>exact absurd (show false=true from fx) aav
 | bl a =>
   cases ry;cases x with
   | eX=>cases rx;exact SeqAt.EqAt.bool_none a
   | bl b=>cases rx;exact SeqAt.EqAt.bool_bool a b
   | int b=>obtain⟨t,rfl⟩:=rx;exact SeqAt.EqAt.bool_int a b t
   | str b=>obtain⟨t,rfl⟩:=rx;exact SeqAt.EqAt.bool_str a b t
   | _=>exact absurd (show false=true from fx) aav
 | int a =>
   obtain⟨I,rfl⟩:=ry;cases x with
   | eX=>cases rx;exact SeqAt.EqAt.int_none a I
   | bl b=>cases rx;exact SeqAt.EqAt.int_bool a I b
   | int b=>obtain⟨t,rfl⟩:=rx;exact SeqAt.EqAt.int_int a I b t
   | str b=>obtain⟨t,rfl⟩:=rx;exact SeqAt.EqAt.int_str a I b t
   | _=>exact absurd (show false=true from fx) aav
 | str a =>
   obtain⟨I,rfl⟩:=ry;cases x with
   | eX=>cases rx;exact SeqAt.EqAt.str_none a I
   | bl b=>cases rx;exact SeqAt.EqAt.str_bool a I b
   | int b=>obtain⟨t,rfl⟩:=rx;exact SeqAt.EqAt.str_int a I b t
   | str b=>obtain⟨t,rfl⟩:=rx;exact SeqAt.EqAt.str_str a I b t
   | _=>exact absurd (show false=true from fx) aav
 | _=>exact absurd (show false=true from fy) aav
def F5(x:V)(u:Value):Bool:=match u with
 | .none=>Qd .eX x
 | .bool b=>Qd (.bl b) x
 | .int i _=>Qd (.int i) x
 | .str z _=>Qd (.str z) x
 | _=>false
def Mw{x y:V}{u:Value}(r:RelV y u)(f:rK y=true):F5 x u=Qd y x:=by
 cases y with
 | eX=>cases r;rfl
 | bl b=>cases r;rfl
 | int i=>obtain⟨t,rfl⟩:=r;rfl
 | str z=>obtain⟨t,rfl⟩:=r;rfl
 | _=>exact absurd (show false=true from f) aav
def rL{x:V}:∀{xs:List V} {us:List Value},Vals xs us->xs.all rK=true->us.any (F5 x)=xs.any λy=>Qd y x
 | _,_,.nil,_=>rfl
 | y::xs,u::us,.cons r t,f=>by
   rw[List.all_cons,abd]at f;rw[adu,adu,Mw r f.1,rL t f.2]
def oA{A:Around}{s:Shared}{x:V}{v:Value}(rx:RelV x v)(fx:rK x=true):∀{xs:List V} {us:List Value},Vals xs us->xs.all rK=true->∀u∈us,SeqAt.EqAt A s u v (F5 x u)
 | _,_,.nil,_=>λu I=>by cases I
 | y::xs,u::us,.cons r t,f=>λO I=>by
   rw[List.all_cons,abd]at f;rcases aaC.mp I with rfl|I
   ·rw[Mw r f.1];exact Th r rx f.1 fx
   ·exact oA rx fx t f.2 O I
def Va(x:V)(xs:List V):Bool:=xs.any λy=>Qd y x
def YB(K:bJ)(neg:Bool):R2:=λx y H Q=>∃p xs,y = .ref p/\(aR K H p xs\/aU K H p xs)/\rK x=true/\xs.all rK=true/\Q (.bl (if neg then !Va x xs else Va x xs)) H
def JJ:my X (compareOp .In) (YB X.K false):=by
 intro pq s σ H x y v u Q I rx ry h;obtain⟨p,xs,rfl,U,Z,fs,q⟩:=h;cases ry;rcases U with U|U
 ·obtain⟨O,r,Y,hz⟩:=I.list U;refine SeqAt.in_listAt (F5 x) Y.isList (λw hw=>oA rx Z r fs w (by simpa using hw)) ⟨.bl _,H,I,rfl,?_⟩
  rw[show O.toArray.any (F5 x)=O.any (F5 x) by simp,rL r fs]
  exact q
 ·obtain⟨O,r,Y,hz⟩:=I.tuple U;refine SeqAt.in_tupleAt (F5 x) Y (λw hw=>oA rx Z r fs w (by simpa using hw)) ⟨.bl _,H,I,rfl,?_⟩
  rw[show O.toArray.any (F5 x)=O.any (F5 x) by simp,rL r fs]
  exact q
def Bv:my X (compareOp .NotIn) (YB X.K true):=by
 intro pq s σ H x y v u Q I rx ry h;obtain⟨p,xs,rfl,U,Z,fs,q⟩:=h;cases ry;rcases U with U|U
 ·obtain⟨O,r,Y,hz⟩:=I.list U;refine SeqAt.notIn_listAt (F5 x) Y.isList (λw hw=>oA rx Z r fs w (by simpa using hw)) ⟨.bl _,H,I,rfl,?_⟩
  rw[show O.toArray.any (F5 x)=O.any (F5 x) by simp,rL r fs]
  exact q
 ·obtain⟨O,r,Y,hz⟩:=I.tuple U;refine SeqAt.notIn_tupleAt (F5 x) Y (λw hw=>oA rx Z r fs w (by simpa using hw)) ⟨.bl _,H,I,rfl,?_⟩
  rw[show O.toArray.any (F5 x)=O.any (F5 x) by simp,rL r fs]
  exact q
def Bw:ic X (.builtin "len") (λxs H Q=>∃p ys,xs=[.ref p]/\(aR X.K H p ys\/aU X.K H p ys)/\Q (.int ys.length) H):=by
 intro pq s σ H xs us Q I r h;obtain⟨p,ys,rfl,O,q⟩:=h;obtain⟨u,rfl,rx⟩:=vals1 r;cases rx;have hn:=qO;rcases O with O|O
 ·obtain⟨U,Y,Z,hz⟩:=I.list O;have hlen:=Y.length;exact Calls.call_len_list Z.isList (by simp only[aaG]<;>lia) ⟨.int ys.length,H,I.tok _,⟨s.toks+1,by rw[aaG,hlen]⟩,q⟩
 ·obtain⟨U,Y,Z,hz⟩:=I.tuple O;have hlen:=Y.length;exact len_tuple Z (by simp only[aaG]<;>lia) ⟨.int ys.length,H,I.tok _,⟨s.toks+1,by rw[aaG,hlen]⟩,q⟩
def Bx:ic X (.type "list") (λxs H Q=>∃p ys,xs=[.ref p]/\(aR X.K H p ys\/aU X.K H p ys)/\∀l,H l=none->Q (.ref l) (upd H l (.lst ys))):=by
 intro pq s σ H xs us Q I r h;obtain⟨p,ys,rfl,Z,q⟩:=h;obtain⟨u,rfl,rx⟩:=vals1 r;cases rx;have fin:∀(O:List Value),Vals ys O->ys.length<=sizeLine->∀(h' : Heap) (U : Nat),(∀b o',s.heap.get? b=some o'->h'.get? b=some o')->
  h'.get? s.heap.objs.size=some { cls:=.type "list",dict:=none,data:=.seq O.toArray U,slots:=#[]}->EP X pq σ Q (.ref s.heap.objs.size) { s with heap:=h'}:=λO Y hz h' U kp e =>
  ⟨.ref s.heap.objs.size,_,I.laid (t':=s.toks) kp (aam _) (show bK X.prog X.w _ h' _ (.lst ys) from⟨hz,O,U,Y,e⟩),rfl,q _ (I.hok.fresh (aam _))⟩
 rcases Z with Z|Z
 ·obtain⟨O,Y,pl,hz⟩:=I.list Z;have hlen:=Y.length;obtain⟨o,ho,hc,n,hd⟩:=pl.isList;exact call_list_seq p (.inl rfl) ho hc hd (λh' U kp e=>fin O Y hz h' U kp e) (by simp only[aaG]<;>lia)
 ·obtain⟨O,Y,pl,hz⟩:=I.tuple Z;have hlen:=Y.length;obtain⟨o,ho,hc,n,hd⟩:=pl;exact call_list_seq p (.inr rfl) ho hc hd (λh' U kp e=>fin O Y hz h' U kp e) (by simp only[aaG]<;>lia)
def zF:ic X (.type "tuple") (λxs H Q=>∃p ys,xs=[.ref p]/\((aR X.K H p ys/\∀l,H l=none->Q (.ref l) (upd H l (.tup ys)))\/(aU X.K H p ys/\Q (.ref p) H))):=by
 intro pq s σ H xs us Q I r h;obtain⟨p,ys,rfl,h⟩:=h;obtain⟨u,rfl,rx⟩:=vals1 r;cases rx;rcases h with⟨U,q⟩|⟨U,q⟩
 ·obtain⟨O,Y,Z,hz⟩:=I.list U;have hlen:=Y.length;refine call_tuple_list Z.isList (λh' kp=>?_) (by simp only[aaG]<;>lia)
  have I1:Inv X pq σ H { s with heap:=h'}:=I.kept (t':=s.toks) kp
  have I2:Inv X pq σ (upd H h'.objs.size (.tup ys)) { s with heap:=h'.push { cls:=.type "tuple",data:=.seq O.toArray}} :=
   I1.laid (t':=s.toks) (λb o e=>aao _ e) (aam _) (show bK X.prog X.w _ _ _ (.tup ys) from⟨hz,O,Y,IsTup.new _ _⟩)
  exact⟨.ref h'.objs.size,_,I2,rfl,q _ (I1.hok.fresh (aam _))⟩
 ·obtain⟨O,Y,Z,hz⟩:=I.tuple U;exact call_tuple_same Z ⟨.ref p,H,I,rfl,q⟩
def ZQ(K:bJ)(T:String)(x:V)(H:Hp):Prop:=match x with
 | .str _=>T="str"
 | .int _=>T="int"
 | .ref p=>(T="list"/\∃xs,aR K H p xs)\/(T="tuple"/\∃o,K.lookup p=some o/\o.cls = .type "tuple"/\o.dict=none)\/
  (T="dict"/\((∃kvs,H p=some (.dK kvs))\/∃kvs,H p=some (.dT kvs)))\/(T="set"/\∃S n,H p=some (.set S n))
 | _=>False
def Mx{pq:aX}{σ:St}{H:Hp}{s:Shared}{T:String}{x:V}{v:Value}(I:Inv X pq σ H s)(r:RelV x v)(ty:ZQ X.K T x H):
 s.TypeIs v T/\∀a,v = .ref a->∃ob,s.heap.get? a=some ob/\ob.dict=none:=by
 cases x with
 | str z =>
   obtain⟨t,rfl⟩:=r;cases(show T="str" from ty)
   exact⟨typeIs_str s z t,λ_ e=>nomatch e⟩
 | int i =>
   obtain⟨t,rfl⟩:=r;cases(show T="int" from ty)
   exact⟨typeIs_int s i t,λ_ e=>nomatch e⟩
 | ref p =>
   cases r;rcases ty with⟨rfl,xs,Y⟩|⟨rfl,o,hk,hc,hd⟩|⟨rfl,hk⟩|⟨rfl,S,n,hk⟩
   ·obtain⟨Z,_,U,_⟩:=I.list Y;refine⟨U.isList.typeIs,λa e=>?_⟩
    cases e;obtain⟨o,n,e,c,hd,_⟩:=U;exact⟨o,e,hd⟩
   ·refine⟨⟨o,I.Fy p o hk,hc⟩,λa e=>?_⟩
    cases e;exact⟨o,I.Fy _ o hk,hd⟩
   ·have z:∃o,s.heap.get? p=some o/\o.ExactDict:=by
     rcases hk with⟨kvs,hk⟩|⟨kvs,hk⟩
     ·obtain⟨_,_,_,_,o,_,_,e,ex,_⟩:=I.hok p _ hk;exact⟨o,e,ex⟩
     ·obtain⟨_,_,_,_,o,_,_,e,ex,_⟩:=I.hok p _ hk;exact⟨o,e,ex⟩
    obtain⟨o,e,ex⟩:=z;refine⟨⟨o,e,ex.1⟩,λa O=>?_⟩
    cases O;exact⟨o,e,ex.2.1⟩
   ·obtain⟨o,_,_,_,e,ex,_⟩:=I.hok p _ hk;refine⟨⟨o,e,ex.1⟩,λa O=>?_⟩
    cases O;exact⟨o,e,ex.2.1⟩
 | _=>exact False.elim ty
def Ti(K:bJ)(T:String)(r:V->List V->Hp->VK->Prop)(to:TE):TE:=λσ H Q=>to σ H λx H1=>ZQ K T x H1/\r x [] H1 Q
def ZR(K:bJ)(T:String)(r:V->List V->Hp->VK->Prop)(to:TE)(t:TA):TE:=λσ H Q=>to σ H λx H1=>ZQ K T x H1/\t σ H1 λxs H2=>r x xs H2 Q
variable {o e:Expr}{es:List Expr}{to:TE}{t:TA}{name:Str}{apos cpos:Pos}{T id:String}{r:V->List V->Hp->VK->Prop}
def F6(pa:PlainAttrs T)(slot:Slot T name id)(hty:typeOf (.builtin id)=pure (.type "method_descriptor"))(hm:ZO X id r)(ho:PE X o to)
 (hbase:attributeBase o name X.env (eval o X.env)=eval o X.env:=by rfl) (hline:(apos.endLine==cpos.line)=true:=by rfl):PE X (.Call (.Attribute o name apos) [] [] cpos) (Ti X.K T r to):=by
 intro pq s σ H Q I h;refine wpAny_Call_method0_late hbase hline (dh (ho pq s σ H _ I h) λv s1 ⟨x,H1,O,U,ty,Y⟩=>?_)
 obtain⟨h1,h2⟩:=Mx O U ty;exact⟨T,id,pa,slot,hty,h1,h2,Calls.callWith_builtin rfl (PySem.evalArgs_none (hm pq s1 σ H1 x [] v [] Q O U .nil Y))⟩
def lB(pa:PlainAttrs T)(slot:Slot T name id)(hty:typeOf (.builtin id)=pure (.type "method_descriptor"))(hm:ZO X id r)(ho:PE X o to)(ha:PA X (e::es) t)
 (hbase:attributeBase o name X.env (eval o X.env)=eval o X.env:=by rfl)
 (hfew:((backTo cpos (starEach (e::es) X.env)).all (λx=>!x.1)&&(backToKw cpos (keywordEach [] X.env)).all (λx=>x.1.isSome)
  && decide ((e::es).length+([]:List Keyword).length+(if([]:List Keyword).isEmpty then 0 else 1)<30))=true:=by rfl)
 (hline:(apos.endLine==cpos.line)=true:=by rfl) (hs:starEach (e::es) X.env=(false,eval e X.env)::starEach es X.env:=by rfl) (hplain:(backTo cpos (starEach es X.env)).any (·.1)=false:=by rfl) :
 PE X (.Call (.Attribute o name apos) (e::es) [] cpos) (ZR X.K T r to t):=by
 intro pq s σ H Q I h;refine wpAny_Call_method_late hbase hfew hline rfl (dh (ho pq s σ H _ I h) λv s1 ⟨x,H1,O,U,ty,Z⟩=>?_)
 obtain⟨h1,h2⟩:=Mx O U ty;refine⟨T,id,pa,slot,hty,h1,h2,?_⟩;have Y:=ha cpos pq s1 σ H1 _ O Z;rw[hs]at Y ⊢;refine Calls.callWith_builtin (by show(false || (backTo cpos (starEach es X.env)).any (·.1))=false;rw[hplain]<;>rfl) (Calls.evalArgs_plain ?_)
 exact dh Y λus s2 ⟨vs,H2,I2,r2,q2⟩=>hm pq s2 σ H2 x vs v us Q I2 U r2 q2
end
def YC(X:Cx)(id:String)(r:V->List V->Hp->VK->Prop):Prop :=
 ∀(pq:aX) (s:Shared) (σ:St) (H:Hp) (x:V) (xs:List V) (v:Value) (us:List Value) (Q:VK),Inv X pq σ H s->RelV x v->Vals xs us->r x xs H Q->
  wpAny (model X.prog X.w) X.A (call (.builtin id) (v::us)) (EP X pq σ Q) X.xe s
def Vals.one:∀{x:V} {us:List Value},Vals [x] us->∃u,us=[u]/\RelV x u
 | _,_,.cons r .nil=>⟨_,rfl,r⟩
def Vals.zero:∀{us:List Value},Vals [] us->us=[]
 | _,.nil=>rfl
def Vals.dropLast{xs:List V}{us:List Value}(h:Vals xs us):Vals xs.dropLast us.dropLast:=by
 induction h with
 | nil=>exact .nil
 | cons r t I =>
   cases t with
   | nil=>exact .nil
   | cons q O=>exact .cons r I
def Vals.eraseIdx:∀{xs:List V} {us:List Value} (i:Nat),Vals xs us->Vals (xs.eraseIdx i) (us.eraseIdx i)
 | _,_,_,.nil=>.nil
 | _,_,0,.cons _ t=>t
 | _,_,i+1,.cons r t=>.cons r (Vals.eraseIdx i t)
def Vals.rep{xs:List V}{us:List Value}(h:Vals xs us):∀k:Nat,Vals (List.replicate k xs).flatten (List.replicate k us).flatten
 | 0=>.nil
 | k+1=>by
   rw[ab6,ab6,acT,acT];exact Vals.append h (Vals.rep h k)
def F8{α:Type}(l:List α):l.eraseIdx (l.length-1)=l.dropLast:=by
 induction l with
 | nil=>rfl
 | cons a r I =>
   cases r with
   | nil=>rfl
   | cons b r =>
     have e:(a::b::r).length-1=((b::r).length-1)+1:=by
      have h1:(a::b::r).length=r.length+2:=rfl;have h2:(b::r).length=r.length+1:=rfl
      lia
     rw[e,acK,I]
     all_goals rfl
def Ax{α:Type}:∀(l:List α) (i:Nat),(l.eraseIdx i).length<=l.length
 | [],_=>aam _
 | _::_,0=>abO _
 | _::r,i+1=>Nat.succ_le_succ (Ax r i)
def foldl_rep(its:List Value):∀(k:Nat) (acc:List Value),
 List.foldl (λI O=>I++O) acc.toArray (List.replicate k its.toArray)=(acc++(List.replicate k its).flatten).toArray
 | 0,acc=>by simp
 | k+1,acc=>by
   have e:acc.toArray++its.toArray=(acc++its).toArray:=by simp
   have U:(acc++its)++(List.replicate k its).flatten=acc++(List.replicate (k+1) its).flatten:=by
    rw[ab6,acT,List.append_assoc]
   rw[<-U,<-foldl_rep its k (acc++its),<-e,ab6,acA]
section
variable {X:Cx}{pq:aX}{σ:St}{H:Hp}{s:Shared}{l b:Addr}{xs ys zs:List V}
def Inv.Qe{its its' : List Value}{n:Nat}{f:Array Value->Array Value}{t' : Nat}(I:Inv X pq σ H s)(hH:H l=some (.lst xs))
 (e:s.heap.get? l=some { cls:=.type "list",data:=.seq its.toArray n}) (hf:f its.toArray=its'.toArray) (hv:Vals ys its') (hz:ys.length<=sizeLine) :
 Inv X pq σ (upd H l (.lst ys)) { s with heap:=s.heap.update l (Obj.mapSeq f),toks:=t'}:=by
 have q:=PySem.IsL.update e f;rw[hf]at q;refine I.write (x:=l) (e:=l) (by rw[hH];exact trivial) (.inl rfl) (λU u hb O=>(abT s.heap (Obj.mapSeq f) (aa6 hb)).trans O) ⟨_,q⟩ ?_
 exact⟨hz,its',_,hv,q⟩
def Inv.Wc{its:List Value}{t' : Nat}(I:Inv X pq σ H s)(hv:Vals ys its)(hz:ys.length<=sizeLine):
 Inv X pq σ (upd H s.heap.objs.size (.lst ys)) { s with heap:=s.heap.push { cls:=.type "list",data:=.seq its.toArray},toks:=t'} :=
 I.laid (λ_ _ q=>aao _ q) (aam _) ⟨hz,its,0,hv,aaN _ rfl⟩
def Inv.fresh(I:Inv X pq σ H s):H s.heap.objs.size=none:=I.hok.fresh (aam _)
def Inv.My(I:Inv X pq σ H s)(hH:H l=some (.lst xs)):xs.length<=sizeLine/\∃(O:List Value) (n:Nat),Vals xs O/\xs.length=O.length/\s.heap.get? l=some { cls:=.type "list",data:=.seq O.toArray n}:=by
 obtain⟨z,O,n,r,e⟩:=I.hok l _ hH;exact⟨z,O,n,r,r.length,e⟩
def Mz{n:Nat}(h:n<=sizeLine):Builtin.List.listTooLong n=false:=by
 unfold Builtin.List.listTooLong;exact gj (by lia)
end
section
variable {X:Cx}
def Qf:V->List V->Hp->VK->Prop:=λx vs H Q=>∃l xs y,x = .ref l/\vs=[y]/\H l=some (.lst xs)/\xs.length<sizeLine/\Q .eX (upd H l (.lst (xs++[y])))
def cW:YC X "list.append" Qf:=by
 intro pq s σ H x vs v us Q I rx U h;obtain⟨l,xs,y,rfl,rfl,O,hz,q⟩:=h;cases rx;obtain⟨u,rfl,ru⟩:=U.one;obtain⟨z,its,n,r,hl,e⟩:=I.My O;refine call_meets F.slot_list_append ⟨_,e,rfl⟩ F.entry_list_append (F.args_list_append_2 _ _) (PySem.list_append l its.toArray n u (by rw[aaG];lia)) ⟨e,?_⟩
 refine⟨.eX,_,I.Qe (its':=its++[u]) O e (by simp) (r.append (.cons ru .nil)) ?_,rfl,q⟩
 rw[aaz,abt]
 lia
def ZS:V->List V->Hp->VK->Prop:=λx vs H Q=>∃l xs y,x = .ref l/\vs=[]/\H l=some (.lst xs)/\xs[xs.length-1]?=some y/\Q y (upd H l (.lst xs.dropLast))
def Tj:YC X "list.pop" ZS:=by
 intro pq s σ H x vs v us Q I rx Z h;obtain⟨l,xs,y,rfl,rfl,Y,hy,q⟩:=h;cases rx;have O:=Z.zero;subst O;obtain⟨z,its,n,r,hl,e⟩:=I.My Y;obtain⟨u,hu,ru⟩:=r.get hy;have U : its.toArray[its.toArray.size-1]?=some u:=by
  show its.toArray[its.length-1]?=some u;rw[<-ach,<-hl];exact hu
 refine call_meets F.slot_list_pop ⟨_,e,rfl⟩ F.entry_list_pop (F.args_list_pop_1 _) (MeetsSeq.list_pop_last l its.toArray n u U (by rw[aaG];lia)) ⟨e,?_⟩
 refine⟨y,_,I.Qe (its':=its.dropLast) Y e ?_ r.dropLast ?_,ru,q⟩
 ·show its.toArray.eraseIdxIfInBounds (its.toArray.size-1)=its.dropLast.toArray;rw[aaG,adF,F8]
 ·rw[List.length_dropLast]
  lia
def Tn:V->List V->Hp->VK->Prop:=λx vs H Q=>∃l xs i k y,x = .ref l/\vs=[.int i]/\H l=some (.lst xs)/\-(2^63)<=i/\i<2^63/\seqIndex? i xs.length=some k/\xs[k]?=some y/\Q y (upd H l (.lst (xs.eraseIdx k)))
def MA:YC X "list.pop" Tn:=by
 intro pq s σ H x vs v us Q I rx U h;obtain⟨l,xs,i,k,y,rfl,rfl,O,h1,h2,hk,Y,q⟩:=h;cases rx;obtain⟨u,rfl,ru⟩:=U.one;obtain⟨t,rfl⟩:=ru;obtain⟨z,its,n,r,hl,e⟩:=I.My O;obtain⟨w,hw,rw'⟩:=r.get Y;refine call_meets F.slot_list_pop ⟨_,e,rfl⟩ F.entry_list_pop (F.args_list_pop_2 _ _)
  (MeetsSeq.list_pop_at l its.toArray n i t k w (fitsIndex_both h1 h2) (by rw[aaG,<-hl];exact hk) (by rw[<-ach];exact hw) (by rw[aaG];lia)) ⟨e,?_⟩
 refine⟨y,_,I.Qe (its':=its.eraseIdx k) O e ?_ (r.eraseIdx k) ?_,rw',q⟩
 ·show its.toArray.eraseIdxIfInBounds k=(its.eraseIdx k).toArray;rw[adF]
 ·have:=Ax xs k
  lia
def ZT:R2:=λx y H Q=>∃l k xs,x = .ref l/\y = .int k/\H l=some (.lst xs)/\-(2^63)<=k/\k<2^63/\xs.length*k.toNat<=sizeLine/\
 ∀p,H p=none->Q (.ref p) (upd H p (.lst (List.replicate k.toNat xs).flatten))
def len_rep{α:Type}(xs:List α)(k:Nat):(List.replicate k xs).flatten.length=k*xs.length:=by
 induction k with
 | zero=>simp
 | succ k I=>rw[ab6,acT,aaz,I,Nat.succ_mul,Nat.add_comm]
def MB:my X (binaryOp .Mult) ZT:=by
 intro pq s σ H x y v u Q I rx ry h;obtain⟨l,k,xs,rfl,rfl,hH,h1,h2,hz,q⟩:=h;cases rx;obtain⟨t,rfl⟩:=ry;obtain⟨z,its,n,r,hl,e⟩:=I.My hH;have hlen:its.toArray.size*k.toNat<=sizeLine:=by rw[aaG,<-hl];exact hz
 have ZU : ¬ its.toArray.size*k.toNat > (2^63-1)/8:=by
  have:(sizeLine:Nat)<=(2^63-1)/8:=by decide
  lia
 have O : ¬(!Builtin.List.listFitsIndex k)=true:=by
  rw[fitsIndex_both h1 h2];exact aav
 have Wd : ¬ Builtin.List.listTooLong (its.toArray.size*k.toNat)=true:=by
  rw[Mz hlen];exact aav
 have Y:List.foldl (λZ x2=>Z++x2) #[] (List.replicate (if its.toArray.isEmpty=true then 0 else k.toNat) its.toArray)=(List.replicate k.toNat its).flatten.toArray:=by
  have f0:∀m:Nat,List.foldl (λZ x2=>Z++x2) #[] (List.replicate m its.toArray)=(List.replicate m its).flatten.toArray:=λm=>by
   have:=foldl_rep its m [];rw[List.nil_append]at this;exact this
  rw[f0];cases its with
  | nil=>simp
  | cons a r'=>rw[aaf (by simp)]
 refine wpAny_binaryOp_repeat_ref (T:="list") (U:="int") (by decide) ⟨_,e,rfl⟩ (λs'=>typeIs_int s' k t) noFill_list_mul F.fills_int_mul F.slot_int_rmul repeat_list F.slot_int_index.lookup
  (call_meets F.slot_int_rmul (typeIs_int s k t) F.entry_int_rmul (F.args_int_rmul_2 _ _) (int___rmul___int_list k t l its.toArray n)
   ⟨e,rfl,⟨_,e,rfl⟩,call_meets F.slot_list_mul ⟨_,e,rfl⟩ F.entry_list_mul (F.args_list_mul_2 _ _) (AutoListH.list___mul___list_int_3 l its.toArray n k t O ZU Wd) ⟨e,?_⟩⟩)
 rw[Y];exact⟨.ref _,_,I.Wc (t':=s.toks) (r.rep k.toNat) (by rw[len_rep,Nat.mul_comm];exact hz),rfl,q _ I.fresh⟩
end
end L2
namespace Att
open PySem PySem.W PySem.Calls PyProof.Rows
def wc{P:Params}{h:Heap}:∀(ns:List Int) (vs:List Value),WellAll P h vs (ns.map WData.int)->IntsAre vs ns:=by
 intro ns
 induction ns with
 | nil =>
   intro vs w;rw[List.map_nil]at w;cases w;exact .nil
 | cons n ns I =>
   intro vs w;rw[aaR]at w;cases w with
   | cons a b =>
     cases a;exact .cons _ _ (I _ b)
def JK{l:OpenLaw}{n:Nat}(hn:l.most=some n){P:Params}{h:Heap}{args:List WData}{vals:List Value}
 (hpre:l.row.toRowW.claim.pre args=true) (ZV:WellAll P h vals args) :
 ∃a vs ns,vals=[Value.ref a]/\args=[WData.list (ns.map WData.int)]/\h.get? a=some { cls:=.type "list",data:=.seq vs.toArray}/\IntsAre vs ns/\ns.length<=n:=by
 have U:WShape.hasAll [] args [.list .int]=true:=(pre_splitW hpre).1;have hc:l.pre.holds [] { args:=args}=true:=(pre_splitW hpre).2;obtain⟨d,r,rfl,h1,h2⟩:=hasAllW_cons U;obtain rfl:=hasAllW_nil h2;obtain⟨xs,rfl,h3⟩:=hasW_list h1;obtain⟨ns,rfl⟩:=items_int h3;have hlen:ns.length<=n:=by
  unfold OpenLaw.pre at hc;have I:(WTm.not (.lt (.lit (.int (n:Int))) (.len (.arg 0)))).holds [] { args:=[.list (ns.map .int)]}=true:=by
   have I:=(holds_andW hc).1;rw[hn]at I;exact I
  have O:=condW_of I (w_not (w_lt w_lit (w_len_list (w_arg rfl))));rw[aac]at O;refine Nat.le_of_not_lt λq=>?_
  have q' : (n:Int)<((ns.length:Nat):Int):=by lia
  first
   | (rw[dm q']at O;exact absurd O (by decide))
   | (simp at O;lia)
 cases ZV with
 | cons Y Z =>
   cases Z;cases Y with
   | list ho hall=>exact⟨_,_,ns,rfl,rfl,ho,wc ns _ hall,hlen⟩
def JL(l:OpenLaw)(args:List WData):l.row.toRowW.claim.post args (.bool true) args=true :=
 postW_of (r:=l.row.toRowW) (X:=(true==true))
  (show WShape.has [] (.bool true) .bool=true by first | rfl | decide | simp[WShape.has,WShape.arms,WShape.armsAll])
  (show(WTm.eq .res (.lit (.bool true))).value [] { args:=args,res:=some (.bool true),after:=args}=some (.bool (true==true)) from w_eq_bool (w_res rfl) w_lit) rfl
def Di{l:OpenLaw}{n:Nat}{q:Program}{loose:List Str}{XP:(Str->Option Value)->Heap->Prop}{YP:World->Heap->Prop}{d:DefRec}
 (hn:l.most=some n) (RH:d.params.defaults=[])
 (call:∀(w:World) (s₀ I:Shared) (mg mb:nY) (fa:Addr) (o:Obj) (pm cd doc:Value) (a:Addr) (vs:List Value) (ns:List Int),
  Ground q loose [] XP w s₀ mg mb I.heap->YP w I.heap->
  I.heap.get? fa=some o->o.data = .func (docDef d.name d.params d.body d.scope pm cd doc)->I.heap.CodeRec cd d.name->mg d.name=some (.ref fa)->
  I.heap.get? a=some { cls:=.type "list",data:=.seq vs.toArray}->IntsAre vs ns->ns.length<=n->I.gens = #[]->
  codeAny (model l.prog w) callerA (.call (.ref fa) ⟨[.ref a],[]⟩) (λr s'=>r = .ok (.ret (.bool true))/\OldK I.heap s'.heap/\s'.os=I.os/\AllBare s'.gens) I) :
 WalkO q loose XP YP l.row.toRowW d [] (λf vs=>PySem.call f vs):=by
 intro w s₀ I mg mb G Y fa o pm cd doc dV kV ho hd U hD Z hg args vals as O ab ag ZV ar;obtain rfl:dV = .none:=Dflts.none hD RH;obtain rfl:kV = .none:=Dflts.noKw hD;obtain⟨a,vs,ns,rfl,rfl,hobj,hints,hlen⟩:=JK hn O ZV;refine enter_call (codeAny_mono (call w s₀ I mg mb fa o pm cd doc a vs ns G Y ho (fd_plain hd) U Z hobj hints hlen hg) λr s' hq=>?_)
 obtain⟨rfl,h2,h3,h4⟩:=hq;exact⟨.inl ⟨.bool true,.bool true,[],rfl,λ_=>rfl,.bool true,JL l _,λ_=>⟨List.Pairwise.nil,λ_ hm=>(nomatch hm)⟩⟩,h2,h3,h4⟩
end Att
namespace L2
open PySem PySem.Spec PyProof.Rows
def Ay:∀{vs:List Value} {ns:List Int},IntsAre vs ns->Vals (ns.map V.int) vs
 | _,_,.nil=>.nil
 | _,_,.cons n t h=>.cons ⟨t,rfl⟩ (Ay h)
end L2
namespace L2
open PySem PySem.Spec PyProof.Rows
def inClass(s:Stmt)(j:Nat):Stmt:=match s with
 | .ClassDef _ _ _ body _ _ _ _ _ _ _=>body.getD j (.Pass ⟨0,0,0,0⟩)
 | _=>.Pass ⟨0,0,0,0⟩
def fE(s:Stmt):Arguments:=match s with
 | .FunctionDef _ a _ _ _ _ _ _ _ _=>a
 | _=>{ posonlyargs:=[],args:=[],vararg:=none,kwonlyargs:=[],kw_defaults:=[],kwarg:=none,defaults:=[]}
def cI(s:Stmt):List Stmt:=match s with
 | .FunctionDef _ _ b _ _ _ _ _ _ _=>b
 | _=>[]
def aj(s:Stmt):Scope:=match s with
 | .FunctionDef _ _ _ _ _ _ sc _ _ _=>sc
 | _=>{ kind:=.function,names:=[],isGenerator:=false,isCoroutine:=false}
abbrev wW:LN:=λ_ _ _ _ _ _=>False
abbrev E0:XK:=λ_ _ _=>False
def aE{X:Cx}:Passes wW X E0:=λ_ _ _ _ _ _ _ h=>h.elim
structure rM(K:bJ)(x qual:Str)(st:Stmt)(f:Addr)(fd:FuncData):Prop where
 ex:∃(oc:Value) (od:Option Addr) (kV doc pm:Value) (an:Option Addr) (cdv ct:Value) (osl:Array (Option Value)),
  fd=PySem.W.fnOf x qual (fE st) (cI st) (aj st) .none kV doc pm an cdv ct/\K.lookup f=some ⟨oc,od,.func fd,osl⟩/\PySem.W.codeIn K cdv qual=true
 kp:PySem.W.keepIn K (.ref f)=true
section
variable {P:Program}{w:World}{K:bJ}{mg:nY}{base:Heap}
def rM.ok{x qual:Str}{st:Stmt}{f:Addr}{fd:FuncData}{N ps:List Str}{k:Nat}{sp:Sp}(F:rM K x qual st f fd)(S:aC N ps (aj st))(len:∀vs H Q E,sp vs H Q E->vs.length=ps.length)
 (hbody:∀(cdv:Value) (A:Around) (outer:List Env) (s:Shared) (H:Hp) (vs:List V) (Q:VK) (E:XK),eJ k (A.deeper (envOfC qual (aj st) s.heap.objs.size f cdv))->sp vs H Q E->
  ∃t,zA (vZ wW P w K mg base N qual (aj st) f cdv A outer s H E).Fg (cI st) t/\t { nx:=λ_ H'=>Q .eX H',rt:=Q} (start N vs) H):gH P w K mg base wW (k+1) f fd ps sp:=by
 obtain⟨oc,od,kV,doc,pm,an,cdv,ct,osl,rfl,O,I⟩:=F.ex;refine Mr O I S len λA outer s H vs Q E hr U=>?_
 obtain⟨t,h,q⟩:=hbody cdv A outer s H vs Q E hr U;exact⟨t,h.Fg,q⟩
def rM.binds{x qual:Str}{st:Stmt}{f:Addr}{fd:FuncData}{ps:List Str}(F:rM K x qual st f fd)
 (h:∀(kV doc pm:Value) (an:Option Addr) (cdv ct:Value) (us:List Value),us.length=ps.length->bindArgs (PySem.W.fnOf x qual (fE st) (cI st) (aj st) .none kV doc pm an cdv ct) ⟨us,[]⟩=pure (ps.zip us)):Binds K fd ps []:=by
 obtain⟨oc,od,kV,doc,pm,an,cdv,ct,osl,rfl,O,I⟩:=F.ex;exact .all (h kV doc pm an cdv ct)
def kI{x qual:Str}{st:Stmt}{f:Addr}{oc:Value}{od an:Option Addr}{osl:Array (Option Value)}{kV doc pm cdv ct:Value}(l:K.lookup f=some ⟨oc,od,.func (PySem.W.fnOf x qual (fE st) (cI st) (aj st) .none kV doc pm an cdv ct),osl⟩)
 (c:PySem.W.codeIn K cdv qual=true) (k:PySem.W.keepIn K (.ref f)=true):rM K x qual st f (PySem.W.fnOf x qual (fE st) (cI st) (aj st) .none kV doc pm an cdv ct):=⟨⟨oc,od,kV,doc,pm,an,cdv,ct,osl,rfl,l,c⟩,k⟩
end
def rN{A:Around}{k:Nat}(hr:eJ k A):A.units+1<cLine:=acv (Nat.add_le_add_left (by decide:1<=64) _) hr.units
def cz{n:Nat}(h:n<=1000):n<sizeLine:=acv h (by decide)
section
variable {X:Cx}
def pv(i:Nat){x:Str}{pos:Pos}(hN:X.N[i]?=some x:=by rfl)(hv:Yw X.env.scope x:=by first | exact Or.inl rfl | exact Or.inr (Or.inl rfl) | exact Or.inr (Or.inr rfl))(hd:(x==("__debug__":Str))=false:=by decide)
 (hcd:(x==("__classdict__":Str))=false:=by decide):PE X (.Name x pos) (VG i):=SJ hN hv hd hcd
end
def dN{A B:Prop}(h:B):if false=true then A else B:=by
 rw[aaf aav];exact h
def fC{A B:Prop}(h:A):if true=true then A else B:=by
 rw[aai rfl];exact h
def xD{c A B:Prop}[Decidable c](h1:c->A)(h2 : ¬ c->B):if c then A else B:=by
 by_cases h:c
 ·rw[aai h];exact h1 h
 ·rw[aaf h];exact h2 h
def IB{c A B:Prop}[Decidable c](hc:c)(h:B):if(!decide c)=true then A else B:=by
 rw[dm hc];exact dN h
def aq(H H' : Hp):Prop:=∀b o,H b=some o->H' b=some o
def aq.refl(H:Hp):aq H H:=λ_ _ h=>h
def aq.trans{H H1 H2:Hp}(a:aq H H1)(b:aq H1 H2):aq H H2:=λc o h=>b c o (a c o h)
def aq.free{H H' : Hp}(e:aq H H'){l:Addr}(h:H' l=Option.none):H l=Option.none:=by
 cases q:H l with
 | none=>rfl
 | some o =>
   rw[e l o q]at h;cases h
def aq.seq{K:bJ}{H H' : Hp}{a:Addr}{xs:List V}(e:aq H H')(h:aR K H a xs):aR K H' a xs:=by
 rcases h with(h|⟨o,h⟩) | h
 ·exact .inl (.inl (e _ _ h))
 ·exact .inl (.inr ⟨o,e _ _ h⟩)
 ·exact .inr h
def ez(cells:List (Str×Addr)):List (Str×NameKind)->List (Str×Addr)->List (Str×Addr)
 | [],cs=>cs
 | (n,k)::r,cs=>ez cells r (if(k==NameKind.free)=true then(n,(cells.lookup n).getD 0)::cs else cs)
def xE{env:Env}{f:Str×NameKind->List (Str×Addr)->Sem (ForInStep (List (Str×Addr)))}
 (hf1:∀n k cs c,(k==NameKind.free)=true->env.cells.lookup n=some c->f (n,k) cs=pure (.yield ((n,c)::cs)))
 (hf2:∀n k cs,(k==NameKind.free)=false->f (n,k) cs=pure (.yield cs)) :
 ∀(names:List (Str×NameKind)) (cs:List (Str×Addr)),(∀n k,(n,k)∈names->(k==NameKind.free)=true->∃c,env.cells.lookup n=some c)->
  forIn names cs f=(pure (ez env.cells names cs):Sem (List (Str×Addr)))
 | [],cs,_=>by rw[List.forIn_nil];rfl
 | (n,k)::r,cs,h=>by
   have I:=λcs=>xE hf1 hf2 r cs λm j hm=>h m j (nU _ hm)
   rw[List.forIn_cons];cases e:(k==NameKind.free) with
   | true =>
     obtain⟨c,hc⟩:=h n k aaF e;rw[hf1 n k cs c e hc,pure_bind];show forIn r ((n,c)::cs) f=_;rw[I]
     conv=>rhs;unfold ez
     rw[aai e,hc];rfl
   | false =>
     rw[hf2 n k cs e,pure_bind];show forIn r cs f=_;rw[I]
     conv=>rhs;unfold ez
     rw[aaf (by rw[e];exact aav)]
def qP{scope:Scope}{env:Env}(h:∀n k,(n,k)∈scope.names->(k==NameKind.free)=true->∃c,env.cells.lookup n=some c):closureFor scope env=pure (ez env.cells scope.names []):=by
 simp only[closureFor];rw[xE (env:=env) ?_ ?_ scope.names [] h]
 ·rfl
 ·intro n k cs c e hc;show(if(k==NameKind.free)=true then _ else _)=_
  rw[aai e];unfold cellOf;rw[hc];rfl
 ·intro n k cs e;show(if(k==NameKind.free)=true then _ else _)=_
  rw[aaf (by rw[e];exact aav)]
def lC{cells:List (Str×Addr)}{x:Str}{c:Addr}:∀{names:List (Str×NameKind)} {cs:List (Str×Addr)},(ez cells names cs).lookup x=some c->cs.lookup x=some c\/((x,NameKind.free)∈names/\(cells.lookup x).getD 0=c)
 | [],cs,h=>.inl h
 | (n,k)::r,cs,h=>by
   unfold ez at h;rcases lC h with q|⟨I,O⟩
   ·by_cases e:(k==NameKind.free)=true
    ·rw[aai e]at q
     by_cases hx:x=n
     ·subst hx;rw[adC]at q;have hk:k=NameKind.free:=eq_of_beq e;exact .inr ⟨by rw[hk];exact aaF,Option.some.inj q⟩
     ·have hb:(x==n)=false:=beq_eq_false_iff_ne.mpr hx;simp only[abF,hb]at q;exact .inl q
    ·rw[aaf e]at q;exact .inl q
   ·exact .inr ⟨nU _ I,O⟩
def kJ{cells:List (Str×Addr)}{x:Str}:∀{names:List (Str×NameKind)} {cs:List (Str×Addr)},((x,NameKind.free)∈names\/∃c,cs.lookup x=some c)->∃c,(ez cells names cs).lookup x=some c
 | [],cs,h=>by
   rcases h with h|h
   ·cases h
   ·exact h
 | (n,k)::r,cs,h=>by
   unfold ez;apply kJ;rcases h with h|⟨c,h⟩
   ·rcases aaC.mp h with h|h
    ·cases h
     right
     rw[aai (by rfl)]
     exact⟨_,adC⟩
    ·exact .inl h
   ·right
    by_cases e:(k==NameKind.free)=true
    ·rw[aai e]
     by_cases hx:x=n
     ·subst hx;exact⟨_,adC⟩
     ·have hb:(x==n)=false:=beq_eq_false_iff_ne.mpr hx;exact⟨c,by simp only[abF,hb];exact h⟩
    ·rw[aaf e];exact⟨c,h⟩
def m6{env:Env}{x:Str}{k:NameKind}:∀{names:List (Str×NameKind)},
 (names.map λ(n,k)=>if(k==NameKind.free&&env.scope.kind == .function&&env.kindOf n==some .cell) then(n,NameKind.cell) else(n,k)).lookup x=some k->
  ∃k0,names.lookup x=some k0/\(k=k0\/(k0 = .free/\k = .cell))
 | [],h=>by cases h
 | (n,j)::r,h=>by
   have I:=@m6 env x k r
   replace h:List.lookup x ((if(j==NameKind.free&&env.scope.kind == .function&&env.kindOf n==some .cell)=true then(n,NameKind.cell) else(n,j))::_)=some k:=h
   cases hx:x==n with
   | true =>
     by_cases hc:(j==NameKind.free&&env.scope.kind == .function&&env.kindOf n==some .cell)=true
     ·rw[aai hc]at h;simp only[abF,hx]at h ⊢;have hj:j=NameKind.free:=by
       rw[abd,abd]at hc;exact eq_of_beq hc.1.1
      exact⟨j,rfl,.inr ⟨hj,(Option.some.inj h).symm⟩⟩
     ·rw[aaf hc]at h;simp only[abF,hx]at h ⊢;exact⟨j,rfl,.inl (Option.some.inj h).symm⟩
   | false =>
     by_cases hc:(j==NameKind.free&&env.scope.kind == .function&&env.kindOf n==some .cell)=true
     ·rw[aai hc]at h;simp only[abF,hx]at h ⊢;exact I h
     ·rw[aaf hc]at h;simp only[abF,hx]at h ⊢;exact I h
def rO{env:Env}{x:Str}:∀{names:List (Str×NameKind)},names.lookup x=some .free->
 (names.map λ(n,k)=>if(k==NameKind.free&&env.scope.kind == .function&&env.kindOf n==some .cell) then(n,NameKind.cell) else(n,k)).lookup x=some .cell\/
 (names.map λ(n,k)=>if(k==NameKind.free&&env.scope.kind == .function&&env.kindOf n==some .cell) then(n,NameKind.cell) else(n,k)).lookup x=some .free
 | [],h=>by cases h
 | (n,j)::r,h=>by
   have I:=@rO env x r;show List.lookup x ((if(j==NameKind.free&&env.scope.kind == .function&&env.kindOf n==some .cell)=true then(n,NameKind.cell) else(n,j))::_)=_\/
    List.lookup x ((if(j==NameKind.free&&env.scope.kind == .function&&env.kindOf n==some .cell)=true then(n,NameKind.cell) else(n,j))::_)=_
   cases hx:x==n with
   | true =>
     simp only[abF,hx]at h;cases h
     by_cases hc:(NameKind.free==NameKind.free&&env.scope.kind == .function&&env.kindOf n==some .cell)=true
     ·rw[aai hc];simp only[abF,hx];exact .inl trivial
     ·rw[aaf hc];simp only[abF,hx];exact .inr trivial
   | false =>
     simp only[abF,hx]at h
     by_cases hc:(j==NameKind.free&&env.scope.kind == .function&&env.kindOf n==some .cell)=true
     ·rw[aai hc];simp only[abF,hx];exact I h
     ·rw[aaf hc];simp only[abF,hx];exact I h
def eA(X:Cx)(N:List Str)(scope:Scope)(xe:dR)(C:Addr)(s:Shared)(H:Hp)(fp:List Addr):Cx where
 prog:=X.prog
 w:=X.w
 K:=X.K
 mg:=X.mg
 base:=X.base
 A:=X.A
 N:=N
 s₀:=s
 H₀:=H
 env:=compEnvC scope (ez X.env.cells scope.names []) C X.env
 outer:=X.stack
 stack:=X.stack
 ex:=fp
 fn:=λ_=>false
 calm:=X.calm
 pn:=[]
 xe:=xe
def gm(σ:St)(js:List Nat):St:=js.map λj=>(σ[j]?).getD none
structure eY(X:Cx)(scope:Scope)(own fq:List Str)(js:List Nat):Prop where
 kind:scope.kind = .function
 By:∀y∈scope.names,y.2≠.cell
 names:∀y∈scope.names,y.2 = .local->scope.names.lookup y.1=some .local
 free:∀y∈scope.names,y.2 = .free->X.env.scope.names.lookup y.1=some .cell\/X.env.scope.names.lookup y.1=some .free
 at_:js.map (λj=>X.N[j]?)=fq.map some
 fr:∀x∈fq,scope.names.lookup x=some .free
def xF{σ:St}{js:List Nat}{i:Nat}{v:V}(h:(gm σ js)[i]?=some (some v)):∃j,js[i]?=some j/\σ[j]?=some (some v):=by
 unfold gm at h;rw[aaw]at h;cases e:js[i]? with
 | none=>rw[e]at h;cases h
 | some j =>
   rw[e]at h;have h' : (σ[j]?).getD none=some v:=Option.some.inj h;refine⟨j,rfl,?_⟩;cases q:σ[j]? with
   | none=>rw[q]at h';cases h'
   | some o=>rw[q]at h';rw[show o=some v from h']
section
variable {X:Cx}
def iJ{pq:aX}{σ:St}{H:Hp}{s:Shared}{scope:Scope}{own fq:List Str}{js:List Nat}(I:Inv X pq σ H s)(T:eY X scope own fq js):
 ∀n k,(n,k)∈scope.names->(k==NameKind.free)=true->∃c,X.env.cells.lookup n=some c:=λn k hm e=>by
 have hk:k=NameKind.free:=eq_of_beq e;exact I.ok.has n (T.free (n,k) hm hk)
def MC{pq:aX}{σ:St}{H:Hp}{s:Shared}{scope:Scope}{own fq:List Str}{js:List Nat}{fp:List Addr}{D C:Addr}{h1:Heap}{t1:Nat}{m:nY}{xe:dR}
 (I:Inv X pq σ H s) (T:eY X scope own fq js) (hf:∀b∈fp,qL X pq H b) (hfo:∀b∈fp,∃o,s.heap.get? b=some o) (hD:s.heap.objs.size<=D) (hC:s.heap.objs.size<=C) (hDC:D≠C)
 (old:∀b o,s.heap.get? b=some o->h1.get? b=some o) (hl:h1.get? D=some { cls:=.type "list",data:=.seq ([]:List Value).toArray 0}) (hn:h1.Ns C m) :
 Inv (eA X (own++fq) scope xe C s H fp) [] (List.replicate own.length none++gm σ js) (upd H D (.lst [])) { s with heap:=h1,toks:=t1}:=by
 have cells:∀x c,(ez X.env.cells scope.names []).lookup x=some c->X.env.cells.lookup x=some c:=λx c h=>by
  rcases lC h with q|⟨q1,q2⟩
  ·cases q
  ·obtain⟨c',O⟩:=iJ I T x .free q1 rfl;rw[O]at q2;rw[O];exact aa4 some q2
 have We:∀b o,s.heap.get? b=some o->b<s.heap.objs.size:=λb o e=>aax e
 have ab:∀x c,X.env.cells.lookup x=some c->c<s.heap.objs.size:=λx c e=>by
  obtain⟨v,q⟩:=I.cell x c e;exact q.lt
 have aw:∀b∈frs X.stack,b<s.heap.objs.size:=λb hb=>by
  obtain⟨_,o,ho,_⟩:=I.stack.mem hb;exact aax ho
 have ag:H D=none:=I.hok.fresh hD;have To:H C=none:=I.hok.fresh hC;refine⟨⟨I.ok.mod,T.kind,I.ok.glob,I.ok.blt,hC,λx y c a b=>I.ok.inj x y c (cells x c a) (cells y c b),λx hx=>?_,λx c z _=>(nomatch z),I.ok.hd,I.ok.frames,.inl rfl,λb hb=>⟨?_,λx c e z=>?_⟩,
  λb o e=>I.bs b o e,aa0 I.ok.L1 I.sz,λb o e hb=>?_,λb hb z=>?_,I.stack,I.Bm⟩,
  rfl,I.bare,Un.laid old hD ag,⟨m,hn,λi x v Y e2 e3=>?_⟩,λx c e=>?_,?_,λx c e=>?_,λp hp=>absurd (show p∈([]:aX) from hp) (by simp),?_,?_⟩
 ·
  have hx:(relabel scope X.env).names.lookup x=some .cell\/(relabel scope X.env).names.lookup x=some .free:=hx;have ar:(x,NameKind.free)∈scope.names:=by
   rcases hx with hx|hx
   ·obtain⟨k0,q,r⟩:=m6 hx;have hm:=abA q;rcases r with r|⟨r,_⟩
    ·exact absurd r.symm (T.By _ hm)
    ·rw[r]at hm;exact hm
   ·obtain⟨k0,q,r⟩:=m6 hx;have hm:=abA q;rcases r with r|⟨_,r⟩
    ·rw[<-r]at hm;exact hm
    ·cases r
  exact kJ (.inl ar)
 ·
  obtain⟨o,ho⟩:=hfo b hb;exact aaP (aaL (We b o ho) hC)
 ·exact(hf b hb).2.2.2.2.1 x c (cells x c e) z
 ·
  obtain⟨_,_,_,f3,_,_⟩:=hf b hb;rcases f3 with z|z
  ·exact I.ok.Jy b o e z
  ·exact absurd (aaL (aax (I.ok.bs b o e).1) z) (abN _)
 ·
  obtain⟨_,f1,f2,_⟩:=hf b hb;rcases aaC.mp (I.xx b z) with q|q
  ·exact f1 q
  ·exact f2 q
 ·
  by_cases hi:i<own.length
  ·rw[aba (by simpa using hi),acJ,aai hi]at e2
   cases e2
  ·rw[abf (by simpa using hi),abW]at e2
   replace Y:(own++fq)[i]?=some x:=Y
   rw[abf (by lia)]at Y
   obtain⟨j,hj,hσ⟩:=xF e2;have hN:X.N[j]?=some x:=by
    have q:=aa4 (λl=>l[i-own.length]?) T.at_
    simp only[aaw,hj,Y,acj]at q;exact Option.some.inj q
   have Z:=T.fr x (jV Y);have hm:=abA Z;have hk:=T.free (x,.free) hm rfl;obtain⟨m0,ax,IC⟩:=I.loc;obtain⟨u,r,l⟩:=IC j x v hN hσ (by rcases hk with k|k;exact .inr (.inl k);exact .inr (.inr k))
   refine⟨u,r,.inr ⟨rO Z,?_⟩⟩;rcases l with⟨xG,_⟩|⟨_,c,hc,U⟩
   ·have xG:X.env.scope.names.lookup x=some .local:=xG;rcases hk with k|k<;>(rw[xG]at k;cases k)
   ·obtain⟨c',O⟩:=kJ (cells:=X.env.cells) (names:=scope.names) (cs:=[]) (x:=x) (.inl hm);have q:=cells x c' O;rw[hc]at q;cases q;exact⟨c,O,U.keeps old⟩
 ·
  obtain⟨v,q⟩:=I.cell x c (cells x c e);exact⟨v,q.keeps old⟩
 ·
  show upd H D (.lst []) C=none;rw[ah (aa6 hDC)];exact To
 ·show upd H D (.lst []) c=none;have e:=cells x c e;rw[ah (aaP (aaL (ab x c e) hD))];exact I.gh x c e
 ·exact I.hok.laid old hD ⟨aa3 _,[],0,.nil,hl⟩
 ·show _=(own++fq).length;have q:=aa4 List.length T.at_;rw[aac,aac]at q;rw[aaz,aaz,abW];unfold gm;rw[aac,q]
def qA{pq:aX}{σ σ' : St}{H H' : Hp}{s s' : Shared}{scope:Scope}{N:List Str}{fp:List Addr}{C:Addr}{h' : Heap}{xe:dR}
 (I:Inv X pq σ H s) (hf:∀b∈fp,qL X pq H b) (hC:s.heap.objs.size<=C) (J:Inv (eA X N scope xe C s H fp) [] σ' H' s') (sb:Heap.SameBut C s'.heap h'):Inv X pq σ H' { s' with heap:=h'}:=by
 have O:H' C=none:=J.free;refine I.L4 (ch:=fp) J.os ?_ ?_ J.bare (λb hb=>?_)
 ·have u:Un (frs X.stack) fp H H' s.heap s'.heap:=J.base;have ne:∀b o,s.heap.get? b=some o->b≠C:=λb o e=>aaP (aaL (aax e) hC)
  refine⟨λb o e n hb hx=>(sb.2 b (ne b o e)).trans (u.keep b o e n hb hx),λb o e n hb hx=>?_,u.free,λb o e hx=>?_,u.tups,u.m3,u.oh⟩
  ·obtain⟨sl,q⟩:=u.slot b o e n hb hx;exact⟨sl,(sb.2 b (ne b o e)).trans q⟩
  ·obtain⟨o',q⟩:=u.there b o e hx;exact⟨o',(sb.2 b (ne b o e)).trans q⟩
 ·intro b ob e;refine(J.hok b ob e).stay (λc U hc q=>(sb.2 c ?_).trans q) (λ_ q=>q) λ_ _ q=>q
  rintro rfl;rcases hc with rfl|hc
  ·rw[O]at e;cases e
  ·rw[O]at hc;cases hc
 ·obtain⟨_,f1,_,f3,f4,f5⟩:=hf b hb;exact⟨f3,f1,f4,f5⟩
end
section
variable {prog:Program}{w:World}{A:Around}{R:Result->Shared->Prop}{s:Shared}
abbrev ID(ifs:List Expr)(env:Env):Sem Bool:=forIn ifs true λc r=>if r=true then do let ok←isTrue c env (eval c env);pure (ForInStep.yield ok) else pure (ForInStep.yield r)
def BA{elt target iter:Expr}{ifs:List Expr}{scope:Scope}{pos:Pos}{it acc:Value}{env:Env}(I:Nat->Shared->Prop)
 (turn:∀n s,I n s->wpAny (model prog w) A (pyNext it) (λr O=>match r with
  | none=>R (.ok .next) O
  | some v=>wpAny (model prog w) A (letOwnedTupleGo target it v) (λ_ s₀=>wpAny (model prog w) A (assign target env v) (λ_ Y =>
   wpAny (model prog w) A (ID ifs env) (λok U =>
    if ok=true then wpAny (model prog w) A (eval elt env) (λx Z =>
     wpAny (model prog w) A (call (.builtin "list.append") [acc,x]) (λ_ s₅=>∃m,m<n/\I m s₅) (notedBy (model prog w) A env λe s'=>R (.error e) s') Z) (notedBy (model prog w) A env λe s'=>R (.error e) s') U
    else ∃m,m<n/\I m U) (notedBy (model prog w) A env λe s'=>R (.error e) s') Y) (notedBy (model prog w) A env λe s'=>R (.error e) s') s₀) (notedBy (model prog w) A env λe s'=>R (.error e) s') O) (notedBy (model prog w) A env λe s'=>R (.error e) s') s)
 (n:Nat) (h:I n s) :
 codeAny (model prog w) A (.compLoop (.ListComp elt [⟨target,iter,ifs,0⟩] scope pos) 0 it acc env) R s:=by
 refine codeAny_loop rfl I (λn s hI=>?_) n h
 show wpAny _ A ((compTurn (.ListComp elt [⟨target,iter,ifs,0⟩] scope pos) 0 it acc env).onRaise (λx=>do noteFrame x env;theTreesLotGoes x)) _ _ s
 refine wpAny_noted ?_;rw[compTurn_list];refine aV (wpAny_standAt (aV (aa8 (turn n s hI) (λr O h₁=>?_) λ_ _ h'=>h')))
 cases r with
 | none=>exact aaq h₁
 | some v =>
   refine aV (aa8 h₁ (λ_ s₀ h₀=>?_) λ_ _ h'=>h')
   refine aV (aa8 h₀ (λ_ Y h₂=>aV (aa8 h₂ (λok U h₃=>?_) λ_ _ h'=>h')) λ_ _ h'=>h')
   cases ok with
   | false=>exact aaq ⟨rfl,h₃⟩
   | true =>
     exact aV (aV (aa8 h₃ (λx Z h₄=>aV (aa8 h₄ (λ_ s₅ h₅=>aaq (aaq ⟨rfl,h₅⟩)) λ_ _ h'=>h')) λ_ _ h'=>h'))
end
def Wf(X:Cx)(ifs:List Expr)(t:TT):Prop :=
 ∀(pq:aX) (s:Shared) (σ:St) (H:Hp) (Q:Bool->Hp->Prop),Inv X pq σ H s->t σ H Q->wpAny (model X.prog X.w) X.A (ID ifs X.env) (TP X pq σ Q) X.xe s
def Wg:TT:=λ_ H Q=>Q true H
def cg{X:Cx}:Wf X [] Wg:=λ_ _ _ H _ I h=>wpAny_tests_nil ⟨H,I,h⟩
def jZ{X:Cx}{c:Expr}{t:TT}(h:PT X c t):Wf X [c] t:=λpq s σ H Q I q=>wpAny_tests_one (h pq s σ H Q I q)
def jt(J:It)(g:TG)(tt:TT)(te:TE)(n:Nat)(fr:St)(D:Addr)(Q:Hp->Prop)(H1:Hp):Prop :=
 ∃W:Nat->Nat->List V->Hp->Prop,(∃m,W 0 m [] H1)/\∀i m acc H,W i m acc H->H D=some (.lst acc)/\
   ((J.stop i H/\Q H)\/(J.go i H/\acc.length<sizeLine/\∃N:List V->Hp->Prop,(∀I H',N I H'->∃m',m'<m/\W (i+1) m' I H')/\
     ∀x H',J.Ma i H x H'->g x (List.replicate n none++fr) H' λσ2 H2=>σ2.drop n=fr/\tt σ2 H2 λb H3 =>
     if b=true then te σ2 H3 λv H4=>H4 D=some (.lst acc)/\N (acc++[v]) (upd H4 D (.lst (acc++[v])))
     else N acc H3))
def RI(wi:TI)(g:TG)(tt:TT)(te:TE)(n:Nat)(js:List Nat):TE:=λσ H Q=>wi σ H λJ H1=>∀D,H1 D=none->jt J g tt te n (gm σ js) D (λH2=>Q (.ref D) H2) (upd H1 D (.lst []))
structure RJ(A:Around)(cm:Bool)(P:Program)(w:World)(K:bJ)(tg:Expr)(J:It)(fp:List Addr)(it:Addr)(tn:Nat->Heap->Prop):Prop where
 mem:it∈fp
 obj:∀i h,tn i h->∀b∈fp,∃o,h.get? b=some o/\∀v,o.data≠.cell v
 keep:∀i h h',tn i h->(∀b∈fp,∀o,h.get? b=some o->h'.get? b=some o)->tn i h'
 item:∀(X:Cx),X.prog=P->X.w=w->X.K=K->X.A=A->X.calm=cm->∀(i:Nat) (pq:aX) (s:Shared) (σ:St) (H:Hp) (E:dR),Inv X pq σ H s->(∀b∈fp,qL X pq H b)->tn i s.heap->J.go i H->
  wpAny (model P w) X.A (pyNext (.ref it)) (λr s1=>∃u,r=some u/\
   wpAny (model P w) X.A (letOwnedTupleGo tg (.ref it) u) (λ_ s2=>∃x H',Inv X pq σ H' s2/\RelV x u/\J.Ma i H x H'/\tn (i+1) s2.heap/\∀b∈fp,H' b=none) E s1) E s
 done:∀(X:Cx),X.prog=P->X.w=w->X.K=K->X.A=A->X.calm=cm->∀(i:Nat) (pq:aX) (s:Shared) (σ:St) (H:Hp) (E:dR),Inv X pq σ H s->(∀b∈fp,qL X pq H b)->tn i s.heap->J.stop i H->
  wpAny (model P w) X.A (pyNext (.ref it)) (λr s1=>r=none/\Inv X pq σ H s1) E s
 self:∀(A:Around) (i:Nat) (s:Shared) (Q:dR) (E:dR),tn i s.heap->Q (.ref it) s->wpAny (model P w) A (pyIter (.ref it)) Q E s
def Turn.x{A:Around}{cm:Bool}{P:Program}{w:World}{K:bJ}{tg:Expr}{J:It}{fp:List Addr}{it:Addr}{tn:Nat->Heap->Prop}(T:Turn P w K tg J fp it tn)(hc:cm=true):RJ A cm P w K tg J fp it tn :=
 ⟨T.mem,T.obj,T.keep,λX a b c _ d=>T.item X a b c (d.trans hc),λX a b c _ d=>T.done X a b c (d.trans hc),T.self⟩
section
variable {X:Cx}{elt iter tg:Expr}{ifs:List Expr}{scope:Scope}{pos:Pos}{own fq:List Str}{js:List Nat}{wi:TI}{g:TG}{tt:TT}{te:TE}
def xH{pq:aX}{σ:St}{H2:Hp}{s2:Shared}{it:Addr}{fp:List Addr}{tn:Nat->Heap->Prop}{J:It}{E:dR}{RR:Value->Addr->Result->Shared->Prop}{QQ:Addr->Hp->Prop}
 (T:eY X scope own fq js)
 (hg:∀C s H fp,PG (eA X (own++fq) scope (λ_ _=>False) C s H fp) tg g)
 (ht:∀C s H fp,Wf (eA X (own++fq) scope (λ_ _=>False) C s H fp) ifs tt)
 (he:∀C s H fp,PE (eA X (own++fq) scope (λ_ _=>False) C s H fp) elt te)
 (I2:Inv X pq σ H2 s2) (LO:RJ X.A X.calm X.prog X.w X.K tg J fp it tn) (st2:tn 0 s2.heap) (f2:∀b∈fp,qL X pq H2 b)
 (hl:∀D,H2 D=none->jt J g tt te own.length (gm σ js) D (QQ D) (upd H2 D (.lst [])))
 (hRR:∀D C σ' H' s',s2.heap.objs.size<=C->Inv (eA X (own++fq) scope (λ_ _=>False) C s2 H2 fp) [] σ' H' s'->QQ D H'->RR (.ref D) C (.ok .next) s') :
 wpAny (model X.prog X.w) X.A (newList []) (λacc Y=>wpAny (model X.prog X.w) X.A (newFunctionEnv scope X.env.globals (ez X.env.cells scope.names []) [] X.env.qual none .none (some X.env)) (λI s₄ =>
  codeAny (model X.prog X.w) X.A (.compStart (.ListComp elt [⟨tg,iter,ifs,0⟩] scope pos) 0 (.ref it) acc { I with scope:=relabel scope X.env}) (RR acc I.locals) s₄) E Y) E s2:=by
 refine wpAny_newObj_type (wpAny_newFunctionEnv T.By (by intro y hy;simp at hy) (λh₁ Tp Qg=>?_) T.kind)
 dsimp only at Tp Qg ⊢;generalize Qh:s2.heap.push { cls:=.type "list",dict:=none,data:=.seq ([]:List Value).toArray}=G2 at Tp Qg ⊢;have hC:G2.objs.size=s2.heap.objs.size+1:=by rw[<-Qh,adh]
 have Z:s2.heap.objs.size≠G2.objs.size:=by rw[hC];exact aaP (ace _)
 have Wh:s2.heap.objs.size<=G2.objs.size:=by rw[hC];exact abO _
 have below:∀b,b<s2.heap.objs.size->b≠G2.objs.size:=λb hb=>by rw[hC];exact aaP (abG hb)
 have old:∀b o,s2.heap.get? b=some o->h₁.get? b=some o:=λb o e=>Qg.extBut b o (below b (aax e)) (aao _ (Qh▸aao _ e))
 have ab:h₁.get? s2.heap.objs.size=some { cls:=.type "list",data:=.seq ([]:List Value).toArray 0}:=Qg.extBut _ _ Z (aao _ (Qh▸aaN _ rfl));have ZW:∀b∈fp,∃o,s2.heap.get? b=some o:=λb hb=>let⟨o,e,_⟩:=LO.obj _ _ st2 b hb;⟨o,e⟩
 have ag:tn 0 h₁:=LO.keep _ _ _ st2 λb _ o e=>old b o e
 obtain⟨W,⟨m0,w0⟩,turn⟩:=hl s2.heap.objs.size (I2.hok.fresh (aam _));have O:∀{H' : Hp},(∀b∈fp,H' b=none)->∀b∈fp,qL (eA X (own++fq) scope (λ_ _=>False) G2.objs.size s2 H2 fp) [] H' b:=λ{H'} hn b hb=>by
  obtain⟨_,f1,aT,_,f4,_⟩:=f2 b hb;obtain⟨o,ho⟩:=ZW b hb;refine⟨hn b hb,below b (aax ho),λz=>?_,.inl hb,λx c e=>?_,λp hp=>absurd (show p∈([]:aX) from hp) (by simp)⟩
  ·rcases aaC.mp (I2.xx b z) with q|q
   ·exact f1 q
   ·exact aT q
  ·rcases lC (show(ez X.env.cells scope.names []).lookup x=some c from e) with q|⟨q1,q2⟩
   ·cases q
   ·obtain⟨c',ar⟩:=iJ I2 T x .free q1 rfl;rw[ar]at q2;have q2:c' = c:=q2;rw[<-q2];exact f4 x c' ar
 have a3:∀b∈fp,upd H2 s2.heap.objs.size (.lst []) b=none:=λb hb=>by
  obtain⟨o,ho⟩:=ZW b hb;rw[ah (aaP (aax ho))];exact(f2 b hb).1
 have back:∀{σ6:St} {p6:aX} {H6:Hp} {s6:Shared},Inv (eA X (own++fq) scope (λ_ _=>False) G2.objs.size s2 H2 fp) p6 σ6 H6 s6->σ6.drop own.length=gm σ js->
  Inv (eA X (own++fq) scope (λ_ _=>False) G2.objs.size s2 H2 fp) [] (List.replicate own.length none++gm σ js) H6 s6:=λ{σ6 p6 H6 s6} I6 hd=>by
  have a4:σ6.length=(own++fq).length:=I6.len;have J6:=I6.ia (SH:=[]) λp hp=>absurd hp (by simp)
  refine J6.weak ?_ λi v e=>?_
  ·have q:=aa4 List.length hd;rw[acF]at q;rw[aaz]at a4;rw[aaz,abW]
   lia
  ·by_cases hi:i<own.length
   ·rw[aba (by simpa using hi),acJ,aai hi]at e
    cases e
   ·rw[abf (by simpa using hi),abW,<-hd,List.getElem?_drop]at e
    rw[show own.length+(i-own.length)=i by lia]at e
    exact e
 have loop:∀Y:Shared,Y={ s2 with heap:=h₁,toks:=s2.toks+([]:List (Str×Value)).length}->
  codeAny (model X.prog X.w) X.A (.compLoop (.ListComp elt [⟨tg,iter,ifs,0⟩] scope pos) 0 (.ref it) (.ref s2.heap.objs.size) (compEnvC scope (ez X.env.cells scope.names []) G2.objs.size X.env))
   (RR (.ref s2.heap.objs.size) G2.objs.size) Y:=by
  rintro Y rfl;refine BA (λn s'=>∃i acc H',Inv (eA X (own++fq) scope (λ_ _=>False) G2.objs.size s2 H2 fp) [] (List.replicate own.length none++gm σ js) H' s'/\tn i s'.heap/\(∀b∈fp,H' b=none)/\W i n acc H') ?_ m0
   ⟨0,[],upd H2 s2.heap.objs.size (.lst []),MC I2 T f2 ZW (aam _) Wh Z old ab Tp,ag,a3,w0⟩
  rintro n s3 ⟨i,acc,H3,I3,aw,RC,w3⟩;obtain⟨zy,Wi⟩:=turn i n acc H3 w3;rcases Wi with⟨stop,qn⟩|⟨go,hz,NN,ax,step⟩
  ·refine aa8 (LO.done (eA X (own++fq) scope (λ_ _=>False) G2.objs.size s2 H2 fp) rfl rfl rfl rfl rfl i [] s3 _ H3 (λ_ _=>False) I3 (O RC) aw stop) (λr s4 ⟨hr,I4⟩=>?_) λ_ _ z=>z.elim
   subst hr;exact hRR _ _ _ H3 s4 Wh I4 qn
  ·refine aa8 (LO.item (eA X (own++fq) scope (λ_ _=>False) G2.objs.size s2 H2 fp) rfl rfl rfl rfl rfl i [] s3 _ H3 (λ_ _=>False) I3 (O RC) aw go) (λr s4 ⟨u,hr,h4⟩=>?_) λ_ _ z=>z.elim
   subst hr;refine aa8 h4 (λ_ s5 ⟨x,H5,I5,r5,y5,Mf,VS⟩=>?_) λ_ _ z=>z.elim
   have VT:=I5.pinned (O VS) (LO.obj _ _ Mf);refine aa8 (hg _ _ _ _ _ s5 _ H5 x u _ VT r5 (step x H5 y5)) (λ_ s6 ⟨σ6,H6,I6,Wj,q6⟩=>?_) λ_ _ z=>z.elim
   refine aa8 (ht _ _ _ _ _ s6 σ6 H6 _ I6 q6) (λok s7 ⟨H7,I7,q7⟩=>?_) λ_ _ z=>z.elim
   have again:∀{U:Hp} {s8:Shared},Inv (eA X (own++fq) scope (λ_ _=>False) G2.objs.size s2 H2 fp) ([]++tY fp s5.heap) σ6 U s8->tn (i+1) s8.heap/\∀b∈fp,U b=none:=λ{U s8} I8=>by
    refine⟨LO.keep _ _ _ Mf λb hb o e=>(I8.pin (b,o) (jY _ (jY _ (iG hb e)))).1,λb hb=>?_⟩
    obtain⟨o,e,d⟩:=LO.obj _ _ Mf b hb;exact(I8.pin (b,o) (jY _ (jY _ (iG hb e)))).2.1
   cases ok with
   | false =>
     rw[aaf aav];obtain⟨m',hm,w7⟩:=ax _ _ q7;obtain⟨t7,n7⟩:=again I7;exact⟨m',hm,i+1,acc,H7,back I7 Wj,t7,n7,w7⟩
   | true =>
     rw[aai rfl];refine aa8 (he _ _ _ _ _ s7 σ6 H7 _ I7 q7) (λxv s8 ⟨v,U,I8,r8,Vb,q8⟩=>?_) λ_ _ z=>z.elim
     obtain⟨m',hm,w8⟩:=ax _ _ q8;refine aa8 (cW (X:=eA X (own++fq) scope (λ_ _=>False) G2.objs.size s2 H2 fp) _ s8 σ6 U (.ref s2.heap.objs.size) [v] (.ref s2.heap.objs.size) [xv] (λy H9=>y = .eX/\H9=upd U s2.heap.objs.size (.lst (acc++[v]))) I8 rfl (.cons r8 .nil) ⟨_,acc,v,rfl,rfl,Vb,hz,rfl,rfl⟩)
      (λ_ s9 ⟨y,H9,I9,_,_,e9⟩=>?_) λ_ _ z=>z.elim
     subst e9;obtain⟨t9,n9⟩:=again I9;exact⟨m',hm,i+1,acc++[v],_,back I9 Wj,t9,n9,w8⟩
 exact codeAny_compStart_list (loop _ rfl) (LO.self _ 0 _ _ _ ag (loop _ rfl))
def cD(T:eY X scope own fq js)(hc:X.calm=true)(hi:PI X tg iter wi)
 (hg:∀C s H fp,PG (eA X (own++fq) scope (λ_ _=>False) C s H fp) tg g)
 (ht:∀C s H fp,Wf (eA X (own++fq) scope (λ_ _=>False) C s H fp) ifs tt)
 (he:∀C s H fp,PE (eA X (own++fq) scope (λ_ _=>False) C s H fp) elt te)
 (hs:∀x,foldedSetIterable iter X.env x=pure x:=by intro _;rfl) :
 PE X (.ListComp elt [⟨tg,iter,ifs,0⟩] scope pos) (RI wi g tt te own.length js):=by
 intro pq s σ H Q I h;rw[eval_ListComp];refine wpAny_comprehension_free (use:=none) rfl hs (qP (iJ I T)) T.kind T.names ?_;refine aa8 (hi pq s σ H _ I h) (λv s1 h1=>aa8 h1 (λZ s2 h2=>?_) λ_ _ z=>z) λ_ _ z=>z
 obtain⟨it,fp,tn,J,H2,e,U,LO,O,f2,hl⟩:=h2;subst e;refine xH (QQ:=λD H'=>Q (.ref D) H') T hg ht he U (LO.x hc) O f2 hl λD C σ' H' s' hC Y q=>?_
 obtain⟨m,hn,_⟩:=Y.loc;exact⟨m,hn,λh' sb=>⟨.ref D,H',qA U f2 hC Y sb,rfl,q⟩⟩
def MD(i:Nat)(wi:TI)(g:TG)(tt:TT)(te:TE)(n:Nat)(js:List Nat):TS:=λD σ H=>RI wi g tt te n js σ H λv H1=>D.nx (σ.set i (some v)) H1
def jc{i:Nat}{x:Str}{pos' spos:Pos}(hN:X.N.Nodup)(hix:X.N[i]?=some x)(hx:X.env.scope.names.lookup x=some .local)(T:eY X scope own fq js)(hc:X.calm=true)(hi:PI X tg iter wi)
 (hg:∀C s H fp,PG (eA X (own++fq) scope (λ_ _=>False) C s H fp) tg g)
 (ht:∀C s H fp,Wf (eA X (own++fq) scope (λ_ _=>False) C s H fp) ifs tt)
 (he:∀C s H fp,PE (eA X (own++fq) scope (λ_ _=>False) C s H fp) elt te)
 (hsw:swapsWith (.ListComp elt [⟨tg,iter,ifs,0⟩] scope pos) (some (.Name x pos')) spos.line X.env=pure true:=by rfl)
 (hs:∀x,foldedSetIterable iter X.env x=pure x:=by intro _;rfl) :
 PS X (.Assign [.Name x pos'] (.ListComp elt [⟨tg,iter,ifs,0⟩] scope pos) spos) (MD i wi g tt te own.length js):=by
 intro pq s σ H D I h;rw[exec_Assign_Name_used _ _ _ _ hsw];refine aV (wpAny_standAt (aV ?_));show wpAny _ X.A (do let _←comprehension (.ListComp elt [⟨tg,iter,ifs,0⟩] scope pos) scope X.env _ (newList []) false (eval iter X.env) (some (assign (.Name x pos') X.env))) _ _ s
 refine aV (aa8 (wpAny_comprehension_free (use:=some (assign (.Name x pos') X.env)) (Q:=λ_ s'=>SP X pq D .next s') rfl hs (qP (iJ I T)) T.kind T.names ?_) (λ_ s' hq=>aaq (aaq hq)) λ_ _ e=>e)
 refine aa8 (hi pq s σ H _ I h) (λv s1 h1=>aa8 h1 (λar s2 h2=>?_) λ_ _ z=>z) λ_ _ z=>z
 obtain⟨it,fp,tn,J,H2,e,O,LO,ab,f2,hl⟩:=h2;subst e;refine xH (QQ:=λY H'=>D.nx (σ.set i (some (.ref Y))) H') T hg ht he O (LO.x hc) ab f2 hl λY C σ' H' s' U J' q=>?_
 have I3:Inv X pq σ H' s':=by
  obtain⟨hh,gg,dd,aw,oo⟩:=s';exact qA O f2 U J' (Heap.SameBut.refl ..)
 obtain⟨m,hn,_⟩:=J'.loc;obtain⟨oC,es,ep,hoC,hdC,rest⟩:=id hn;have To:H' C=none:=J'.free;have Z:C≠X.env.locals:=abX (aaL O.lt U);have ag:C∉X.fs:=λz=>by
  obtain⟨_,o,ho,_⟩:=O.funs.mem z;exact absurd (aaL (aax ho) U) (abN _)
 have I4:Inv X (pq++[(C,oC)]) σ H' s':=I3.ia λp hp=>(aa9.mp hp).elim (λz=>I3.pin p (jY _ z)) λz=>by
  have e:p=(C,oC):=by simpa using z
  subst e;exact⟨hoC,To,Z,ag,λv z=>by have z' : oC.data = .cell v:=z;rw[hdC]at z';cases z'⟩
 show wpAny _ X.A (assign (.Name x pos') X.env (.ref Y)) _ _ _;refine wpAny_assign_Name (rG (v:=.ref Y) I4 hN hix (.inl hx) rfl (λs5 I5=>?_) (.inr hx))
 have e5:s5.heap.get? C=some oC:=(I5.pin (C,oC) (jY _ (jY _ (by simp)))).1
 refine⟨m,⟨oC,es,ep,e5,hdC,rest⟩,λh' sb=>⟨_,H',?_,q⟩⟩
 have I6:Inv X pq (σ.set i (some (.ref Y))) H' s5:=I5.kH;refine I6.turned (t':=s5.toks) (λb o hb e=>(sb.2 b hb).trans e) To Z (.inr (aa0 O.sz U)) (λy c e=>?_) (λp hp z=>?_)
 ·obtain⟨v,qc⟩:=O.cell y c e;exact aaP (aaL qc.lt U)
 ·have LP:=(O.pin p hp).1;exact absurd (aaL (aax LP) (by rw[z];exact U)) (abN _)
end
section
variable {K:bJ}{a:Addr}{xs:List V}{g:TG}{tt:TT}{te:TE}{n:Nat}{fr:St}{D:Addr}{Q:Hp->Prop}{H1:Hp}
def cA(Pv:Nat->List V->Hp->Prop)(h0:Pv 0 [] H1)(hl:∀i acc H,i<=xs.length->Pv i acc H->aR K H a xs/\H D=some (.lst acc)/\acc.length<=i)(hz:xs.length<=sizeLine)
 (hs:∀i x acc H,xs[i]?=some x->Pv i acc H->g x (List.replicate n none++fr) H λσ2 H2=>σ2.drop n=fr/\tt σ2 H2 λb H3 =>
  if b=true then te σ2 H3 λv H4=>H4 D=some (.lst acc)/\Pv (i+1) (acc++[v]) (upd H4 D (.lst (acc++[v]))) else Pv (i+1) acc H3)
 (hd:∀acc H,Pv xs.length acc H->Q H):jt (PR K a) g tt te n fr D Q H1:=by
 refine⟨λi m acc H=>m=xs.length-i/\i<=xs.length/\Pv i acc H,⟨xs.length,by simp,aa3 _,h0⟩,?_⟩
 rintro i m acc H ⟨rfl,hi,p⟩;obtain⟨q,U,ha⟩:=hl i acc H hi p;refine⟨U,?_⟩
 by_cases I:i<xs.length
 ·refine .inr ⟨⟨xs,xs[i],q,by simp[I]⟩,by lia,Pv (i+1),λO H' Y=>⟨xs.length-(i+1),by lia,rfl,I,Y⟩,λx H' y=>?_⟩
  obtain⟨e,y⟩:=y;subst e;exact hs i x acc _ (y xs q) p
 ·have e:i=xs.length:=by lia
  subst e;exact .inl ⟨⟨xs,q,aam _⟩,hd acc H p⟩
def rP(Pv:Nat->List V->Hp->Prop)(h0:Pv 0 [] H1)(hl:∀i acc H,i<=xs.length->Pv i acc H->aU K H a xs/\H D=some (.lst acc)/\acc.length<=i)(hz:xs.length<=sizeLine)
 (hs:∀i x acc H,xs[i]?=some x->Pv i acc H->g x (List.replicate n none++fr) H λσ2 H2=>σ2.drop n=fr/\tt σ2 H2 λb H3 =>
  if b=true then te σ2 H3 λv H4=>H4 D=some (.lst acc)/\Pv (i+1) (acc++[v]) (upd H4 D (.lst (acc++[v]))) else Pv (i+1) acc H3)
 (hd:∀acc H,Pv xs.length acc H->Q H):jt (U8 K a) g tt te n fr D Q H1:=by
 refine⟨λi m acc H=>m=xs.length-i/\i<=xs.length/\Pv i acc H,⟨xs.length,by simp,aa3 _,h0⟩,?_⟩
 rintro i m acc H ⟨rfl,hi,p⟩;obtain⟨q,U,ha⟩:=hl i acc H hi p;refine⟨U,?_⟩
 by_cases I:i<xs.length
 ·refine .inr ⟨⟨xs,xs[i],q,by simp[I]⟩,by lia,Pv (i+1),λO H' Y=>⟨xs.length-(i+1),by lia,rfl,I,Y⟩,λx H' y=>?_⟩
  obtain⟨e,y⟩:=y;subst e;exact hs i x acc _ (y xs q) p
 ·have e:i=xs.length:=by lia
  subst e;exact .inl ⟨⟨xs,q,aam _⟩,hd acc H p⟩
def eM{lo:Int}{m:Nat}(Pv:Nat->List V->Hp->Prop)(h0:Pv 0 [] H1)(hl:∀i acc H,i<=m->Pv i acc H->H D=some (.lst acc)/\acc.length<=i)(hz:m<=sizeLine)
 (hs:∀i acc H,i<m->Pv i acc H->g (.int (lo+i)) (List.replicate n none++fr) H λσ2 H2=>σ2.drop n=fr/\tt σ2 H2 λb H3 =>
  if b=true then te σ2 H3 λv H4=>H4 D=some (.lst acc)/\Pv (i+1) (acc++[v]) (upd H4 D (.lst (acc++[v]))) else Pv (i+1) acc H3)
 (hd:∀acc H,Pv m acc H->Q H):jt (Pk lo m) g tt te n fr D Q H1:=by
 refine⟨λi k acc H=>k=m-i/\i<=m/\Pv i acc H,⟨m,by simp,aa3 _,h0⟩,?_⟩
 rintro i k acc H ⟨rfl,hi,p⟩;obtain⟨U,ha⟩:=hl i acc H hi p;refine⟨U,?_⟩
 by_cases I:i<m
 ·refine .inr ⟨I,by lia,Pv (i+1),λO H' Y=>⟨m-(i+1),by lia,rfl,I,Y⟩,λx H' y=>?_⟩
  obtain⟨e,y⟩:=y;subst e y;exact hs i acc _ I p
 ·have e:i=m:=by lia
  subst e;exact .inl ⟨aam _,hd acc H p⟩
end
def Dl(scope Wm:Scope)(N fq:List Str)(js:List Nat):Bool :=
 decide (scope.kind = .function)&&scope.names.all (λy=>decide (y.2≠.cell))&&scope.names.all (λy=>decide (y.2 = .local->scope.names.lookup y.1=some .local)) &&
 scope.names.all (λy=>decide (y.2 = .free->Wm.names.lookup y.1=some .cell\/Wm.names.lookup y.1=some .free))&&decide (js.map (λj=>N[j]?)=fq.map some)&&fq.all (λx=>decide (scope.names.lookup x=some .free))
def aI{X:Cx}{scope:Scope}{own fq:List Str}{js:List Nat}(Wm:Scope)(N:List Str)(h1:X.env.scope=Wm:=by rfl)(h2:X.N=N:=by rfl)(h:Dl scope Wm N fq js=true:=by decide +kernel):eY X scope own fq js:=by
 unfold Dl at h;simp only[abd,decide_eq_true_eq,abQ]at h;obtain⟨⟨⟨⟨⟨a,b⟩,c⟩,d⟩,e⟩,f⟩:=h;exact⟨a,b,c,by rw[h1];exact d,by rw[h2];exact e,f⟩
mutual
inductive qQ(K:bJ)(H:Hp):V->PyData->Prop
 | eX:qQ K H .eX .none
 | bl (b:Bool):qQ K H (.bl b) (.bool b)
 | int (i:Int):qQ K H (.int i) (.int i)
 | str (x:Str):qQ K H (.str x) (.str x)
 | lst {a:Addr} {xs:List V} {ds:List PyData} (h:aR K H a xs) (r:DatVs K H xs ds):qQ K H (.ref a) (.list ds)
 | tup {a:Addr} {xs:List V} {ds:List PyData} (h:aU K H a xs) (r:DatVs K H xs ds):qQ K H (.ref a) (.tuple ds)
inductive DatVs(K:bJ)(H:Hp):List V->List PyData->Prop
 | nil:DatVs K H [] []
 | cons {x:V} {d:PyData} {xs:List V} {ds:List PyData} (h:qQ K H x d) (r:DatVs K H xs ds):DatVs K H (x::xs) (d::ds)
end
section
variable {X:Cx}{pq:aX}{σ:St}{H:Hp}{s:Shared}
mutual
def qQ.reads(I:Inv X pq σ H s):∀{v:V} {d:PyData} {u:Value},qQ X.K H v d->RelV v u->∃as,Reads s.heap u d as
 | _,_,u,.eX,r=>by cases(show u=Value.none from r);exact⟨_,.none⟩
 | _,_,u,.bl b,r=>by cases(show u=Value.bool b from r);exact⟨_,.bool b⟩
 | _,_,u,.int i,r=>by obtain⟨t,rfl⟩:=(show ∃t,u=Value.int i t from r);exact⟨_,.int i t⟩
 | _,_,u,.str x,r=>by obtain⟨t,rfl⟩:=(show ∃t,u=Value.str x t from r);exact⟨_,.str x t⟩
 | _,_,u,.lst (a:=a) h rs,r=>by
   cases(show u=Value.ref a from r)
   obtain⟨O,U,⟨o,n,e,c,_,d⟩,_⟩:=I.list h;obtain⟨as,q⟩:=DatVs.reads I rs U;exact⟨_,.list e c d (by simpa using q)⟩
 | _,_,u,.tup (a:=a) h rs,r=>by
   cases(show u=Value.ref a from r)
   obtain⟨O,U,⟨o,e,c,n,d⟩,_⟩:=I.tuple h;obtain⟨as,q⟩:=DatVs.reads I rs U;exact⟨_,.tuple e c d (by simpa using q)⟩
def DatVs.reads(I:Inv X pq σ H s):∀{vs:List V} {ds:List PyData} {us:List Value},DatVs X.K H vs ds->Vals vs us->∃as,ReadsAll s.heap us ds as
 | _,_,_,.nil,.nil=>⟨_,.nil⟩
 | _,_,_,.cons h r,.cons rv rr=>by
   obtain⟨as,q⟩:=qQ.reads I h rv;obtain⟨bs,q2⟩:=DatVs.reads I r rr;exact⟨_,.cons q q2⟩
end
end
section
variable {X:Cx}
def Wn(K:bJ):R2:=λx y H Q=>∃d e,qQ K H x d/\qQ K H y e/\SeqAt.shaped d=true/\SeqAt.shaped e=true/\Q (.bl (PyData.eqv d e)) H
def Wo(K:bJ):R2:=λx y H Q=>∃d e,qQ K H x d/\qQ K H y e/\SeqAt.shaped d=true/\SeqAt.shaped e=true/\Q (.bl (!PyData.eqv d e)) H
def Tq(hu:X.A.units+64<cLine):my X (compareOp .Eq) (Wn X.K):=by
 intro pq s σ H x y v u Q I rx O h;obtain⟨d,e,h1,h2,s1,s2,q⟩:=h;obtain⟨as,ra⟩:=h1.reads I rx;obtain⟨bs,rb⟩:=h2.reads I O;exact eq_dataH ra rb s1 s2 hu ⟨.bl _,H,I,rfl,q⟩
def Tr(hu:X.A.units+64<cLine):my X (compareOp .NotEq) (Wo X.K):=by
 intro pq s σ H x y v u Q I rx O h;obtain⟨d,e,h1,h2,s1,s2,q⟩:=h;obtain⟨as,ra⟩:=h1.reads I rx;obtain⟨bs,rb⟩:=h2.reads I O;exact ne_dataH ra rb s1 s2 hu ⟨.bl _,H,I,rfl,q⟩
def IE:ZO X "int.bit_length" (λx xs H Q=>∃i,x = .int i/\xs=[]/\Q (.int (Builtin.Int.intBits i)) H):=by
 intro pq s σ H x xs v us Q I rx rs h;obtain⟨i,rfl,rfl,q⟩:=h;obtain⟨t,rfl⟩:=rx;cases rs;exact call_int_bit_length ⟨.int _,H,I.tok _,⟨_,rfl⟩,q⟩
def BB{x:Str}{v:Int}{pos:Pos}(hg:Gl X x)(h:∃t,X.mg x=some (.int v t))(hd:(x==("__debug__":Str))=false:=by decide):PE X (.Name x pos) (tC (.int v)):=by
 obtain⟨t,e⟩:=h;exact PL hg e ⟨t,rfl⟩ hd
def PI.or{tg l:Expr}{wi wj:TI}(h:PI X tg l wi)(h' : PI X tg l wj):PI X tg l (λσ H R=>wi σ H R\/wj σ H R):=by
 intro pq s σ H R I q;rcases q with q|q
 ·exact h pq s σ H R I q
 ·exact h' pq s σ H R I q
def Tt{tg l:Expr}{tl:TE}(hl:PE X l tl):PI X tg l (λσ H R=>Ik X.K tl σ H R\/PU X.K tl σ H R):=(Il hl).or (Mc hl)
def uc{K:bJ}{H:Hp}{p:Addr}{xs:List V}{i:Int}{v:V}{Q:VK}(h:aR K H p xs\/aU K H p xs)(e:Fi xs i=some v)(q:Q v H):ZP K (.ref p) (.int i) H Q:=by
 rcases h with h|h
 ·exact .inl ⟨p,xs,i,v,rfl,rfl,h,e,q⟩
 ·exact .inr (.inl ⟨p,xs,i,v,rfl,rfl,h,e,q⟩)
end
def dl{n:Nat}(h:Nat.ble n 1000=true):n<=sizeLine:=abq (cz (Nat.le_of_ble_eq_true h))
def BC{j:Int}(h:decide (0<j)=true):0<j:=ko h
def lQ{c A B:Prop}[Decidable c](h : ¬ c)(hb:B):if decide c=true then A else B:=by
 rw[gj h];exact dN hb
def JM{c A B:Prop}[Decidable c](h:c)(ha:A):if decide c=true then A else B:=by
 rw[dm h];exact fC ha
def aq.new{H:Hp}{p:Addr}{o:HO}(h:H p=none):aq H (upd H p o):=λb u e=>by
 rw[ah (aJ e h)];exact e
def aq.put{H H2:Hp}{D:Addr}{o:HO}(s:aq H H2)(h:H D=none):aq H (upd H2 D o):=λb u e=>by
 rw[ah (aJ e h)];exact s b u e
def aq.sqT{K:bJ}{H H' : Hp}{a:Addr}{xs:List V}(e:aq H H')(h:aU K H a xs):aU K H' a xs:=by
 rcases h with(h|⟨o,h⟩) | h
 ·exact .inl (.inl (e _ _ h))
 ·exact .inl (.inr ⟨o,e _ _ h⟩)
 ·exact .inr h
def bG(H H' : Hp):Prop:=∀b xs,H b=some (.tup xs)->H' b=some (.tup xs)
def aq.tups{H H' : Hp}(s:aq H H'):bG H H':=λb xs e=>s b _ e
def bG.trans{H H1 H2:Hp}(a:bG H H1)(b:bG H1 H2):bG H H2:=λc xs e=>b c xs (a c xs e)
def bG.put{H:Hp}{D:Addr}{o:HO}{ys:List V}(h:H D=some (.lst ys)):bG H (upd H D o):=λb xs e=>by
 rw[ah (aQ e h (by intro z;cases z))]
 exact e
def Paired.lR{α β:Type}{F:α->β->Prop}:∀{l:List α} {r:List β} {i:Nat} {x:α},Paired F l r->l[i]?=some x->∃y,r[i]?=some y/\F x y
 | _,_,_,_,.nil,e=>by simp at e
 | _,_,0,_,.cons h _,e=>by
   simp at e;subst e;exact⟨_,rfl,h⟩
 | _,_,i+1,x,.cons _ t,e=>by
   obtain⟨y,h1,h2⟩:=Paired.lR (i:=i) (x:=x) t (by simpa using e)
   exact⟨y,by simpa using h1,h2⟩
def ME(ns:List Int)(lo hi:Option Int):zD (ns.map V.int) lo hi=((ns.drop (HT.Aw ns.length 0 lo)).take (HT.Aw ns.length ns.length hi-HT.Aw ns.length 0 lo)).map V.int:=by
 unfold zD;rw[aac,<-List.map_drop,<-List.map_take]
section
variable {X:Cx}{l:Expr}{tl:TE}{tg a b o e:Expr}{ta tb to:TE}{es:List Expr}
def BD(K:bJ)(hu:X.A.units+64<cLine)(h:X.K=K:=by rfl):my X (compareOp .Eq) (Wn K):=by subst h;exact Tq hu
def ud(K:bJ)(hu:X.A.units+64<cLine)(h:X.K=K:=by rfl):my X (compareOp .NotEq) (Wo K):=by subst h;exact Tr hu
def Wq(K:bJ):List V->Hp->VK->Prop:=λxs H Q=>∃p ys,xs=[.ref p]/\(aR K H p ys\/aU K H p ys)/\Q (.int ys.length) H
def ZX(K:bJ)(h:X.K=K:=by rfl):ic X (.builtin "len") (Wq K):=by subst h;exact Bw
def Wr(K:bJ):List V->Hp->VK->Prop:=λxs H Q=>∃p ys,xs=[.ref p]/\(aR K H p ys\/aU K H p ys)/\∀l,H l=none->Q (.ref l) (upd H l (.lst ys))
def Ws(K:bJ)(h:X.K=K:=by rfl):ic X (.type "list") (Wr K):=by subst h;exact Bx
def Wu(K:bJ):List V->Hp->VK->Prop:=λxs H Q=>∃p ys,xs=[.ref p]/\((aR K H p ys/\∀l,H l=none->Q (.ref l) (upd H l (.tup ys)))\/(aU K H p ys/\Q (.ref p) H))
def Dm(K:bJ)(h:X.K=K:=by rfl):ic X (.type "tuple") (Wu K):=by subst h;exact zF
def oB(K:bJ)(h:X.K=K:=by rfl):JI X (S8 K):=by subst h;exact IA
def cT(K:bJ)(h:X.K=K:=by rfl):JI X (Tc K):=by subst h;exact Mv
def Vc(K:bJ)(h:X.K=K:=by rfl):JI X (ZP K):=by subst h;exact Tf
def slL(K:bJ)(h:X.K=K:=by rfl):ZN X (Wa K):=by subst h;exact Qc
def inK(K:bJ)(h:X.K=K:=by rfl):my X (compareOp .In) (YB K false):=by subst h;exact JJ
def Tu(K:bJ)(h:X.K=K:=by rfl):my X (compareOp .NotIn) (YB K true):=by subst h;exact Bv
def wX(K:bJ)(hl:PE X l tl)(h:X.K=K:=by rfl):PI X tg l (Ik K tl):=by subst h;exact Il hl
def YD(K:bJ)(hl:PE X l tl)(h:X.K=K:=by rfl):PI X tg l (PU K tl):=by subst h;exact Mc hl
def piS(K:bJ)(hl:PE X l tl)(h:X.K=K:=by rfl):PI X tg l (λσ H R=>Ik K tl σ H R\/PU K tl σ H R):=by subst h;exact Tt hl
def Dp(K:bJ){k:Nat}{t:Pj}{n:Nat}{pos:Pos}(hc:X.calm=true)(hp:U7 X es t)(hn:(assignEach es X.env).length=n:=by rfl)(hst:(assignEach es X.env).findIdx? (·.1)=none:=by rfl)(h:X.K=K:=by rfl):
 PG X (.Tuple es k pos) (VN K n t):=by subst h;exact SO hc hp hn hst
end
def zG(od:Option Addr)(c:Value)(e:Addr)(h:Heap):Prop:=∃I vs,h.get? e=some I/\I.data = .fields vs/\vs[2]?=some c/\I.dict=od
def MF(o:Obj)(f):(o.mapFields f).dict=o.dict:=by
 obtain⟨c,d,dt,sl⟩:=o;cases dt<;>rfl
section
variable {M:Model}{A:Around}{E:dR}{s:Shared}{B:Heap}{env:Env}{outer l:List Env}{L e:Addr}{cls a0:Value}{Q:Unit->Shared->Prop}{od:Option Addr}{c:Value}
def BG{h:Heap}{T:Addr}{oT:Obj}{ts:Array Value}(f:Obj->Obj)(hT:h.get? T=some oT)(hd:oT.data = .fields ts):h.UpToSlots (h.update T f):=λb o hb hn=>by
 have ne:T≠b:=λz=>by
  rw[<-z,hT]at hb;cases hb;exact hn ts hd
 exact⟨o.slots,(abT h f ne).trans hb⟩
def ue{h:Heap}{T:Addr}(f:Obj->Obj)(k:B.StaysIn h)(n:B.get? T=none):B.StaysIn (h.update T f):=λb o hb=>by
 have ne:T≠b:=λz=>by
  rw[<-z,n]at hb;cases hb
 exact(abT h f ne).trans (k b o hb)
def m7{h h' : Heap}(x:h.FunFrames B l)(u:h.UpToSlots h'):h'.FunFrames B l:=x.of_keeps λb o hb hn =>
 let⟨_,q⟩:=u b o hb hn
 ⟨_,q,rfl⟩
def RK{fl:Value}(hk:B.StaysIn s.heap)(hn:B.get? e=none)(hl:s.heap.FunFrames B l)(ht:s.heap.TracedAtW B e cls a0 fl)(h2:zG od c e s.heap)
 (q:∀h',Heap.FlyingW B l e cls a0 h'->zG od c e h'->s.heap.UpToSlots h'->Q () { s with heap:=h'}):wpAny M A (setFlight (.ref e) none) Q E s:=by
 obtain⟨U,vs,T,oT,ts,ge,hc,Y,f1,Z,Te,O,dT,f3⟩:=ht;have z3:3<ts.size:=(ab9.mp f3).1;rw[setFlight];refine aV (wpAny_field ge Y f1 ?_);rw[aai (by simp)]
 refine wpAny_setField O dT z3 ?_;have up:=BG (Obj.mapFields (·.setIfInBounds 3 ((none:Option Addr).elim Value.none λf=>rawInt f))) O dT
 have YE:=(abT s.heap (Obj.mapFields (·.setIfInBounds 3 ((none:Option Addr).elim Value.none λf=>rawInt f))) Te).trans ge
 have I:=acN dT (·.setIfInBounds 3 ((none:Option Addr).elim Value.none λf=>rawInt f))
 refine q _ ⟨ue _ hk Z,hn,m7 hl up,U,vs,T,_,_,YE,hc,Y,f1,Z,Te,acg _ O (acW I),I,by simp[z3]⟩ ?_ up
 obtain⟨o2,v2,g2,d2,k2,z2⟩:=h2;rw[ge]at g2;cases g2;exact⟨U,v2,YE,d2,k2,z2⟩
def MG{oe:Obj}{vs:Array Value}{head:Value}{hadNext:Bool}(hfr:A.frames=some (env::outer))(hl:s.heap.FunFrames B (env::outer))(hf:env.frame=some L)(ge:s.heap.get? e=some oe)(hk:B.StaysIn s.heap)(hn:B.get? e=none)
 (de:oe.data = .fields vs) (hz:1<vs.size) (h0:vs[0]?=some a0) (h2:vs[2]?=some c) (hz2:oe.dict=od)
 (q:∀h',Heap.HeldW B (env::outer) e oe.cls a0 L h'->zG od c e h'->s.heap.UpToSlots h'->Q () { s with heap:=h'}) :
 wpAny M A (do let a←frameOf env;let I←entryPlaceOf L hadNext;let b←EntryCells.newEntry head a .none (rawInt L) .none I;setField (.ref e) 1 b) Q E s:=by
 have ZY:e∉(env::outer).filterMap (·.frame):=λz=>by
  obtain⟨_,o,ho,nf⟩:=hl.mem z;rw[ge]at ho;cases ho;exact nf vs de
 refine aV (wpAny_frameOf_fun hfr hl hf λh1 Y=>aV (wpAny_entryPlaceOf λI ip=>?_))
 rw[EntryCells.newEntry,newFields];refine aV (wpAny_newObj_type ?_ (ip.sizeOk5 _ _ _ _ _));generalize O:({ cls:=.type "traceback",dict:=none,data:=.fields ([head,.ref L,.none,rawInt L,.none]++(if I.isEmpty then List.replicate 6 Value.none else I)).toArray}:Obj)=nw
 have dn:nw.data = .fields ([head,.ref L,.none,rawInt L,.none]++(if I.isEmpty then List.replicate 6 Value.none else I)).toArray:=by rw[<-O]
 have ge1:h1.get? e=some oe:=(Y.2.1 e ZY).trans ge;have Z:=aao (h:=h1) nw ge1;have Te:h1.objs.size≠e:=abX (aax ge1);refine wpAny_setField Z de hz ?_;have Z0:=acN de (·.setIfInBounds 1 (Value.ref h1.objs.size));have U:=acg (Obj.mapFields (·.setIfInBounds 1 (Value.ref h1.objs.size))) Z (acW Z0);have ab:=(abT (h1.push nw) (Obj.mapFields (·.setIfInBounds 1 (Value.ref h1.objs.size))) (aa6 Te)).trans (aaN h1 (by rw[<-O];rfl))
 have up:s.heap.UpToSlots ((h1.push nw).update e (Obj.mapFields (·.setIfInBounds 1 (Value.ref h1.objs.size)))):=by
  have u1:s.heap.UpToSlots h1:=λb o hb _=>Y.2.2 b o hb
  exact(u1.trans (.of_keeps λb o hb=>aao nw hb)).trans (BG _ Z de)
 have k1:B.StaysIn h1:=λb o hb=>(Y.2.1 b λz=>by rw[(hl.mem z).1]at hb;cases hb).trans (hk b o hb)
 have k2:B.StaysIn (h1.push nw):=λb o hb=>aao nw (k1 b o hb)
 refine q _ ⟨ue _ k2 hn,hn,m7 hl up,_,_,h1.objs.size,nw,_,U,⟨Obj.cls_mapFields _ _,by rw[adG (by decide)];exact h0⟩,Z0,by simp[hz],k1.fresh,Te,ab,dn,?_⟩ ?_ up
 ·first | (simp;done) | (rcases ip with rfl | ⟨_,_,_,_,_,_,_,rfl⟩<;>simp)
 ·exact⟨_,_,U,Z0,by rw[adG (by decide)];exact h2,(MF _ _).trans hz2⟩
def Wv(hfr:A.frames=some (env::outer))(hf:env.frame=some L)(fl:Heap.FlyingW B (env::outer) e cls a0 s.heap)(h2:zG od c e s.heap)
 (q:∀h',Heap.HeldW B (env::outer) e cls a0 L h'->zG od c e h'->s.heap.UpToSlots h'->Q () { s with heap:=h'}):wpAny M A (noteFrame (.ref e) env) Q E s:=by
 obtain⟨hk,hn,U,oe,vs,T,oT,ts,ge,⟨hc,h0⟩,I,f1,Y,Z,O,dT,f3⟩:=fl;obtain⟨o2,v2,g2,d2,k2,z2⟩:=h2;rw[ge]at g2;cases g2;rw[I]at d2;cases d2;cases hc;rw[noteFrame];simp only[hf];refine aV (wpAny_field ge I f1 ?_);rw[aai (by simp)]
 refine aV (wpAny_field O dT f3 ?_);rw[aaf (by simp[rawInt])]
 refine aV (wpAny_setField O dT (ab9.mp f3).1 ?_);have up:=BG (Obj.mapFields (·.setIfInBounds 3 Value.none)) O dT;have YE:=(abT s.heap (Obj.mapFields (·.setIfInBounds 3 Value.none)) Z).trans ge;exact MG (s:={ s with heap:=s.heap.update T (Obj.mapFields (·.setIfInBounds 3 Value.none))}) hfr (m7 U up) hf YE (ue _ hk Y) hn I (ab9.mp f1).1 h0 k2 z2 λh' x1 x2 x3=>q h' x1 x2 (up.trans x3)
def Ww(x:Heap.FlyingW B (env::outer) e cls a0 s.heap):Heap.FlyingW B outer e cls a0 s.heap :=
 let⟨k1,k2,⟨_,_,k3⟩,k4⟩:=x
 ⟨k1,k2,k3,k4⟩
def leave_on2(hfr:A.frames=some (env::outer))(hf:env.frame=some L)(fl:Heap.FlyingW B (env::outer) e cls a0 s.heap)(h2:zG od c e s.heap)
 (q:∀h',Heap.FlyingW B outer e cls a0 h'->zG od c e h'->s.heap.UpToSlots h'->Q () { s with heap:=h'}):wpAny M A (leaving env (.ref e)) Q E s:=by
 rw[leaving];refine aV (Wv hfr hf fl h2 λh' O U Y=>?_)
 obtain⟨Z,y2,y3,y4⟩:=O;exact RK (s:={ s with heap:=h'}) Z y2 y3 y4 U λI z1 z2 z3=>q I (Ww (s:={ s with heap:=I}) z1) z2 (Y.trans z3)
def leave_new{oe:Obj}{vs:Array Value}(hfr:A.frames=some (env::outer))(hf:env.frame=some L)(hk:B.StaysIn s.heap)(hn:B.get? e=none)(hl:s.heap.FunFrames B (env::outer))(ge:s.heap.get? e=some oe)(de:oe.data = .fields vs)
 (h0:vs[0]?=some a0) (h1:vs[1]?=some .none) (h2:vs[2]?=some c) (hz2:oe.dict=od)
 (q:∀h',Heap.FlyingW B outer e oe.cls a0 h'->zG od c e h'->s.heap.UpToSlots h'->Q () { s with heap:=h'}):wpAny M A (leaving env (.ref e)) Q E s:=by
 rw[leaving,noteFrame];simp only[hf];refine aV (aV (wpAny_field ge de h1 ?_));rw[aaf (by decide)]
 refine MG (a0:=a0) hfr hl hf ge hk hn de (ab9.mp h1).1 h0 h2 hz2 λh' O U Y=>?_
 obtain⟨Z,y2,y3,y4⟩:=O;exact RK (s:={ s with heap:=h'}) Z y2 y3 y4 U λI z1 z2 z3=>q I (Ww (s:={ s with heap:=I}) z1) z2 (Y.trans z3)
end
section
variable {P:Program}{w:World}{H H0 H1:Hp}{h h0 h1 h2:Heap}{a:Addr}{o:HO}{fs:List Addr}{B:Heap}
def bK.thing(x:bK P w H h a o):∃ob,h.get? a=some ob:=by
 cases o with
 | lst xs=>obtain⟨_,_,_,_,e⟩:=x;exact⟨_,e⟩
 | tup xs=>obtain⟨_,_,_,ob,e,_⟩:=x;exact⟨ob,e⟩
 | dK kvs=>obtain⟨_,_,_,_,ob,_,_,e,_⟩:=x;exact⟨ob,e⟩
 | dT kvs=>obtain⟨_,_,_,_,ob,_,_,e,_⟩:=x;exact⟨ob,e⟩
 | set S n=>obtain⟨ob,_,_,_,e,_⟩:=x;exact⟨ob,e⟩
 | ins C dx fs=>obtain⟨_,_,_,e,_⟩:=x;exact⟨_,e⟩
 | own y=>exact x
 | xd fs=>obtain⟨_,⟨ob,_,_,e,_⟩,_⟩:=x;exact⟨ob,e⟩
 | Jw lo hi=>obtain⟨_,_,_,e⟩:=x;exact⟨_,e⟩
 | n5 ob u=>obtain⟨e,_⟩:=x;exact⟨_,e⟩
 | jF ps=>obtain⟨_,e,_⟩:=x;exact⟨_,e⟩
 | met f y=>exact⟨_,(show h.get? a=some _ from x)⟩
 | ext φ=>obtain⟨_,e,_⟩:=x;exact e
def Qi(B:Heap)(fs:List Addr)(h0:Heap)(H:Hp)(h:Heap):Prop:=∀b o,h.get? b=some o->(H b≠none\/∃o',h0.get? b=some o')->b∉fs->B.get? b=some o
def MH(un:Un fs [] H0 H1 h0 h1)(hok:n8 P w H1 h1)(nof:∀b∈fs,H1 b=none)(fr:∀b∈fs,∀ob,h1.get? b=some ob->∀vs,ob.data≠.fields vs)(RL:Qi B fs h0 H1 h1)
 (hB:B.StaysIn h2) (up:h1.UpToSlots h2):Un fs [] H0 H1 h0 h2/\n8 P w H1 h2/\Qi B fs h0 H1 h2:=by
 have O:∀b ob,h1.get? b=some ob->(H1 b≠none\/∃o',h0.get? b=some o')->b∉fs->h2.get? b=some ob:=λb ob e c n=>hB b ob (RL b ob e c n)
 have U4:∀b u,H1 b=some u->b∉fs:=λb u e z=>by
  rw[nof b z]at e;cases e
 refine⟨⟨λb ob e n hb hx=>O b ob (un.keep b ob e n hb hx) (.inr ⟨ob,e⟩) hb,λb ob e n hb hx=>?_,un.free,λb ob e hx=>?_,un.tups,un.m3,un.oh⟩,λb u e=>?_,λb ob e c n=>?_⟩
 ·obtain⟨sl,q⟩:=un.slot b ob e n hb hx;obtain⟨Y,q'⟩:=up b _ q (fr b hb _ q);exact⟨Y,q'⟩
 ·obtain⟨o',q⟩:=un.there b ob e hx
  by_cases hb:b∈fs
  ·obtain⟨Y,q'⟩:=up b _ q (fr b hb _ q);exact⟨_,q'⟩
  ·exact⟨o',O b o' q (.inr ⟨ob,e⟩) hb⟩
 ·refine(hok b u e).stay (λc v hc q=>?_) (λ_ q=>q) λ_ _ q=>q
  have U:∃z,H1 c=some z:=by
   rcases hc with hc|hc
   ·rw[hc];exact⟨u,e⟩
   ·exact⟨_,hc⟩
  obtain⟨z,hz⟩:=U;exact O c v q (.inl (by rw[hz];simp)) (U4 c z hz)
 ·have ht:∃I,h1.get? b=some I:=by
   rcases c with c|⟨o',c⟩
   ·cases hz:H1 b with
    | none=>exact absurd hz c
    | some z=>exact(hok b z hz).thing
   ·exact un.there b o' c (by simp)
  obtain⟨I,q⟩:=ht;have Z:=RL b I q c n;have q3:=hB b I Z;rw[e]at q3;rw[Option.some.inj q3];exact Z
end
def Z2(ea:Addr)(cls:Value):HO:=.ext λh=>∃I vs,h.get? ea=some I/\I.cls=cls/\I.data = .fields vs/\vs[2]?=some .none
def Tv(E:XK)(cls:Value)(od:Option Addr)(c:Value)(H:Hp):Prop:=(c = .none/\(∃I:Addr,cls = .ref I)/\E cls od H)\/∃C e' O,cls = .ref C/\od=none/\c = .ref e'/\H e' = some (Z2 e' O)/\E (.int (C:Int) e') none H
def MI(P:Program)(w:World):LN:=λouter H s E e s'=>∃(I:Addr) (cls a0:Value) (od:Option Addr) (c:Value) (H' : Hp) (B:Heap),e = .ref I/\s'.os=s.os/\AllBare s'.gens/\Un (frs outer) [] H H' s.heap s'.heap/\n8 P w H' s'.heap/\H' I=none/\
 Qi B (frs outer) s.heap H' s'.heap/\Heap.FlyingW B outer I cls a0 s'.heap/\zG od c I s'.heap/\Tv E cls od c H'
structure Out(X:Cx)(E:XK):Prop where
 Ph:X.stack=X.env::X.outer
 fr:X.env.frame=some X.env.locals
 ex:X.ex=[]
 xe:∀e s',wpAny (model X.prog X.w) X.A (leaving X.env e) (λ_ s''=>MI X.prog X.w X.outer X.H₀ X.s₀ E e s'') (λe' s''=>MI X.prog X.w X.outer X.H₀ X.s₀ E e' s'') s'->X.xe e s'
def Thr(X:Cx)(E:XK):Prop:=∀(pq:aX) (σ:St) (H:Hp) (s:Shared) (h1:Heap) (I O:Addr) (vs:List Value),Inv X pq σ H s->Heap.MadeExcOf s.heap h1 I (.ref O) vs->E (.ref O) none H->X.xe (.ref I) { s with heap:=h1}
section
variable {X:Cx}{E:XK}{pq:aX}{σ:St}{H:Hp}{s:Shared}
def Inv.Tw(I:Inv X pq σ H s):∀b∈X.fs,∀ob,s.heap.get? b=some ob->∀vs,ob.data≠.fields vs:=λb hb ob e=>by
 obtain⟨_,o,U,O⟩:=I.funs.mem hb;rw[e]at U;cases U;exact O
def Inv.Tz(I:Inv X pq σ H s)(hx:X.ex=[]):∀b∈X.fs,H b=none:=λb hb=>by
 obtain⟨_,o,O,_⟩:=I.ok.funs.mem hb;exact I.base.free b o O (I.ok.PK b hb) (by rw[hx];simp)
def Qi.outer{B h0:Heap}{h:Heap}(I:Inv X pq σ H s)(RL:Qi B (frs X.stack) h0 H h)(k:∀b o,X.s₀.heap.get? b=some o->∃o',h0.get? b=some o'):Qi B X.fs X.s₀.heap H h:=λb o e c n=>by
 refine RL b o e (c.imp id λ⟨o',q⟩=>k b o' q) λz=>?_
 rcases aaC.mp (I.xx b z) with q|q
 ·subst q;rcases c with c|⟨o',c⟩
  ·exact c I.free
  ·exact absurd (aaL (aax c) I.ok.above) (abN _)
 ·exact n q
def IF(O:Out X E)(I:Inv X pq σ H s){B:Heap}{ea:Addr}{cls a0:Value}{od:Option Addr}{c:Value}{h2:Heap}(RL:Qi B X.fs X.s₀.heap H s.heap)(fl:Heap.FlyingW B X.outer ea cls a0 h2)(sc:zG od c ea h2)(up:s.heap.UpToSlots h2)(hn:H ea=none)(q:Tv E cls od c H):
 MI X.prog X.w X.outer X.H₀ X.s₀ E (.ref ea) { s with heap:=h2}:=by
 have un:Un X.fs [] X.H₀ H X.s₀.heap s.heap:=by
  have u:=I.base;rw[O.ex]at u;exact u
 obtain⟨Y,U,Z⟩:=MH un I.hok (I.Tz O.ex) I.Tw RL fl.1 up;exact⟨ea,cls,a0,od,c,H,B,rfl,I.os,I.bare,Y,U,hn,Z,fl,sc,q⟩
def Out.Z3(O:Out X E){ea:Addr}{oe:Obj}{vs:Array Value}{a0 c:Value}(I:Inv X pq σ H s)(ge:s.heap.get? ea=some oe)(de:oe.data = .fields vs)(h0:vs[0]?=some a0)(h1:vs[1]?=some .none)(h2:vs[2]?=some c)
 (hn:H ea=none) (new:X.s₀.heap.get? ea=none) (q:Tv E oe.cls oe.dict c H):X.xe (.ref ea) s:=by
 refine O.xe _ _ ?_;have U:X.A.frames=some (X.env::X.outer):=by rw[I.ok.frames,O.Ph]
 have Y:s.heap.FunFrames (PySem.W.hideAll s.heap (ea::frs X.stack)) (X.env::X.outer):=by
  have z:=PySem.W.funFrames_hide (as:=ea::frs X.stack) I.stack λenv he b hb=>nU _ (acf.mpr ⟨env,he,hb⟩)
  rw[O.Ph]at z ⊢;exact z
 refine leave_new U O.fr (λb o e=>PySem.W.of_hideAll _ e) (PySem.W.hideAll_none _ (aaF ..)) Y ge de h0 h1 h2 rfl λZ fl sc up=>?_
 refine IF O I (Qi.outer I (h0:=X.s₀.heap) (λb o e c n=>?_) λb o e=>⟨o,e⟩) fl sc up hn q
 refine PySem.W.hideAll_get _ e λz=>?_
 rcases aaC.mp z with z|z
 ·subst z;rcases c with c|⟨o',c⟩
  ·exact c hn
  ·rw[new]at c;cases c
 ·exact n z
def Out.Z4(O:Out X E){ea:Addr}{oe:Obj}{vs:Array Value}{a0:Value}(I:Inv X pq σ H s)(ge:s.heap.get? ea=some oe)(de:oe.data = .fields vs)(h0:vs[0]?=some a0)(h1:vs[1]?=some .none)(h2:vs[2]?=some .none)
 (hn:H ea=none) (new:X.s₀.heap.get? ea=none) (hcl:∃U:Addr,oe.cls = .ref U) (q:E oe.cls oe.dict H):X.xe (.ref ea) s:=O.Z3 I ge de h0 h1 h2 hn new (.inl ⟨rfl,hcl,q⟩)
def Out.Z5(O:Out X E):Thr X E:=by
 intro pq σ H s h1 U Z vs I mk q;have Y:Inv X pq σ H { s with heap:=h1}:=I.kept (t':=s.toks) mk.keeps
 have hn:H U=none:=by
  cases hz:H U with
  | none=>rfl
  | some z =>
    obtain⟨ob,e⟩:=(I.hok U z hz).thing;rw[mk.new]at e;cases e
 obtain⟨t,ge,_,_⟩:=mk.there;refine O.Z4 Y (a0:=.ref t) ge rfl rfl rfl rfl hn ?_ ⟨_,rfl⟩ q;cases hz:X.s₀.heap.get? U with
 | none=>rfl
 | some o =>
   obtain⟨o',e⟩:=I.base.there U o hz (by rw[O.ex];simp)
   rw[mk.new]at e;cases e
def Inv.WA{H' : Hp}{s' : Shared}(I:Inv X pq σ H s)(os:s'.os=s.os)(bare:AllBare s'.gens)(un:Un (frs X.stack) [] H H' s.heap s'.heap)(hok:n8 X.prog X.w H' s'.heap):Inv X pq σ H' s' :=
 I.L4 (ch:=[]) os un hok bare λb z=>absurd z (by simp)
def Out.passes(O:Out X E):Passes (MI X.prog X.w) X E:=by
 intro pq σ H s e s' I q;obtain⟨ea,cls,a0,od,c,H',B,rfl,os,bare,un,hok,hn,RL,fl,sc,qE⟩:=q;have Z:=I.WA os bare un hok;refine O.xe _ _ ?_;have U:X.A.frames=some (X.env::X.outer):=by rw[I.ok.frames,O.Ph]
 rw[O.Ph]at fl;refine leave_on2 U O.fr fl sc λh2 Y Vd up=>?_
 exact IF O Z (Qi.outer Z RL λb o e=>I.base.there b o e (by rw[O.ex];simp)) Y Vd up hn qE
end
def gJ{P:Program}{w:World}{K:bJ}{mg:nY}{base:Heap}{N:List Str}{qual:Str}{scope:Scope}{f:Addr}{cd:Value}{A:Around}{outer:List Env}{s:Shared}{H:Hp}{E:XK}:
 Out (vZ (MI P w) P w K mg base N qual scope f cd A outer s H E) E:=⟨rfl,rfl,rfl,λ_ _ h=>h⟩
def rM.IG{P:Program}{w:World}{K:bJ}{mg:nY}{base:Heap}{x qual:Str}{st:Stmt}{f:Addr}{fd:FuncData}{N ps:List Str}{k:Nat}{sp:Sp}(F:rM K x qual st f fd)(S:aC N ps (aj st))
 (len:∀vs H Q E,sp vs H Q E->vs.length=ps.length)
 (hbody:∀(cdv:Value) (A:Around) (outer:List Env) (s:Shared) (H:Hp) (vs:List V) (Q:VK) (E:XK),eJ k (A.deeper (envOfC qual (aj st) s.heap.objs.size f cdv))->sp vs H Q E->
  ∃t,zA (vZ (MI P w) P w K mg base N qual (aj st) f cdv A outer s H E) (cI st) t/\t { nx:=λ_ H'=>Q .eX H',rt:=Q} (start N vs) H):gH P w K mg base (MI P w) (k+1) f fd ps sp:=by
 obtain⟨oc,od,kV,doc,pm,an,cdv,ct,osl,rfl,O,I⟩:=F.ex;exact Mr O I S len λA outer s H vs Q E hr U=>hbody cdv A outer s H vs Q E hr U
section
variable {X:Cx}{E:XK}
def TF(C:Addr)(E:XK)(t:TA):TS:=λ_ σ H=>t σ H λvs H1=>vs.length<=sizeLine/\E (.ref C) none H1
def xJ{x:Str}{C:Addr}{bm:List Value}{B newId initId:String}{e:Expr}{es:List Expr}{ta:TA}{np cpos pos:Pos}(th:Thr X E)(hc:X.calm=true)(hg:Gl X x)(O:∀h,X.K.In h->h.Ns mainGlobals X.mg->OwnCls x C bm newId X.mg h)
 (FB:ExcBaseFacts B newId initId bm) (ha:PA X (e::es) ta) (he:starEach (e::es) X.env=(false,eval e X.env)::starEach es X.env:=by rfl) (hpl:(backTo cpos (starEach es X.env)).any (·.1)=false:=by rfl)
 (hd:(x==("__debug__":Str))=false:=by decide):PS X (.Raise (some (.Call (.Name x np) (e::es) [] cpos)) none pos) (TF C E ta):=by
 intro pq s σ H D I h;have Z:=O _ I.mod.U5 I.mod.glob;obtain⟨tl,N,nm,q,bs,hdct,sn,sub,ab,col,dd,k0,k1,k2,k3,k5,mN,hC,hN,Y,T⟩:=Z.obj;refine wpAny_Raise_call_subT (C:=C) (nm:=nm) (q:=q) (N:=N) (bs:=bs) (bm:=tl) (hdct:=hdct) (sn:=sn) (sub:=sub) (ab:=ab) (col:=col) (dd:=dd) (k0:=k0) (k1:=k1) (k2:=k2) (k3:=k3) (k5:=k5)
  FB (mN:=mN) (T.hasType FB.hasBase) (I.ok.hd hc) (by rw[he];show(false || (backTo cpos (starEach es X.env)).any (·.1))=false;rw[hpl];rfl) Y (wQ I hg Z.bound ⟨rfl,?_⟩ hd)
 have hA:=ha cpos pq s σ H _ I h;rw[he]at hA ⊢;refine Calls.evalArgs_plain (aa8 hA (λus s1 ⟨vs,H1,U,r1,z,q1⟩=>?_) λ_ _ y=>y)
 exact⟨rfl,by rw[<-r1.length];exact z,U.bk _ _ hC,hN.keeps U.bk,T.keeps U.bk,λh' ea hm=>th pq σ H1 s1 h' ea _ us U hm q1⟩
end
section
variable {X:Cx}{pq:aX}{σ:St}{H:Hp}{s:Shared}
def Inv.WB{A' : Around}{YF SH:aX}{cm:Bool}{xe' : dR}(I:Inv X pq σ H s)(hA:A'.frames=X.A.frames)(hcm:cm=true->A'.handled=none)(hp:∀p∈YF++SH,p∈X.pn++pq):
 Inv { X with A:=A',calm:=cm,pn:=YF,xe:=xe'} SH σ H s :=
 ⟨⟨I.ok.mod,I.ok.kind,I.ok.glob,I.ok.blt,I.ok.above,I.ok.inj,I.ok.has,I.ok.U6,hcm,hA.trans I.ok.frames,I.ok.Ph,I.ok.Zv,I.ok.bs,I.ok.L1,I.ok.Jy,I.ok.L3,I.ok.funs,I.ok.PK⟩,
   I.os,I.bare,I.base,I.loc,I.cell,I.free,I.gh,λp z=>I.pin p (hp p z),I.hok,I.len⟩
end
open PySem PySem.Spec PySem.Calls PyProof.Rows PySem.W PySem.Builtin PySem.Builtin.ObjectAttr PySem.Builtin.Getset_descriptor
section
variable {X:Cx}
def MJ:my X (compareOp .IsNot) (λx y H Q=>∃a b,x = .bl a/\y = .bl b/\Q (.bl (!(a==b))) H):=by
 intro pq s σ H x y v u Q I rx O h;obtain⟨a,b,rfl,rfl,q⟩:=h;cases rx;cases O;refine wpAny_isNot_plain rfl ⟨.bl _,H,I,?_,q⟩;cases a<;>cases b<;>rfl
def WC(K:bJ):V->V->Hp->VK->Prop:=λo i H Q=>∃p xs j v,o = .ref p/\i = .int ((j:Nat):Int)/\aR K H p xs/\xs[j]?=some v/\Q v H
def getL(K:bJ)(hK:X.K=K:=by rfl):VQ X (WC K):=by
 subst hK;intro pq s σ H o i Z iv Q I O U h;obtain⟨p,xs,j,v,rfl,rfl,Y,e,q⟩:=h;cases O;obtain⟨t,rfl⟩:=U;obtain⟨its,r,pl,hz⟩:=I.list Y;obtain⟨u,eu,ru⟩:=r.get e;have hj:j<xs.length:=(jo.mp e).1;have hn:=qO;exact wpAny_getItem_list pl.isList (by lia) (by lia) (by simpa using eu) ⟨v,H,I,ru,q⟩
def WD(K:bJ):R2:=λx y H Q=>∃l b xs zs,x = .ref l/\y = .ref b/\aR K H l xs/\aR K H b zs/\xs.length+zs.length<=sizeLine/\∀p,H p=none->Q (.ref p) (upd H p (.lst (xs++zs)))
def Z6(K:bJ)(hK:X.K=K:=by rfl):my X (binaryOp .Add) (WD K):=by
 subst hK;intro pq s σ H x y v u Q I rx O h;obtain⟨l,b,xs,zs,rfl,rfl,U,Y,hz,q⟩:=h;cases rx;cases O;obtain⟨its,r,pl,_⟩:=I.list U;obtain⟨its2,r2,YG,_⟩:=I.list Y;obtain⟨⟨cls,dd,data,sl⟩,n,e,hc,_,hd⟩:=pl;obtain⟨⟨P4,dd2,data2,sl2⟩,n2,e2,hc2,_,hd2⟩:=YG;simp only at hc hd hc2 hd2;subst hc hd hc2 hd2;have l1:=r.length;have l2:=r2.length;have Z:its.toArray++its2.toArray=(its++its2).toArray:=by simp
 refine concat_meets ⟨_,e,rfl⟩ ⟨_,e2,rfl⟩ noFill_list_add seq_list_add PySem.F.slot_list_add PySem.F.entry_list_add (PySem.F.args_list_add_2 _ _)
  (list_addW l b its.toArray its2.toArray n n2 dd dd2 sl sl2 (by rw[aaG,aaG];lia)) ⟨e,e2,?_⟩
 rw[Z];exact⟨.ref _,_,I.Wc (t':=s.toks) (r.append r2) (by rw[aaz];lia),rfl,q _ I.fresh⟩
end
section
variable {X:Cx}{tg:Expr}
def rQ{iter:Expr}{body:List Stmt}{wi:TI}{g:TG}{tb:TS}{pos:Pos}(hc:X.calm=true)(hi:PI X tg iter wi)(hg:PG X.Fg tg g)(hb:zA X.Fg body tb)(hs:∀x,foldedSetIterable iter X.env x=pure x:=by intro _;rfl):
 PS X (.For tg iter body [] pos) (eI wi g tb):=by
 intro pq s σ H D I h;refine wpAny_For (dh (hi pq s σ H _ I h) λv s1 h1=>dh h1 λag s2 h2=>?_) hs
 obtain⟨it,fp,tn,J,H2,e,I2,T,ab,f2,W,⟨m0,w0⟩,turn⟩:=h2;subst e;have FE:∀{H' : Hp},(∀b∈fp,H' b=none)->∀b∈fp,qL X.Fg pq H' b:=λhn b hb=>⟨hn b hb,(f2 b hb).2⟩
 refine codeAny_forLoop_any (λn s'=>∃i σ' H',Inv X.Fg pq σ' H' s'/\tn i s'.heap/\(∀b∈fp,H' b=none)/\W i n σ' H') ?_ m0 ⟨0,σ,H2,I2.xy _,ab,λb hb=>(f2 b hb).1,w0⟩
 rintro n s3 ⟨i,σ3,H3,I3,Z,RC,w3⟩;rcases turn i n σ3 H3 w3 with⟨stop,qn⟩|⟨go,N,hN,step⟩
 ·refine aa8 (T.done X.Fg rfl rfl rfl hc i pq s3 σ3 H3 (λ_ _=>False) I3 (FE RC) Z stop) (λr s4 ⟨hr,I4⟩=>?_) λ_ _ z=>z.elim
  subst hr;exact wpAny_execs_nil ⟨σ3,H3,I4.kG,qn⟩
 ·refine aa8 (T.item X.Fg rfl rfl rfl hc i pq s3 σ3 H3 (λ_ _=>False) I3 (FE RC) Z go) (λr s4 ⟨u,hr,h4⟩=>?_) λ_ _ z=>z.elim
  subst hr;refine aa8 h4 (λ_ s5 ⟨x,H5,I5,r5,y5,Mf,VS⟩=>?_) λ_ _ z=>z.elim
  have VT:=I5.pinned (FE VS) (T.obj _ _ Mf);refine aa8 (hg _ s5 σ3 H5 x u _ VT r5 (step x H5 y5)) (λ_ s6 ⟨σ6,H6,I6,q6⟩=>?_) λ_ _ z=>z.elim
  refine aa8 (hb _ s6 σ6 H6 _ I6 q6) (λf s7 Y=>?_) λ_ _ z=>z.elim
  have again:∀{σ7:St} {O:Hp},Inv X.Fg (pq++tY fp s5.heap) σ7 O s7->N σ7 O->∃m,m<n/\∃i σ' H',Inv X.Fg pq σ' H' s7/\tn i s7.heap/\(∀b∈fp,H' b=none)/\W i m σ' H':=λ{σ7 O} U n7=>by
   obtain⟨m',hm,w7⟩:=hN σ7 O n7;refine⟨m',hm,i+1,σ7,O,U.kH,T.keep _ _ _ Mf λb hb o e=>(U.pin (b,o) (jY _ (jY _ (iG hb e)))).1,λb hb=>?_,w7⟩
   obtain⟨o,e,d⟩:=T.obj _ _ Mf b hb;exact(U.pin (b,o) (jY _ (jY _ (iG hb e)))).2.1
  cases f with
  | next=>obtain⟨σ7,O,U,n7⟩:=Y;exact again U n7
  | cont=>obtain⟨σ7,O,U,n7⟩:=Y;exact again U n7
  | brk=>obtain⟨σ7,O,U,Y⟩:=Y;exact⟨σ7,O,U.kH.kG,Y⟩
  | ret v=>obtain⟨x7,σ7,O,U,r7,Y⟩:=Y;exact⟨x7,σ7,O,U.kH.kG,r7,Y⟩
def vI{P:Program}{w:World}{X:Cx}:Passes (MI P w) X (λ_ _ _=>False):=by
 intro pq σ H s e s' I q;obtain⟨_,_,_,_,_,_,_,_,_,_,_,_,_,_,_,_,z⟩:=q;rcases z with⟨_,_,z⟩|⟨_,_,_,_,_,_,_,z⟩
 ·exact z.elim
 ·exact z.elim
end
def F9{K:bJ}{h:Heap}{mg:nY}{x:Str}{C:Addr}{bmB:List Value}{newId:String}(X:K.In h)(G:h.Ns mainGlobals mg)(e:PySem.W.nsIn K mainGlobals x=some (some (.ref C)))(q:PySem.W.excIn K C bmB newId=true):
 OwnCls x C bmB newId mg h:=by
 refine⟨PySem.W.mg_of X G e,?_⟩;unfold PySem.W.excIn at q
 split at q
 ·rename_i od cd sl look
  split at q
  ·rename_i Cx bm Z j1 j2 j3 nw j5 I O
   simp only[abd,adJ,Bool.not_eq_true']at q;obtain⟨⟨⟨⟨⟨rfl,rfl⟩,WE⟩,ht⟩,hok⟩,U⟩:=q;obtain⟨nm,bs,mro,ns,qn,hd,sn,sub,ab,col,del⟩:=cd
   (dsimp only at I WE hok U;subst I WE)
   have Y:sl = #[Z,j1,j2,j3,some (.builtin nw),j5]:=by
    obtain⟨l⟩:=sl;simp only at O;rw[O]
   subst Y;exact⟨bm,ns,nm,qn,bs,hd,sn,sub,ab,col,od,Z,j1,j2,j3,j5,_,X _ _ look,.of_isNs (PySem.W.isNs_of_in X hok),PySem.W.nsMap_none_of_in X hok U,PySem.W.tail_of_in X ht⟩
  ·cases q
 ·cases q
def Dq{α:Type}:∀us:List α,us.length=1->∃a,us=[a]
 | [_],_=>⟨_,rfl⟩
def TH{α:Type}:∀us:List α,us.length=2->∃a b,us=[a,b]
 | [_,_],_=>⟨_,_,rfl⟩
def Z7{α:Type}:∀us:List α,us.length=3->∃a b c,us=[a,b,c]
 | [_,_,_],_=>⟨_,_,_,rfl⟩
def WG{α:Type}:∀us:List α,us.length=4->∃a b c d,us=[a,b,c,d]
 | [_,_,_,_],_=>⟨_,_,_,_,rfl⟩
section
variable {X:Cx}{pq:aX}{σ:St}{H:Hp}{s:Shared}{h' : Heap}
def Inv.yields{t' : Nat}{wr:List Addr}{T:Addr}{o:HO}(I:Inv X pq σ H s)(k:∀b u,b∉wr->s.heap.get? b=some u->h'.get? b=some u)(hf:∀b∈wr,qL X pq H b)(hT:s.heap.objs.size<=T)
 (new:bK X.prog X.w (upd H T o) h' T o):Inv X pq σ (upd H T o) { s with heap:=h',toks:=t'}:=by
 have U:H T=none:=I.hok.fresh hT;have O:∀b u,H b=some u->b≠T:=λb u e=>aJ e U
 have nw:∀b u,H b=some u->b∉wr:=λb u e hb=>by rw[(hf b hb).1]at e;cases e
 refine I.step (g':=s.gens) (d':=s.drawn) (ch:=wr) (λb hb=>?_) (λb o _ _ hc e _=>k b o hc e) (λb o _ _ hc e _=>⟨o.slots,k b o hc e⟩) (λb u hc e n=>?_)
  (λb o hc e=>⟨o,k b o hc e⟩) (λb xs e=>?_) (λb ob xs e=>?_) (λb ps e=>⟨#[],?_⟩) (λm hm=>?_) (λb u e=>?_) I.bare
 ·obtain⟨_,f1,_,f3,f4,f5⟩:=hf b hb;exact⟨f3,f1,f4,f5⟩
 ·rw[ah (aaP (aaL (aax e) hT))];exact n
 ·rw[ah (O b _ e)];exact e
 ·rw[ah (O b _ e)];exact e
 ·rw[ah (O b _ e),e];simp
 ·obtain⟨o,es,ep,Y,r⟩:=hm;exact⟨o,es,ep,k _ o (λhb=>(hf _ hb).2.1 rfl) Y,r⟩
 ·by_cases hb:b=T
  ·subst hb;rw[ae]at e;cases e;exact new
  ·rw[ah hb]at e;refine(I.hok b u e).stay (λc v hc q=>k c v ?_ q) (λc q=>by rw[ah (O c _ q)];exact q) λc xs q=>by rw[ah (O c _ q)];exact q
   rcases hc with z|z
   ·rw[z];exact nw b u e
   ·exact nw c _ z
def Inv.Qj{t' : Nat}{wr:List Addr}(I:Inv X pq σ H s)(k:∀b u,b∉wr->s.heap.get? b=some u->h'.get? b=some u)(hf:∀b∈wr,qL X pq H b):Inv X pq σ H { s with heap:=h',toks:=t'}:=by
 have nw:∀b u,H b=some u->b∉wr:=λb u e hb=>by rw[(hf b hb).1]at e;cases e
 refine I.step (g':=s.gens) (d':=s.drawn) (ch:=wr) (λb hb=>?_) (λb o _ _ hc e _=>k b o hc e) (λb o _ _ hc e _=>⟨o.slots,k b o hc e⟩) (λ_ _ _ _ n=>n)
  (λb o hc e=>⟨o,k b o hc e⟩) (λ_ _ e=>e) (λ_ _ _ e=>e) (λb ps e=>⟨#[],by rw[e];simp⟩) (λm hm=>?_) (λb u e=>?_) I.bare
 ·obtain⟨_,f1,_,f3,f4,f5⟩:=hf b hb;exact⟨f3,f1,f4,f5⟩
 ·obtain⟨o,es,ep,O,r⟩:=hm;exact⟨o,es,ep,k _ o (λhb=>(hf _ hb).2.1 rfl) O,r⟩
 ·refine(I.hok b u e).stay (λc v hc q=>k c v ?_ q) (λ_ q=>q) λ_ _ q=>q
  rcases hc with z|z
  ·rw[z];exact nw b u e
  ·exact nw c _ z
end
def Ve(K:bJ)(a:Addr):It :=
 ⟨λi H=>∃xs x,aR K H a xs/\xs[i]?=some x,λi H v H'=>∃T x,v = .ref T/\H T=none/\H' = upd H T (.tup [.int (i:Int),x])/\∀xs,aR K H a xs->xs[i]?=some x,λi H=>∃xs,aR K H a xs/\xs.length<=i⟩
def JN{P:Program}{w:World}{K:bJ}{elts:List Expr}{k:Nat}{pos:Pos}(a e it:Addr)(hne:e≠it):
 Turn P w K (.Tuple elts k pos) (Ve K a) [e,it] e (λi h=>(∃old,IsEnum h e it (i:Int) old)/\h.IsListIter it a i) where
 mem:=by simp
 obj:=λi h st b hb=>by
  obtain⟨⟨old,he⟩,o,Z,c,d⟩:=st;have O : b=e\/b=it:=by simpa using hb
  rcases O with rfl|rfl
  ·exact⟨_,he,λv z=>by cases z⟩
  ·exact⟨o,Z,λv z=>by rw[d]at z;cases z⟩
 keep:=λi h h' st k=>by
  obtain⟨⟨old,he⟩,hit⟩:=st;exact⟨⟨old,k e (by simp) _ he⟩,hit.at λo x=>k it (by simp) o x⟩
 item:=by
  intro X hP hw hK hc i pq s σ H E I hf st hg;subst hP hw hK;obtain⟨xs,x,Y,hx⟩:=hg;obtain⟨its,rv,p,hz⟩:=I.list Y;obtain⟨u,hu,ru⟩:=rv.get hx;obtain⟨⟨old,he⟩,hit⟩:=st;refine wpAny_pyNext_enum_item he hit p.isList (x:=u) (by simpa using hu) hne λh1 Z TJ hT ag hk=>?_
  refine⟨_,rfl,wpAny_letOwnedTupleGo_enum Z λh2 Vf U=>?_⟩
  have WH:s.heap.objs.size≠e:=abX (aax he);have ab:h2.get? s.heap.objs.size=some { cls:=.type "tuple",data:=.seq #[.int i s.toks,u]}:=(U.2 _ WH).trans hT;refine⟨.ref s.heap.objs.size,upd H s.heap.objs.size (.tup [.int (i:Int),x]),I.yields (wr:=[e,it]) (t':=s.toks+1) (λb o hb q=>?_) hf (aam _) ?_,rfl,⟨_,x,rfl,I.fresh,rfl,λys hy=>by rw[I.rH hy Y];exact hx⟩,⟨⟨u,by simpa using Vf⟩,?_⟩,λb hb=>?_⟩
  ·have MK:b≠e:=λz=>hb (by simp[z])
   have TL:b≠it:=λz=>hb (by simp[z])
   exact(U.2 b MK).trans (hk b o MK TL q)
  ·exact⟨dl rfl,[.int i s.toks,u],.cons ⟨_,rfl⟩ (.cons ru .nil),⟨_,ab,rfl,_,rfl⟩⟩
  ·exact TJ.at λo q=>(U.2 it (aa6 hne)).trans q
  ·rw[ah]
   ·exact(hf b hb).1
   ·have O : b=e\/b=it:=by simpa using hb
    rcases O with rfl|rfl
    ·exact aa6 WH
    ·obtain⟨o,q,_⟩:=hit;exact aaP (aax q)
 done:=by
  intro X hP hw hK hc i pq s σ H E I hf st hg;subst hP hw hK;obtain⟨xs,Y,hx⟩:=hg;obtain⟨its,rv,p,hz⟩:=I.list Y;obtain⟨⟨old,he⟩,hit⟩:=st;obtain⟨f0,f1,f2,f3,f4,f5⟩:=hf it (by simp)
  have hl:=rv.length;exact wpAny_pyNext_enum_end (I.ok.hd hc) he hit p.isList (by simp;lia) λh' eb=>⟨rfl,I.turned (t':=s.toks) (λb o hb e=>eb b o hb e) f0 f1 f3 f4 f5⟩
 self:=λ_ _ _ _ _ st h=>by
  obtain⟨⟨old,he⟩,_⟩:=st;exact wpAny_pyIter_enum he h
def Z8(K:bJ)(a b:Addr):It :=
 ⟨λi H=>∃xs ys x y,aR K H a xs/\aR K H b ys/\xs[i]?=some x/\ys[i]?=some y,
  λi H v H'=>∃T x y,v = .ref T/\H T=none/\H' = upd H T (.tup [x,y])/\(∀xs,aR K H a xs->xs[i]?=some x)/\∀ys,aR K H b ys->ys[i]?=some y,
  λi H=>∃xs ys,aR K H a xs/\aR K H b ys/\(xs.length<=i\/ys.length<=i)⟩
def ML{P:Program}{w:World}{K:bJ}{elts:List Expr}{k:Nat}{pos:Pos}(a b z TI TO i1 i2:Addr)(D:ZipApart z TI TO i1 i2 a b):
 Turn P w K (.Tuple elts k pos) (Z8 K a b) [z,TI,TO,i1,i2] z (λi h=>IsZip h z TI TO .none/\IsPair h TI (.ref i1) (.ref i2)/\(∃u v,IsPair h TO u v)/\h.IsListIter i1 a i/\h.IsListIter i2 b i) where
 mem:=by simp
 obj:=λi h st c hc=>by
  obtain⟨hz,Y,⟨u,v,hO⟩,⟨o1,Po,_,d1⟩,o2,ab,_,d2⟩:=st;have O : c=z\/c=TI\/c=TO\/c=i1\/c=i2:=by simpa using hc
  rcases O with rfl|rfl|rfl|rfl|rfl
  ·exact⟨_,hz,λv z=>by cases z⟩
  ·exact⟨_,Y,λv z=>by cases z⟩
  ·exact⟨_,hO,λv z=>by cases z⟩
  ·exact⟨o1,Po,λv z=>by rw[d1]at z;cases z⟩
  ·exact⟨o2,ab,λv z=>by rw[d2]at z;cases z⟩
 keep:=λi h h' st k=>by
  obtain⟨hz,Y,⟨u,v,hO⟩,h1,h2⟩:=st;exact⟨k z (by simp) _ hz,k TI (by simp) _ Y,⟨u,v,k TO (by simp) _ hO⟩,h1.at λo e=>k i1 (by simp) o e,h2.at λo e=>k i2 (by simp) o e⟩
 item:=by
  intro X hP hw hK hc i pq s σ H E I hf st hg;subst hP hw hK;obtain⟨xs,ys,x,y,hq,Z,hx,hy⟩:=hg;obtain⟨its,rv,p,YH⟩:=I.list hq;obtain⟨its2,YI,p2,Z9⟩:=I.list Z;obtain⟨u,hu,ru⟩:=rv.get hx;obtain⟨u2,hu2,ru2⟩:=YI.get hy;obtain⟨hz,Y,⟨v1,v2,hO⟩,h1,h2⟩:=st;refine wpAny_pyNext_zip_item D hz Y hO h1 h2 p.isList p2.isList (x:=u) (y:=u2) (by simpa using hu) (by simpa using hu2) λh3 ag ar aw ax hT a3 hk=>?_
  refine⟨_,rfl,wpAny_letOwnedTupleGo_zip ag λh4 aT MM=>?_⟩
  have lt:∀{c o},s.heap.get? c=some o->s.heap.objs.size≠c:=λe=>abX (aax e)
  have Pp:h4.get? s.heap.objs.size=some { cls:=.type "tuple",data:=.seq #[u,u2]}:=(MM.2 _ (lt hz)).trans hT;have kk:∀c o,c∉[z,TO,i1,i2]->s.heap.get? c=some o->h4.get? c=some o:=λc o hc q=>by
   have c1:c≠z:=λe=>hc (by simp[e])
   exact(MM.2 c c1).trans (hk c o c1 (λe=>hc (by simp[e])) (λe=>hc (by simp[e])) (λe=>hc (by simp[e])) q)
  have U:∀c∈[z,TO,i1,i2],c∈[z,TI,TO,i1,i2]:=λc hc=>by
   have O : c=z\/c=TO\/c=i1\/c=i2:=by simpa using hc
   rcases O with rfl|rfl|rfl|rfl<;>simp
  refine⟨.ref s.heap.objs.size,upd H s.heap.objs.size (.tup [x,y]),I.yields (wr:=[z,TO,i1,i2]) (t':=s.toks) kk (λc hc=>hf c (U c hc)) (aam _) ?_,rfl,
   ⟨_,x,y,rfl,I.fresh,rfl,λzs hy=>by rw[I.rH hy hq];exact hx,λzs hz=>by rw[I.rH hz Z];exact hy⟩,⟨aT,(MM.2 _ D.TIz).trans (hk _ _ D.TIz D.TITO D.TIi1 D.TIi2 Y),⟨u,u2,(MM.2 _ D.TOz).trans ar⟩,?_,?_⟩,λc hc=>?_⟩
  ·exact⟨dl rfl,[u,u2],.cons ru (.cons ru2 .nil),⟨_,Pp,rfl,_,rfl⟩⟩
  ·exact aw.at λo q=>(MM.2 _ D.i1z).trans q
  ·exact ax.at λo q=>(MM.2 _ D.i2z).trans q
  ·rw[ah]
   ·exact(hf c hc).1
   ·have O : c=z\/c=TI\/c=TO\/c=i1\/c=i2:=by simpa using hc
    rcases O with rfl|rfl|rfl|rfl|rfl
    ·exact aa6 (lt hz)
    ·exact aa6 (lt Y)
    ·exact aa6 (lt hO)
    ·obtain⟨o,q,_⟩:=h1;exact aa6 (lt q)
    ·obtain⟨o,q,_⟩:=h2;exact aa6 (lt q)
 done:=by
  intro X hP hw hK hc i pq s σ H E I hf st hg;subst hP hw hK;obtain⟨xs,ys,hq,Z,hx⟩:=hg;obtain⟨its,rv,p,YH⟩:=I.list hq;obtain⟨its2,YI,p2,Z9⟩:=I.list Z;obtain⟨hz,Y,⟨v1,v2,hO⟩,h1,h2⟩:=st;have hl:=rv.length;have a4:=YI.length;have U:∀c∈[z,TO,i1,i2],c∈[z,TI,TO,i1,i2]:=λc hc=>by
   have O : c=z\/c=TO\/c=i1\/c=i2:=by simpa using hc
   rcases O with rfl|rfl|rfl|rfl<;>simp
  refine wpAny_pyNext_zip_end (I.ok.hd hc) D hz Y hO h1 h2 p.isList p2.isList (hx.imp (λq=>by simp;lia) λq=>by simp;lia) λh' kk=>⟨rfl,I.Qj (wr:=[z,TO,i1,i2]) (t':=s.toks) (λc o hc q=>?_) λc hc=>hf c (U c hc)⟩
  exact kk c o (λe=>hc (by simp[e])) (λe=>hc (by simp[e])) (λe=>hc (by simp[e])) (λe=>hc (by simp[e])) q
 self:=λ_ _ _ _ _ st h=>wpAny_pyIter_zip st.1 h
def JO{n a b:Nat}(la:a<n)(lb:b<n):ZipApart (n+4) (n+2) (n+3) n (n+1) a b:=by
 have k:∀{x y:Nat},x<y\/y<x->x≠y:=λh=>by lia
 constructor<;>exact k (by lia)
section
variable {X:Cx}{elts:List Expr}{n:Nat}{tp:Pos}
def WI(K:bJ)(ta:TA):TI:=λσ H R=>ta σ H λvs H1=>∃a,vs=[.ref a]/\(∃xs,aR K H1 a xs)/\R (Ve K a) H1
def aaa(K:bJ)(ta:TA):TI:=λσ H R=>ta σ H λvs H1=>∃a b,vs=[.ref a,.ref b]/\(∃xs,aR K H1 a xs)/\(∃ys,aR K H1 b ys)/\R (Z8 K a b) H1
def BH(K:bJ){a:Expr}{ta:TA}{p pos:Pos}(hg:Gl X "enumerate")(hm:X.mg "enumerate"=none)(ha:PA X [a] ta)(hs:starEach [a] X.env=[(false,eval a X.env)]:=by rfl)(hK:X.K=K:=by rfl):
 PI X (.Tuple elts n tp) (.Call (.Name "enumerate" p) [a] [] pos) (WI K ta):=by
 subst hK;intro pq s σ H R I h;refine Call_ (om I hg hm boot_enumerate (ab4 (dh (ha pos pq s σ H _ I h) λus s1 ⟨vs,H1,O,Z,q1⟩=>?_) hs rfl))
 obtain⟨a,e,⟨xs,hq⟩,q⟩:=q1;subst e;cases Z with
 | cons r rr =>
   cases rr;cases r;obtain⟨ab,rv,pl,hz⟩:=O.list hq;refine call_enumerate_list pl.isList λh' he hit ag hk=>?_
   have I2:Inv X pq σ H1 { s1 with heap:=h'}:=O.kept (t':=s1.toks) hk
   refine wpAny_pyIter_enum he ⟨_,[s1.heap.objs.size+1,s1.heap.objs.size],_,_,H1,rfl,I2,JN a _ _ (adw _),⟨⟨_,he⟩,hit⟩,λb hb=>?_,q⟩
   have U : b=s1.heap.objs.size+1\/b=s1.heap.objs.size:=by simpa using hb
   have Y:s1.heap.objs.size<=b:=by
    rcases U with rfl|rfl
    ·exact abO _
    ·exact aam _
   exact O.Fz Y (O.hok.fresh Y)
def MN(K:bJ){a b:Expr}{ta:TA}{p pos:Pos}(hg:Gl X "zip")(hm:X.mg "zip"=none)(ha:PA X [a,b] ta)(hs:starEach [a,b] X.env=[(false,eval a X.env),(false,eval b X.env)]:=by rfl)(hs2:starEach [b] X.env=[(false,eval b X.env)]:=by rfl)(hK:X.K=K:=by rfl):
 PI X (.Tuple elts n tp) (.Call (.Name "zip" p) [a,b] [] pos) (aaa K ta):=by
 subst hK;intro pq s σ H R I h;refine Call_ (om I hg hm boot_zip (ab4 (dh (ha pos pq s σ H _ I h) λus s1 ⟨vs,H1,O,r1,q1⟩=>?_) (by rw[hs,hs2]) (by rw[hs2];rfl)))
 obtain⟨a,b,e,⟨xs,hq⟩,⟨ys,Z⟩,q⟩:=q1;subst e;cases r1 with
 | cons r rr =>
   cases rr with
   | cons r' rr =>
     cases rr;cases r;cases r';obtain⟨ag,rv,pl,hz⟩:=O.list hq;obtain⟨its2,YI,YG,hz2⟩:=O.list Z;refine call_zip_2 pl.isList YG.isList λh' U hI hO h1 h2 ar hk=>?_
     have I2:Inv X pq σ H1 { s1 with heap:=h'}:=O.kept (t':=s1.toks) hk
     have la:a<s1.heap.objs.size:=by obtain⟨_,q,_⟩:=pl.isList;exact aax q
     have lb:b<s1.heap.objs.size:=by obtain⟨_,q,_⟩:=YG.isList;exact aax q
     refine wpAny_pyIter_zip U ⟨_,[s1.heap.objs.size+4,s1.heap.objs.size+2,s1.heap.objs.size+3,s1.heap.objs.size,s1.heap.objs.size+1],_,_,H1,rfl,I2,
      ML a b _ _ _ _ _ (JO la lb),⟨U,hI,⟨_,_,hO⟩,h1,h2⟩,λc hc=>?_,q⟩
     have ab : c=s1.heap.objs.size+4\/c=s1.heap.objs.size+2\/c=s1.heap.objs.size+3\/c=s1.heap.objs.size\/c=s1.heap.objs.size+1:=by simpa using hc
     have Y:s1.heap.objs.size<=c:=by
      rcases ab with rfl|rfl|rfl|rfl|rfl
      ·exact acG _ _
      ·exact acG _ _
      ·exact acG _ _
      ·exact aam _
      ·exact acG _ _
     exact O.Fz Y (O.hok.fresh Y)
end
section
variable {K:bJ}{a b:Addr}{xs ys:List V}{g:TG}{tt:TT}{te:TE}{n:Nat}{fr:St}{D:Addr}{Q:Hp->Prop}{H1:Hp}
def Dr{tb:TS}{D:Ends}{σ:St}{H:Hp}(Pv:Nat->St->Hp->Prop)(h0:Pv 0 σ H)(hl:∀i σ H,i<=xs.length->Pv i σ H->aR K H a xs)
 (hs:∀i x T σ H,xs[i]?=some x->Pv i σ H->H T=none->g (.ref T) σ (upd H T (.tup [.int (i:Int),x])) λσ2 H2=>tb { D with nx:=Pv (i+1),ct:=Pv (i+1),bk:=D.nx} σ2 H2) (hd:∀σ H,Pv xs.length σ H->D.nx σ H) :
 ∃W:Nat->Nat->St->Hp->Prop,(∃m,W 0 m σ H)/\∀i m σ H,W i m σ H->
   ((Ve K a).stop i H/\D.nx σ H)\/((Ve K a).go i H/\∃N:St->Hp->Prop,(∀σ' H',N σ' H'->∃m',m'<m/\W (i+1) m' σ' H')/\∀x H',(Ve K a).Ma i H x H'->g x σ H' λσ2 H2=>tb { D with nx:=N,ct:=N,bk:=D.nx} σ2 H2):=by
 refine⟨λi m σ H=>m=xs.length-i/\i<=xs.length/\Pv i σ H,⟨xs.length,by simp,aa3 _,h0⟩,?_⟩
 rintro i m σ H ⟨rfl,hi,p⟩;have q:=hl i σ H hi p
 by_cases I:i<xs.length
 ·refine .inr ⟨⟨xs,xs[i],q,by simp[I]⟩,Pv (i+1),λσ' H' O=>⟨xs.length-(i+1),by lia,rfl,I,O⟩,λv H' y=>?_⟩
  obtain⟨T,x,rfl,U,rfl,y⟩:=y;exact hs i x T σ _ (y xs q) p U
 ·have e:i=xs.length:=by lia
  subst e;exact .inl ⟨⟨xs,q,aam _⟩,hd σ H p⟩
def Dt(hxy:xs.length=ys.length)(Pv:Nat->List V->Hp->Prop)(h0:Pv 0 [] H1)(hl:∀i acc H,i<=xs.length->Pv i acc H->aR K H a xs/\aR K H b ys/\H D=some (.lst acc)/\acc.length<=i)(hz:xs.length<=sizeLine)
 (hs:∀i x y T acc H,xs[i]?=some x->ys[i]?=some y->Pv i acc H->H T=none->g (.ref T) (List.replicate n none++fr) (upd H T (.tup [x,y])) λσ2 H2=>σ2.drop n=fr/\tt σ2 H2 λb H3 =>
  if b=true then te σ2 H3 λv H4=>H4 D=some (.lst acc)/\Pv (i+1) (acc++[v]) (upd H4 D (.lst (acc++[v]))) else Pv (i+1) acc H3)
 (hd:∀acc H,Pv xs.length acc H->Q H):jt (Z8 K a b) g tt te n fr D Q H1:=by
 refine⟨λi m acc H=>m=xs.length-i/\i<=xs.length/\Pv i acc H,⟨xs.length,by simp,aa3 _,h0⟩,?_⟩
 rintro i m acc H ⟨rfl,hi,p⟩;obtain⟨q,O,Z,ha⟩:=hl i acc H hi p;refine⟨Z,?_⟩
 by_cases I:i<xs.length
 ·have U:i<ys.length:=by lia
  refine .inr ⟨⟨xs,ys,xs[i],ys[i],q,O,by simp[I],by simp[U]⟩,by lia,Pv (i+1),λY H' p'=>⟨xs.length-(i+1),by lia,rfl,I,p'⟩,λv H' y=>?_⟩
  obtain⟨T,x,z,rfl,hT,rfl,y1,y2⟩:=y;exact hs i x z T acc _ (y1 xs q) (y2 ys O) p hT
 ·have e:i=xs.length:=by lia
  subst e;exact .inl ⟨⟨xs,ys,q,O,.inl (aam _)⟩,hd acc H p⟩
end
section
variable {X:Cx}
def Du:ic X (.type "range") (λxs H Q=>∃j:Int,xs=[.int j]/\∀p,H p=none->Q (.ref p) (upd H p (.Jw 0 j))):=by
 intro pq s σ H xs us Q I r h;obtain⟨j,rfl,q⟩:=h;obtain⟨u,rfl,t,rfl⟩:=vals1 r;refine call_range_1 ⟨.ref s.heap.objs.size,_,I.laid (t':=s.toks+1+1) (λb o e=>aao _ e) (aam _) ?_,rfl,q _ I.fresh⟩
 exact⟨_,_,_,aaN _ rfl⟩
def zH(n:Nat):List V:=(List.range n).map λi=>V.int ((i:Nat):Int)
def RN(hc:X.calm=true):ic X (.type "list") (λxs H Q=>∃p,∃n:Nat,xs=[.ref p]/\H p=some (.Jw 0 (n:Int))/\n<=900/\∀l,H l=none->Q (.ref l) (upd H l (.lst (zH n)))):=by
 intro pq s σ H xs us Q I r h;obtain⟨p,n,rfl,hp,hn,q⟩:=h;obtain⟨u,rfl,rx⟩:=vals1 r;cases rx;obtain⟨t,u,v,e⟩:=(show bK X.prog X.w H s.heap p (.Jw 0 (n:Int)) from I.hok p _ hp)
 have U:Builtin.Range.rangeSize 0 (n:Int) 1=(n:Int):=by rw[rangeSize_one];split<;>lia
 refine call_list_range (I.ok.hd hc) e (small_one (by lia) (by lia) (by lia) (by lia)) U (aa0 hn (by decide)) λh' tk acc c kp e' O=>?_
 refine⟨.ref s.heap.objs.size,_,I.laid (t':=tk) kp (aam _) ?_,rfl,q _ I.fresh⟩;have hl:acc.toList.length=n:=by rw[acq];exact O.1
 have hz:(zH n).length<=sizeLine:=by
  unfold zH;rw[aac,aaK];exact abq (cz (by lia))
 refine⟨hz,acc.toList,c,?_,by simpa using e'⟩
 have key:∀(ys:List Value) (k:Nat),(∀j v,ys[j]?=some v->∃t,v=Value.int (((k+j:Nat)):Int) t)->Vals ((List.range' k ys.length).map λi=>V.int ((i:Nat):Int)) ys:=by
  intro ys
  induction ys with
  | nil=>intro k _;exact .nil
  | cons y r ih =>
    intro k hy;obtain⟨t,ht⟩:=hy 0 y rfl;refine .cons ⟨t,by simpa using ht⟩ (ih (k+1) λj v Y=>?_)
    obtain⟨t',Z⟩:=hy (j+1) v (by simpa using Y)
    exact⟨t',by rw[Z];congr 2;lia⟩
 have z:=key acc.toList 0 λj v Y=>by
  obtain⟨t,ht⟩:=O.2 j v (by simpa using Y)
  exact⟨t,by rw[ht];congr 1;lia⟩
 rw[hl]at z;unfold zH;rw[List.range_eq_range'];exact z
def sumK(K:bJ)(hc:X.calm=true)(hK:X.K=K:=by rfl):ic X (.builtin "sum") (λxs H Q=>∃(p:Addr) (ns:List Int),xs=[.ref p]/\aR K H p (ns.map V.int)/\Q (.int ns.sum) H):=by
 subst hK;intro pq s σ H xs us Q I r h;obtain⟨p,ns,rfl,Z,q⟩:=h;obtain⟨u,rfl,rx⟩:=vals1 r;cases rx;obtain⟨O,rv,pl,hz⟩:=I.list Z;have hi:∀{ns:List Int} {O:List Value},Vals (ns.map V.int) O->∃xs:Array (Int×Tok),O.toArray=intItems xs/\xs.toList.map (·.1)=ns:=by
  intro ns
  induction ns with
  | nil=>intro O r;cases r;exact⟨#[],by simp[intItems],rfl⟩
  | cons a l ih =>
    intro O r;cases r with
    | cons r1 r2 =>
      obtain⟨t,rfl⟩:=r1;obtain⟨xs,h1,h2⟩:=ih r2;refine⟨#[(a,t)]++xs,?_,by simp[h2]⟩
      have Y:=aa4 Array.toList h1;simp only[intItems,Array.toList_map,List.toList_toArray]at Y;simp[intItems,Y,Array.map_append]
 obtain⟨U,e1,e2⟩:=hi rv;have hl:s.heap.IsList p (intItems U):=e1▸pl.isList;refine sum_intListG (I.ok.hd hc) hl λh' tk t' hk=>?_
 have e3:preSum (numAt U) U.size=ns.sum:=by rw[preSum_eq,acR (by simp),e2]
 rw[e3];exact⟨.int ns.sum,H,I.kept hk,⟨t',rfl⟩,q⟩
end
def Dv:∀{us:List Value} {ns:List Int},IntsAre us ns->Vals (ns.map V.int) us
 | _,_,.nil=>.nil
 | _,_,.cons n t r=>.cons ⟨t,rfl⟩ (Dv r)
end L2
namespace Ring
open PySem
abbrev bZ:=Int×Int×Int
def bit(S:Int)(k:Nat):Bool:=decide (S/2^k%2=1)
def bz(S:Int):List Nat:=(List.range (Builtin.Int.intBits S)).filter (bit S)
def bump(e:List Int)(i:Int):List Int:=e.set i.toNat (e.getD i.toNat 0+1)
def step(ts:List bZ)(e:List Int)(k:Nat):List Int:=match ts[k]? with
 | some t=>bump (bump e t.1) t.2.1
 | none=>e
def lS(p:Nat)(ts:List bZ)(S:Int):List Int:=(bz S).foldl (step ts) (List.replicate p 0)
def xK(p:Nat)(ts:List bZ)(S:Int):List Nat:=(List.range p).filter λi=>decide ((lS p ts S).getD i 0%2=1)
def Pq(ts:List bZ)(k i:Nat):Int:=match ts[k]? with
 | some t=>(if t.1=(i:Int) then 1 else 0)+(if t.2.1=(i:Int) then 1 else 0)
 | none=>0
def mz(e:List Int)(i:Int):(bump e i).length=e.length:=by unfold bump;rw[List.length_set]
def MO(ts:List bZ)(e:List Int)(k:Nat):(step ts e k).length=e.length:=by
 unfold step
 split
 ·rw[mz,mz]
 ·rfl
def Dw(e:List Int)(j:Int)(i:Nat)(h0:0<=j)(h1:j<e.length):(bump e j).getD i 0=e.getD i 0+if j=(i:Int) then 1 else 0:=by
 unfold bump;rw[aad,aad,aad]
 by_cases h:j=(i:Int)
 ·have hi:j.toNat=i:=by lia
  rw[aai h,hi,ado (by lia)]
  rfl
 ·have hi:j.toNat≠i:=by lia
  rw[aaf h,adI hi]
  lia
structure II(p:Nat)(ts:List bZ):Prop where
 ends:∀t∈ts,0<=t.1/\t.1<(p:Int)/\0<=t.2.1/\t.2.1<(p:Int)
def step_get{p:Nat}{ts:List bZ}(W:II p ts)(e:List Int)(k i:Nat)(he:e.length=p):(step ts e k).getD i 0=e.getD i 0+Pq ts k i:=by
 unfold step Pq;cases h:ts[k]? with
 | none=>simp
 | some t =>
   obtain⟨a0,a1,b0,b1⟩:=W.ends t (jV h);dsimp only;rw[Dw _ _ _ b0 (by rw[mz,he];exact b1),Dw _ _ _ a0 (by rw[he];exact a1)]
   lia
def uf(ts:List bZ)(ks:List Nat)(i:Nat):Int:=(ks.map λk=>Pq ts k i).sum
def Dy{p:Nat}{ts:List bZ}(W:II p ts)(i:Nat):∀(ks:List Nat) (e:List Int),e.length=p->(ks.foldl (step ts) e).getD i 0=e.getD i 0+uf ts ks i
 | [],e,_=>by simp[uf]
 | k::r,e,he=>by
   rw[acA,Dy W i r _ (by rw[MO,he]),step_get W e k i he]
   unfold uf;rw[aaR,acn]
   lia
def MP{p:Nat}{ts:List bZ}(W:II p ts)(S:Int)(i:Nat):(lS p ts S).getD i 0=uf ts (bz S) i:=by
 unfold lS;rw[Dy W i _ _ (by simp)]
 have e:(List.replicate p (0:Int)).getD i 0=0:=by
  rw[aad,acJ]
  split<;>rfl
 rw[e]
 lia
def jd(m k:Nat):bit (m:Int) k=m.testBit k:=by
 unfold bit;rw[Nat.testBit_eq_decide_div_mod_eq];have e:((m:Int)/2^k%2=1)↔(m/2^k%2=1):=by
  have h2:((2:Int)^k)=((2^k:Nat):Int):=by simp
  rw[h2,<-Int.natCast_ediv]
  lia
 simp only[e]
def xM(m:Nat):Builtin.Int.intBits (m:Int)=if m=0 then 0 else m.log2+1:=by
 unfold Builtin.Int.intBits
 by_cases h:m=0
 ·simp[h]
 ·simp[h]
def bits_le{m n:Nat}(h:m<2^n):Builtin.Int.intBits (m:Int)<=n:=by
 rw[xM]
 split
 ·exact aa3 _
 ·rename_i h0
  exact(Nat.log2_lt h0).mpr h
def Dz{m k:Nat}(h:Builtin.Int.intBits (m:Int)<=k):bit (m:Int) k=false:=by
 rw[jd];rw[xM]at h
 by_cases h0:m=0
 ·simp[h0]
 ·rw[aaf h0]at h;exact aby (aaL Nat.lt_log2_self (ack (by decide) h))
def rR(f:Nat->Bool)(a:Nat):∀d,(∀k,a<=k->f k=false)->(List.range (a+d)).filter f=(List.range a).filter f
 | 0,_=>rfl
 | d+1,h=>by
   rw[<-Nat.add_assoc,abE,abY,rR f a d h];have e:[a+d].filter f=[]:=by rw[aa2,aaf (by rw[h _ (by lia)];simp)];rfl
   rw[e,ab5]
def ju{m n:Nat}(h:m<2^n):bz (m:Int)=(List.range n).filter λk=>m.testBit k:=by
 unfold bz;have hb:=bits_le h;obtain⟨d,hd⟩:=adl hb;have e:(λk=>m.testBit k)=bit (m:Int):=funext λk=>(jd m k).symm
 rw[e]
 conv=>rhs;rw[hd]
 exact(rR _ _ d λk hk=>Dz hk).symm
def wY{m n:Nat}(h:m<2^n){k:Nat}(hk:k∈bz (m:Int)):k<n:=by
 rw[ju h]at hk;exact aaI.mp (aaX.mp hk).1
def sum_filter(ts:List bZ)(i:Nat)(f:Nat->Bool):∀ks:List Nat,uf ts (ks.filter f) i=(ks.map λk=>if f k=true then Pq ts k i else 0).sum
 | []=>rfl
 | k::r=>by
   have I:=sum_filter ts i f r;rw[aaR,acn,<-I];cases h:f k with
   | true =>
     rw[aa2,aai h];unfold uf;rw[aaR,acn];simp
   | false =>
     rw[aa2,aaf (by rw[h];simp)]
     simp
def MQ{a b x y:Nat}(q:x/2+2*(y/2)=a/2+b/2)(h:x%2+2*(y%2)=a%2+b%2):x+2*y=a+b:=by lia
def mod_one{u v:Nat}(hu:u=0\/u=1)(hv:v=0\/v=1):(u^^^v)+2*(u&&&v)=u+v:=by
 rcases hu with rfl|rfl<;>rcases hv with rfl|rfl<;>rfl
def Qk:∀a b:Nat,(a^^^b)+2*(a&&&b)=a+b:=by
 intro a
 induction a using Nat.strongRecOn with
 | ind a ih =>
   intro b
   by_cases h:a=0
   ·subst h;simp
   ·have q:=ih (a/2) (by lia) (b/2)
    rw[<-Nat.xor_div_two,<-Nat.and_div_two]at q;refine MQ q ?_;have I:(a^^^b)%2=a%2^^^b%2:=Nat.xor_mod_two_pow (n:=1);have O:(a&&&b)%2=a%2&&&b%2:=Nat.and_mod_two_pow (n:=1);rw[I,O];exact mod_one (acB a) (acB b)
def xor_int(a b:Nat):Builtin.bitXor (a:Int) (b:Int)=((a^^^b:Nat):Int):=by
 have h:(a:Int)+b-2*((a&&&b:Nat):Int)=((a^^^b:Nat):Int):=by
  have q:=Qk a b
  lia
 have e:=PyProof.Rows.bitXor_and (a:Int) (b:Int);rw[e,adq (by lia) (by lia)]
 simpa using h
open PySem L2
def mC(t:bZ):List V:=[.int t.1,.int t.2.1,.int t.2.2]
def TupAt(H:Hp)(x:V)(t:bZ):Prop:=∃b,x = .ref b/\H b=some (.tup (mC t))
structure bE(H:Hp)(w:Addr)(p:Nat)(ts:List bZ):Prop where
 ex:∃b xs,H w=some (.tup [.int (p:Int),.ref b])/\H b=some (.tup xs)/\Paired (TupAt H) xs ts
structure Pu(p:Nat)(ts:List bZ):Prop where
 inw:II p ts
 len:ts.length<=24
 pts:p<=10
def TupAt.tups{H H' : Hp}(s:bG H H'){x:V}{t:bZ}(h:TupAt H x t):TupAt H' x t:=by
 obtain⟨b,e,h⟩:=h;exact⟨b,e,s _ _ h⟩
def bE.tups{H H' : Hp}{w:Addr}{p:Nat}{ts:List bZ}(s:bG H H')(h:bE H w p ts):bE H' w p ts:=by
 obtain⟨b,xs,h1,h2,I⟩:=h.ex;exact⟨b,xs,s _ _ h1,s _ _ h2,Paired.imp' (λ_ _ z=>z.tups s) I⟩
def bE.same{H H' : Hp}{w:Addr}{p:Nat}{ts:List bZ}(s:aq H H')(h:bE H w p ts):bE H' w p ts:=h.tups s.tups
def aD(l:List Nat):List V:=l.map λk=>V.int ((k:Nat):Int)
def gM(l:List Nat)(k:Nat):aD (l++[k])=aD l++[.int (k:Int)]:=by unfold aD;rw[aaJ];rfl
def aG(l:List Nat):(aD l).length=l.length:=by unfold aD;rw[aac]
def iK{l:List Nat}{i:Nat}{x:V}(h:(aD l)[i]?=some x):∃k,l[i]?=some k/\x = .int (k:Int):=by
 unfold aD at h;rw[aaw]at h;obtain⟨k,e,q⟩:=vY.mp h;exact⟨k,e,q.symm⟩
def cJ(f:Nat->Bool)(i:Nat):(List.range (i+1)).filter f=(List.range i).filter f++(if f i=true then[i] else[]):=by
 rw[abE,abY]
 congr 1
 cases h:f i with
 | true=>rw[aa2,aai h,aai rfl];rfl
 | false=>rw[aa2,aaf (by rw[h];simp),aaf (by simp)];rfl
def qu(f:Nat->Bool)(H:Hp)(D:Addr)(i:Nat)(acc:List V)(H2:Hp):Prop:=aq H H2/\H2 D=some (.lst acc)/\acc=aD ((List.range i).filter f)
section
variable {f:Nat->Bool}{H H2 H3:Hp}{D:Addr}{i:Nat}{acc:List V}
def qu.start(hD:H D=none):qu f H D 0 [] (upd H D (.lst [])):=⟨aq.new hD,ae,rfl⟩
def qu.len(p:qu f H D i acc H2):H2 D=some (.lst acc)/\acc.length<=i:=by
 refine⟨p.2.1,?_⟩;rw[p.2.2,aG];exact aa0 (abc _ _) (by rw[aaK];exact aam _)
def qu.yes(p:qu f H D i acc H2)(hD:H D=none)(s:aq H2 H3)(hf:f i=true):H3 D=some (.lst acc)/\qu f H D (i+1) (acc++[.int (i:Int)]) (upd H3 D (.lst (acc++[.int (i:Int)]))):=by
 refine⟨s _ _ p.2.1,(p.1.trans s).put hD,ae,?_⟩;rw[cJ,aai hf,gM,<-p.2.2]
def qu.no(p:qu f H D i acc H2)(s:aq H2 H3)(hf:f i=false):qu f H D (i+1) acc H3:=by
 refine⟨p.1.trans s,s _ _ p.2.1,?_⟩;rw[cJ,aaf (by rw[hf];simp),ab5]
 exact p.2.2
end
def bj(ts:List bZ)(k:Nat):bZ:=ts.getD k (0,0,0)
def stepT(e:List Int)(t:bZ):List Int:=bump (bump e t.1) t.2.1
def Az{ts:List bZ}:∀(ks:List Nat) (e:List Int),(∀k∈ks,k<ts.length)->(ks.map (bj ts)).foldl stepT e=ks.foldl (step ts) e
 | [],_,_=>rfl
 | k::r,e,h=>by
   rw[aaR,acA,acA,Az r _ λj hj=>h j (nU _ hj)]
   have hk:=h k aaF;have I:ts[k]?=some (bj ts k):=by
    unfold bj;rw[aad];simp[hk]
   have O:step ts e k=stepT e (bj ts k):=by
    unfold step stepT;rw[I]
   rw[O]
def AA{p:Nat}{ts:List bZ}{m:Nat}(h:m<2^ts.length):lS p ts (m:Int)=((bz (m:Int)).map (bj ts)).foldl stepT (List.replicate p 0):=by
 unfold lS;rw[Az _ _ λk hk=>wY h hk]
def JP(e:List Int)(t:bZ):(stepT e t).length=e.length:=by unfold stepT;rw[mz,mz]
def ug:∀(l:List bZ) (e:List Int),(l.foldl stepT e).length=e.length
 | [],_=>rfl
 | t::r,e=>by rw[acA,ug r,JP]
def oE(l:List Int):List V:=l.map V.int
def uh{l:List Int}{i:Nat}(h:i<l.length):(oE l)[i]?=some (.int (l.getD i 0)):=by
 unfold oE;rw[aaw,aad];simp[h]
def xN(l:List Int)(i:Nat):(oE l).set i (.int (l.getD i 0+1))=oE (bump l (i:Int)):=by
 unfold oE bump;rw[aaE,List.map_set]
def MR(p:Nat):(List.replicate p [V.int 0]).flatten=oE (List.replicate p 0):=by
 induction p with
 | zero=>rfl
 | succ p I=>rw[ab6,acT,I,ab6];rfl
def BI{n j:Nat}(h:j<n):Qa n (j:Int)=some j:=by
 unfold Qa;rw[aai (by lia),aai (by lia),aaE]
def qR(k:Nat):PyData:=.int (k:Int)
def mD{K:bJ}{H:Hp}:∀l:List Nat,DatVs K H (aD l) (l.map qR)
 | []=>.nil
 | _::r=>.cons (.int _) (mD r)
def DA:∀l:List Nat,PyData.canLayAll0 (l.map qR)=true
 | []=>rfl
 | _::r=>by
   have I:=DA r;simp only[aaR,PyData.canLayAll0,I,acM];rfl
def AB:∀l:List Nat,PyData.depthAll (l.map qR)=0
 | []=>rfl
 | _::r=>by
   have I:=AB r;show max (PyData.depth (PyData.int _)) (PyData.depthAll (r.map _))=0;rw[I];rfl
def jv(l:List Nat):SeqAt.shaped (.list (l.map qR))=true:=by
 unfold SeqAt.shaped;have e:(PyData.list (l.map qR)).canLay0=PyData.canLayAll0 (l.map qR):=by simp[PyData.canLay0]
 rw[e,DA,abx];refine dm ?_;have I:PyData.depth (PyData.list (l.map qR))=PyData.depthAll (l.map qR)+1:=by simp[PyData.depth]
 rw[I,AB]
 decide
def Ql(l:List Nat):PyData.eqv (.list (l.map qR)) (.list [])=decide (l=[]):=by
 cases l with
 | nil=>rfl
 | cons a r=>rfl
def TM(S:Int)(k:Nat):decide (V.int (Builtin.bitAnd (S/2^k) 1)=V.int 1)=bit S k:=by
 unfold bit;rw[PyProof.Rows.bitAnd_m1];rw[abw];simp
def Qm(x:Int):decide (V.int x=V.int 1)=decide (x=1):=by
 rw[abw];simp
structure ik(p:Int)(t:bZ):Prop where
 a0:0<=t.1
 a1:t.1<p
 b0:0<=t.2.1
 b1:t.2.1<p
 ne:t.1≠t.2.1
 l0:1<=t.2.2
 l1:t.2.2<=1000000000000000000000000000000
structure aA(p:Nat)(ts:List bZ):Prop where
 p1:1<=p
 p2:p<=10
 len:ts.length<=24
 rS:∀t∈ts,ik (p:Int) t
def aA.BL{p:Nat}{ts:List bZ}(g:aA p ts):Pu p ts:=⟨⟨λt ht=>let z:=g.rS t ht;⟨z.a0,z.a1,z.b0,z.b1⟩⟩,g.len,g.p2⟩
def dW{n:Nat}(h:n<=24):n<=sizeLine:=abq (cz (by lia))
def m8{n:Nat}(h:n<=900):n<sizeLine:=cz (by lia)
def Qn{ns:List Int}{k:Nat}(h:k<ns.length):(ns.map V.int)[k]?=some (.int (ns.getD k 0)):=by
 rw[aaw,aad];simp[h]
def qB(x m:Int)(h:0<m):0<=x%m/\x%m<m:=⟨Int.emod_nonneg _ (by lia),Int.emod_lt_of_pos _ h⟩
end Ring
namespace RM
def bU(f:Nat->Bool):Nat->Bool
 | 0=>false
 | n+1=>bU f n^^f n
def bV{f g:Nat->Bool}:∀{n:Nat},(∀k,k<n->f k=g k)->bU f n=bU g n
 | 0,_=>rfl
 | n+1,h=>by
   unfold bU;rw[bV λk hk=>h k (by lia),h n (by lia)]
def kK(f g:Nat->Bool):∀n,bU (λk=>f k^^g k) n=(bU f n^^bU g n)
 | 0=>rfl
 | n+1=>by
   unfold bU;rw[kK f g n];cases bU f n<;>cases bU g n<;>cases f n<;>cases g n<;>rfl
def qS:∀n,bU (λ_=>false) n=false
 | 0=>rfl
 | n+1=>by unfold bU;rw[qS n];rfl
def rT(c:Bool)(f:Nat->Bool):∀n,bU (λk=>c&&f k) n=(c&&bU f n)
 | 0=>by cases c<;>rfl
 | n+1=>by
   unfold bU;rw[rT c f n];cases c<;>simp
def AD(f:Nat->Nat->Bool)(n:Nat):∀m,bU (λx=>bU (λk=>f x k) n) m=bU (λk=>bU (λx=>f x k) m) n
 | 0=>by
   show false=_;rw[<-qS n];rfl
 | m+1=>by
   show(bU (λx=>bU (λk=>f x k) n) m^^bU (λk=>f m k) n)=_
   rw[AD f n m,<-kK];rfl
def kq{f:Nat->Bool}{n:Nat}(h:∀k,k<n->f k=false):bU f n=false:=by
 rw[bV (g:=λ_=>false) h,qS]
def rV{f:Nat->Bool}{a:Nat}:∀{n:Nat},a<n->(∀k,k<n->k≠a->f k=false)->bU f n=f a
 | 0,h,_=>absurd h (abI _)
 | n+1,h,z=>by
   unfold bU
   by_cases e:a=n
   ·subst e;rw[kq λk hk=>z k (by lia) (by lia)]
    simp
   ·rw[rV (a:=a) (by lia) λk hk hn=>z k (by lia) hn,z n (by lia) (λq=>e q.symm)]
    simp
def kL(C:Nat->Bool){a m:Nat}(h:a<m):bU (λx=>C x&&decide (a=x)) m=C a:=by
 rw[rV h λk _ hk=>by simp[aa6 hk]]
 simp
structure Net where
 p:Nat
 n:Nat
 a:Nat->Nat
 b:Nat->Nat
 al:∀k,k<n->a k<p
 bl:∀k,k<n->b k<p
 ne:∀k,k<n->a k≠b k
variable (N:Net)
def Net.inc(k x:Nat):Bool:=decide (N.a k=x)^^decide (N.b k=x)
def Net.bd(m x:Nat):Bool:=bU (λk=>m.testBit k&&N.inc k x) N.n
def Net.fJ(m:Nat):Prop:=∀x,x<N.p->N.bd m x=false
variable {N}
def iL(m q x:Nat):N.bd (m^^^q) x=(N.bd m x^^N.bd q x):=by
 unfold Net.bd;rw[<-kK];refine bV λk _=>?_
 rw[aaB];cases m.testBit k<;>cases q.testBit k<;>cases N.inc k x<;>rfl
def pP(x:Nat):N.bd 0 x=false:=by
 unfold Net.bd;exact kq λk _=>by simp
def oF{k:Nat}(h:k<N.n)(x:Nat):N.bd (2^k) x=N.inc k x:=by
 unfold Net.bd;rw[rV h λj _ hj=>by simp[aaQ,aa6 hj]]
 simp[aaQ]
def fJ.xor{m q:Nat}(h:N.fJ m)(h' : N.fJ q):N.fJ (m^^^q):=λx hx=>by rw[iL,h x hx,h' x hx];rfl
def fJ.zero:N.fJ 0:=λx _=>pP x
def MS{m:Nat}(C:Nat->Bool)(h:∀k,k<N.n->m.testBit k=true->C (N.a k)=C (N.b k)):bU (λx=>C x&&N.bd m x) N.p=false:=by
 have e:bU (λx=>C x&&N.bd m x) N.p=bU (λx=>bU (λk=>C x&&(m.testBit k&&N.inc k x)) N.n) N.p :=
  bV λx _=>(rT (C x) _ N.n).symm
 rw[e,AD];refine kq λk hk=>?_
 have I:bU (λx=>C x&&(m.testBit k&&N.inc k x)) N.p=(m.testBit k&&(C (N.a k)^^C (N.b k))):=by
  rw[<-kL C (N.al k hk),<-kL C (N.bl k hk),<-kK,<-rT];refine bV λx _=>?_
  unfold Net.inc;cases C x<;>cases m.testBit k<;>cases decide (N.a k=x)<;>cases decide (N.b k=x)<;>rfl
 rw[I];cases hb:m.testBit k with
 | false=>rfl
 | true=>rw[h k hk hb];simp
def join(L:Nat->Nat)(u v:Nat):Nat->Nat:=λx=>if L x=max (L u) (L v) then min (L u) (L v) else L x
def join_eq{L:Nat->Nat}{u v x y:Nat}(h:L x=L y):join L u v x=join L u v y:=by unfold join;rw[h]
def JQ(L:Nat->Nat)(u v:Nat):join L u v u=join L u v v:=by
 unfold join
 split<;>split<;>lia
def AE{L:Nat->Nat}{u v:Nat}(h:L u=L v):join L u v=L:=by
 funext x
 unfold join;rw[h]
 split<;>lia
def Ga{L:Nat->Nat}{u v x y:Nat}(h:join L u v x=join L u v y):L x=L y\/(L x=L u/\L y=L v)\/(L x=L v/\L y=L u):=by
 unfold join at h;have Y:(max (L u) (L v)=L u/\min (L u) (L v)=L v)\/(max (L u) (L v)=L v/\min (L u) (L v)=L u):=by
  rcases ac9 (L u) (L v) with q|q
  ·exact .inr ⟨adx q,acO q⟩
  ·exact .inl ⟨adK q,ady q⟩
 rcases Y with⟨O,U⟩|⟨O,U⟩
 ·rw[O,U]at h
  split at h
  ·rename_i hx
   split at h
   ·rename_i I
    exact .inl (hx.trans I.symm)
   ·exact .inr (.inl ⟨hx,h.symm⟩)
  ·split at h
   ·rename_i I
    exact .inr (.inr ⟨h,I⟩)
   ·exact .inl h
 ·rw[O,U]at h
  split at h
  ·rename_i hx
   split at h
   ·rename_i I
    exact .inl (hx.trans I.symm)
   ·exact .inr (.inr ⟨hx,h.symm⟩)
  ·split at h
   ·rename_i I
    exact .inr (.inl ⟨h,I⟩)
   ·exact .inl h
def join_le{L:Nat->Nat}{u v x:Nat}(h:L x<=x):join L u v x<=x:=by
 unfold join
 split<;>lia
def JR{L:Nat->Nat}{u v:Nat}(h:∀x,L (L x)=L x)(x:Nat):join L u v (join L u v x)=join L u v x:=by
 have O:=h u;have U:=h v;have hx:=h x;have I:L (min (L u) (L v))=min (L u) (L v):=by
  rcases ac9 (L u) (L v) with q|q
  ·rw[acO q];exact O
  ·rw[ady q];exact U
 unfold join
 split
 ·rw[I]
  split<;>lia
 ·rw[hx]
  split<;>lia
def Net.aZ(N:Net)(S:Nat->Bool):Nat->Nat->Nat
 | 0=>λx=>x
 | k+1=>if S k=true then join (Net.aZ N S k) (N.a k) (N.b k) else Net.aZ N S k
variable {S:Nat->Bool}
def BN:∀(k x:Nat),N.aZ S k x<=x
 | 0,_=>aam _
 | k+1,x=>by
   unfold Net.aZ
   split
   ·exact join_le (BN k x)
   ·exact BN k x
def fO:∀(k x:Nat),N.aZ S k (N.aZ S k x)=N.aZ S k x
 | 0,_=>rfl
 | k+1,x=>by
   by_cases hs:S k=true
   ·have e:N.aZ S (k+1)=join (N.aZ S k) (N.a k) (N.b k):=by
     conv=>lhs;unfold Net.aZ
     rw[aai hs]
    rw[e];exact JR (fO k) x
   ·have e:N.aZ S (k+1)=N.aZ S k:=by
     conv=>lhs;unfold Net.aZ
     rw[aaf hs]
    rw[e];exact fO k x
def AF{x y k:Nat}(h:N.aZ S k x=N.aZ S k y):∀d,N.aZ S (k+d) x=N.aZ S (k+d) y
 | 0=>h
 | d+1=>by
   have I:=AF h d;show N.aZ S (k+d+1) x=N.aZ S (k+d+1) y;unfold Net.aZ
   split
   ·exact join_eq I
   ·exact I
def mE{j k:Nat}(h:j<k)(hs:S j=true):N.aZ S k (N.a j)=N.aZ S k (N.b j):=by
 obtain⟨d,rfl⟩:=adl (Nat.succ_le_of_lt h);refine AF ?_ d;show N.aZ S (j+1) (N.a j)=N.aZ S (j+1) (N.b j);unfold Net.aZ;rw[aai hs];exact JQ _ _ _
inductive Net.nZ(N:Net)(S:Nat->Bool)(k u:Nat):Nat->Prop
 | refl:Net.nZ N S k u u
 | fwd {j:Nat} (h:Net.nZ N S k u (N.a j)) (hj:j<k) (hs:S j=true):Net.nZ N S k u (N.b j)
 | bwd {j:Nat} (h:Net.nZ N S k u (N.b j)) (hj:j<k) (hs:S j=true):Net.nZ N S k u (N.a j)
def Net.nZ.trans{k u v w:Nat}(h:N.nZ S k u v)(h' : N.nZ S k v w):N.nZ S k u w:=by
 induction h' with
 | refl=>exact h
 | fwd _ hj hs ih=>exact .fwd ih hj hs
 | bwd _ hj hs ih=>exact .bwd ih hj hs
def Net.nZ.mono{k l u v:Nat}(h:N.nZ S k u v)(xG:k<=l):N.nZ S l u v:=by
 induction h with
 | refl=>exact .refl
 | fwd _ hj hs ih=>exact .fwd ih (by lia) hs
 | bwd _ hj hs ih=>exact .bwd ih (by lia) hs
def dw:∀(k u v:Nat),N.aZ S k u=N.aZ S k v->N.nZ S k u v
 | 0,u,v,h=>by
   have e:u=v:=h;subst e;exact .refl
 | k+1,u,v,h=>by
   unfold Net.aZ at h
   split at h
   ·rename_i hs
    rcases Ga h with q|⟨I,O⟩|⟨I,O⟩
    ·exact(dw k u v q).mono (by lia)
    ·have U:=(dw k u _ I).mono (abO k);have Y:=(dw k _ v O.symm).mono (abO k);exact Net.nZ.trans (.fwd U (by lia) hs) Y
    ·have U:=(dw k u _ I).mono (abO k);have Y:=(dw k _ v O.symm).mono (abO k);exact Net.nZ.trans (.bwd U (by lia) hs) Y
   ·exact(dw k u v h).mono (by lia)
def Net.gw(N:Net)(k:Nat):Nat->Nat:=N.aZ (λ_=>true) k
def Net.oG(N:Net)(k:Nat):Bool:=!decide (N.gw k (N.a k)=N.gw k (N.b k))
def DB(k:Nat):N.gw (k+1)=if N.oG k=true then join (N.gw k) (N.a k) (N.b k) else N.gw k:=by
 show N.aZ (λ_=>true) (k+1)=_
 unfold Net.aZ;rw[aai rfl];unfold Net.oG
 by_cases h:N.gw k (N.a k)=N.gw k (N.b k)
 ·rw[aaf (by simp[h])]
  exact AE h
 ·rw[aai (by simp[h])]
  rfl
def iq{m:Nat}(hf:∀k,m.testBit k=true->k<N.n/\N.oG k=true)(he:N.fJ m):m=0:=by
 by_cases h0:m=0
 ·exact h0
 exfalso
 have Y:m.testBit m.log2=true:=Nat.testBit_log2 h0;obtain⟨O,U⟩:=hf _ Y;generalize Z:m.log2=K at Y O U;have ab:m<2^(K+1):=by rw[<-Z];exact Nat.lt_log2_self
 have I:=MS (N:=N) (m:=m^^^2^K) (λx=>decide (N.gw K x=N.gw K (N.a K))) λk hk hb=>by
  have ag:k<K:=by
   rw[aaB,aaQ]at hb
   by_cases e:K=k
   ·subst e;simp[Y]at hb
   ·have ar : m.testBit k=true:=by simpa[e]using hb
    have:k<K+1:=by
     by_cases q:k<K+1
     ·exact q
     ·have z:=aby (aaL ab (ack (by decide) (show K+1<=k by lia)))
      rw[ar]at z;cases z
    lia
  have e:N.gw K (N.a k)=N.gw K (N.b k):=mE (S:=λ_=>true) ag rfl
  show decide (N.gw K (N.a k)=_)=decide (N.gw K (N.b k)=_);rw[e]
 have e:bU (λx=>decide (N.gw K x=N.gw K (N.a K))&&N.bd (m^^^2^K) x) N.p=bU (λx=>decide (N.gw K x=N.gw K (N.a K))&&N.inc K x) N.p :=
  bV λx hx=>by rw[iL,he x hx,oF O];simp
 rw[e]at I;have e2:bU (λx=>decide (N.gw K x=N.gw K (N.a K))&&N.inc K x) N.p=(decide (N.gw K (N.a K)=N.gw K (N.a K))^^decide (N.gw K (N.b K)=N.gw K (N.a K))):=by
  rw[<-kL (λx=>decide (N.gw K x=N.gw K (N.a K))) (N.al K O),<-kL (λx=>decide (N.gw K x=N.gw K (N.a K))) (N.bl K O),<-kK]
  refine bV λx _=>?_
  unfold Net.inc;cases decide (N.gw K x=N.gw K (N.a K))<;>cases decide (N.a K=x)<;>cases decide (N.b K=x)<;>rfl
 rw[e2]at I;unfold Net.oG at U;have aw : ¬ N.gw K (N.b K)=N.gw K (N.a K):=λq=>by rw[q]at U;simp at U
 simp[aw]at I
def Net.trail(N:Net):Nat->Nat->Nat
 | 0=>λ_=>0
 | k+1=>if N.oG k=true then λv=>if N.gw k v=max (N.gw k (N.a k)) (N.gw k (N.b k)) then Net.trail N k v^^^(Net.trail N k (N.a k)^^^Net.trail N k (N.b k)^^^2^k) else Net.trail N k v
   else Net.trail N k
def mF:∀(k v j:Nat),(N.trail k v).testBit j=true->j<k/\N.oG j=true
 | 0,v,j,h=>by simp[Net.trail]at h
 | k+1,v,j,h=>by
   have I:=mF k;unfold Net.trail at h
   split at h
   ·rename_i hf
    dsimp only at h
    split at h
    ·rw[aaB,aaB,aaB,aaQ]at h
     by_cases e:k=j
     ·subst e;exact⟨by lia,hf⟩
     ·have z : ¬((N.trail k v).testBit j=false/\(N.trail k (N.a k)).testBit j=false/\(N.trail k (N.b k)).testBit j=false):=by
       rintro⟨O,U,Y⟩;simp[O,U,Y,e]at h
      cases h1:(N.trail k v).testBit j with
      | true=>obtain⟨q,r⟩:=I v j h1;exact⟨by lia,r⟩
      | false=>cases h2:(N.trail k (N.a k)).testBit j with
        | true=>obtain⟨q,r⟩:=I _ j h2;exact⟨by lia,r⟩
        | false=>cases h3:(N.trail k (N.b k)).testBit j with
          | true=>obtain⟨q,r⟩:=I _ j h3;exact⟨by lia,r⟩
          | false=>exact absurd ⟨h1,h2,h3⟩ z
    ·obtain⟨q,r⟩:=I v j h;exact⟨by lia,r⟩
   ·obtain⟨q,r⟩:=I v j h;exact⟨by lia,r⟩
def MT(a b c d e f g h:Bool)(hlh:(d^^f)=(g^^h)):((a^^g)^^(((c^^d)^^(e^^f))^^(c^^e)))=(a^^h):=by
 have I:(((c^^d)^^(e^^f))^^(c^^e))=(d^^f):=by cases c<;>cases d<;>cases e<;>cases f<;>rfl
 rw[I,hlh];cases a<;>cases g<;>cases h<;>rfl
def xO:∀(k:Nat),k<=N.n->∀v x,N.bd (N.trail k v) x=(decide (v=x)^^decide (N.gw k v=x))
 | 0,_,v,x=>by
   show N.bd 0 x=(decide (v=x)^^decide (v=x));rw[pP];simp
 | k+1,hk,v,x=>by
   have I:=xO k (by lia)
   rw[DB];unfold Net.trail
   by_cases hf:N.oG k=true
   ·rw[aai hf,aai hf]
    by_cases hm:N.gw k v=max (N.gw k (N.a k)) (N.gw k (N.b k))
    ·have e:join (N.gw k) (N.a k) (N.b k) v=min (N.gw k (N.a k)) (N.gw k (N.b k)):=by unfold join;rw[aai hm]
     show N.bd (if N.gw k v=_ then _ else _) x=_
     rw[aai hm,e,iL,iL,iL,oF (by lia),I,I,I]
     unfold Net.inc;refine MT _ false _ _ _ _ _ _ ?_;rw[hm];rcases ac9 (N.gw k (N.a k)) (N.gw k (N.b k)) with q|q
     ·rw[adx q,acO q,Bool.xor_comm]
     ·rw[adK q,ady q]
    ·have e:join (N.gw k) (N.a k) (N.b k) v=N.gw k v:=by unfold join;rw[aaf hm]
     show N.bd (if N.gw k v=_ then _ else _) x=_
     rw[aaf hm,e,I]
   ·rw[aaf hf,aaf hf];exact I v x
def Net.ring(N:Net)(c:Nat):Nat:=N.trail N.n (N.a c)^^^N.trail N.n (N.b c)^^^2^c
def MU{c:Nat}(h:c<N.n):N.gw N.n (N.a c)=N.gw N.n (N.b c):=mE (S:=λ_=>true) h rfl
def pQ{c:Nat}(h:c<N.n):N.fJ (N.ring c):=λx _=>by
 unfold Net.ring;rw[iL,iL,oF h,xO _ (aam _),xO _ (aam _),MU h];unfold Net.inc;cases decide (N.a c=x)<;>cases decide (N.b c=x)<;>cases decide (N.gw N.n (N.b c)=x)<;>rfl
def oH{c j:Nat}(h:(N.ring c).testBit j=true):j=c\/(j<N.n/\N.oG j=true):=by
 unfold Net.ring at h;rw[aaB,aaB,aaQ]at h
 by_cases e:c=j
 ·exact .inl e.symm
 ·right
  cases h1:(N.trail N.n (N.a c)).testBit j with
  | true=>exact mF _ _ _ h1
  | false=>cases h2:(N.trail N.n (N.b c)).testBit j with
    | true=>exact mF _ _ _ h2
    | false=>simp[h1,h2,e]at h
def xP{c:Nat}(hf:N.oG c=false):(N.ring c).testBit c=true:=by
 unfold Net.ring;rw[aaB,aaB,aaQ];cases h1:(N.trail N.n (N.a c)).testBit c with
 | true=>obtain⟨_,q⟩:=mF _ _ _ h1;rw[hf]at q;cases q
 | false=>cases h2:(N.trail N.n (N.b c)).testBit c with
   | true=>obtain⟨_,q⟩:=mF _ _ _ h2;rw[hf]at q;cases q
   | false=>simp
def JS{j:Nat}(h:j<N.n)(hf:N.oG j=true):(N.trail N.n (N.a j)).testBit j=true\/(N.trail N.n (N.b j)).testBit j=true:=by
 have z:N.ring j=0:=iq (λk hk=>by
  rcases oH hk with rfl|q
  ·exact⟨h,hf⟩
  ·exact q) (pQ h)
 have b:(N.ring j).testBit j=false:=by rw[z];simp
 unfold Net.ring at b;rw[aaB,aaB,aaQ]at b;cases h1:(N.trail N.n (N.a j)).testBit j with
 | true=>exact .inl rfl
 | false=>cases h2:(N.trail N.n (N.b j)).testBit j with
   | true=>exact .inr rfl
   | false=>simp[h1,h2]at b
def cnt(f:Nat->Bool):Nat->Nat
 | 0=>0
 | n+1=>cnt f n+(if f n=true then 1 else 0)
def mG{f g:Nat->Bool}:∀{n:Nat},(∀k,k<n->f k=g k)->cnt f n=cnt g n
 | 0,_=>rfl
 | n+1,h=>by
   unfold cnt;rw[mG λk hk=>h k (by lia),h n (by lia)]
def xQ{f g:Nat->Bool}{h:Nat}(hg:g h=true):∀{p:Nat},h<p->(∀x,x<p->f x=(g x && !decide (x=h)))->cnt g p=cnt f p+1
 | 0,hh,_=>absurd hh (abI _)
 | p+1,hh,e=>by
   unfold cnt
   by_cases q:h=p
   ·subst q;have z:cnt g h=cnt f h:=mG λk hk=>by rw[e k (by lia)];simp[show k≠h by lia]
    rw[z,aai hg,e h (by lia)]
    simp
   ·rw[xQ hg (by lia) λx hx=>e x (by lia),e p (by lia)]
    simp[aa6 q]
    lia
def mH(f:Nat->Bool):∀n,((List.range n).filter f).length=cnt f n
 | 0=>rfl
 | n+1=>by
   rw[abE,abY,aaz,mH f n];show _=cnt f n+(if f n=true then 1 else 0)
   cases h:f n with
   | true=>rw[aa2,aai h];rfl
   | false=>rw[aa2,aaf (by rw[h];simp)];rfl
def BO(f:Nat->Bool):∀n,cnt f n+cnt (λk=>!f k) n=n
 | 0=>rfl
 | n+1=>by
   have I:=BO f n;unfold cnt;cases h:f n<;>simp<;>lia
def BP{f:Nat->Bool}:∀{n:Nat},(∀k,k<n->f k=true)->cnt f n=n
 | 0,_=>rfl
 | n+1,h=>by
   unfold cnt;rw[BP λk hk=>h k (by lia),aai (h n (by lia))]
variable {N:Net}{S:Nat->Bool}
def Net.root(N:Net)(S:Nat->Bool)(k x:Nat):Bool:=decide (N.aZ S k x=x)
def kr(k:Nat):N.aZ S (k+1)=if S k=true then join (N.aZ S k) (N.a k) (N.b k) else N.aZ S k:=by
 conv=>lhs;unfold Net.aZ
def rW{k x:Nat}(h:x<N.p):N.aZ S k x<N.p:=acv (BN k x) h
def JT{L:Nat->Nat}{u v:Nat}(hr:∀x,L (L x)=L x)(hne:L u≠L v)(x:Nat):decide (join L u v x=x)=(decide (L x=x) && !decide (x=max (L u) (L v))):=by
 have I:L (max (L u) (L v))=max (L u) (L v):=by
  rcases ac9 (L u) (L v) with q|q
  ·rw[adx q];exact hr v
  ·rw[adK q];exact hr u
 have O:L (min (L u) (L v))=min (L u) (L v):=by
  rcases ac9 (L u) (L v) with q|q
  ·rw[acO q];exact hr u
  ·rw[ady q];exact hr v
 unfold join
 by_cases h:L x=max (L u) (L v)
 ·rw[aai h];have h1 : ¬ min (L u) (L v)=x:=λz=>by
   rw[<-z,O]at h
   lia
  by_cases h2:x=max (L u) (L v)
  ·simp[h1,h2]
   lia
  ·have U : ¬ L x=x:=λz=>h2 (z.symm.trans h)
   simp[h1,U]
 ·rw[aaf h];have h2 : ¬ x=max (L u) (L v):=λz=>h (by rw[z];exact I)
  simp[h2]
def xR{k:Nat}(hk:k<N.n):cnt (N.root S k) N.p=cnt (N.root S (k+1)) N.p+(if(S k && !decide (N.aZ S k (N.a k)=N.aZ S k (N.b k)))=true then 1 else 0):=by
 cases hs:S k with
 | false =>
   have e:N.root S (k+1)=N.root S k:=by unfold Net.root;rw[kr,aaf (by rw[hs];simp)]
   rw[e];simp
 | true =>
   by_cases h:N.aZ S k (N.a k)=N.aZ S k (N.b k)
   ·have e:N.root S (k+1)=N.root S k:=by unfold Net.root;rw[kr,aai hs,AE h]
    rw[e];simp[h]
   ·have I:N.aZ S k (max (N.aZ S k (N.a k)) (N.aZ S k (N.b k)))=max (N.aZ S k (N.a k)) (N.aZ S k (N.b k)):=by
     rcases ac9 (N.aZ S k (N.a k)) (N.aZ S k (N.b k)) with q|q
     ·rw[adx q];exact fO _ _
     ·rw[adK q];exact fO _ _
    have h1:=rW (S:=S) (k:=k) (N.al k hk);have h2:=rW (S:=S) (k:=k) (N.bl k hk);rw[xQ (f:=N.root S (k+1)) (g:=N.root S k) (h:=max (N.aZ S k (N.a k)) (N.aZ S k (N.b k))) (dm I) (by lia) λx _=>by
     unfold Net.root;rw[kr,aai hs];exact JT (fO k) h x]
    simp[h]
def rX:∀k,k<=N.n->cnt (N.root (λ_=>true) k) N.p+cnt N.oG k=N.p
 | 0,_=>by
   show cnt (N.root (λ_=>true) 0) N.p+0=N.p
   rw[BP (f:=N.root (λ_=>true) 0) λx _=>dm rfl]
   rfl
 | k+1,hk=>by
   have I:=rX k (by lia)
   have st:=xR (N:=N) (S:=λ_=>true) (k:=k) (by lia)
   have e:((λ_=>true:Nat->Bool) k && !decide (N.aZ (λ_=>true) k (N.a k)=N.aZ (λ_=>true) k (N.b k)))=N.oG k:=by rw[abx];rfl
   rw[e]at st;show cnt (N.root (λ_=>true) (k+1)) N.p+(cnt N.oG k+if N.oG k=true then 1 else 0)=N.p
   lia
def DC:(N.n:Int)-N.p+cnt (N.root (λ_=>true) N.n) N.p=(cnt (λk=>!N.oG k) N.n:Nat):=by
 have h:=rX (N:=N) N.n (aam _);have h2:=BO N.oG N.n
 lia
def Net.bf(N:Net):List Nat:=(List.range N.n).filter λk=>!N.oG k
def eN{c:Nat}:c∈N.bf↔c<N.n/\N.oG c=false:=by
 unfold Net.bf;rw[aaX,aaI];simp
def Gb:N.bf.length=cnt (λk=>!N.oG k) N.n:=mH _ _
def c6{m n:Nat}(h:∀k,m.testBit k=true->k<n):m<2^n:=Nat.lt_pow_two_of_testBit m λk hk=>by
 cases q:m.testBit k with
 | false=>rfl
 | true=>exact absurd (h k q) (by lia)
def dc{m n k:Nat}(h:m<2^n)(hb:m.testBit k=true):k<n:=by
 by_cases q:k<n
 ·exact q
 ·have z:=aby (aaL h (ack (by decide) (show n<=k by lia)))
  rw[hb]at z;cases z
def MV{m q:Nat}(hm:m<2^N.n)(hq:q<2^N.n)(em:N.fJ m)(eq:N.fJ q)(h:∀c,c<N.n->N.oG c=false->m.testBit c=q.testBit c):m=q:=by
 have z:m^^^q=0:=iq (N:=N) (λk hk=>by
  have I:=dc (abu hm hq) hk;refine⟨I,?_⟩;cases hf:N.oG k with
  | true=>rfl
  | false =>
    rw[aaB,h k I hf]at hk;simp at hk) (fJ.xor em eq)
 have e:m=m^^^q^^^q:=by rw[abB,ab7,abJ]
 rw[e,z,abC]
def wZ{c:Nat}(h:c<N.n):N.ring c<2^N.n:=c6 λk hk=>by
 rcases oH hk with rfl|⟨q,_⟩
 ·exact h
 ·exact q
def qT{c d:Nat}(hc:N.oG c=false)(hd:N.oG d=false):(N.ring c).testBit d=decide (c=d):=by
 by_cases e:c=d
 ·subst e;rw[xP hc];simp
 ·cases q:(N.ring c).testBit d with
  | false=>simp[e]
  | true=>rcases oH q with rfl | ⟨_,r⟩
          ·exact absurd rfl e
          ·rw[hd]at r;cases r
end RM
namespace Ring
open PySem L2
def maskOf(f:Nat->Bool):Nat->Nat
 | 0=>0
 | n+1=>(if f n=true then 2^n else 0)+maskOf f n
def mask_lt(f:Nat->Bool):∀n,maskOf f n<2^n
 | 0=>by show 0<1;decide
 | n+1=>by
   have I:=mask_lt f n;have e:2^(n+1)=2^n+2^n:=by rw[acy];lia
   unfold maskOf
   split<;>lia
def mask_bit(f:Nat->Bool)(j:Nat):∀n,(maskOf f n).testBit j=(decide (j<n)&&f j)
 | 0=>by simp[maskOf]
 | n+1=>by
   have I:=mask_bit f j n;have O:=mask_lt f n;unfold maskOf
   by_cases h:f n=true
   ·rw[aai h];rcases Nat.lt_trichotomy j n with q|q|q
    ·rw[Nat.testBit_two_pow_add_gt q,I];simp[q,show j<n+1 by lia]
    ·subst q;rw[Nat.testBit_two_pow_add_eq,I];simp[h]
    ·have z:2^n+maskOf f n<2^j:=aaL (show 2^n+maskOf f n<2^(n+1) by rw[acy];lia) (ack (by decide) q)
     rw[aby z];simp[show ¬ j<n+1 by lia]
   ·rw[aaf h,Nat.zero_add,I]
    by_cases q:j=n
    ·subst q;have h' : f j=false:=by simpa using h
     simp[h']
    ·by_cases r:j<n
     ·simp[r,show j<n+1 by lia]
     ·simp[r,show ¬ j<n+1 by lia]
def MW(n:Nat):maskOf (λ_=>true) n=2^n-1:=by
 induction n with
 | zero=>rfl
 | succ n I =>
   unfold maskOf;rw[I,aai rfl,acy];have:=abV n
   lia
def IJ(n j:Nat):(2^n-1).testBit j=decide (j<n):=by
 rw[<-MW,mask_bit];simp
def TN{a b x y:Nat}(q:x/2+y/2=a/2+b/2)(h:x%2+y%2=a%2+b%2):x+y=a+b:=by lia
def TQ{u v:Nat}(hu:u=0\/u=1)(hv:v=0\/v=1):(u ||| v)+(u&&&v)=u+v:=by
 rcases hu with rfl|rfl<;>rcases hv with rfl|rfl<;>rfl
def TR:∀a b:Nat,(a ||| b)+(a&&&b)=a+b:=by
 intro a
 induction a using Nat.strongRecOn with
 | ind a ih =>
   intro b
   by_cases h:a=0
   ·subst h;simp
   ·have q:=ih (a/2) (by lia) (b/2)
    rw[<-Nat.or_div_two,<-Nat.and_div_two]at q;refine TN q ?_;have I:(a ||| b)%2=a%2 ||| b%2:=Nat.or_mod_two_pow (n:=1)
    have O:(a&&&b)%2=a%2&&&b%2:=Nat.and_mod_two_pow (n:=1);rw[I,O];exact TQ (acB a) (acB b)
def or_int(a b:Nat):Builtin.bitOr (a:Int) (b:Int)=((a ||| b:Nat):Int):=by
 have q:=TR a b;rw[PyProof.Rows.bitOr_and,adq (by lia) (by lia)]
 have h:(a:Int)+b-((a&&&b:Nat):Int)=((a ||| b:Nat):Int):=by lia
 simpa using h
def rY(k:Nat):(1:Int)*2^(k:Int).toNat=((2^k:Nat):Int):=by
 rw[aaE,Int.one_mul];simp
def ff{ts:List bZ}{k:Nat}(h:k<ts.length):bj ts k∈ts:=by
 unfold bj;rw[aad];simp[h]
def um{ts:List bZ}{k:Nat}(h:k<ts.length):ts[k]?=some (bj ts k):=by
 unfold bj;rw[aad];simp[h]
def aA.N{p:Nat}{ts:List bZ}(g:aA p ts):RM.Net where
 p:=p
 n:=ts.length
 a:=λk=>(bj ts k).1.toNat
 b:=λk=>(bj ts k).2.1.toNat
 al:=λk hk=>by
  have z:=g.rS _ (ff hk);have I:=z.a0;have O:=z.a1
  lia
 bl:=λk hk=>by
  have z:=g.rS _ (ff hk);have I:=z.b0;have O:=z.b1
  lia
 ne:=λk hk e=>by
  have z:=g.rS _ (ff hk);have I:=z.a0;have O:=z.b0;exact z.ne (by lia)
def IK{p:Nat}{ts:List bZ}{g:aA p ts}{k:Nat}(h:k<ts.length):(bj ts k).1=((g.N.a k:Nat):Int):=by
 have z:=(g.rS _ (ff h)).a0;show _=(((bj ts k).1.toNat:Nat):Int)
 lia
def IL{p:Nat}{ts:List bZ}{g:aA p ts}{k:Nat}(h:k<ts.length):(bj ts k).2.1=((g.N.b k:Nat):Int):=by
 have z:=(g.rS _ (ff h)).b0;show _=(((bj ts k).2.1.toNat:Nat):Int)
 lia
def Qo{p:Nat}{ts:List bZ}{g:aA p ts}{k:Nat}(h:k<ts.length)(x:Nat):Pq ts k x%2=if g.N.inc k x=true then 1 else 0:=by
 unfold Pq RM.Net.inc;rw[um h];dsimp only;rw[IK (g:=g) h,IL (g:=g) h];generalize g.N.a k=u;generalize g.N.b k=v
 by_cases h1:u=x
 ·by_cases h2:v=x
  ·simp[h1,h2]
  ·have I : ¬((v:Int)=(x:Int)):=by lia
   simp[h1,h2,I]
 ·have O : ¬((u:Int)=(x:Int)):=by lia
  by_cases h2:v=x
  ·simp[h1,h2,O]
  ·have I : ¬((v:Int)=(x:Int)):=by lia
   simp[h1,h2,O,I]
def MX{p:Nat}{ts:List bZ}{g:aA p ts}(m x:Nat):∀n,n<=ts.length->((List.range n).map λk=>if m.testBit k=true then Pq ts k x else 0).sum%2=if RM.bU (λk=>m.testBit k&&g.N.inc k x) n=true then 1 else 0
 | 0,_=>rfl
 | n+1,h=>by
   have I:=MX (g:=g) m x n (by lia)
   have hd:=Qo (g:=g) (k:=n) (by lia) x
   rw[abE,aaJ,List.sum_append];show(_+((if m.testBit n=true then Pq ts n x else 0)+0))%2=if(RM.bU _ n^^(m.testBit n&&g.N.inc n x))=true then 1 else 0
   generalize ((List.range n).map λk=>if m.testBit k=true then Pq ts k x else 0).sum=u at I ⊢
   generalize RM.bU (λk=>m.testBit k&&g.N.inc k x) n=v at I ⊢
   generalize g.N.inc n x=i at hd ⊢;generalize Pq ts n x=d at hd ⊢;cases m.testBit n<;>cases v<;>cases i<;>simp at I hd ⊢ <;> lia
def IM{p:Nat}{ts:List bZ}(g:aA p ts){m:Nat}(hm:m<2^ts.length){x:Nat}:decide ((lS p ts (m:Int)).getD x 0%2=1)=g.N.bd m x:=by
 rw[MP g.BL.inw,ju hm,sum_filter];have h:=MX (g:=g) m x ts.length (aam _);rw[h];show _=RM.bU _ ts.length;generalize RM.bU (λk=>m.testBit k&&g.N.inc k x) ts.length=v
 cases v<;>simp
def DE{p:Nat}{ts:List bZ}(g:aA p ts){m:Nat}(hm:m<2^ts.length):xK p ts (m:Int)=[]↔g.N.fJ m:=by
 unfold xK;rw[ads]
 constructor
 ·intro h x hx;have q:=h x (aaI.mpr hx);rw[IM g hm]at q
  simpa using q
 ·intro h x hx;rw[IM g hm,h x (aaI.mp hx)];simp
def jw(f:Nat->Nat)(n:Nat):List V:=(List.range n).map λx=>V.int ((f x:Nat):Int)
def ir(f:Nat->Nat)(n:Nat):(jw f n).length=n:=by unfold jw;rw[aac,aaK]
def cM{f:Nat->Nat}{n x:Nat}(h:x<n):(jw f n)[x]?=some (.int ((f x:Nat):Int)):=by
 unfold jw;rw[aaw,ac6 h];rfl
def w4{f:Nat->Nat}{n x:Nat}{v:V}(h:(jw f n)[x]?=some v):x<n/\v = .int ((f x:Nat):Int):=by
 have hx:x<n:=by
  have:=(jo.mp h).1
  rwa [ir]at this
 rw[cM hx]at h;exact⟨hx,(Option.some.inj h).symm⟩
def AG(f:Nat->Nat)(n:Nat):jw f (n+1)=jw f n++[.int ((f n:Nat):Int)]:=by
 unfold jw;rw[abE,aaJ];rfl
def MY(p:Nat):(List.replicate p [V.int 0]).flatten=jw (λ_=>0) p:=by
 induction p with
 | zero=>rfl
 | succ p I =>
   rw[AG,<-I,List.replicate_succ',List.flatten_append];rfl
def BQ(f:Nat->Nat)(H:Hp)(D:Addr)(i:Nat)(acc:List V)(H2:Hp):Prop:=aq H H2/\H2 D=some (.lst acc)/\acc=jw f i
section
variable {f:Nat->Nat}{H H2 H3:Hp}{D:Addr}{i:Nat}{acc:List V}{v:V}
def BQ.start(hD:H D=none):BQ f H D 0 [] (upd H D (.lst [])):=⟨aq.new hD,ae,rfl⟩
def BQ.len(p:BQ f H D i acc H2):H2 D=some (.lst acc)/\acc.length<=i:=⟨p.2.1,by rw[p.2.2,ir];exact aam _⟩
def BQ.next(p:BQ f H D i acc H2)(hD:H D=none)(s:aq H2 H3)(hv:v = .int ((f i:Nat):Int)):H3 D=some (.lst acc)/\BQ f H D (i+1) (acc++[v]) (upd H3 D (.lst (acc++[v]))):=by
 refine⟨s _ _ p.2.1,(p.1.trans s).put hD,ae,?_⟩;rw[AG,<-p.2.2,hv]
end
def AH{N:RM.Net}{m:Nat}:∀n,((List.range n).filter λk=>m.testBit k).foldl (λL k=>RM.join L (N.a k) (N.b k)) (λx=>x)=N.aZ (λk=>m.testBit k) n
 | 0=>rfl
 | n+1=>by
   rw[cJ,acC,AH n,RM.kr]
   split<;>rfl
end Ring
namespace RM
def xS{N:Net}{S S' : Nat->Bool}:∀{n:Nat},(∀k,k<n->S k=S' k)->N.aZ S n=N.aZ S' n
 | 0,_=>rfl
 | n+1,h=>by rw[kr,kr,xS λk hk=>h k (by lia),h n (by lia)]
end RM
namespace Ring
open PySem L2
def pieceOf(L:Nat->Nat)(p s:Nat):List Nat:=(List.range p).filter λx=>decide (L x=s)
def fP(L:Nat->Nat)(p:Nat):List Nat:=(List.range p).filter λx=>decide (L x=x)
def RO(D:Addr)(H0 H:Hp)(y:V)(l:List Nat):Prop:=∃b,y = .ref b/\b≠D/\H0 b=none/\H b=some (.lst (aD l))
def xT(L:Nat->Nat)(p:Nat)(H:Hp)(D:Addr)(i:Nat)(H2:Hp):Prop:=aq H H2/\∃ys,H2 D=some (.lst ys)/\Paired (RO D H H2) ys ((fP L i).map (pieceOf L p))/\ys.length<=i
section
variable {L:Nat->Nat}{p i:Nat}{H H2 H3:Hp}{D b:Addr}
def xT.start(hD:H D=none):xT L p H D 0 (upd H D (.lst [])):=⟨aq.new hD,[],ae,.nil,aam _⟩
def xU:fP L (i+1)=fP L i++(if L i=i then[i] else[]):=by
 unfold fP;rw[cJ]
 by_cases h:L i=i<;>simp[h]
def xT.skip(h:xT L p H D i H2)(hn : ¬ L i=i):xT L p H D (i+1) H2:=by
 obtain⟨s,ys,hd,pr,I⟩:=h;refine⟨s,ys,hd,?_,by lia⟩
 rw[xU,aaf hn,ab5];exact pr
def xT.push(h:xT L p H D i H2)(hD:H D=none)(hr:L i=i)(s:aq H2 H3)(hb:H2 b=none)(YL:H3 b=some (.lst (aD (pieceOf L p i)))):
 ∃ys,H3 D=some (.lst ys)/\ys.length<=i/\xT L p H D (i+1) (upd H3 D (.lst (ys++[.ref b]))):=by
 obtain⟨s2,ys,hd,pr,O⟩:=h;have U:=s _ _ hd;have I:b≠D:=λe=>by rw[e,hd]at hb;cases hb
 refine⟨ys,U,O,(s2.trans s).put hD,ys++[.ref b],ae,?_,by rw[aaz,abt];lia⟩
 rw[xU,aai hr,aaJ];refine Paired.snoc (Paired.imp' (λ_ _ ⟨e,he,hn,h0,q⟩=>⟨e,he,hn,h0,by rw[ah hn];exact s _ _ q⟩) pr) ?_
 exact⟨b,rfl,I,s2.free hb,by rw[ah I];exact YL⟩
end
def vJ(p:Nat)(ts:List bZ)(g:aA p ts)(ks:List Nat):Nat->Nat:=ks.foldl (λL k=>RM.join L (g.N.a k) (g.N.b k)) λx=>x
def Gd{p:Nat}{ts:List bZ}{g:aA p ts}{ks:List Nat}{k:Nat}:vJ p ts g (ks++[k])=RM.join (vJ p ts g ks) (g.N.a k) (g.N.b k):=by
 unfold vJ;rw[acC];rfl
def bY(p:Nat)(ts:List bZ)(g:aA p ts)(m:Nat):Nat->Nat:=g.N.aZ (λk=>m.testBit k) ts.length
def Ge{p:Nat}{ts:List bZ}{g:aA p ts}{m:Nat}(hm:m<2^ts.length):vJ p ts g (bz (m:Int))=bY p ts g m:=by
 unfold vJ bY;rw[ju hm];exact AH _
def Qp{p:Nat}{ts:List bZ}{g:aA p ts}:bY p ts g (2^ts.length-1)=g.N.gw ts.length:=by
 unfold bY RM.Net.gw;exact RM.xS λk hk=>by rw[IJ];simp[hk]
def Qq{p:Nat}{ts:List bZ}{g:aA p ts}:(ts.length:Int)-(p:Int)+(fP (bY p ts g (2^ts.length-1)) p).length=(g.N.bf.length:Int):=by
 have h:=RM.DC (N:=g.N);rw[RM.Gb];unfold fP;rw[RM.mH,Qp];exact h
def Qs(a b:Nat):(if(b:Int)<(a:Int) then(b:Int) else(a:Int))=((min a b:Nat):Int):=by
 split<;>lia
def IP(a b:Nat):(if(b:Int) > (a:Int) then(b:Int) else(a:Int))=((max a b:Nat):Int):=by
 split<;>lia
def pR(a b:Nat):decide (V.int (a:Int)=V.int (b:Int))=decide (a=b):=by
 rw[abw];simp
 lia
end Ring
namespace RM
variable {N:Net}{S:Nat->Bool}
variable {pt r j:Nat}{l:List Nat}
def MZ{l:List Nat}:∀{p:Nat},l.Nodup->(∀x∈l,x<p)->l.length<=p:=by
 intro p hn I;have O:l.Perm ((List.range p).filter λx=>decide (x∈l)):=by
  refine(List.perm_ext_iff_of_nodup hn (adL _ acr)).mpr λa=>?_
  rw[aaX,aaI];simp;exact λh=>I a h
 rw[O.length_eq];have:=abc (λx=>decide (x∈l)) (List.range p)
 rwa [aaK]at this
end RM
namespace Ring
open PySem L2
def Gf{p:Nat}{f:Nat->Bool}:((List.range p).filter f).Pairwise (· < ·):=adL _ List.pairwise_lt_range
def gO(l:List Nat):aD l=(l.map λx=>((x:Nat):Int)).map V.int:=by unfold aD;rw[abz];rfl
def xV(u:Nat)(l:List Nat):Va (.int (u:Int)) (aD l)=decide (u∈l):=by
 unfold Va aD;rw[List.any_map,abw,adZ];simp only[Function.comp,decide_eq_true_eq]
 constructor
 ·rintro⟨x,hx,h⟩;have e:((x:Nat):Int)=(u:Int):=eq_of_beq h;have:x=u:=by lia
  exact this▸hx
 ·intro h;exact⟨u,h,by simp[Qd]⟩
def uo(l:List Nat):(aD l).all rK=true:=by
 unfold aD;rw[List.all_map,abQ];intro x _;rfl
def and_int(a b:Nat):Builtin.bitAnd (a:Int) (b:Int)=((a&&&b:Nat):Int):=by
 rw[adq (by lia) (by lia)]
 simp
def Vg(T:Nat->Nat):Nat->Nat
 | 0=>0
 | n+1=>Vg T n ||| T n
def IQ(T:Nat->Nat)(j:Nat):∀n,(Vg T n).testBit j=true↔∃x,x<n/\(T x).testBit j=true
 | 0=>by simp[Vg]
 | n+1=>by
   unfold Vg;rw[Nat.testBit_or,Bool.or_eq_true,IQ T j n]
   constructor
   ·rintro(⟨x,hx,h⟩|h)
    ·exact⟨x,by lia,h⟩
    ·exact⟨n,by lia,h⟩
   ·rintro⟨x,hx,h⟩
    by_cases e:x=n
    ·subst e;exact .inr h
    ·exact .inl ⟨x,by lia,h⟩
section
variable {p:Nat}{ts:List bZ}{g:aA p ts}
def lD(p:Nat)(ts:List bZ)(g:aA p ts):Nat:=maskOf g.N.oG ts.length
def Gg:Vg (g.N.trail ts.length) p=lD p ts g:=by
 refine abh λj=>?_
 unfold lD;rw[mask_bit,abw,IQ];simp only[abd,decide_eq_true_eq]
 constructor
 ·rintro⟨x,_,h⟩;exact RM.mF _ _ _ h
 ·rintro⟨h1,h2⟩;rcases RM.JS (N:=g.N) h1 h2 with h|h
  ·exact⟨_,g.N.al j h1,h⟩
  ·exact⟨_,g.N.bl j h1,h⟩
def Gh(j:Nat):((2^ts.length-1)^^^lD p ts g).testBit j=(decide (j<ts.length) && !g.N.oG j):=by
 unfold lD;rw[aaB,IJ,mask_bit];cases decide (j<ts.length)<;>cases g.N.oG j<;>rfl
def AI:(2^ts.length-1)^^^lD p ts g<2^ts.length:=abu (by have:=abV ts.length;lia) (mask_lt _ _)
def DF:bz (((2^ts.length-1)^^^lD p ts g:Nat):Int)=g.N.bf:=by
 rw[ju AI];unfold RM.Net.bf;refine adn λk hk=>?_
 have:=aaI.mp hk;rw[Gh];simp[this]
end
def Qt(n:Nat):((2:Int)^n-1)=((2^n-1:Nat):Int):=by
 have h:((2:Int)^n)=((2^n:Nat):Int):=by simp
 have:=abV n
 lia
def TU{S:Int}{l:List Nat}(h:∀c∈l,S≠((c:Nat):Int)):Va (.int S) (aD l)=false:=by
 unfold Va aD;rw[List.any_map,List.any_eq_false];intro x hx z;exact h x hx (eq_of_beq z).symm
def qC{c:Nat}:∀{n:Nat},c<n->(List.range n).filter (λk=>decide (k=c))=[c]
 | 0,h=>absurd h (abI _)
 | n+1,h=>by
   rw[cJ]
   by_cases e:c=n
   ·subst e;have z:(List.range c).filter (λk=>decide (k=c))=[]:=by
     rw[ads];intro x hx;have:=aaI.mp hx;simp
     lia
    rw[z];simp
   ·rw[qC (by lia)]
    simp[aa6 e]
def Qu{l:List Nat}{i:Nat}{k:Nat}(h:l[i]?=some k):(aD l)[i]?=some (.int (k:Int)):=by
 unfold aD;rw[aaw,h];rfl
def zI(f:Nat->Int)(l:List Nat)(H:Hp)(D:Addr)(i:Nat)(acc:List V)(H2:Hp):Prop:=aq H H2/\H2 D=some (.lst acc)/\acc=((l.take i).map f).map V.int
section
variable {f:Nat->Int}{l:List Nat}{H H2 H3:Hp}{D:Addr}{i k:Nat}{acc:List V}{v:V}
def zI.start(hD:H D=none):zI f l H D 0 [] (upd H D (.lst [])):=⟨aq.new hD,ae,rfl⟩
def zI.len(p:zI f l H D i acc H2):H2 D=some (.lst acc)/\acc.length<=i:=by
 refine⟨p.2.1,?_⟩;rw[p.2.2,aac,aac,abk]
 lia
def zI.next(p:zI f l H D i acc H2)(hD:H D=none)(s:aq H2 H3)(hk:l[i]?=some k)(hv:v = .int (f k)):H3 D=some (.lst acc)/\zI f l H D (i+1) (acc++[v]) (upd H3 D (.lst (acc++[v]))):=by
 refine⟨s _ _ p.2.1,(p.1.trans s).put hD,ae,?_⟩;rw[aa1,hk,aaJ,aaJ,<-p.2.2,hv];rfl
def zI.fin(p:zI f l H D l.length acc H2):H2 D=some (.lst ((l.map f).map V.int)):=by rw[p.2.1,p.2.2,aa7]
end
end Ring
namespace RM
def xW(f:Nat->Bool):∀n,bU f n=decide (cnt f n%2=1)
 | 0=>rfl
 | n+1=>by
   unfold bU cnt;rw[xW f n]
   by_cases h:f n=true
   ·rw[h,aai rfl]
    by_cases q:cnt f n%2=1
    ·have q' : ¬(cnt f n+1)%2=1:=by lia
     simp[q,q']
    ·have q' : (cnt f n+1)%2=1:=by lia
     simp[q,q']
   ·have h' : f n=false:=by simpa using h
    rw[h',aaf (by decide)]
    simp
end RM
namespace Ring
open PySem L2
def lenOf(ts:List bZ)(m:Nat):Int:=((bz (m:Int)).map λk=>(bj ts k).2.2).sum
def JU(ts:List bZ)(f:Nat->Bool):Nat->Int
 | 0=>0
 | n+1=>JU ts f n+(if f n=true then(bj ts n).2.2 else 0)
def vK(ts:List bZ)(f:Nat->Bool):∀n,(((List.range n).filter f).map λk=>(bj ts k).2.2).sum=JU ts f n
 | 0=>rfl
 | n+1=>by
   rw[cJ,aaJ,List.sum_append,vK ts f n];show _=JU ts f n+(if f n=true then(bj ts n).2.2 else 0)
   split<;>simp
def JV{ts:List bZ}{m:Nat}(hm:m<2^ts.length):lenOf ts m=JU ts (λk=>m.testBit k) ts.length:=by
 unfold lenOf;rw[ju hm];exact vK ts _ _
section
variable {p:Nat}{ts:List bZ}(g:aA p ts)
include g
end
end Ring
namespace L2
open PySem PySem.Spec PyProof.Rows
def AJ{α β:Type}{F:α->β->Prop}:∀{l:List α} {r:List β} (k:Nat),Paired F l r->Paired F (l.take k) (r.take k)
 | _,_,0,_=>by rw[adS,adS];exact .nil
 | _,_,_+1,.nil=>.nil
 | _,_,k+1,.cons h t=>.cons h (AJ k t)
def AK{α β:Type}{F:α->β->Prop}:∀{l:List α} {r:List β} (k:Nat),Paired F l r->Paired F (l.drop k) (r.drop k)
 | _,_,0,h=>h
 | _,_,_+1,.nil=>.nil
 | _,_,k+1,.cons _ t=>AK k t
def Qv:V->List V->Hp->VK->Prop:=λx vs H Q=>∃(l:Addr) (xs:List V) (k:Nat) (y:V),x = .ref l/\vs=[.int (k:Int),y]/\H l=some (.lst xs)/\k<=xs.length/\xs.length<sizeLine/\Q .eX (upd H l (.lst (xs.take k++y::xs.drop k)))
def JW{X:Cx}:YC X "list.insert" Qv:=by
 intro pq s σ H x vs v us Q I rx rv h;obtain⟨l,xs,k,y,rfl,rfl,Z,hk,hz,q⟩:=h;cases rx;cases rv with
 | cons r1 r2 =>
   obtain⟨u,rfl,ru⟩:=Vals.one r2;obtain⟨t,rfl⟩:=r1;obtain⟨z,its,n,r,hl,e⟩:=I.My Z;have ab:sizeLine<2^63:=qO;have U:((k:Nat):Int)<2^63:=by
    have:k<2^63:=by lia
    lia
   have O : ¬(!Builtin.List.listFitsIndex (k:Int))=true:=by
    rw[fitsIndex_both (by lia) U]
    decide
   obtain⟨i,hi⟩:∃i:Int,i=(k:Int):=⟨_,rfl⟩;rw[<-hi]at O ⊢;have Y:its.toArray.size<=sizeLine:=by rw[aaG,<-hl];exact z
   refine call_meets F.slot_list_insert ⟨_,e,rfl⟩ F.entry_list_insert (F.args_list_insert_3 _ _ _) (AutoSeq1.list_insert_list_int_val_1 l its.toArray n i t u O Y) ⟨e,?_⟩;refine⟨.eX,_,I.Qe (its':=its.take k++u::its.drop k) Z e ?_ (Vals.append (AJ k r) (.cons ru (AK k r))) ?_,rfl,q⟩
   ·have hc:(if i<0 then(i+(its.toArray.size:Int)).toNat else min i.toNat its.toArray.size)=k:=by
     rw[aaf (by lia),aaG,hi,aaE]
     lia
    show(its.toArray.extract 0 (if i<0 then(i+(its.toArray.size:Int)).toNat else min i.toNat its.toArray.size)).push u++its.toArray.extract (if i<0 then(i+(its.toArray.size:Int)).toNat else min i.toNat its.toArray.size)=_
    rw[hc];simp[List.extract_toArray];exact acR (by rw[acF];lia)
   ·rw[aaz,abk,abj,acF]
    lia
end L2
namespace RM
def sm(f:Nat->Nat):Nat->Nat
 | 0=>0
 | n+1=>sm f n+f n
def jx{f g:Nat->Nat}:∀{n:Nat},(∀k,k<n->f k=g k)->sm f n=sm g n
 | 0,_=>rfl
 | n+1,h=>by
   show sm f n+f n=sm g n+g n;rw[jx λk hk=>h k (by lia),h n (by lia)]
def xX(f g:Nat->Nat):∀n,sm (λk=>f k+g k) n=sm f n+sm g n
 | 0=>rfl
 | n+1=>by
   show sm (λk=>f k+g k) n+(f n+g n)=sm f n+f n+(sm g n+g n)
   rw[xX f g n]
   lia
def w5:∀n,sm (λ_=>0) n=0
 | 0=>rfl
 | n+1=>by
   show sm (λ_=>0) n+0=0
   rw[w5 n]
def IS(f:Nat->Nat->Nat)(n:Nat):∀p,sm (λx=>sm (λk=>f x k) n) p=sm (λk=>sm (λx=>f x k) p) n
 | 0=>(w5 n).symm
 | p+1=>by
   show sm (λx=>sm (λk=>f x k) n) p+sm (λk=>f p k) n=sm (λk=>sm (λx=>f x k) p+f p k) n
   rw[IS f n p,xX]
def kM(f:Nat->Bool):∀n,cnt f n=sm (λk=>if f k=true then 1 else 0) n
 | 0=>rfl
 | n+1=>by
   show cnt f n+(if f n=true then 1 else 0)=sm (λk=>if f k=true then 1 else 0) n+(if f n=true then 1 else 0)
   rw[kM f n]
def IT{f g:Nat->Nat}:∀{n:Nat},(∀k,k<n->f k<=g k)->sm f n<=sm g n
 | 0,_=>aam _
 | n+1,h=>by
   have h1:=IT (f:=f) (g:=g) (n:=n) λk hk=>h k (by lia)
   have h2:=h n (by lia)
   show sm f n+f n<=sm g n+g n
   lia
def RP{f g:Nat->Nat}{n:Nat}(h:∀k,k<n->f k<=g k)(e:sm f n=sm g n):∀k,k<n->f k=g k:=by
 induction n with
 | zero=>exact λk hk=>absurd hk (abI _)
 | succ n O =>
   intro k hk;have h1:=IT (f:=f) (g:=g) (n:=n) λk hk=>h k (by lia)
   have h2:=h n (by lia)
   have e:sm f n+f n=sm g n+g n:=e
   by_cases I:k=n
   ·subst I
    lia
   ·exact O (λj hj=>h j (by lia)) (by lia) k (by lia)
def xY{f g:Nat->Bool}{n:Nat}(h:∀k,k<n->f k=true->g k=true):cnt f n<=cnt g n:=by
 rw[kM,kM];refine IT λk hk=>?_
 by_cases hf:f k=true
 ·rw[aai hf,aai (h k hk hf)];exact aam _
 ·rw[aaf hf];exact aa3 _
def DG{f g:Nat->Bool}{n:Nat}(h:∀k,k<n->f k=true->g k=true)(e:cnt f n=cnt g n):∀k,k<n->g k=true->f k=true:=λk hk I=>by
 rw[kM,kM]at e;have q:=RP (n:=n) (λk hk=>by
  by_cases hf:f k=true
  ·rw[aai hf,aai (h k hk hf)];exact aam _
  ·rw[aaf hf];exact aa3 _) e k hk
 rw[aai I]at q
 by_cases hf:f k=true
 ·exact hf
 ·rw[aaf hf]at q
  lia
def rZ{f:Nat->Bool}:∀{n:Nat},0<cnt f n->∃k,k<n/\f k=true
 | 0,h=>absurd h (abN _)
 | n+1,h=>by
   by_cases hf:f n=true
   ·exact⟨n,by lia,hf⟩
   ·have h:0<cnt f n+(if f n=true then 1 else 0):=h
    rw[aaf hf]at h;obtain⟨k,hk,q⟩:=rZ (f:=f) (n:=n) (by lia)
    exact⟨k,by lia,q⟩
def r6{f:Nat->Bool}{k:Nat}(hf:f k=true):∀{n:Nat},k<n->0<cnt f n
 | 0,h=>absurd h (abI _)
 | n+1,h=>by
   show 0<cnt f n+(if f n=true then 1 else 0)
   by_cases hk:k=n
   ·subst hk;rw[aai hf]
    lia
   ·have:=r6 hf (n:=n) (by lia)
    lia
def r9{f:Nat->Bool}:∀{n:Nat},2<=cnt f n->∃c d,c<d/\d<n/\f c=true/\f d=true
 | 0,h=>absurd h (by show ¬ 2<=0;lia)
 | n+1,h=>by
   have h:2<=cnt f n+(if f n=true then 1 else 0):=h
   by_cases hf:f n=true
   ·rw[aai hf]at h;obtain⟨k,hk,q⟩:=rZ (f:=f) (n:=n) (by lia)
    exact⟨k,n,hk,by lia,q,hf⟩
   ·rw[aaf hf]at h;obtain⟨c,d,h1,h2,I,O⟩:=r9 (f:=f) (n:=n) (by lia)
    exact⟨c,d,h1,by lia,I,O⟩
def BR{f:Nat->Bool}{u v:Nat}(hu:f u=true)(hv:f v=true)(ne:u≠v):∀{n:Nat},u<n->v<n->2<=cnt f n
 | 0,h,_=>absurd h (abI _)
 | n+1,h1,h2=>by
   show 2<=cnt f n+(if f n=true then 1 else 0)
   by_cases I:u=n
   ·subst I;have:=r6 hv (n:=u) (by lia)
    rw[aai hu]
    lia
   ·by_cases O:v=n
    ·subst O;have:=r6 hu (n:=v) (by lia)
     rw[aai hv]
     lia
    ·have:=BR hu hv ne (n:=n) (by lia) (by lia)
     lia
def BS(a:Nat):∀n,cnt (λx=>decide (a=x)) n=if a<n then 1 else 0
 | 0=>rfl
 | n+1=>by
   show cnt (λx=>decide (a=x)) n+(if decide (a=n)=true then 1 else 0)=_
   rw[BS a n]
   by_cases e:a=n
   ·subst e;simp
   ·have d:(if decide (a=n)=true then 1 else 0)=0:=aaf (by simpa using e)
    rw[d]
    by_cases h:a<n
    ·rw[aai h,aai (by lia)]
    ·rw[aaf h,aaf (by lia)]
def BU{f g:Nat->Bool}:∀{n:Nat},(∀x,x<n->¬(f x=true/\g x=true))->cnt (λx=>f x^^g x) n=cnt f n+cnt g n
 | 0,_=>rfl
 | n+1,h=>by
   show cnt (λx=>f x^^g x) n+(if(f n^^g n)=true then 1 else 0)=cnt f n+(if f n=true then 1 else 0)+(cnt g n+(if g n=true then 1 else 0))
   rw[BU λx hx=>h x (by lia)]
   have q:=h n (by lia)
   cases hf:f n<;>cases hg:g n
   ·simp
   ·simp
    lia
   ·simp
    lia
   ·exact absurd ⟨hf,hg⟩ q
variable {N:Net}
def Net.dg(N:Net)(m x:Nat):Nat:=cnt (λk=>m.testBit k&&N.inc k x) N.n
def RQ(m x:Nat):N.bd m x=decide (N.dg m x%2=1):=xW _ _
def BV{m x:Nat}(e:N.fJ m)(hx:x<N.p):N.dg m x%2=0:=by
 have h:=e x hx;rw[RQ]at h;have:=of_decide_eq_false h
 lia
def xg{k x:Nat}(hk:k<N.n):N.inc k x=true↔(N.a k=x\/N.b k=x):=by
 have ne:=N.ne k hk;unfold Net.inc
 by_cases h1:N.a k=x
 ·have h2 : ¬ N.b k=x:=λz=>ne (h1.trans z.symm)
  simp[h1,h2]
 ·by_cases h2:N.b k=x
  ·simp[h1,h2]
  ·simp[h1,h2]
def Qw{k:Nat}(hk:k<N.n):cnt (N.inc k) N.p=2:=by
 have ne:=N.ne k hk;have e:cnt (N.inc k) N.p=cnt (λx=>decide (N.a k=x)^^decide (N.b k=x)) N.p:=rfl
 rw[e,BU λx _ ⟨h1,h2⟩=>ne ((ko h1).trans (ko h2).symm),BS,BS,aai (N.al k hk),aai (N.bl k hk)]
def M0(m:Nat):sm (λx=>N.dg m x) N.p=2*cnt (λk=>m.testBit k) N.n:=by
 have e:sm (λx=>N.dg m x) N.p=sm (λx=>sm (λk=>if(m.testBit k&&N.inc k x)=true then 1 else 0) N.n) N.p:=jx λx _=>kM _ _
 rw[e,IS,kM];have d:∀n,2*sm (λk=>if m.testBit k=true then 1 else 0) n=sm (λk=>(if m.testBit k=true then 1 else 0)+(if m.testBit k=true then 1 else 0)) n:=λn=>by
  rw[xX]
  lia
 rw[d];refine jx λk hk=>?_
 by_cases h:m.testBit k=true
 ·rw[aai h];have q:=Qw hk;rw[kM]at q;show _=2;exact(jx λx _=>by rw[h,abx]).trans q
 ·rw[aaf h];have h' : m.testBit k=false:=by simpa using h
  have:sm (λx=>if(m.testBit k&&N.inc k x)=true then 1 else 0) N.p=sm (λ_=>0) N.p:=jx λx _=>by rw[h'];rfl
  rw[this,w5]
def WK{q m:Nat}(h:∀k,q.testBit k=true->m.testBit k=true)(x:Nat):N.dg q x<=N.dg m x:=xY λk _ I=>by
 rw[abd]at I ⊢;exact⟨h k I.1,I.2⟩
def DH{m k x:Nat}(hk:k<N.n)(hb:m.testBit k=true)(hx:N.a k=x\/N.b k=x):0<N.dg m x:=r6 (k:=k) (by rw[hb,abx];exact(xg hk).mpr hx) hk
def BW{m x:Nat}(h:0<N.dg m x):∃k,k<N.n/\m.testBit k=true/\(N.a k=x\/N.b k=x):=by
 obtain⟨k,hk,q⟩:=rZ h;rw[abd]at q;exact⟨k,hk,q.1,(xg hk).mp q.2⟩
def alone{m x y:Nat}(h:N.dg m x=0)(c:N.nZ (λk=>m.testBit k) N.n x y):y=x:=by
 induction c with
 | refl=>rfl
 | fwd _ hj hs ih=>exact absurd (DH hj hs (.inl ih)) (by lia)
 | bwd _ hj hs ih=>exact absurd (DH hj hs (.inr ih)) (by lia)
def JX{S:Nat->Bool}{k u v:Nat}(hk:k<=N.n)(c:N.nZ S k u v):∃t,(∀j,t.testBit j=true->j<k/\S j=true)/\∀x,N.bd t x=(decide (u=x)^^decide (v=x)):=by
 induction c with
 | refl=>exact⟨0,λj hj=>by simp at hj,λx=>by rw[pP];simp⟩
 | fwd _ hj hs ih =>
   rename_i j _
   obtain⟨t,h1,h2⟩:=ih;refine⟨t^^^2^j,λi hi=>?_,λx=>?_⟩
   ·rw[aaB,aaQ]at hi
    by_cases e:j=i
    ·subst e;exact⟨hj,hs⟩
    ·rw[gj e,abD]at hi;exact h1 i hi
   ·rw[iL,h2,oF (by lia)]
    unfold Net.inc;cases decide (u=x)<;>cases decide (N.a j=x)<;>cases decide (N.b j=x)<;>rfl
 | bwd _ hj hs ih =>
   rename_i j _
   obtain⟨t,h1,h2⟩:=ih;refine⟨t^^^2^j,λi hi=>?_,λx=>?_⟩
   ·rw[aaB,aaQ]at hi
    by_cases e:j=i
    ·subst e;exact⟨hj,hs⟩
    ·rw[gj e,abD]at hi;exact h1 i hi
   ·rw[iL,h2,oF (by lia)]
    unfold Net.inc;cases decide (u=x)<;>cases decide (N.a j=x)<;>cases decide (N.b j=x)<;>rfl
def Net.Ring(N:Net)(m:Nat):Prop:=m≠0/\N.fJ m/\∀q,(∀k,q.testBit k=true->m.testBit k=true)->N.fJ q->q=0\/q=m
section
variable {m s:Nat}
def Qx(hm:m<2^N.n)(ev:N.fJ m)(C:Nat->Bool)(hC:∀x,x<N.p->C x=decide (N.aZ (λk=>m.testBit k) N.n x=s))(h2:2<=cnt C N.p)
 (tie:∀k,k<N.n->m.testBit k=true->C (N.a k)=true) (hl:cnt C N.p=cnt (λk=>m.testBit k) N.n):N.Ring m:=by
 have RS:∀k,k<N.n->m.testBit k=true->C (N.a k)=true/\C (N.b k)=true:=λk hk hb=>by
  have h:=tie k hk hb;refine⟨h,?_⟩;rw[hC _ (N.al k hk)]at h;rw[hC _ (N.bl k hk)];rw[mE (S:=λk=>m.testBit k) hk hb]at h
  exact h
 have pos:∀x,x<N.p->C x=true->0<N.dg m x:=λx hx hc=>by
  cases hz:N.dg m x with
  | succ d=>lia
  | zero =>
    exfalso
    obtain⟨y,hy,WL,ab⟩:∃y,y<N.p/\C y=true/\y≠x:=by
     obtain⟨c,d,h1,h3,Z,h5⟩:=r9 h2
     by_cases e:c=x
     ·exact⟨d,h3,h5,by lia⟩
     ·exact⟨c,by lia,Z,e⟩
    rw[hC x hx]at hc;rw[hC y hy]at WL;exact ab (alone hz (dw _ _ _ ((ko hc).trans (ko WL).symm)))
 have two:∀x,x<N.p->(if C x=true then 2 else 0)=N.dg m x:=by
  refine RP (λx hx=>?_) ?_
  ·by_cases hc:C x=true
   ·rw[aai hc];have h1:=pos x hx hc;have h3:=BV ev hx
    lia
   ·rw[aaf hc];exact aa3 _
  ·rw[M0,<-hl,kM];have d:∀n,2*sm (λk=>if C k=true then 1 else 0) n=sm (λk=>(if C k=true then 1 else 0)+(if C k=true then 1 else 0)) n:=λn=>by
    rw[xX]
    lia
   rw[d];exact jx λx _=>by split<;>rfl
 obtain⟨c0,ag,ar⟩:=rZ (f:=C) (n:=N.p) (by lia)
 refine⟨λz=>?_,ev,λq Y eq=>?_⟩
 ·have h:=pos c0 ag ar;obtain⟨k,_,hb,_⟩:=BW h;rw[z]at hb;simp at hb
 ·by_cases uq:q=0
  ·exact .inl uq
  ·right
   have full:∀x,x<N.p->0<N.dg q x->∀k,k<N.n->m.testBit k=true->(N.a k=x\/N.b k=x)->q.testBit k=true:=λx hx h k hk hb RT=>by
    have h1:=WK (N:=N) Y x;have h3:=BV eq hx;have Z:=two x hx;have h5:N.dg q x=N.dg m x:=by
     by_cases hc:C x=true
     ·rw[aai hc]at Z
      lia
     ·rw[aaf hc]at Z
      lia
    have h6:=DG (f:=λk=>q.testBit k&&N.inc k x) (g:=λk=>m.testBit k&&N.inc k x) (n:=N.n) (λk _ z=>by
     rw[abd]at z ⊢;exact⟨Y k z.1,z.2⟩) h5 k hk (by rw[hb,abx];exact(xg hk).mpr RT)
    rw[abd]at h6;exact h6.1
   obtain⟨U,I⟩:∃k,q.testBit k=true:=abL uq;have O:U<N.n:=dc hm (Y U I);have spread:∀{y},N.nZ (λk=>m.testBit k) N.n (N.a U) y->0<N.dg q y:=λ{y} c=>by
    induction c with
    | refl=>exact DH O I (.inl rfl)
    | fwd _ hj hs ih=>exact DH hj (full _ (N.al _ hj) ih _ hj hs (.inl rfl)) (.inr rfl)
    | bwd _ hj hs ih=>exact DH hj (full _ (N.bl _ hj) ih _ hj hs (.inr rfl)) (.inl rfl)
   refine abh λk=>?_
   cases hb:m.testBit k with
   | false =>
     cases hz:q.testBit k with
     | false=>rfl
     | true =>
       have:=Y k hz;rw[hb]at this;cases this
   | true =>
     have hk:=dc hm hb;have e1:=(RS k hk hb).1;have e2:=(RS U O (Y U I)).1;rw[hC _ (N.al k hk)]at e1;rw[hC _ (N.al U O)]at e2;exact full _ (N.al k hk) (spread (dw _ _ _ ((ko e2).trans (ko e1).symm))) k hk hb (.inl rfl)
def Gi(hm:m<2^N.n)(r:N.Ring m):∃k0,k0<N.n/\m.testBit k0=true/\∀k,k<N.n->m.testBit k=true->N.aZ (λk=>m.testBit k) N.n (N.a k)=N.aZ (λk=>m.testBit k) N.n (N.a k0):=by
 obtain⟨h0,ev,U⟩:=r;obtain⟨k0,hb0⟩:=abL h0;have I:=dc hm hb0;refine⟨k0,I,hb0,?_⟩;generalize hs:N.aZ (λk=>m.testBit k) N.n (N.a k0)=s
 have bit:∀k,(Ring.maskOf (λk=>m.testBit k&&decide (N.aZ (λk=>m.testBit k) N.n (N.a k)=s)) N.n).testBit k=(decide (k<N.n)&&(m.testBit k&&decide (N.aZ (λk=>m.testBit k) N.n (N.a k)=s))):=λk=>Ring.mask_bit _ k _
 have sub:∀k,(Ring.maskOf (λk=>m.testBit k&&decide (N.aZ (λk=>m.testBit k) N.n (N.a k)=s)) N.n).testBit k=true->m.testBit k=true:=λk hk=>by
  rw[bit,abd,abd]at hk;exact hk.2.1
 have O:N.fJ (Ring.maskOf (λk=>m.testBit k&&decide (N.aZ (λk=>m.testBit k) N.n (N.a k)=s)) N.n):=λx hx=>by
  have e:N.bd (Ring.maskOf (λk=>m.testBit k&&decide (N.aZ (λk=>m.testBit k) N.n (N.a k)=s)) N.n) x=(decide (N.aZ (λk=>m.testBit k) N.n x=s)&&N.bd m x):=by
   unfold Net.bd;rw[<-rT];refine bV λk hk=>?_
   rw[bit,dm hk,abx];cases hb:m.testBit k with
   | false=>simp
   | true =>
     cases hi:N.inc k x with
     | false=>simp
     | true =>
       have Y:N.aZ (λk=>m.testBit k) N.n (N.a k)=N.aZ (λk=>m.testBit k) N.n x:=by
        rcases(xg hk).mp hi with z|z
        ·rw[z]
        ·rw[<-z];exact mE (S:=λk=>m.testBit k) hk hb
       rw[Y];simp
  rw[e,ev x hx,acs]
 rcases U _ sub O with q|q
 ·have:=bit k0;rw[q,hb0,hs,dm I]at this;simp at this
 ·intro k hk hb;have h:=bit k;rw[q,hb,dm hk]at h;exact ko (by simpa using h.symm)
def AL(S:Nat->Bool):∀k,k<=N.n->cnt (N.root S k) N.p+cnt (λj=>S j && !decide (N.aZ S j (N.a j)=N.aZ S j (N.b j))) k=N.p
 | 0,_=>by
   show cnt (N.root S 0) N.p+0=N.p;rw[BP (f:=N.root S 0) λx _=>dm rfl]
   rfl
 | k+1,hk=>by
   have I:=AL S k (by lia)
   have st:=xR (N:=N) (S:=S) (k:=k) (by lia)
   show cnt (N.root S (k+1)) N.p+(cnt (λj=>S j && !decide (N.aZ S j (N.a j)=N.aZ S j (N.b j))) k+if(S k && !decide (N.aZ S k (N.a k)=N.aZ S k (N.b k)))=true then 1 else 0)=N.p
   lia
def M3(hm:m<2^N.n)(r:N.Ring m)(C:Nat->Bool)(hC:∀x,x<N.p->C x=decide (N.aZ (λk=>m.testBit k) N.n x=s))
 (tie:∀k,k<N.n->m.testBit k=true->C (N.a k)=true):2<=cnt C N.p/\cnt C N.p=cnt (λk=>m.testBit k) N.n/\∀x,x<N.p->C x=false->N.aZ (λk=>m.testBit k) N.n x=x/\∀y,N.aZ (λk=>m.testBit k) N.n y=x->y=x:=by
 obtain⟨h0,ev,mn⟩:=r;obtain⟨k0,hb0⟩:=abL h0;have I:=dc hm hb0;have U:∀k,k<N.n->m.testBit k=true->C (N.a k)=true/\C (N.b k)=true:=λk hk hb=>by
  have h:=tie k hk hb;refine⟨h,?_⟩;rw[hC _ (N.al k hk)]at h;rw[hC _ (N.bl k hk),<-mE (S:=λk=>m.testBit k) hk hb]
  exact h
 have h2:2<=cnt C N.p:=BR (U k0 I hb0).1 (U k0 I hb0).2 (N.ne k0 I) (N.al k0 I) (N.bl k0 I);have none:∀x,x<N.p->C x=false->N.dg m x=0:=λx hx hc=>by
  cases hz:N.dg m x with
  | zero=>rfl
  | succ d =>
    exfalso
    obtain⟨k,hk,hb,RT⟩:=BW (N:=N) (m:=m) (x:=x) (by lia)
    rcases RT with e|e
    ·have:=(U k hk hb).1;rw[e,hc]at this;cases this
    ·have:=(U k hk hb).2;rw[e,hc]at this;cases this
 have Qy:∀x,x<N.p->C x=false->N.aZ (λk=>m.testBit k) N.n x=x/\∀y,N.aZ (λk=>m.testBit k) N.n y=x->y=x:=λx hx hc=>by
  have hz:=none x hx hc;have r1:N.aZ (λk=>m.testBit k) N.n x=x:=alone hz (dw _ _ _ (fO _ _).symm)
  exact⟨r1,λy hy=>alone hz (dw _ _ _ (r1.trans hy.symm))⟩
 refine⟨h2,?_,Qy⟩;have pos:∀x,x<N.p->C x=true->0<N.dg m x:=λx hx hc=>by
  cases hz:N.dg m x with
  | succ d=>lia
  | zero =>
    exfalso
    obtain⟨y,hy,WL,ag⟩:∃y,y<N.p/\C y=true/\y≠x:=by
     obtain⟨c,d,h1,h3,h4,h5⟩:=r9 h2
     by_cases e:c=x
     ·exact⟨d,h3,h5,by lia⟩
     ·exact⟨c,by lia,h4,e⟩
    rw[hC x hx]at hc;rw[hC y hy]at WL;exact ag (alone hz (dw _ _ _ ((ko hc).trans (ko WL).symm)))
 have ge:cnt C N.p<=cnt (λk=>m.testBit k) N.n:=by
  have h:sm (λx=>if C x=true then 2 else 0) N.p<=sm (λx=>N.dg m x) N.p:=IT λx hx=>by
   by_cases hc:C x=true
   ·rw[aai hc];have h1:=pos x hx hc;have h3:=BV ev hx
    lia
   ·rw[aaf hc];exact aa3 _
  rw[M0]at h;have d:sm (λx=>if C x=true then 2 else 0) N.p=2*cnt C N.p:=by
   rw[kM];have d:∀n,2*sm (λk=>if C k=true then 1 else 0) n=sm (λk=>(if C k=true then 1 else 0)+(if C k=true then 1 else 0)) n:=λn=>by
    rw[xX]
    lia
   rw[d];exact jx λx _=>by split<;>rfl
  lia
 refine Nat.le_antisymm ge (Nat.le_of_not_lt λmore=>?_)
 have ax:=AL (N:=N) (λk=>m.testBit k) N.n (aam _)
 have hr:cnt (N.root (λk=>m.testBit k) N.n) N.p+cnt C N.p=N.p+1:=by
  have Y:=(U k0 I hb0).1;rw[hC _ (N.al k0 I)]at Y;have hs:=ko Y;have Av:s<N.p:=by rw[<-hs];exact rW (N.al k0 I)
  have Z:N.aZ (λk=>m.testBit k) N.n s=s:=by rw[<-hs];exact fO _ _
  have e:cnt (N.root (λk=>m.testBit k) N.n) N.p=cnt (λx=>!C x^^decide (s=x)) N.p:=mG λx hx=>by
   unfold Net.root;cases hc:C x with
   | false =>
     have ne : ¬ s=x:=λz=>by
      have:=hC x hx;rw[hc,<-z,Z]at this;simp at this
     rw[dm (Qy x hx hc).1,gj ne];rfl
   | true =>
     have h:=hC x hx;rw[hc]at h;have h:=ko h.symm;rw[h];simp
  rw[e,BU λx hx ⟨z1,O⟩=>by
   have O:=ko O;have:=hC x hx;rw[<-O,Z]at this;rw[<-O,this]at z1;simp at z1,BS,aai Av]
  have:=BO C N.p
  lia
 have split:cnt (λk=>m.testBit k) N.n=cnt (λj=>m.testBit j && !decide (N.aZ (λk=>m.testBit k) j (N.a j)=N.aZ (λk=>m.testBit k) j (N.b j))) N.n+cnt (λj=>m.testBit j&&decide (N.aZ (λk=>m.testBit k) j (N.a j)=N.aZ (λk=>m.testBit k) j (N.b j))) N.n:=by
  rw[<-BU λx _ ⟨z1,O⟩=>by
   rw[abd]at z1 O;have:=z1.2;rw[O.2]at this;cases this]
  refine mG λk _=>?_
  cases m.testBit k<;>cases decide (N.aZ (λk=>m.testBit k) k (N.a k)=N.aZ (λk=>m.testBit k) k (N.b k))<;>rfl
 obtain⟨c,d,aT,hd,ar,ab⟩:=r9 (f:=λj=>m.testBit j&&decide (N.aZ (λk=>m.testBit k) j (N.a j)=N.aZ (λk=>m.testBit k) j (N.b j))) (n:=N.n) (by lia)
 have whole:∀j,j<N.n->(m.testBit j&&decide (N.aZ (λk=>m.testBit k) j (N.a j)=N.aZ (λk=>m.testBit k) j (N.b j)))=true->∀i,m.testBit i=true->i<=j:=λj hj h i hi=>by
  rw[abd]at h;obtain⟨t,t1,t2⟩:=JX (abq hj) (dw _ _ _ (ko h.2));have own:(t^^^2^j).testBit j=true:=by
   rw[aaB,aaQ,dm rfl];cases hz:t.testBit j with
   | false=>rfl
   | true=>exact absurd (t1 j hz).1 (abN _)
  have sub:∀k,(t^^^2^j).testBit k=true->m.testBit k=true:=λk hk=>by
   rw[aaB,aaQ]at hk
   by_cases e:j=k
   ·subst e;exact h.1
   ·rw[gj e,abD]at hk;exact(t1 k hk).2
  have aw:N.fJ (t^^^2^j):=λx hx=>by
   rw[iL,t2,oF hj];unfold Net.inc;cases decide (N.a j=x)<;>cases decide (N.b j=x)<;>rfl
  rcases mn _ sub aw with q|q
  ·rw[q]at own;simp at own
  ·rw[<-q,aaB,aaQ]at hi
   by_cases e:j=i
   ·lia
   ·rw[gj e,abD]at hi;exact abq (t1 i hi).1
 have h1:m.testBit d=true:=by
  rw[abd]at ab;exact ab.1
 have:=whole c (by lia) ar d h1
 lia
end
end RM
namespace Ring
open PySem L2
def fh(L:Nat->Nat)(p:Nat):List Nat:=(fP L p).filter λs=>decide (1<(pieceOf L p s).length)
def TV(L:Nat->Nat)(p k:Nat):List Nat->Bool
 | [s]=>decide ((pieceOf L p s).length=k)
 | _=>false
def vL(p:Nat)(ts:List bZ)(g:aA p ts)(m:Nat):Bool:=decide (xK p ts (m:Int)=[])&&TV (bY p ts g m) p (bz (m:Int)).length (fh (bY p ts g m) p)
def ku(L:Nat->Nat)(p s:Nat):(pieceOf L p s).length=RM.cnt (λx=>decide (L x=s)) p:=RM.mH _ _
def xZ{m n:Nat}(hm:m<2^n):(bz (m:Int)).length=RM.cnt (λk=>m.testBit k) n:=by
 rw[ju hm];exact RM.mH _ _
def JY{f:Nat->Bool}{n c:Nat}(hc:c<n)(h:∀k,k<n->f k=decide (k=c)):(List.range n).filter f=[c]:=by
 rw[<-qC hc];exact adn λk hk=>h k (aaI.mp hk)
def JZ{p:Nat}{ts:List bZ}(g:aA p ts){m:Nat}(hm:m<2^ts.length):vL p ts g m=true↔g.N.Ring m:=by
 have Y:bY p ts g m=g.N.aZ (λk=>m.testBit k) g.N.n:=rfl
 have ep:g.N.p=p:=rfl
 constructor
 ·intro h;unfold vL at h;rw[abd]at h;obtain⟨h1,h2⟩:=h;have ev:=(DE g hm).mp (ko h1);unfold TV at h2
  split at h2
  ·rename_i s hs
   have h2:=ko h2;have I:s∈fh (bY p ts g m) p:=by rw[hs];exact aaW.mpr rfl
   unfold fh at I;have hlen:=ko (aaX.mp I).2;refine RM.Qx (s:=s) hm ev (λx=>decide (bY p ts g m x=s)) (λx _=>by rw[Y]) ?_ (λk hk hb=>?_) ?_
   ·rw[ep,<-ku];exact hlen
   ·
    have U:=g.N.al k hk;have Z:=g.N.bl k hk;have e:bY p ts g m (g.N.b k)=bY p ts g m (g.N.a k):=(RM.mE (S:=λk=>m.testBit k) hk hb).symm
    have hr:bY p ts g m (bY p ts g m (g.N.a k))=bY p ts g m (g.N.a k):=RM.fO _ _;have ab:bY p ts g m (g.N.a k)<p:=RM.rW U;have ht:bY p ts g m (g.N.a k)∈fh (bY p ts g m) p:=by
     unfold fh fP;refine aaX.mpr ⟨aaX.mpr ⟨aaI.mpr ab,dm hr⟩,dm ?_⟩;rw[ku];exact RM.BR (u:=g.N.a k) (v:=g.N.b k) (dm rfl) (dm e) (g.N.ne k hk) U Z
    rw[hs]at ht;exact dm (aaW.mp ht)
   ·rw[ep,<-ku,h2];exact xZ hm
  ·cases h2
 ·intro r;obtain⟨k0,ag,aw,O⟩:=RM.Gi hm r;generalize hs:g.N.aZ (λk=>m.testBit k) g.N.n (g.N.a k0)=s at O
  obtain⟨h2,hl,Qy⟩:=RM.M3 (s:=s) hm r (λx=>decide (bY p ts g m x=s)) (λx _=>by rw[Y]) (λk hk hb=>dm (O k hk hb))
  have Av:s<p:=by rw[<-hs];exact RM.rW (g.N.al k0 ag)
  have ar:bY p ts g m s=s:=by rw[Y,<-hs];exact RM.fO _ _
  have ht:fh (bY p ts g m) p=[s]:=by
   unfold fh fP;rw[List.filter_filter];refine JY Av λx hx=>?_
   by_cases e:x=s
   ·subst e;rw[dm ar,ku,dm rfl,acM];exact dm h2
   ·rw[gj e]
    by_cases RT:bY p ts g m x=x
    ·have hc:decide (bY p ts g m x=s)=false:=gj (by rw[RT];exact e)
     obtain⟨_,q⟩:=Qy x hx hc;have : ¬ 1<(pieceOf (bY p ts g m) p x).length:=λz=>by
      rw[ku]at z;obtain⟨c,d,h1,_,h3,h4⟩:=RM.r9 z;have h3:=q c (ko h3);have h4:=q d (ko h4)
      lia
     rw[gj this,adg]
    ·rw[gj RT,acs]
  unfold vL;rw[dm ((DE g hm).mpr r.2.1),ht,abx];refine dm ?_;rw[ku,xZ hm];exact hl
def Gj{p:Nat}{ts:List bZ}{g:aA p ts}{m:Nat}(ev:xK p ts (m:Int)=[]):vL p ts g m=TV (bY p ts g m) p (bz (m:Int)).length (fh (bY p ts g m) p):=by
 unfold vL;rw[dm ev,abx]
def IU:∀l I : List Nat,PyData.eqvAll (l.map qR) (I.map qR)=decide (l=I)
 | [],[]=>rfl
 | [],_::_=>rfl
 | _::_,[]=>rfl
 | x::l,y::I=>by
   show(((x:Int)==(y:Int))&&PyData.eqvAll (l.map qR) (I.map qR))=decide (x::l=y::I);rw[IU l I,abw];simp
   lia
def AM(l l' : List Nat):PyData.eqv (.list (l.map qR)) (.list (l'.map qR))=decide (l=l'):=IU l l'
def TX(H:Hp)(y:V)(l:List Nat):Prop:=∃b,y = .ref b/\H b=some (.lst (aD l))
def x6(f:List Nat->Bool)(ls:List (List Nat))(H:Hp)(D:Addr)(i:Nat)(acc:List V)(H2:Hp):Prop:=aq H H2/\H2 D=some (.lst acc)/\Paired (TX H) acc ((ls.take i).filter f)
section
variable {f:List Nat->Bool}{ls:List (List Nat)}{H H2 H3:Hp}{D:Addr}{i:Nat}{acc:List V}{y:V}{l:List Nat}
def x6.start(hD:H D=none):x6 f ls H D 0 [] (upd H D (.lst [])):=⟨aq.new hD,ae,.nil⟩
def x6.len(h:x6 f ls H D i acc H2):H2 D=some (.lst acc)/\acc.length<=i:=⟨h.2.1,by
 rw[h.2.2.length];exact aa0 (abc _ _) (by rw[abk];lia)⟩
def x6.yes(h:x6 f ls H D i acc H2)(hD:H D=none)(hl:ls[i]?=some l)(hf:f l=true)(hy:TX H y l):H2 D=some (.lst acc)/\x6 f ls H D (i+1) (acc++[y]) (upd H2 D (.lst (acc++[y]))):=by
 refine⟨h.2.1,h.1.put hD,ae,?_⟩;rw[aa1,hl,abY];show Paired _ _ (_++List.filter f [l]);rw[aa2,aai hf];exact Paired.snoc h.2.2 hy
def x6.no(h:x6 f ls H D i acc H2)(hl:ls[i]?=some l)(hf:f l=false):x6 f ls H D (i+1) acc H2:=by
 refine⟨h.1,h.2.1,?_⟩;rw[aa1,hl,abY];show Paired _ _ (_++List.filter f [l]);rw[aa2,aaf (by rw[hf];exact aav)]
 simpa using h.2.2
end
end Ring
namespace L2
open PySem PySem.Spec PyProof.Rows
section
variable {prog:Program}{w:World}{A:Around}{E:dR}{s:Shared}
def Gk{it t:Addr}{i:Nat}{items:Array Value}{x:Value}{Q:dR}(hit:s.heap.IsTupleIter it t i)(ht:s.heap.IsTuple t items)(hx:items[i]?=some x)
 (q:∀h',h'.IsTupleIter it t (i+1)->Heap.SameBut it s.heap h'->Q x { s with heap:=h'}):wpAny (model prog w) A (Builtin.SmallTypes.nextOf (.ref it)) Q E s:=by
 obtain⟨o,I,hc,hd⟩:=id hit;obtain⟨ot,hot,_,nt,hdt⟩:=ht;rw[Builtin.SmallTypes.nextOf];refine aV (wpAny_callSpecial?_slot (name:=Str.ofString "__next__") hit.typeIs F.slot_tuple_iterator_next (wpAny_call_entry F.slot_tuple_iterator_next hit.typeIs F.entry_tuple_iterator_next ?_ (F.args_tuple_iterator_next_1 _)));show wpAny _ _ (field (.ref it) 0 >>= λ_=>_) _ _ s
 refine aV (wpAny_field I hd (x:=.ref t) rfl ?_);show wpAny _ _ (if(Value.ref t==Value.none)=true then _ else _) _ _ s
 rw[aaf (by simp)]
 show wpAny _ _ (field (.ref it) 1 >>= λ_=>_) _ _ s
 refine aV (wpAny_field I hd (x:=.int i 0) rfl ?_);show wpAny _ _ (seqItems? (.ref t) >>= λ_=>_) _ _ s
 refine aV (wpAny_seqItems hot hdt ?_);simp only[aaE,hx];refine aV (wpAny_setField I hd (by simp) (aaq ⟨x,rfl,aaq (q _ ?_ (abp ..))⟩))
 refine⟨_,acg _ I (acW (acN hd _)),(Obj.cls_mapFields ..).trans hc,?_⟩;rw[acN hd];simp[rawInt]
def J0{it t:Addr}{i:Nat}{items:Array Value}{Q:dR}(hh:A.handled=none)(hit:s.heap.IsTupleIter it t i)(ht:s.heap.IsTuple t items)(hx:items[i]?=none)
 (q:∀h' e,Heap.ExtBut it s.heap h'->(∃o,h'.get? e=some o/\o.cls = .type "StopIteration")->E (.ref e) { s with heap:=h'}):wpAny (model prog w) A (Builtin.SmallTypes.nextOf (.ref it)) Q E s:=by
 obtain⟨o,I,hc,hd⟩:=id hit;obtain⟨ot,hot,_,nt,hdt⟩:=ht;rw[Builtin.SmallTypes.nextOf];refine aV (wpAny_callSpecial?_slot (name:=Str.ofString "__next__") hit.typeIs F.slot_tuple_iterator_next (wpAny_call_entry F.slot_tuple_iterator_next hit.typeIs F.entry_tuple_iterator_next ?_ (F.args_tuple_iterator_next_1 _)));show wpAny _ _ (field (.ref it) 0 >>= λ_=>_) _ _ s
 refine aV (wpAny_field I hd (x:=.ref t) rfl ?_);show wpAny _ _ (if(Value.ref t==Value.none)=true then _ else _) _ _ s
 rw[aaf (by simp)]
 show wpAny _ _ (field (.ref it) 1 >>= λ_=>_) _ _ s
 refine aV (wpAny_field I hd (x:=.int i 0) rfl ?_);show wpAny _ _ (seqItems? (.ref t) >>= λ_=>_) _ _ s
 refine aV (wpAny_seqItems hot hdt ?_);simp only[aaE,hx];refine aV (wpAny_rule (aV (wpAny_setField I hd (by simp) ?_)))
 show wpAny _ _ (newExc (.type "StopIteration") [] >>= λ_=>_) _ _ _
 refine aV ?_;simp only[newExc,newTuple];refine aV (wpAny_newObj_type ?_ (by size_fits))
 refine aV (m:=firstArgMember _ _) (wpAny_of_eq (a:=Value.none) (by first | rfl | (simp only[firstArgMember];rfl)) (wpAny_newObj_type ?_ (by size_fits)))
 exact wpAny_raiseNew_none hh (q _ _ (((abp ..).extBut.push _).push _) ⟨_,aaN _ rfl,rfl⟩)
def vM(hh:A.handled=none)(it t:Addr)(hne:t≠it)(items:Array Value):
 Draws prog w A it [it,t] items.size (λi v=>items[i]?=some v) (λi h=>h.IsTupleIter it t i/\h.IsTuple t items) where
 live:=λ_ _ st=>let⟨o,ho,_⟩:=st.1;⟨o,ho⟩
 frame:=λ_ _ _ st hk=>⟨st.1.at λo e=>hk it (by simp) o e,st.2.at λo e=>hk t (by simp) o e⟩
 item:=λi s Q E hi st O=>Gk st.1 st.2 (x:=items[i]) (by simp[hi]) λh' I hs'=>O _ h' s.toks (by simp[hi]) ⟨I,st.2.extBut hs'.extBut hne⟩ hs'
 done:=λs Q E st U=>J0 hh st.1 st.2 (by simp) U
end
open AutoSeq1 (wpAny_loadPart') in
def ur(l:Addr)(items:Array Value)(n:Nat)(dct:Option Addr)(sl:Array (Option Value)):
 Meets (Builtin.«enumerate.__new__» ⟨[.type "enumerate",.ref l],[]⟩) (λ_ R s=>s.heap.get? l=some { cls:=.type "tuple",dict:=dct,data:=.seq items n,slots:=sl}/\
  R (.ok (.ret (.ref (s.heap.push { cls:=.type "tuple_iterator",data:=.fields #[.ref l,.int 0 0]}).objs.size)))
    { s with heap:=(s.heap.push { cls:=.type "tuple_iterator",data:=.fields #[.ref l,.int 0 0]}).push { cls:=.type "enumerate",data:=.fields #[.none,.bool false,.ref s.heap.objs.size,rawInt 0,.none,.none]}}) :=
 .of_wp λprog w A R s h=>by
  obtain⟨U,g,d,tk,os⟩:=s;obtain⟨hl,h⟩:=h;have O:=sub_enumerate;have I:Heap.IsTuple (Shared.heap ⟨U,g,d,tk,os⟩) l items:=⟨_,hl,rfl,n,rfl⟩
  wp_walk using wpAny_loadPart' hl
  refine wpAny_stack_any λst=>aaq ?_
  split
  ·rename_i c _ _ _ _ _
   cases(c==Value.type "enumerate")
   ·wp_walk using wpAny_loadPart' hl,wpAny_pyIter_tuple I
    exact⟨_,rfl,h⟩
   ·wp_walk using wpAny_loadPart' hl,wpAny_pyIter_tuple I
    exact⟨_,rfl,h⟩
  ·wp_walk using wpAny_loadPart' hl,wpAny_pyIter_tuple I
   exact⟨_,rfl,h⟩
section
variable {prog:Program}{w:World}{A:Around}{E:dR}{s:Shared}
def Gm{l:Addr}{items:Array Value}{Q:dR}(hL:s.heap.IsTuple l items)
 (h:∀h',IsEnum h' (s.heap.objs.size+1) s.heap.objs.size 0 .none->h'.IsTupleIter s.heap.objs.size l 0->h'.objs.size=s.heap.objs.size+2->(∀b o,s.heap.get? b=some o->h'.get? b=some o)->Q (.ref (s.heap.objs.size+1)) { s with heap:=h'}) :
 wpAny (model prog w) A (call (.type "enumerate") [.ref l]) Q E s:=by
 obtain⟨⟨c,I,dt,sl⟩,O,hc,n,hd⟩:=hL
 replace hc:c = .type "tuple":=hc
 replace hd:dt = .seq items n:=hd
 subst hc hd;refine callType_new F.called_enumerate (by decide) (F.typeCall_enumerate_1 _) (F.newCall_enumerate_1 _) (λobj=>F.args_object_init_2 obj _) F.entry_enumerate_new (ur l items n I sl) ⟨O,?_⟩
 have hz:(s.heap.push { cls:=.type "tuple_iterator",data:=.fields #[.ref l,.int 0 0]}).objs.size=s.heap.objs.size+1:=adh ..;show _/\_;rw[hz];have he:IsEnum ((s.heap.push { cls:=.type "tuple_iterator",data:=.fields #[.ref l,.int 0 0]}).push { cls:=.type "enumerate",data:=.fields #[.none,.bool false,.ref s.heap.objs.size,rawInt 0,.none,.none]}) (s.heap.objs.size+1) s.heap.objs.size 0 .none:=by
  have z:=aaN (s.heap.push { cls:=.type "tuple_iterator",data:=.fields #[.ref l,.int 0 0]}) (o:={ cls:=.type "enumerate",data:=.fields #[.none,.bool false,.ref s.heap.objs.size,rawInt 0,.none,.none]}) rfl;rw[hz]at z;exact z
 exact⟨⟨_,he,rfl⟩,h _ he ⟨_,aao _ (aaN _ rfl),rfl,rfl⟩ (by rw[adh,hz]) λb o x=>aao _ (aao _ x)⟩
end
def J7(K:bJ)(a:Addr):It :=
 ⟨λi H=>∃xs x,aU K H a xs/\xs[i]?=some x,λi H v H'=>∃T x,v = .ref T/\H T=none/\H' = upd H T (.tup [.int (i:Int),x])/\∀xs,aU K H a xs->xs[i]?=some x,λi H=>∃xs,aU K H a xs/\xs.length=i⟩
def Gn{P:Program}{w:World}{K:bJ}{elts:List Expr}{k:Nat}{pos:Pos}(a e it:Addr)(hne:e≠it):
 Turn P w K (.Tuple elts k pos) (J7 K a) [e,it] e (λi h=>(∃old,IsEnum h e it (i:Int) old)/\h.IsTupleIter it a i) where
 mem:=by simp
 obj:=λi h st b hb=>by
  obtain⟨⟨old,he⟩,o,ho,c,d⟩:=st;have O : b=e\/b=it:=by simpa using hb
  rcases O with rfl|rfl
  ·exact⟨_,he,λv z=>by cases z⟩
  ·exact⟨o,ho,λv z=>by rw[d]at z;cases z⟩
 keep:=λi h h' st k=>by
  obtain⟨⟨old,he⟩,hit⟩:=st;exact⟨⟨old,k e (by simp) _ he⟩,hit.at λo x=>k it (by simp) o x⟩
 item:=by
  intro X hP hw hK hc i pq s σ H E I hf st hg;subst hP hw hK;obtain⟨xs,x,hq,hx⟩:=hg;obtain⟨its,rv,p,hz⟩:=I.tuple hq;obtain⟨u,hu,ru⟩:=rv.get hx;obtain⟨⟨old,he⟩,hit⟩:=st;have Z:s.heap.IsTuple a its.toArray:=p;have U:a≠it:=λz=>by
   obtain⟨o1,h1,_,_,d1⟩:=Z;obtain⟨o2,h2,_,d2⟩:=hit;rw[z,h2]at h1;cases h1;rw[d2]at d1;cases d1
  have ab:e∉[it,a]:=λz=>by
   have z' : e=it\/e=a:=by simpa using z
   rcases z' with z' | z'
   ·exact hne z'
   ·obtain⟨o1,h1,_,_,d1⟩:=Z;rw[<-z',he]at h1;cases h1;cases d1
  refine wpAny_pyNext_enum_itemD (vM (A:=X.A.in1) (I.ok.hd hc) it a U its.toArray) he ⟨hit,Z⟩ (by have:=(jo.mp hu).1;simpa using this) hne ab λy h1 tk hy ho TJ hT aw hk=>?_
  have ag:y=u:=by
   have z:its.toArray[i]?=some u:=by simpa using hu
   rw[hy]at z;exact Option.some.inj z
  subst ag;refine⟨_,rfl,wpAny_letOwnedTupleGo_enum ho λh2 Vf Y=>?_⟩
  have WH:s.heap.objs.size≠e:=abX (aax he);have ar:h2.get? s.heap.objs.size=some { cls:=.type "tuple",data:=.seq #[.int i tk,y]}:=(Y.2 _ WH).trans hT;refine⟨.ref s.heap.objs.size,upd H s.heap.objs.size (.tup [.int (i:Int),x]),I.yields (wr:=[e,it]) (t':=tk+1) (λb o hb q=>?_) hf (aam _) ?_,rfl,⟨_,x,rfl,I.fresh,rfl,λys hy=>by rw[I.Am hy hq];exact hx⟩,⟨⟨y,by simpa using Vf⟩,?_⟩,λb hb=>?_⟩
  ·have MK:b≠e:=λz=>hb (by simp[z])
   have TL:b≠it:=λz=>hb (by simp[z])
   exact(Y.2 b MK).trans (hk b o MK TL q)
  ·exact⟨dl rfl,[.int i tk,y],.cons ⟨_,rfl⟩ (.cons ru .nil),⟨_,ar,rfl,_,rfl⟩⟩
  ·exact TJ.1.at λo q=>(Y.2 it (aa6 hne)).trans q
  ·rw[ah]
   ·exact(hf b hb).1
   ·have O : b=e\/b=it:=by simpa using hb
    rcases O with rfl|rfl
    ·exact aa6 WH
    ·obtain⟨o,q,_⟩:=hit;exact aaP (aax q)
 done:=by
  intro X hP hw hK hc i pq s σ H E I hf st hg;subst hP hw hK;obtain⟨xs,hq,hx⟩:=hg;obtain⟨its,rv,p,hz⟩:=I.tuple hq;obtain⟨⟨old,he⟩,hit⟩:=st;have Z:s.heap.IsTuple a its.toArray:=p;have U:a≠it:=λz=>by
   obtain⟨o1,h1,_,_,d1⟩:=Z;obtain⟨o2,h2,_,d2⟩:=hit;rw[z,h2]at h1;cases h1;rw[d2]at d1;cases d1
  obtain⟨f0,f1,f2,f3,f4,f5⟩:=hf it (by simp)
  have hl:=rv.length;have hi:i=its.toArray.size:=by rw[aaG];lia
  subst hi;exact wpAny_pyNext_enum_endD (vM (A:=X.A.in1) (I.ok.hd hc) it a U its.toArray) he ⟨hit,Z⟩ λh' eb=>⟨rfl,I.turned (t':=s.toks) (λb o hb e=>eb b o hb e) f0 f1 f3 f4 f5⟩
 self:=λ_ _ _ _ _ st h=>by
  obtain⟨⟨old,he⟩,_⟩:=st;exact wpAny_pyIter_enum he h
section
variable {X:Cx}{elts:List Expr}{n:Nat}{tp:Pos}
def TY(K:bJ)(ta:TA):TI:=λσ H R=>ta σ H λvs H1=>∃a,vs=[.ref a]/\(∃xs,aU K H1 a xs)/\R (J7 K a) H1
def x8(K:bJ){a:Expr}{ta:TA}{p pos:Pos}(hg:Gl X "enumerate")(hm:X.mg "enumerate"=none)(ha:PA X [a] ta)(hs:starEach [a] X.env=[(false,eval a X.env)]:=by rfl)(hK:X.K=K:=by rfl):
 PI X (.Tuple elts n tp) (.Call (.Name "enumerate" p) [a] [] pos) (TY K ta):=by
 subst hK;intro pq s σ H R I h;refine Call_ (om I hg hm boot_enumerate (ab4 (dh (ha pos pq s σ H _ I h) λus s1 ⟨vs,H1,O,r1,q1⟩=>?_) hs rfl))
 obtain⟨a,e,⟨xs,hq⟩,q⟩:=q1;subst e;cases r1 with
 | cons r rr =>
   cases rr;cases r;obtain⟨U,rv,pl,hz⟩:=O.tuple hq;refine Gm (show s1.heap.IsTuple a U.toArray from pl) λh' he hit ab hk=>?_
   have I2:Inv X pq σ H1 { s1 with heap:=h'}:=O.kept (t':=s1.toks) hk
   refine wpAny_pyIter_enum he ⟨_,[s1.heap.objs.size+1,s1.heap.objs.size],_,_,H1,rfl,I2,Gn a _ _ (adw _),⟨⟨_,he⟩,hit⟩,λb hb=>?_,q⟩
   have Y : b=s1.heap.objs.size+1\/b=s1.heap.objs.size:=by simpa using hb
   have Z:s1.heap.objs.size<=b:=by
    rcases Y with rfl|rfl
    ·exact abO _
    ·exact aam _
   exact O.Fz Z (O.hok.fresh Z)
end
section
variable {K:bJ}{a:Addr}{xs:List V}{g:TG}{tt:TT}{te:TE}{n:Nat}{fr:St}{D:Addr}{Q:Hp->Prop}{H1:Hp}
def Gp(Pv:Nat->List V->Hp->Prop)(h0:Pv 0 [] H1)(hl:∀i acc H,i<=xs.length->Pv i acc H->aU K H a xs/\H D=some (.lst acc)/\acc.length<=i)(hz:xs.length<=sizeLine)
 (hs:∀i x T acc H,xs[i]?=some x->Pv i acc H->H T=none->g (.ref T) (List.replicate n none++fr) (upd H T (.tup [.int (i:Int),x])) λσ2 H2=>σ2.drop n=fr/\tt σ2 H2 λb H3 =>
  if b=true then te σ2 H3 λv H4=>H4 D=some (.lst acc)/\Pv (i+1) (acc++[v]) (upd H4 D (.lst (acc++[v]))) else Pv (i+1) acc H3)
 (hd:∀acc H,Pv xs.length acc H->Q H):jt (J7 K a) g tt te n fr D Q H1:=by
 refine⟨λi m acc H=>m=xs.length-i/\i<=xs.length/\Pv i acc H,⟨xs.length,by simp,aa3 _,h0⟩,?_⟩
 rintro i m acc H ⟨rfl,hi,p⟩;obtain⟨q,U,ha⟩:=hl i acc H hi p;refine⟨U,?_⟩
 by_cases I:i<xs.length
 ·refine .inr ⟨⟨xs,xs[i],q,by simp[I]⟩,by lia,Pv (i+1),λO H' Y=>⟨xs.length-(i+1),by lia,rfl,I,Y⟩,λv H' y=>?_⟩
  obtain⟨T,x,rfl,Z,rfl,y⟩:=y;exact hs i x T acc _ (y xs q) p Z
 ·have e:i=xs.length:=by lia
  subst e;exact .inl ⟨⟨xs,q,rfl⟩,hd acc H p⟩
end
end L2
namespace RM
variable {N:Net}
def Net.cut(N:Net)(C:Nat->Bool):Nat:=Ring.maskOf (λk=>C (N.a k)^^C (N.b k)) N.n
def Net.par(N:Net)(q m:Nat):Bool:=bU (λk=>q.testBit k&&m.testBit k) N.n
def pU(q r m:Nat):N.par (q^^^r) m=(N.par q m^^N.par r m):=by
 unfold Net.par;rw[<-kK];refine bV λk _=>?_
 rw[aaB];cases q.testBit k<;>cases r.testBit k<;>cases m.testBit k<;>rfl
def mJ(m:Nat):N.par 0 m=false:=kq λk _=>by simp
def IV{k:Nat}(h:k<N.n)(m:Nat):N.par (2^k) m=m.testBit k:=by
 unfold Net.par;rw[rV h λj _ hj=>by simp[aaQ,aa6 hj]]
 simp[aaQ]
def BX(C:Nat->Bool)(k:Nat):(N.cut C).testBit k=(decide (k<N.n)&&(C (N.a k)^^C (N.b k))):=Ring.mask_bit _ k _
def TZ(C:Nat->Bool):N.cut C<2^N.n:=Ring.mask_lt _ _
def J8{C D:Nat->Bool}(h:∀x,x<N.p->C x=D x):N.cut C=N.cut D:=by
 refine abh λk=>?_
 rw[BX,BX]
 by_cases hk:k<N.n
 ·rw[h _ (N.al k hk),h _ (N.bl k hk)]
 ·rw[gj hk];rfl
def DI{k:Nat}(hk:k<N.n)(hf:N.oG k=true):N.ring k=0:=iq (λj hj=>by
 rcases oH hj with e|e
 ·subst e;exact⟨hk,hf⟩
 ·exact e) (pQ hk)
def J9{m:Nat}(k:Nat):(m^^^N.cut λx=>N.par (N.trail N.n x) m).testBit k=if k<N.n then N.par (N.ring k) m else m.testBit k:=by
 rw[aaB,BX]
 by_cases hk:k<N.n
 ·rw[aai hk,dm hk,abx];unfold Net.ring;rw[pU,pU,IV hk];cases m.testBit k<;>cases N.par (N.trail N.n (N.a k)) m<;>cases N.par (N.trail N.n (N.b k)) m<;>rfl
 ·rw[aaf hk,gj hk];simp
def DJ{m k:Nat}(hm:m<2^N.n)(h:(m^^^N.cut λx=>N.par (N.trail N.n x) m).testBit k=true):k<N.n/\N.oG k=false/\N.par (N.ring k) m=true:=by
 rw[J9]at h
 by_cases hk:k<N.n
 ·rw[aai hk]at h;refine⟨hk,?_,h⟩;cases hf:N.oG k with
  | false=>rfl
  | true =>
    rw[DI hk hf,mJ]at h;cases h
 ·rw[aaf hk]at h;exact absurd (dc hm h) hk
end RM
namespace Ring
def orM(ks:List Nat):Nat:=ks.foldl (λm k=>m ||| 2^k) 0
def M4(ks:List Nat)(j:Nat):∀m,(ks.foldl (λm k=>m ||| 2^k) m).testBit j=(m.testBit j || decide (j∈ks)):=by
 induction ks with
 | nil=>intro m;simp
 | cons k r I =>
   intro m;rw[acA,I,Nat.testBit_or,aaQ]
   by_cases h:k=j
   ·subst h;simp
   ·have h' : ¬ j=k:=λz=>h z.symm
    simp[h,h']
def j6(ks:List Nat)(j:Nat):(orM ks).testBit j=decide (j∈ks):=by
 unfold orM;rw[M4];simp
def DK(ks:List Nat){t:Nat}(h:t∉ks):orM (ks++[t])=orM ks^^^2^t:=abh λj=>by
 rw[aaB,j6,j6,aaQ]
 by_cases e:t=j
 ·subst e;simp[h]
 ·have e' : ¬ j=t:=λz=>e z.symm
  simp[e,e']
def Gq(f:Nat->Bool)(n:Nat):orM ((List.range n).filter f)=maskOf f n:=abh λj=>by
 rw[j6,mask_bit,abw];simp
def T3{ks:List Nat}{n:Nat}(h:∀k∈ks,k<n):orM ks<2^n:=RM.c6 λk hk=>by
 rw[j6]at hk;exact h k (ko hk)
end Ring
namespace RM
variable {N:Net}
inductive Net.Walk(N:Net):List Nat->Nat->List Nat->Prop
 | one {v:Nat}:Net.Walk N [] v []
 | snoc {pre ks:List Nat} {v w t:Nat} (h:Net.Walk N pre v ks) (ht:t<N.n) (hn:t∉ks) (j:(N.a t=v/\N.b t=w)\/(N.b t=v/\N.a t=w)):Net.Walk N (pre++[v]) w (ks++[t])
def Net.Walk.len{pre ks:List Nat}{v:Nat}(h:N.Walk pre v ks):pre.length=ks.length:=by
 induction h with
 | one=>rfl
 | snoc _ _ _ _ ih=>rw[aaz,aaz,ih];rfl
def Net.Walk.lt{pre ks:List Nat}{v:Nat}(h:N.Walk pre v ks):∀t∈ks,t<N.n:=by
 induction h with
 | one=>exact λt ht=>nomatch ht
 | snoc _ ht _ _ ih =>
   intro s hs;rcases aa9.mp hs with q|q
   ·exact ih s q
   ·have e:=aaW.mp q;rw[e];exact ht
def Net.Walk.bd{pre ks:List Nat}{v:Nat}(h:N.Walk pre v ks):∀i u,(pre++[v])[i]?=some u->∀x,N.bd (Ring.orM (ks.drop i)) x=(decide (u=x)^^decide (v=x)):=by
 induction h with
 | one =>
   rename_i v
   intro i u I x
   match i,I with
   | 0,I =>
     have e:v=u:=Option.some.inj I;subst e;show N.bd 0 x=_;rw[pP];simp
   | i+1,I=>simp at I
 | snoc hw ht hn j ih =>
   rename_i pre ks v w t
   intro i u I x;have hl:=hw.len
   by_cases hi:i<(pre++[v]).length
   ·rw[aba hi]at I;have U : i<=ks.length:=by rw[aaz]at hi;simp at hi;lia
    rw[List.drop_append_of_le_length U,Ring.DK _ (λz=>hn (adM z)),iL,ih i u I x,oF ht]
    have e:N.inc t x=(decide (v=x)^^decide (w=x)):=by
     unfold Net.inc;rcases j with⟨Y,Z⟩|⟨Y,Z⟩
     ·rw[Y,Z]
     ·rw[Y,Z];exact Bool.xor_comm _ _
    rw[e];cases decide (u=x)<;>cases decide (v=x)<;>cases decide (w=x)<;>rfl
   ·have O:i=(pre++[v]).length:=by
     have:=(jo.mp I).1;rw[aaz]at this;simp at this hi ⊢
     lia
    rw[O,abf (aam _),acX]at I;have e:w=u:=Option.some.inj I;subst e;have:(ks++[t]).drop i=[]:=List.drop_eq_nil_of_le (by rw[O,aaz,aaz];simp;lia)
    rw[this];show N.bd 0 x=_;rw[pP];simp
structure Way(N:Net)(iD:Nat)(pre:List Nat)(v:Nat)(ks:List Nat)(left:Nat):Prop where
 w:N.Walk pre v ks
 lt:iD<2^N.n
 ev:N.fJ iD
 sub:∀t∈ks,iD.testBit t=true
 BY:left=iD^^^Ring.orM ks
 nd:pre.Nodup
 inp:∀x∈pre++[v],x<N.p
 st:pre=[]->∃t,t<N.n/\iD.testBit t=true/\N.a t=v
section
variable {iD left v:Nat}{pre ks:List Nat}
def Way.start{t:Nat}(lt:iD<2^N.n)(ev:N.fJ iD)(hb:iD.testBit t=true):Way N iD [] (N.a t) [] iD:=by
 have ht:=dc lt hb;refine⟨.one,lt,ev,(λ_ z=>nomatch z),?_,List.Pairwise.nil,λx hx=>?_,λ_=>⟨t,ht,hb,rfl⟩⟩
 ·show iD=iD^^^0;simp
 ·have e:x=N.a t:=by simpa using hx
  rw[e];exact N.al t ht
def Way.se(h:Way N iD pre v ks left)(t:Nat):left.testBit t=(iD.testBit t && !decide (t∈ks)):=by
 rw[h.BY,aaB,Ring.j6]
 by_cases hm:t∈ks
 ·rw[h.sub t hm,dm hm];rfl
 ·rw[gj hm];simp
def Way.Qz(h:Way N iD pre v ks left):left<2^N.n:=c6 λk hk=>by
 rw[h.se,abd]at hk;exact dc h.lt hk.1
def Way.on(h:Way N iD pre v ks left)(hv:v∉pre):∃t,left.testBit t=true/\(N.a t=v\/N.b t=v):=by
 cases pre with
 | nil =>
   obtain⟨t,ht,hb,e⟩:=h.st rfl;have hk:ks=[]:=List.length_eq_zero_iff.mp (by rw[<-h.w.len];rfl)
   refine⟨t,?_,.inl e⟩;rw[h.se,hb,hk];simp
 | cons u r =>
   have hb:=h.w.bd 0 u rfl v;rw[List.drop_zero]at hb;have Y : ¬ u=v:=λz=>hv (by rw[z];exact aaF)
   rw[gj Y,dm rfl]at hb;have I:v<N.p:=h.inp v (jY _ (aaW.mpr rfl));have U:N.bd left v=true:=by
    rw[h.BY,iL,h.ev v I,hb];rfl
   rw[RQ]at U;have Z:=ko U;obtain⟨k,hk,O,hx⟩:=BW (N:=N) (m:=left) (x:=v) (by lia)
   exact⟨k,O,hx⟩
def Way.go(h:Way N iD pre v ks left)(hv:v∉pre){t w:Nat}(hb:left.testBit t=true)(j:(N.a t=v/\N.b t=w)\/(N.b t=v/\N.a t=w)):
 Way N iD (pre++[v]) w (ks++[t]) (left^^^2^t):=by
 rw[h.se,abd]at hb;have hn:t∉ks:=by simpa using hb.2
 have ht:=dc h.lt hb.1;refine⟨.snoc h.w ht hn j,h.lt,h.ev,λs hs=>?_,?_,?_,λx hx=>?_,λz=>?_⟩
 ·rcases aa9.mp hs with q|q
  ·exact h.sub s q
  ·rw[aaW.mp q];exact hb.1
 ·rw[Ring.DK _ hn,h.BY,abB]
 ·refine adX.mpr ⟨h.nd,by simp,λx hx y O=>?_⟩
  have e:y=v:=by simpa using O
  rw[e];exact λz=>hv (z▸hx)
 ·rcases aa9.mp hx with q|q
  ·exact h.inp x q
  ·have e:x=w:=by simpa using q
   rw[e];rcases j with⟨_,I⟩|⟨_,I⟩
   ·rw[<-I];exact N.bl t ht
   ·rw[<-I];exact N.al t ht
 ·simp at z
def Way.closes(h:Way N iD pre v ks left){i:Nat}(hi:pre[i]?=some v):Ring.orM (ks.drop i)≠0/\N.fJ (Ring.orM (ks.drop i))/\Ring.orM (ks.drop i)<2^N.n/\∀k,(Ring.orM (ks.drop i)).testBit k=true->iD.testBit k=true:=by
 have U:=(jo.mp hi).1;have Y:=h.w.len;have O:∀k,(Ring.orM (ks.drop i)).testBit k=true->k∈ks:=λk hk=>by
  rw[Ring.j6]at hk;exact adM (ko hk)
 refine⟨λz=>?_,λx _=>?_,c6 λk hk=>h.w.lt k (O k hk),λk hk=>h.sub k (O k hk)⟩
 ·have I:ks.drop i≠[]:=λq=>by
   have:=List.drop_eq_nil_iff.mp q
   lia
  obtain⟨k,hk⟩:=List.exists_mem_of_ne_nil _ I;have:=Ring.j6 (ks.drop i) k;rw[z,dm hk]at this;simp at this
 ·rw[h.w.bd i v (by rw[aba U];exact hi) x]
  simp
end
end RM
namespace Ring
open PySem L2
def BZ{p:Nat}{ts:List bZ}{g:aA p ts}{q m:Nat}(hm:m<2^ts.length):decide ((bz ((q&&&m:Nat):Int)).length%2=1)=g.N.par q m:=by
 rw[xZ (n:=ts.length) (acP q hm)];unfold RM.Net.par;rw[RM.xW];have e:RM.cnt (λk=>(q&&&m).testBit k) ts.length=RM.cnt (λk=>q.testBit k&&m.testBit k) g.N.n:=RM.mG λk _=>by rw[Nat.testBit_and]
 rw[e]
def xorL(rs:List Nat):Nat:=rs.foldl (λm r=>m^^^r) 0
def Ka(rs:List Nat):∀m,rs.foldl (λm r=>m^^^r) m=m^^^xorL rs:=by
 induction rs with
 | nil=>intro m;show m=m^^^0;simp
 | cons r rs I =>
   intro m;show rs.foldl (λm r=>m^^^r) (m^^^r)=m^^^rs.foldl (λm r=>m^^^r) (0^^^r)
   rw[I,I,abC,abB]
def xorL_cons(rs:List Nat)(r:Nat):xorL (r::rs)=r^^^xorL rs:=by
 show rs.foldl (λm r=>m^^^r) (0^^^r)=_
 rw[Ka,abC]
def M5(l:List Nat){i:Nat}(h:i<=l.length):zD (aD l) (some (i:Int)) none=aD (l.drop i):=by
 unfold zD;rw[HT.P6,HT.Mu,aG,acO h];unfold aD;rw[<-List.map_drop,<-List.map_take,acR (by rw[acF];lia)]
end Ring
namespace L2
open PySem PySem.Spec PyProof.Rows
section
variable {κ:Type}[DecidableEq κ]
def dS(kvs:List (κ×V))(k:κ):Option V:=(kvs.find? λkv=>decide (kv.1=k)).map (·.2)
def putK(kvs:List (κ×V))(k:κ)(v:V):List (κ×V) :=
 if(kvs.any λkv=>decide (kv.1=k))=true then kvs.map (λkv=>if kv.1=k then(kv.1,v) else kv) else kvs++[(k,v)]
def bO(kvs:List (κ×V))(k:κ):List (κ×V):=kvs.filter λkv=>decide (kv.1≠k)
def x9{k:κ}:dS ([]:List (κ×V)) k=none:=rfl
def cN{p:κ×V}{r:List (κ×V)}{k:κ}(e:p.1=k):dS (p::r) k=some p.2:=by simp[dS,acQ,e]
def ck{p:κ×V}{r:List (κ×V)}{k:κ}(e : ¬ p.1=k):dS (p::r) k=dS r k:=by simp[dS,acQ,e]
def jy(k:κ):∀kvs:List (κ×V),(kvs.any λkv=>decide (kv.1=k))=(dS kvs k).isSome
 | []=>rfl
 | p::r=>by
   rw[adu]
   by_cases e:p.1=k
   ·simp only[cN e,dm e,Bool.true_or,Option.isSome_some]
   ·rw[ck e,gj e,Bool.false_or];exact jy k r
def DM(k j:κ)(y:V):∀kvs:List (κ×V),dS (kvs.map λkv=>if kv.1=k then(kv.1,y) else kv) j=(dS kvs j).map λx=>if j=k then y else x
 | []=>rfl
 | p::r=>by
   have I:=DM k j y r;rw[aaR]
   by_cases h:p.1=k
   ·rw[aai h]
    by_cases e:p.1=j
    ·rw[cN (p:=(p.1,y)) e,cN e,acj,aai (e.symm.trans h)]
    ·rw[ck (p:=(p.1,y)) e,ck e,I]
   ·rw[aaf h]
    by_cases e:p.1=j
    ·rw[cN (p:=p) e,cN e,acj,aaf (λz=>h (e.trans z))]
    ·rw[ck (p:=p) e,ck e,I]
def AN(k j:κ)(y:V):∀kvs:List (κ×V),dS kvs k=none->dS (kvs++[(k,y)]) j=if j=k then some y else dS kvs j
 | [],_=>by
   by_cases e:k=j
   ·rw[aai e.symm];exact cN (p:=(k,y)) e
   ·rw[aaf (λz=>e z.symm)];exact ck (p:=(k,y)) e
 | p::r,hn=>by
   rw[List.cons_append];have hk : ¬ p.1=k:=λz=>by rw[cN z]at hn;cases hn
   rw[ck hk]at hn;have I:=AN k j y r hn
   by_cases e:p.1=j
   ·rw[cN e,cN e,aaf (λz=>hk (e.trans z))]
   ·rw[ck e,ck e,I]
def M6(kvs:List (κ×V))(k j:κ)(y:V):dS (putK kvs k y) j=if j=k then some y else dS kvs j:=by
 unfold putK
 by_cases a:(kvs.any λkv=>decide (kv.1=k))=true
 ·rw[aai a,DM];rw[jy]at a
  by_cases e:j=k
  ·obtain⟨x,hx⟩:=Option.isSome_iff_exists.mp a;rw[aai e,e,hx,acj,aai rfl]
  ·rw[aaf e];cases dS kvs j with
   | none=>rfl
   | some x=>rw[acj,aaf e]
 ·rw[aaf a];refine AN k j y kvs ?_;rw[jy]at a;cases q:dS kvs k with
  | none=>rfl
  | some x=>rw[q]at a;exact(a rfl).elim
def vN(kvs:List (κ×V))(k:κ)(v:V):(putK kvs k v).length<=kvs.length+1:=by
 unfold putK
 split
 ·rw[aac];lia
 ·rw[aaz,abj,acz];lia
def yb{kvs:List (κ×V)}{k:κ}(v:V)(h:dS kvs k=none):putK kvs k v=kvs++[(k,v)]:=by
 unfold putK;rw[jy,h];exact aaf (by decide)
def mq.uv{o:Option V}{u:Option Value}(r:mq o u):o.isSome=u.isSome:=by
 cases o with
 | none=>cases u with
   | none=>rfl
   | some _=>exact(show False from r).elim
 | some _=>cases u with
   | none=>exact(show False from r).elim
   | some _=>rfl
def mq.getD{o:Option V}{u:Option Value}{d:V}{d' : Value}(r:mq o u)(rd:RelV d d'):RelV (o.getD d) (u.getD d'):=by
 cases o with
 | none=>cases u with
   | none=>exact rd
   | some _=>exact(show False from r).elim
 | some _=>cases u with
   | none=>exact(show False from r).elim
   | some _=>exact r
def KV.val{kvs:List (κ×V)}{vs:List (κ×Value)}(r:KV kvs vs)(k:κ):mq (dS kvs k) (valueAt vs k):=by
 unfold KV at r
 induction r with
 | nil=>exact True.intro
 | @cons p q ps qs h t ih =>
   obtain⟨h1,h2⟩:=h
   by_cases e:p.1=k
   ·have e' : q.1=k:=h1.symm.trans e;have b:valueAt (q::qs) k=some q.2:=by simp[valueAt,acQ,e']
    rw[cN e,b];exact h2
   ·have e' : ¬ q.1=k:=λz=>e (h1.trans z)
    have b:valueAt (q::qs) k=valueAt qs k:=by simp[valueAt,acQ,e']
    rw[ck e,b];exact ih
def KV.any{kvs:List (κ×V)}{vs:List (κ×Value)}(r:KV kvs vs)(k:κ):(kvs.any λkv=>decide (kv.1=k))=vs.any λkv=>decide (kv.1=k):=by
 unfold KV at r
 induction r with
 | nil=>rfl
 | cons h t I=>rw[adu,adu,I,h.1]
def KV.repl{kvs:List (κ×V)}{vs:List (κ×Value)}(r:KV kvs vs)(k:κ){y:V}{u:Value}(ry:RelV y u):
 KV (kvs.map λkv=>if kv.1=k then(kv.1,y) else kv) (vs.map λkv=>if kv.1=k then(kv.1,u) else kv):=by
 unfold KV at r ⊢
 induction r with
 | nil=>exact .nil
 | @cons p q ps qs h t ih =>
   rw[aaR,aaR];refine .cons ?_ ih;obtain⟨h1,h2⟩:=h
   by_cases e:p.1=k
   ·rw[aai e,aai (h1.symm.trans e)];exact⟨h1,ry⟩
   ·rw[aaf e,aaf (λz=>e (h1.trans z))];exact⟨h1,h2⟩
def KV.put{kvs:List (κ×V)}{vs:List (κ×Value)}(r:KV kvs vs)(k:κ){y:V}{u:Value}(ry:RelV y u):KV (putK kvs k y) (stored vs k u):=by
 unfold putK stored;rw[r.any k]
 by_cases e:(vs.any λkv=>decide (kv.1=k))=true
 ·rw[aai e,aai e];exact r.repl k ry
 ·rw[aaf e,aaf e];exact Paired.snoc r ⟨rfl,ry⟩
def KV.drop{kvs:List (κ×V)}{vs:List (κ×Value)}(r:KV kvs vs)(k:κ):KV (bO kvs k) (without vs k):=by
 unfold KV at r ⊢;unfold bO without
 induction r with
 | nil=>exact .nil
 | @cons p q ps qs h t ih =>
   obtain⟨h1,h2⟩:=h;rw[aa2,aa2]
   by_cases e:p.1=k
   ·have a : ¬ decide (p.1≠k)=true:=by simp[e]
    have b : ¬ decide (q.1≠k)=true:=by simp[h1.symm.trans e]
    rw[aaf a,aaf b];exact ih
   ·have e' : ¬ q.1=k:=λz=>e (h1.trans z)
    have a:decide (p.1≠k)=true:=by simp[e]
    have b:decide (q.1≠k)=true:=by simp[e']
    rw[aai a,aai b];exact .cons ⟨h1,h2⟩ ih
def KV.keys{kvs:List (κ×V)}{vs:List (κ×Value)}(r:KV kvs vs):kvs.map (·.1)=vs.map (·.1):=by
 unfold KV at r
 induction r with
 | nil=>rfl
 | cons h t I=>rw[aaR,aaR,I,h.1]
def KV.length{kvs:List (κ×V)}{vs:List (κ×Value)}(r:KV kvs vs):kvs.length=vs.length:=Paired.length r
def DN(kvs:List (κ×V))(k:κ):(bO kvs k).length<=kvs.length:=abc _ _
end
def AO{P:Program}{w:World}{k:Key}{u:Value}(r:RelV (kV k) u):(cO P w).is k u=true:=by
 cases k with
 | inl i=>obtain⟨t,e⟩:=(show ∃t,u=Value.int i t from r);subst e;exact C1 P w i t
 | inr x=>obtain⟨t,e⟩:=(show ∃t,u=Value.str x t from r);subst e;exact C2 P w x t
def AQ{P:Program}{w:World}:∀{ks:List Key} {us:List Value},Vals (ks.map kV) us->ItemsAre (cO P w) ks us
 | [],_,r=>by rw[List.map_nil]at r;cases r;exact .nil
 | k::ks,_,r=>by
   rw[aaR]at r;cases r with
   | cons h t=>exact .cons (AO h) (AQ t)
abbrev KT(H:Hp):List (List Key×V)->List (List Key×Addr×Value)->Prop:=Paired λp q=>p.1=q.1/\H q.2.1=some (.tup (p.1.map kV))/\RelV p.2 q.2.2
def KT.val{H:Hp}{kvs:List (List Key×V)}{xs:List (List Key×Addr×Value)}(r:KT H kvs xs)(k:List Key):mq (dS kvs k) ((atKey xs k).map (·.2)):=by
 induction r with
 | nil=>exact True.intro
 | @cons p q ps qs h t ih =>
   obtain⟨h1,_,h2⟩:=h
   by_cases e:p.1=k
   ·have e' : q.1=k:=h1.symm.trans e;have b:atKey (q::qs) k=some q.2:=by simp[atKey,acQ,e']
    rw[cN e,b];exact h2
   ·have e' : ¬ q.1=k:=λz=>e (h1.trans z)
    have b:atKey (q::qs) k=atKey qs k:=by simp[atKey,acQ,e']
    rw[ck e,b];exact ih
def KT.repl{H:Hp}{kvs:List (List Key×V)}{xs:List (List Key×Addr×Value)}(r:KT H kvs xs)(k:List Key){y:V}{u:Value}(ry:RelV y u):
 KT H (kvs.map λkv=>if kv.1=k then(kv.1,y) else kv) (xs.map (putAt k u)):=by
 induction r with
 | nil=>exact .nil
 | @cons p q ps qs h t ih =>
   rw[aaR,aaR];refine .cons ?_ ih;obtain⟨h1,h2,I⟩:=h;unfold putAt
   by_cases e:p.1=k
   ·rw[aai e,aai (h1.symm.trans e)];exact⟨h1,h2,ry⟩
   ·rw[aaf e,aaf (λz=>e (h1.trans z))];exact⟨h1,h2,I⟩
def KT.put{H:Hp}{kvs:List (List Key×V)}{xs:List (List Key×Addr×Value)}(r:KT H kvs xs)(k:List Key){b:Addr}{y:V}{u:Value}(hb:H b=some (.tup (k.map kV)))(ry:RelV y u):
 KT H (putK kvs k y) (storedH xs k b u):=by
 have e:(kvs.any λkv=>decide (kv.1=k))=(atKey xs k).isSome:=by
  rw[jy,(r.val k).uv,Option.isSome_map]
 unfold putK storedH;rw[e]
 by_cases q:(atKey xs k).isSome=true
 ·rw[aai q,aai q];exact r.repl k ry
 ·rw[aaf q,aaf q];exact Paired.snoc r ⟨rfl,hb,ry⟩
def KT.keeps{H H' : Hp}{kvs:List (List Key×V)}{xs:List (List Key×Addr×Value)}(r:KT H kvs xs)(ht:∀b ys,H b=some (.tup ys)->H' b=some (.tup ys)):KT H' kvs xs :=
 Paired.Bl r λ_ _ z=>⟨z.1,ht _ _ z.2.1,z.2.2⟩
section
variable {P:Program}{w:World}{H:Hp}{h:Heap}{a:Addr}
def RU{u:HO}(ok:n8 P w H h)(e:Rd H a u):bK P w H h a u:=e.ok ok
def AR{kvs:List (Key×V)}(ok:n8 P w H h)(e:Rd H a (.dK kvs)):kvs.length<=sizeLine/\(a==sysModules)=false/\∃vs,KV kvs vs/\h.DictOf (cO P w) a vs :=
 show bK P w H h a (.dK kvs) from RU ok e
def M7{kvs:List (Key×V)}(ok:n8 P w H h)(e:H a=some (.dK kvs)):kvs.length<=sizeLine/\(a==sysModules)=false/\∃vs,KV kvs vs/\h.DictOf (cO P w) a vs:=AR ok (.inl e)
def qU{ks:List Key}(ok:n8 P w H h)(e:H a=some (.tup (ks.map kV))):(tupleKind (cO P w)).is h ks a:=by
 obtain⟨_,I,r,o,h1,h2,n,O⟩:=(show bK P w H h a (.tup (ks.map kV)) from ok a _ e)
 exact⟨o,I.toArray,n,h1,h2,O,by simpa using AQ r⟩
def AS{kvs:List (List Key×V)}(ok:n8 P w H h)(e:Rd H a (.dT kvs)):kvs.length<=sizeLine/\(a==sysModules)=false/\
 ∃xs,KT H kvs xs/\h.DictOfH (tupleKind (cO P w)) a xs:=by
 obtain⟨z,y,xs,r,o,es,ep,h1,h2,I,O,U⟩:=(show bK P w H h a (.dT kvs) from RU ok e)
 refine⟨z,y,xs,r,o,es,ep,h1,h2,I,O,λx hx=>?_,U⟩
 have all:∀{l:List (List Key×V)} {m:List (List Key×Addr×Value)},KT H l m->∀x∈m,(tupleKind (cO P w)).is h x.1 x.2.1:=by
  intro l m q
  induction q with
  | nil=>intro x hx;exact nomatch hx
  | @cons p q ps qs hq t ih =>
    intro x hx;rcases aaC.mp hx with e|hx
    ·subst e;exact qU ok (by rw[<-hq.1];exact hq.2.1)
    ·exact ih x hx
 exact all r x hx
def M8{kvs:List (List Key×V)}(ok:n8 P w H h)(e:H a=some (.dT kvs)):kvs.length<=sizeLine/\(a==sysModules)=false/\
 ∃xs,KT H kvs xs/\h.DictOfH (tupleKind (cO P w)) a xs:=AS ok (.inl e)
end
def yc(H:Hp)(a:Addr)(y:V)(r:Option V):Prop :=
 (∃kvs k,Rd H a (.dK kvs)/\y=kV k/\r=dS kvs k)\/∃kvs k b,Rd H a (.dT kvs)/\y = .ref b/\H b=some (.tup (k.map kV))/\r=dS kvs k
def B3(H:Hp)(a:Addr)(y v:V)(H' : Hp):Prop :=
 (∃kvs k,H a=some (.dK kvs)/\y=kV k/\kvs.length<sizeLine/\H' = upd H a (.dK (putK kvs k v)))\/
 ∃kvs k b,H a=some (.dT kvs)/\y = .ref b/\H b=some (.tup (k.map kV))/\kvs.length<sizeLine/\H' = upd H a (.dT (putK kvs k v))
def yc.k{H:Hp}{a:Addr}{kvs:List (Key×V)}{k:Key}(e:H a=some (.dK kvs)):yc H a (kV k) (dS kvs k):=.inl ⟨kvs,k,.inl e,rfl,rfl⟩
def B3.k{H:Hp}{a:Addr}{kvs:List (Key×V)}{k:Key}{v:V}(e:H a=some (.dK kvs))(hl:kvs.length<sizeLine):B3 H a (kV k) v (upd H a (.dK (putK kvs k v))):=.inl ⟨kvs,k,e,rfl,hl,rfl⟩
def B3.t{H:Hp}{a b:Addr}{kvs:List (List Key×V)}{k:List Key}{v:V}(e:H a=some (.dT kvs))(eb:H b=some (.tup (k.map kV)))(hl:kvs.length<sizeLine):
 B3 H a (.ref b) v (upd H a (.dT (putK kvs k v))):=.inr ⟨kvs,k,b,e,rfl,eb,hl,rfl⟩
section
variable {X:Cx}{pq:aX}{σ:St}{H:Hp}{s:Shared}{a:Addr}{y v:V}{u r:Value}{o:Option V}{A:Around}{E:dR}
def Inv.big(I:Inv X pq σ H s):sysModules<s.heap.objs.size:=by
 have h:mainGlobals<s.heap.objs.size:=(I.mod.glob.keeps I.bk).lt;exact Nat.lt_trans (by decide) h
def Kc{Q:dR}(hu:A.units+1<cLine)(I:Inv X pq σ H s)(g:yc H a y (some v))(ry:RelV y u)(h:∀O s',Inv X pq σ H s'->RelV v O->Q O s'):
 wpAny (model X.prog X.w) A (getItem (.ref a) u) Q E s:=by
 rcases g with⟨kvs,k,e,U,l⟩|⟨kvs,k,b,e,U,Z,l⟩
 ·subst U;obtain⟨z,hd,vs,rel,Y⟩:=AR I.hok e;obtain⟨O,hw,rw'⟩:=mq.some_of (v:=v) (o:=valueAt vs k) (by rw[l];exact rel.val k)
  exact wpAny_getItem_of (AO ry) Y.mapOf hw (h O _ (I.tok _) rw')
 ·subst U;cases(show u=Value.ref b from ry)
  obtain⟨z,hd,xs,rel,Y⟩:=AS I.hok e;obtain⟨O,hw,rw'⟩:=mq.some_of (v:=v) (o:=(atKey xs k).map (·.2)) (by rw[l];exact rel.val k)
  obtain⟨p,hp,LP⟩:=vY.mp hw;refine wpAny_getItem_heap (tupleKind_room_in1 hu) (qU I.hok Z) Y hp ?_;rw[LP];exact h O _ (I.tok _) rw'
def QA{Q:dR}(hu:A.units+1<cLine)(I:Inv X pq σ H s)(g:yc H a y o)(ry:RelV y u)(h:∀s',Inv X pq σ H s'->Q (.bool (!o.isSome)) s'):
 wpAny (model X.prog X.w) A (compareOp .NotIn u (.ref a)) Q E s:=by
 rcases g with⟨kvs,k,e,O,l⟩|⟨kvs,k,b,e,O,Y,l⟩
 ·subst O;obtain⟨z,hd,vs,rel,U⟩:=AR I.hok e;refine wpAny_notIn_of (AO ry) hd U.mapOf ?_;rw[<-(rel.val k).uv,<-l];exact h _ (I.tok _)
 ·subst O;cases(show u=Value.ref b from ry)
  obtain⟨z,hd,xs,rel,U⟩:=AS I.hok e;refine wpAny_notIn_heap (tupleKind_room_in1 hu) (qU I.hok Y) hd U ?_;have q:=(rel.val k).uv;rw[Option.isSome_map]at q;rw[<-q,<-l];exact h _ (I.tok _)
def sj{h' : Heap}{t' : Nat}{ob:HO}(I:Inv X pq σ H s)(mu:VC (H a))(hs:Heap.SameBut a s.heap h')(he:∃q,h'.get? a=some q)(new:bK X.prog X.w (upd H a ob) h' a ob):
 Inv X pq σ (upd H a ob) { s with heap:=h',toks:=t'} :=
 I.write (x:=a) (e:=a) mu (.inl rfl) (λb q hb z=>(hs.2 b hb).trans z) he new
def M9{P:Program}{w:World}{H' : Hp}{h' : Heap}{kvs:List (Key×V)}{vs:List (Key×Value)}(z:kvs.length<=sizeLine)(hd:(a==sysModules)=false)(rel:KV kvs vs)(dd:h'.DictOf (cO P w) a vs):
 bK P w H' h' a (.dK kvs):=⟨z,hd,vs,rel,dd⟩
def Kd{H' : Hp}{Q:Unit->Shared->Prop}(hu:A.units+1<cLine)(I:Inv X pq σ H s)(g:B3 H a y v H')(ry:RelV y u)(rv:RelV v r)(h:∀s',Inv X pq σ H' s'->Q () s'):
 wpAny (model X.prog X.w) A (setItem (.ref a) u r) Q E s:=by
 rcases g with⟨kvs,k,e,Y,l,Z⟩|⟨kvs,k,b,e,Y,eb,l,Z⟩
 ·subst Y Z;obtain⟨z,hd,vs,rel,dd⟩:=M7 I.hok e;have hz:vs.length<=sizeLine:=by rw[<-rel.length];exact z
  have hl:(putK kvs k v).length<=sizeLine:=by have:=vN kvs k v;lia
  refine wpAny_setItem_pairs (hsz:=hz) (AO ry) dd λh' O hs=>h _ ?_
  have he:∃q,h'.get? a=some q:=let⟨q,_,_,U,_⟩:=O;⟨q,U⟩;exact sj I (by rw[e];exact True.intro) hs he (M9 hl hd (rel.put k rv) O)
 ·subst Y Z;cases(show u=Value.ref b from ry)
  obtain⟨z,hd,xs,rel,dd⟩:=M8 I.hok e;have hz:xs.length<=sizeLine:=by rw[<-Paired.length rel];exact z
  have hl:(putK kvs k v).length<=sizeLine:=by have:=vN kvs k v;lia
  refine wpAny_setItem_heap (hsz:=hz) (tupleKind_room_in1 hu) (qU I.hok eb) dd λh' O hs=>h _ ?_
  obtain⟨q,es,ep,U,h2,h3,h4,_,h5⟩:=O;refine sj I (by rw[e];exact True.intro) hs ⟨q,U⟩ ⟨hl,hd,_,(rel.put k eb rv).keeps λc ys ec=>?_,q,es,ep,U,h2,h3,h4,h5⟩
  rw[ah (aQ ec e (λz=>nomatch z))]
  exact ec
end
section
variable {X:Cx}{pq:aX}{σ:St}{H:Hp}{s:Shared}{a:Addr}{kvs:List (Key×V)}{k:Key}{u:Value}{A:Around}{E:dR}
def WM{v:V}{more:List Value}{Q:dR}(I:Inv X pq σ H s)(e:H a=some (.dK kvs))(ry:RelV (kV k) u)(l:dS kvs k=some v)(hm:more=[]\/∃x,more=[x])
 (h:∀O s',Inv X pq σ (upd H a (.dK (bO kvs k))) s'->RelV v O->Q O s'):wpAny (model X.prog X.w) A (call (.builtin "dict.pop") (.ref a::u::more)) Q E s:=by
 obtain⟨z,hd,vs,rel,U⟩:=M7 I.hok e;obtain⟨O,hw,rw'⟩:=mq.some_of (v:=v) (o:=valueAt vs k) (by rw[<-l];exact rel.val k)
 have Z:(keyPart u).isSome=true:=by
  cases k with
  | inl i=>obtain⟨t,q⟩:=(show ∃t,u=Value.int i t from ry);subst q;rfl
  | inr x=>obtain⟨t,q⟩:=(show ∃t,u=Value.str x t from ry);subst q;rfl
 have ha:argsOk "dict.pop" ⟨.ref a::u::more,[]⟩:=by
  rcases hm with q|⟨x,q⟩
  ·subst q;exact PySem.F.args_dict_pop_2 _ _
  ·subst q;exact PySem.F.args_dict_pop_3 _ _ _
 refine call_meetsIn acY U.typeIs PySem.F.entry_dict_pop ha (meets_dict_pop_there (cO X.prog X.w) a (AO ry) more hm Z)
  ⟨vs,O,U,by rw[<-rel.length];exact z,hw,λh' Y hs=>h O _ ?_ rw'⟩
 have he:∃q,h'.get? a=some q:=let⟨q,_,_,hq,_⟩:=Y;⟨q,hq⟩;exact sj I (by rw[e];exact True.intro) hs he (M9 (aa0 (DN kvs k) z) hd (rel.drop k) Y)
end
def WN(i:Expr):Prop:=∀I O,subscripted i false I O=operate [I,O] (getItem I O)
def QB{prog:Program}{w:World}{A:Around}{E:dR}{s:Shared}{env:Env}{value slice:Expr}{pos:Pos}{T id:String}{Q:dR}
 (hl:typeLookup (.type T) "__getitem__"=pure (some (.builtin id))) (hs:WN slice)
 (h:wpAny (model prog w) A (eval value env) (λo U=>wpAny (model prog w) A (eval slice env) (λi I=>I.TypeIs o T/\wpAny (model prog w) A (getItem o i) Q E I) E U) E s) :
 wpAny (model prog w) A (eval (.Subscript value slice pos) env) Q E s:=by
 refine Subscript_ (aa8 h (λo U h₁=>aa8 h₁ (λi I O=>?_) λ_ _ x=>x) λ_ _ x=>x)
 obtain⟨Y,O⟩:=O;unfold subscriptTail;refine aV ?_;rw[getitemInPython_of_ne Y.not_modules];refine aV (wpAny_specialOf Y hl ?_);have fin:wpAny (model prog w) A (subscripted slice false o i) (λr Z=>wpAny (model prog w) A (letTemporaryGo value o r >>= λ_=>pure r) Q E Z) E I:=by
  rw[hs o i];exact wpAny_operating (aa8 O (λr Z h₃=>aV (wpAny_letTemporaryGo (aaq h₃))) λ_ _ x=>x)
 first
  | exact aaq (aV fin)
  | exact aV (aaq (aV fin))
  | exact aV fin
def DO{X:Cx}{pq:aX}{σ:St}{H:Hp}{s:Shared}{a:Addr}{y:V}{o:Option V}(I:Inv X pq σ H s)(g:yc H a y o):s.TypeIs (.ref a) "dict":=by
 rcases g with⟨kvs,k,e,_,_⟩|⟨kvs,k,b,e,_,_,_⟩
 ·obtain⟨_,_,vs,_,O⟩:=AR I.hok e;exact O.typeIs
 ·obtain⟨_,_,xs,_,O⟩:=AS I.hok e;exact O.typeIs
def WO(td ty:TE):TE:=λσ H Q=>td σ H λx H1=>ty σ H1 λy H2=>∃a v,x = .ref a/\yc H2 a y (some v)/\Q v H2
def QC(ty td:TE):TE:=λσ H Q=>ty σ H λy H1=>td σ H1 λx H2=>∃a o,x = .ref a/\yc H2 a y o/\Q (.bl (!o.isSome)) H2
def WQ(td ty tv:TE):TS:=λD σ H=>tv σ H λv H1=>td σ H1 λx H2=>ty σ H2 λy H3=>∃a H4,x = .ref a/\B3 H3 a y v H4/\D.nx σ H4
section
variable {X:Cx}{o i e value:Expr}{pos pos' tpos:Pos}{td ty tv:TE}
def IW(hu:X.A.units+1<cLine)(ho:PE X o td)(hi:PE X i ty)(hs:WN i):PE X (.Subscript o i pos) (WO td ty):=by
 intro pq s σ H Q I h;refine QB PySem.F.slot_dict_getitem.lookup hs (dh (ho pq s σ H _ I h) λu s1 ⟨x,H1,Y,rx,Z⟩=>dh (hi pq s1 σ H1 _ Y Z) λiv s2 ⟨y,H2,U,ry,a,v,ex,g,q2⟩=>?_)
 subst ex;obtain rfl:u=Value.ref a:=rx;exact⟨DO U g,Kc hu U g ry λw' s3 I3 O=>⟨v,H2,I3,O,q2⟩⟩
def Ke(hu:X.A.units+1<cLine)(hi:PE X i ty)(ho:PE X o td):PC X .NotIn i o (QC ty td):=by
 intro pq s σ H Q I h;refine dh (hi pq s σ H _ I h) λiv s1 ⟨y,H1,O,U,Y⟩=>dh (ho pq s1 σ H1 _ O Y) λu s2 ⟨x,H2,Z,rx,a,ov,ex,g,q2⟩=>?_
 subst ex;obtain rfl:u=Value.ref a:=rx;exact QA hu Z g U λs3 I3=>⟨.bl (!ov.isSome),H2,I3,rfl,q2⟩
def B4(hu:X.A.units+1<cLine)(ho:PE X o td)(hi:PE X i ty)(hv:PE X value tv)(hs:swapsWith value (some (.Subscript o i pos')) pos.line X.env=pure false):
 PS X (.Assign [.Subscript o i pos'] value pos) (WQ td ty tv):=by
 intro pq s σ H D I h;refine wpAny_Assign_Subscript (dh (hv pq s σ H _ I h) λr s1 ⟨v,H1,O,U,Y⟩=>dh (ho pq s1 σ H1 _ O Y) λu s2 ⟨x,H2,Z,rx,q2⟩=>dh (hi pq s2 σ H2 _ Z q2) λiv s3 ⟨y,H3,I3,ry,a,H4,ex,g,q3⟩=>?_) hs
 subst ex;obtain rfl:u=Value.ref a:=rx;exact Kd hu I3 g ry U λs4 I4=>⟨σ,H4,I4,q3⟩
end
def Nb{P:Program}{w:World}{H:Hp}(h:Heap)(hb:sysModules<h.objs.size):bK P w H (h.push { cls:=.type "dict",data:=.dict #[]}) h.objs.size (.dK []) :=
 ⟨aa3 _,beq_eq_false_iff_ne.mpr (aa6 (aaP hb)),[],.nil,Heap.DictOf.new h⟩
def Nc{P:Program}{w:World}{H:Hp}(h:Heap)(hb:sysModules<h.objs.size):bK P w H (h.push { cls:=.type "dict",data:=.dict #[]}) h.objs.size (.dT []) :=
 ⟨aa3 _,beq_eq_false_iff_ne.mpr (aa6 (aaP hb)),[],.nil,_,#[],0,aaN _ rfl,⟨rfl,rfl,rfl⟩,rfl,rfl,adi⟩
def T4:TE:=λ_ H Q=>∀p,H p=none->Q (.ref p) (upd H p (.dK []))
section
variable {X:Cx}{pos:Pos}
def Nd:PE X (.Dict [] [] pos) T4:=λpq s σ H Q I h =>
 wpAny_Dict_empty ⟨.ref s.heap.objs.size,_,I.laid (a:=s.heap.objs.size) (o:=.dK []) (t':=s.toks) (λ_ _ q=>aao _ q) (aam _) (Nb s.heap I.big),rfl,h _ (I.hok.fresh (aam _))⟩
end
structure M1(X:Cx)(o:Expr)(m:Str)(apos:Pos)(e:Expr)(cpos:Pos):Prop where
 base:attributeBase o m X.env (eval o X.env)=eval o X.env
 few:((backTo cpos (starEach [e] X.env)).all (λx=>!x.1)&&(backToKw cpos (keywordEach [] X.env)).all (λx=>x.1.isSome)
  && decide (([e]:List Expr).length+([]:List Keyword).length+(if([]:List Keyword).isEmpty then 0 else 1)<30))=true
 line:(apos.endLine==cpos.line)=true
 trees:backTo cpos (starEach [e] X.env)=[(false,eval e X.env)]
structure M2(X:Cx)(o:Expr)(m:Str)(apos:Pos)(e f:Expr)(cpos:Pos):Prop where
 base:attributeBase o m X.env (eval o X.env)=eval o X.env
 few:((backTo cpos (starEach [e,f] X.env)).all (λx=>!x.1)&&(backToKw cpos (keywordEach [] X.env)).all (λx=>x.1.isSome)
  && decide (([e,f]:List Expr).length+([]:List Keyword).length+(if([]:List Keyword).isEmpty then 0 else 1)<30))=true
 line:(apos.endLine==cpos.line)=true
 trees:backTo cpos (starEach [e,f] X.env)=[(false,eval e X.env),(false,eval f X.env)]
def YN(H:Hp)(a:Addr):Prop:=(∃kvs,Rd H a (.dK kvs))\/∃kvs,Rd H a (.dT kvs)
def Gr{X:Cx}{pq:aX}{σ:St}{H:Hp}{s:Shared}{a:Addr}(I:Inv X pq σ H s)(d:YN H a):
 s.TypeIs (.ref a) "dict"/\(∀b,Value.ref a = .ref b->∃ob,s.heap.get? b=some ob/\ob.dict=none)/\(a==sysModules)=false:=by
 rcases d with⟨kvs,e⟩|⟨kvs,e⟩
 ·obtain⟨_,hd,vs,_,O⟩:=AR I.hok e;refine⟨O.typeIs,λb q=>?_,hd⟩
  cases q;obtain⟨ob,_,_,h1,h2,_⟩:=O;exact⟨ob,h1,h2.2.1⟩
 ·obtain⟨_,hd,xs,_,O⟩:=AS I.hok e;refine⟨O.typeIs,λb q=>?_,hd⟩
  cases q;obtain⟨ob,_,_,h1,h2,_⟩:=O;exact⟨ob,h1,h2.2.1⟩
section
variable {X:Cx}{pq:aX}{σ:St}{H:Hp}{s:Shared}{a:Addr}{y d:V}{u r:Value}{o:Option V}{A:Around}{E:dR}
def T5{Q:dR}(hu:A.units+1<cLine)(I:Inv X pq σ H s)(g:yc H a y o)(ry:RelV y u)(rd:RelV d r)(h:∀Y s',Inv X pq σ H s'->RelV (o.getD d) Y->Q Y s'):
 wpAny (model X.prog X.w) A (call (.builtin "dict.get") [.ref a,u,r]) Q E s:=by
 rcases g with⟨kvs,k,e,U,l⟩|⟨kvs,k,b,e,U,Z,l⟩
 ·subst U;obtain⟨z,hd,vs,rel,O⟩:=AR I.hok e;refine call_meetsIn adD O.typeIs PySem.F.entry_dict_get (PySem.F.args_dict_get_3 _ _ _) (meets_dict_get_default (cO X.prog X.w) a (AO ry) hd r) ⟨_,O.mapOf,h _ _ (I.tok _) ?_⟩;rw[l];exact(rel.val k).getD rd
 ·subst U;cases(show u=Value.ref b from ry)
  obtain⟨z,hd,xs,rel,O⟩:=AS I.hok e;refine call_meetsIn adD O.typeIs PySem.F.entry_dict_get (PySem.F.args_dict_get_3 _ _ _) (meetsH_dict_get_default (tupleKind (cO X.prog X.w)) a b hd r) ⟨tupleKind_room_in1 hu,k,xs,qU I.hok Z,O,h _ _ (I.tok _) ?_⟩;rw[l];exact(rel.val k).getD rd
end
def T6(td ty tx:TE):TE:=λσ H Q=>td σ H λx H1=>∃a,x = .ref a/\YN H1 a/\ty σ H1 λy H2=>tx σ H2 λz H3=>∃o,yc H3 a y o/\Q (o.getD z) H3
def T7(td ty:TE):TE:=λσ H Q=>td σ H λx H1=>∃a,x = .ref a/\YN H1 a/\ty σ H1 λy H2=>∃kvs k v,H2 a=some (.dK kvs)/\y=kV k/\dS kvs k=some v/\Q v (upd H2 a (.dK (bO kvs k)))
section
variable {X:Cx}{o e f:Expr}{apos cpos:Pos}{td ty tx:TE}
def Nf(hu:X.A.units+1<cLine)(ho:PE X o td)(he:PE X e ty)(hf:PE X f tx)(m:M2 X o "get" apos e f cpos):PE X (.Call (.Attribute o "get" apos) [e,f] [] cpos) (T6 td ty tx):=by
 intro pq s σ H Q I h;refine wpAny_Call_method m.base m.few m.line adm adD PySem.F.type_dict_get (dh (ho pq s σ H _ I h) λu s1 ⟨x,H1,U,rx,a,ex,d,Y⟩=>?_)
 subst ex;obtain rfl:u=Value.ref a:=rx;obtain⟨t1,t2,_⟩:=Gr U d;refine⟨t1,t2,?_⟩;rw[m.trees];refine Calls.callWith_builtin rfl (Calls.evalArgs_plain (Calls.spliced_cons (dh (he pq s1 σ H1 _ U Y) λiv s2 ⟨y,H2,Z,ry,q2⟩ =>
  Calls.spliced_cons (dh (hf pq s2 σ H2 _ Z q2) λfv s3 ⟨z,H3,I3,rz,ov,g,q3⟩=>Calls.spliced_nil ?_))))
 exact T5 hu I3 g ry rz λw' s4 I4 O=>⟨_,H3,I4,O,q3⟩
def DQ(ho:PE X o td)(he:PE X e ty)(m:M1 X o "pop" apos e cpos):PE X (.Call (.Attribute o "pop" apos) [e] [] cpos) (T7 td ty):=by
 intro pq s σ H Q I h;refine wpAny_Call_method m.base m.few m.line adm acY PySem.F.type_dict_pop (dh (ho pq s σ H _ I h) λu s1 ⟨x,H1,U,rx,a,ex,d,Y⟩=>?_)
 subst ex;obtain rfl:u=Value.ref a:=rx;obtain⟨t1,t2,_⟩:=Gr U d;refine⟨t1,t2,?_⟩;rw[m.trees];refine Calls.callWith_builtin rfl (Calls.evalArgs_plain (Calls.spliced_cons (dh (he pq s1 σ H1 _ U Y) λiv s2 ⟨y,H2,Z,ry,kvs,k,v,ea,ey,l,q2⟩=>Calls.spliced_nil ?_)))
 subst ey;exact WM Z ea ry l (.inl rfl) λw' s3 I3 O=>⟨v,_,I3,O,q2⟩
end
section
variable {κ:Type}[DecidableEq κ]
def Nh{kvs:List (κ×V)}{k:κ}(h:dS kvs k=none): ¬ k∈kvs.map (·.1):=by
 intro m;obtain⟨p,I,e⟩:=aaH.mp m;have q:(kvs.any λkv=>decide (kv.1=k))=true:=adZ.mpr ⟨p,I,dm e⟩
 rw[jy,h]at q;exact absurd q (by simp)
def QD{kvs:List (κ×V)}{k:κ}{v:V}(h:dS kvs k=some v):k∈kvs.map (·.1):=by
 have q:(kvs.any λkv=>decide (kv.1=k))=true:=by
  rw[jy,h]
  all_goals rfl
 obtain⟨p,I,e⟩:=adZ.mp q;exact aaH.mpr ⟨p,I,ko e⟩
def IX:∀{l:List κ} {k:κ},l.Nodup->¬ k∈l->(l++[k]).Nodup
 | [],k,_,_=>by simp
 | a::r,k,h,hk=>by
   obtain⟨h1,h2⟩:=abn.mp h;show(a::(r++[k])).Nodup;refine abn.mpr ⟨λm=>?_,IX h2 λm=>hk (aaC.mpr (Or.inr m))⟩
   rcases aa9.mp m with q|q
   ·exact h1 q
   ·exact hk (aaC.mpr (Or.inl (aaW.mp q).symm))
def QE{kvs:List (κ×V)}{k:κ}(v:V)(hn:(kvs.map (·.1)).Nodup)(h:dS kvs k=none):((putK kvs k v).map (·.1)).Nodup:=by
 rw[yb v h,aaJ];exact IX hn (Nh h)
def AU{p:κ×V}{r:List (κ×V)}{k:κ}(e:p.1=k):bO (p::r) k=bO r k:=by
 unfold bO;rw[aa2,aaf (by simp[e])]
def AV{p:κ×V}{r:List (κ×V)}{k:κ}(e : ¬ p.1=k):bO (p::r) k=p::bO r k:=by
 unfold bO;rw[aa2,aai (by simp[e])]
def AW{kvs:List (κ×V)}{k:κ}{p:κ×V}(h:p∈bO kvs k):p∈kvs:=(aaX.mp h).1
def yd:∀{kvs:List (κ×V)} {k:κ},(kvs.map (·.1)).Nodup->((bO kvs k).map (·.1)).Nodup
 | [],_,_=>adi
 | p::r,k,h=>by
   have h:(p.1::r.map (·.1)).Nodup:=h;obtain⟨h1,h2⟩:=abn.mp h
   by_cases e:p.1=k
   ·rw[AU e];exact yd h2
   ·rw[AV e];show(p.1::(bO r k).map (·.1)).Nodup;refine abn.mpr ⟨λm=>h1 ?_,yd h2⟩
    obtain⟨q,I,eq⟩:=aaH.mp m;exact aaH.mpr ⟨q,AW I,eq⟩
end
def QF{P:Program}{w:World}{n:Int}{v:Value}(h:(cO P w).is (Sum.inl n) v=true):∃t,v=Value.int n t:=by
 have h:vG (Sum.inl n) v=true:=h;have h:Value.isInt n v=true:=by simpa[vG]using h
 cases v<;>simp[Value.isInt]at h
 exact⟨_,by rw[h]⟩
def AX{P:Program}{w:World}:∀{us:List Value} {ns:List Int} {vs:List (Key×Value)},vs.map (·.1)=ns.map Sum.inl->us.length=vs.length->(∀(j:Nat) (v:Value),us[j]?=some v->∃k x,vs[j]?=some (k,x)/\(cO P w).is k v=true)->IntsAre us ns
 | [],[],_,_,_,_=>.nil
 | [],n::ns,[],e,_,_=>by simp at e
 | [],n::ns,p::r,_,hl,_=>by simp at hl
 | u::us,ns,[],_,hl,_=>by simp at hl
 | u::us,[],p::r,e,_,_=>by simp at e
 | u::us,n::ns,p::r,e,hl,h=>by
   rw[aaR,aaR]at e;obtain⟨I,O⟩:=List.cons.inj e;obtain⟨k,x,hx,hk⟩:=h 0 u rfl;cases hx;rw[show k=Sum.inl n from I]at hk
   obtain⟨t,rfl⟩:=QF hk;exact .cons n t (AX O (by simpa using hl) λj v hj=>h (j+1) v hj)
section
variable {prog:Program}{w:World}{A:Around}{E:dR}{s:Shared}{T:String}{r d:Addr}{n:Nat}{P:Nat->Value->Prop}{OK:Heap->Prop}
def DR{R:List Value->Shared->Prop}(K:PySem.W.KdlSrc prog w T r d n P OK)(hh:A.handled=none)(hok:OK s.heap)(hn:n<=sizeLine)
 (h:∀(h' : Heap) (tk:Nat) (acc:Array Value),(∀b o,s.heap.get? b=some o->h'.get? b=some o)->s.heap.objs.size<h'.objs.size->ItemsOf P acc n->R acc.toList { s with heap:=h',toks:=tk}) :
 wpAny (model prog w) A (collect (.ref r)) R E s:=by
 have Y:=K.there _ hok;unfold collect;refine aV (wpAny_runValue (codeAny_builtin PySem.F.entry_proto_collect ?_));rw[Around.under_plainId PySem.F.plain_proto_collect _];show wpAny _ A.in1 (newList [] >>= λl=>again (.builtin "list.__iadd__" ⟨[l,.ref r],[]⟩)) _ _ s
 refine aV (wpAny_newObj_type ?_);refine aaq ⟨plainId_quiet PySem.F.plain_list_iadd _,codeAny_builtin PySem.F.entry_list_iadd ?_⟩;rw[Around.under_plainId PySem.F.plain_list_iadd _];have ab:(s.heap.push { cls:=.type "list",data:=.seq ([]:List Value).toArray}).get? s.heap.objs.size=some { cls:=.type "list",data:=.seq #[]}:=aaN _ rfl;show wpAny _ A.in1 (Builtin.List.listExtendWith (.ref s.heap.objs.size) (.ref r) (.ref s.heap.objs.size)) _ _ _;have key:=PySem.W.kdl_extend (A:=A) (s:={ s with heap:=s.heap.push { cls:=.type "list",data:=.seq ([]:List Value).toArray}})
  (R:=λ(q:Result) (s' : Shared)=>∃(h' : Heap) (tk:Nat) (I : Array Value) (Z : Nat),q = .ok (.ret (.ref s.heap.objs.size))/\s' = { s with heap:=h',toks:=tk}/\
   (∀b o,s.heap.get? b=some o->h'.get? b=some o)/\h'.get? s.heap.objs.size=some { cls:=.type "list",dict:=none,data:=.seq I Z,slots:=#[]}/\ItemsOf P I n)
  K hh (K.keep _ _ hok λb _ o e=>aao _ e) s.heap.objs.size (abX Y.1) (abX Y.2) (.ref s.heap.objs.size) 0 ab
  (λh' tk I Z hk U O=>⟨h',tk,I,Z,rfl,rfl,λb o e=>hk b o (aaP (aax e)) (aao _ e),U,O⟩) hn
 refine aa8 key (λfin s' x=>?_) λe s' x=>?_
 ·cases fin with
  | done f =>
    obtain⟨h',tk,I,Z,e,rfl,hk,U,O⟩:=x;cases e;show wpAny _ A (load s.heap.objs.size >>= _) _ _ _;refine aV (wpAny_load U ?_);exact aaq (h h' tk I hk (aax U) O)
  | again c₁ =>
    refine⟨x.1,codeAny_mono x.2 λq s₂ y=>?_⟩
    obtain⟨h',tk,I,Z,rfl,rfl,hk,U,O⟩:=y;show wpAny _ A (load s.heap.objs.size >>= _) _ _ _;refine aV (wpAny_load U ?_);exact aaq (h h' tk I hk (aax U) O)
 ·obtain⟨_,_,_,_,e',_⟩:=x;cases e'
end
section
variable {X:Cx}
def QG(hc:X.calm=true):ic X (.builtin "sorted") (λxs H Q=>∃(p:Addr) (kvs:List (Key×V)) (ns:List Int),xs=[.ref p]/\H p=some (.dK kvs)/\kvs.map (·.1)=ns.map Sum.inl/\kvs.length<64/\
 ∀(l:Addr) (O : List Int),H l=none->O.Perm ns->O.Pairwise (·<=·)->Q (.ref l) (upd H l (.lst (O.map V.int)))):=by
 intro pq s σ H xs us Q I r h;obtain⟨p,kvs,ns,rfl,hp,Z,hn,q⟩:=h;obtain⟨u,rfl,rx⟩:=vals1 r;cases rx;obtain⟨z,hd,vs,rel,dd⟩:=M7 I.hok hp;obtain⟨ep,hat⟩:=dd.dictAt;have hlen:vs.length=kvs.length:=rel.length.symm;refine Calls.call_function_entry kind_sorted plain_sorted entry_sorted (args_sorted1 _) ?_;unfold Builtin.«sorted»;refine aV (m:=checkCount "sorted" 1 1 _) (aaq ?_);refine aV (DR (A:=X.A.in1) (PySem.W.kdl_dict (knd:=cO X.prog X.w) (kvs:=vs) (ep:=ep) hd) (I.ok.hd hc) hat (by rw[sizeLine_eq,hlen];lia) λh1 tk acc hk ar U=>?_)
 have hl:acc.toList.length=vs.length:=by rw[acq];exact U.1
 have hI:IntsAre acc.toList ns:=AX (rel.keys.symm.trans Z) hl λj v e=>by
  obtain⟨k,x,h1,h2⟩:=U.2 j v (by rw[<-ach];exact e)
  exact⟨k,x,h1,h2⟩
 refine aV (wpAny_newList ?_ (by rw[hl,hlen,sizeLine_eq];lia))
 have Al:(h1.push (seqObj "list" acc.toList.toArray 0)).get? h1.objs.size=some (seqObj "list" acc.toList.toArray 0):=aaN _ rfl;refine aV (abg (wpAny_call_entry slot_list_sort ⟨_,Al,rfl⟩ entry_list_sort (list_sort_tree Al hI (by lia) λout O a1 a2 a3=>⟨_,rfl,?_⟩) (args_list_sort _)))
 refine aaq ⟨_,rfl,?_⟩;have ab:s.heap.objs.size<=h1.objs.size:=abq ar;obtain⟨e,he⟩:=sortedHeap_at (out:=out) Al;have aw:H h1.objs.size=none:=I.hok.fresh ab;refine⟨.ref h1.objs.size,_,I.laid (t':=tk) (λb o hb=>?_) ab ?_,rfl,q _ O aw a2 a3⟩
 ·have ag:=hk b o hb;have Y:=aax ag;rw[sortedHeap_old (aaP Y) (by rw[size_push'];exact abG Y),acD _ _ _ (aaP Y)]
  exact ag
 ·refine⟨?_,out.toList,e,Dv a1,?_⟩
  ·rw[aac,a2.length_eq];have hx:=aa4 List.length Z;rw[aac,aac]at hx;exact abq (cz (by lia))
  ·have:out.toList.toArray=out:=by simp
   rw[this];exact he
def eO(K:bJ){e:Expr}{f:Str}{pos:Pos}{ta:TE}(he:PE X e ta)(hb:attributeBase e f X.env (eval e X.env)=eval e X.env:=by rfl)(hK:X.K=K:=by rfl):PE X (.Attribute e f pos) (V0 K ta f):=by
 subst hK;exact S3 he hb
def QH{body:List Stmt}{h0:ExceptHandler}{hs:List ExceptHandler}{pos:Pos}{tb:TS}(hb:zA { X with xe:=λ_ _=>False} body tb):PS X (.Try body (h0::hs) [] [] pos) tb:=by
 intro pq s σ H D I h;refine wpAny_Try_except ?_;have U : Inv { X with xe:=λ_ _=>False} pq σ H s:=I.WB (A':=X.A) (cm:=X.calm) (YF:=X.pn) rfl I.ok.hd λp O=>O
 have back:∀{σ' H' s'},Inv { X with xe:=λ_ _=>False} pq σ' H' s'->Inv X pq σ' H' s':=λ{σ' H' s'} J=>J.WB (A':=X.A) (cm:=X.calm) (YF:=X.pn) (xe':=X.xe) rfl J.ok.hd λp O=>O
 refine aa8 (hb pq s σ H D U h) (λf s1 q=>?_) λ_ _ z=>z.elim
 cases f with
 | next =>
   obtain⟨σ',H',J,q⟩:=q;exact wpAny_execs_nil ⟨σ',H',back J,q⟩
 | brk =>
   obtain⟨σ',H',J,q⟩:=q;exact⟨σ',H',back J,q⟩
 | cont =>
   obtain⟨σ',H',J,q⟩:=q;exact⟨σ',H',back J,q⟩
 | ret u =>
   obtain⟨v,σ',H',J,r,q⟩:=q;exact⟨v,σ',H',back J,r,q⟩
end
end L2
namespace Ring
open PySem L2
abbrev cL:=List (Nat×bZ)
inductive kO where
 | put (n:Nat)
 | drop (n:Nat) (t:bZ)
structure c7(p f:Nat)(m:cL):Prop where
 asc:(m.map (·.1)).Pairwise (· < ·)
 below:∀e∈m,e.1<f
 good:∀e∈m,ik (p:Int) e.2
 few:m.length<=24
def without(n:Nat)(m:cL):cL:=m.filter λe=>decide (e.1≠n)
inductive Chain(p:Nat):List (Nat×cL)->List kO->Prop
 | nil:Chain p [(0,[])] []
 | put {f:Nat} {m:cL} {hs:List (Nat×cL)} {ds:List kO} {t:bZ}:Chain p ((f,m)::hs) ds->ik (p:Int) t->m.length<24->Chain p ((f+1,m++[(f,t)])::(f,m)::hs) (.put f::ds)
 | drop {f:Nat} {m:cL} {hs:List (Nat×cL)} {ds:List kO} {n:Nat} {t:bZ}:Chain p ((f,m)::hs) ds->(n,t)∈m->Chain p ((f,without n m)::(f,m)::hs) (.drop n t::ds)
section
variable {p f n:Nat}{m m' : cL}{hs:List (Nat×cL)}{ds:List kO}{t:bZ}
def c7.nil:c7 p 0 []:=⟨List.Pairwise.nil,(λ_ h=>nomatch h),(λ_ h=>nomatch h),aa3 _⟩
def c7.put(h:c7 p f m)(g:ik (p:Int) t)(hl:m.length<24):c7 p (f+1) (m++[(f,t)]):=by
 refine⟨?_,λe he=>?_,λe he=>?_,by rw[aaz];simp;lia⟩
 ·rw[aaJ,List.pairwise_append];refine⟨h.asc,by simp,λx hx y I=>?_⟩
  obtain⟨e,he,rfl⟩:=aaH.mp hx;have:y=f:=by simpa using I
  rw[this];exact h.below e he
 ·rcases aa9.mp he with he|he
  ·exact abG (h.below e he)
  ·cases aaW.mp he;exact ace _
 ·rcases aa9.mp he with he|he
  ·exact h.good e he
  ·cases aaW.mp he;exact g
def vO{e:Nat×bZ}(h:e∈without n m):e∈m:=(aaX.mp h).1
def c7.drop(h:c7 p f m)(n:Nat):c7 p f (without n m) :=
 ⟨h.asc.sublist (List.Sublist.map _ List.filter_sublist),λe he=>h.below e (vO he),λe he=>h.good e (vO he),aa0 (abc _ _) h.few⟩
def Chain.ok': ∀{hs:List (Nat×cL)} {ds:List kO},Chain p hs ds->∀f m hs',hs=(f,m)::hs'->c7 p f m
 | _,_,.nil,f,m,hs',e=>by cases e;exact c7.nil
 | _,_,.put c g hl,f,m,hs',e=>by cases e;exact(c.ok' _ _ _ rfl).put g hl
 | _,_,.drop c hm,f,m,hs',e=>by cases e;exact(c.ok' _ _ _ rfl).drop _
def Chain.ok(c:Chain p ((f,m)::hs) ds):c7 p f m:=c.ok' _ _ _ rfl
def Chain.len:∀{hs:List (Nat×cL)} {ds:List kO},Chain p hs ds->hs.length=ds.length+1
 | _,_,.nil=>rfl
 | _,_,.put c _ _=>aa4 (· + 1) c.len
 | _,_,.drop c _=>aa4 (· + 1) c.len
def c7.BL(h:c7 p f m)(p1:1<=p)(p2:p<=10):aA p (m.map (·.2)):=⟨p1,p2,by rw[aac];exact h.few,λt ht=>by
 obtain⟨e,he,rfl⟩:=aaH.mp ht;exact h.good e he⟩
def c7.nodup(h:c7 p f m):(m.map (·.1)).Nodup:=h.asc.imp λh=>aaP h
def c7.fresh(h:c7 p f m): ¬ f∈m.map (·.1):=λhm=>by
 obtain⟨e,he,q⟩:=aaH.mp hm;have:=h.below e he
 lia
def m9:∀{m:cL},¬ n∈m.map (·.1)->without n m=m:=λ{m} h=>by
 unfold without;rw[List.filter_eq_self];intro e he;refine dm λz=>h ?_
 rw[<-z];exact abU he
def DS(h : ¬ n∈m.map (·.1)):without n (m++[(n,t)])=m:=by
 have e:=m9 h;unfold without at e ⊢;rw[abY,e];simp
def perm_back:∀{m:cL},(m.map (·.1)).Nodup->(n,t)∈m->(without n m++[(n,t)]).Perm m
 | [],_,h=>nomatch h
 | e::r,hn,h=>by
   obtain⟨h1,h2⟩:=abn.mp (show(e.1::r.map (·.1)).Nodup from hn)
   by_cases he:e.1=n
   ·have hr:without n (e::r)=r:=by
     have q:=m9 (n:=n) (m:=r) (he▸h1);unfold without at q ⊢;rw[aa2,aaf (by simp[he]),q]
    have I:e=(n,t):=by
     rcases aaC.mp h with z|z
     ·exact z.symm
     ·exact absurd (abU (f:=(·.1)) z) (he▸h1)
    rw[hr,I];exact List.perm_append_singleton _ _
   ·have hr:without n (e::r)=e::without n r:=by
     unfold without;rw[aa2,aai (by simp[he])]
    rw[hr];refine List.Perm.cons _ (perm_back h2 ?_);rcases aaC.mp h with z|z
    ·exact absurd (by rw[<-z]) he
    ·exact z
end
abbrev Ent:=Nat×Addr×bZ
def B5(e:Ent):Key×V:=(Sum.inl ((e.1:Nat):Int),.ref e.2.1)
def QI(e:Ent):Nat×bZ:=(e.1,e.2.2)
def kN(n:Nat):Key:=Sum.inl ((n:Nat):Int)
def Gs{a b:Nat}(h:kN a=kN b):a=b:=by
 have:=Sum.inl.inj h
 lia
def eB(H:Hp)(a:Addr)(m:cL):Prop:=∃es:List Ent,H a=some (.dK (es.map B5))/\(es.map QI).Perm m/\∀e∈es,H e.2.1=some (.tup (mC e.2.2))
section
variable {H H' : Hp}{a b:Addr}{p f n:Nat}{m m' : cL}{es:List Ent}{t:bZ}
def eB.keep(h:eB H a m)(ts:bG H H')(ha:H' a=H a):eB H' a m:=by
 obtain⟨es,h1,h2,I⟩:=h;exact⟨es,by rw[ha];exact h1,h2,λe he=>ts _ _ (I e he)⟩
def eB.same(h:eB H a m)(s:aq H H'):eB H' a m:=by
 obtain⟨es,h1,h2,I⟩:=h;exact⟨es,s _ _ h1,h2,λe he=>s _ _ (I e he)⟩
def sr(hp:(es.map QI).Perm m):(es.map (·.1)).Perm (m.map (·.1)):=by
 have q:=hp.map (·.1);rw[abz]at q;exact q
def Gu:∀{es:List Ent},(es.map (·.1)).Nodup->∀e∈es,dS (es.map B5) (kN e.1)=some (.ref e.2.1)
 | [],_,_,h=>nomatch h
 | x::r,hn,e,h=>by
   obtain⟨h1,h2⟩:=abn.mp (show(x.1::r.map (·.1)).Nodup from hn)
   rw[aaR];rcases aaC.mp h with z|z
   ·subst z;exact cN rfl
   ·rw[ck (show ¬(B5 x).1=kN e.1 from λq=>h1 (by rw[Gs (a:=x.1) q];exact abU z))]
    exact Gu h2 e z
def IY:∀{es:List Ent},¬ n∈es.map (·.1)->dS (es.map B5) (kN n)=none
 | [],_=>rfl
 | x::r,h=>by
   rw[aaR,ck (show ¬(B5 x).1=kN n from λq=>h (by rw[<-Gs (a:=x.1) q];exact aaF))]
   exact IY λz=>h (nU _ z)
def IZ(n:Nat):∀es:List Ent,bO (es.map B5) (kN n)=(es.filter λe=>decide (e.1≠n)).map B5
 | []=>rfl
 | x::r=>by
   have I:=IZ n r;unfold bO at I ⊢;rw[aaR,aa2,aa2,I]
   by_cases h:x.1=n
   ·rw[aaf (by simp[B5,kN,h]),aaf (by simp[h])]
   ·rw[aai (dm (show(B5 x).1≠kN n from λq=>h (Gs (a:=x.1) q))),aai (by simp[h])]
    rfl
def Kf(hp:(es.map QI).Perm m):((es.filter λe=>decide (e.1≠n)).map QI).Perm (without n m):=by
 have q:=hp.filter λe=>decide (e.1≠n)
 rw[List.filter_map]at q;exact q
def eB.sorted(h:eB H a m)(ok:c7 p f m):∃kvs ns,H a=some (.dK kvs)/\kvs.map (·.1)=ns.map Sum.inl/\kvs.length<64/\
 ∀I : List Int,I.Perm ns->I.Pairwise (·<=·)->I.map V.int=aD (m.map (·.1)):=by
 obtain⟨es,h1,h2,Y⟩:=h;refine⟨_,es.map λe=>((e.1:Nat):Int),h1,?_,?_,λI O hs=>?_⟩
 ·rw[abz,abz];rfl
 ·have q:=h2.length_eq;rw[aac]at q;rw[aac];have:=ok.few
  lia
 ·have U:I = (m.map (·.1)).map λx=>((x:Nat):Int):=by
   refine List.Perm.eq_of_pairwise (λx y _ _ h1 h2=>Int.le_antisymm h1 h2) hs ?_ (O.trans ?_)
   ·rw[abH];exact ok.asc.imp λh=>by lia
   ·have q:=(sr h2).map λx=>((x:Nat):Int)
    rw[abz]at q;exact q
  rw[U,abz];rfl
def eB.get(h:eB H a m)(ok:c7 p f m)(hm:(n,t)∈m):∃kvs b,H a=some (.dK kvs)/\dS kvs (kN n)=some (.ref b)/\H b=some (.tup (mC t)):=by
 obtain⟨es,h1,h2,I⟩:=h;obtain⟨e,he,q⟩:=aaH.mp (h2.mem_iff.mpr hm);have O:e.1=n:=aa4 (·.1) q;have U:e.2.2=t:=aa4 (·.2) q;refine⟨_,e.2.1,h1,?_,by rw[<-U];exact I e he⟩
 rw[<-O];exact Gu ((sr h2).nodup_iff.mpr ok.nodup) e he
def eB.len(h:eB H a m):∃kvs,H a=some (.dK kvs)/\kvs.length=m.length:=by
 obtain⟨es,h1,h2,I⟩:=h;refine⟨_,h1,?_⟩;rw[aac,<-h2.length_eq,aac]
def eB.put(h:eB H a m)(hn : ¬ n∈m.map (·.1))(hb:H b=some (.tup (mC t))):∃kvs,H a=some (.dK kvs)/\kvs.length=m.length/\
 ∀H' m',bG H H'->H' a=some (.dK (putK kvs (kN n) (.ref b)))->(m++[(n,t)]).Perm m'->eB H' a m':=by
 obtain⟨es,h1,h2,I⟩:=h;refine⟨_,h1,by rw[aac,<-h2.length_eq,aac],λH' m' ts ha O=>⟨es++[(n,b,t)],?_,?_,λe he=>?_⟩⟩
 ·rw[ha,yb _ (IY λz=>hn ((sr h2).mem_iff.mp z)),aaJ]
  rfl
 ·rw[aaJ];exact(h2.append_right _).trans O
 ·rcases aa9.mp he with he|he
  ·exact ts _ _ (I e he)
  ·cases aaW.mp he;exact ts _ _ hb
def eB.pop(h:eB H a m)(ok:c7 p f m)(hm:(n,t)∈m):∃kvs b,H a=some (.dK kvs)/\dS kvs (kN n)=some (.ref b)/\H b=some (.tup (mC t))/\
 ∀H',bG H H'->H' a=some (.dK (bO kvs (kN n)))->eB H' a (without n m):=by
 obtain⟨es,h1,h2,I⟩:=h;obtain⟨e,he,q⟩:=aaH.mp (h2.mem_iff.mpr hm);have O:e.1=n:=aa4 (·.1) q;have U:e.2.2=t:=aa4 (·.2) q;refine⟨_,e.2.1,h1,?_,by rw[<-U];exact I e he,λH' ts ha=>⟨_,ha.trans (by rw[IZ]),Kf h2,λe he=>ts _ _ (I e (aaX.mp he).1)⟩⟩
 rw[<-O];exact Gu ((sr h2).nodup_iff.mpr ok.nodup) e he
end
def ye(H:Hp)(y:V):kO->Prop
 | .put n=>∃b,y = .ref b/\H b=some (.tup [.int (n:Int),.eX])
 | .drop n t=>∃b c,y = .ref b/\H b=some (.tup [.int (n:Int),.ref c])/\H c=some (.tup (mC t))
def ye.tups{H H' : Hp}(ts:bG H H'){y:V}:∀{d:kO},ye H y d->ye H' y d
 | .put _,⟨b,e,h⟩=>⟨b,e,ts _ _ h⟩
 | .drop _ _,⟨b,c,e,h,g⟩=>⟨b,c,e,ts _ _ h,ts _ _ g⟩
def Ni{α β:Type}{R:α->β->Prop}:∀{xs:List α} {ys:List β} {y:β},Paired R xs (ys++[y])->∃I x,xs=I++[x]/\Paired R I ys/\R x y
 | _,[],_,.cons h .nil=>⟨[],_,rfl,.nil,h⟩
 | _,_::_,_,.cons h r=>by
   obtain⟨I,x,e,h1,h2⟩:=Ni r;exact⟨_::I,x,by rw[e];rfl,.cons h h1,h2⟩
def j7(n:Nat)(d:Addr)(f:Nat)(q:Addr):List (Str×V):=[("points",.int (n:Int)),("standing_ties",.ref d),("next_name",.int (f:Int)),("done",.ref q)]
def RV: ¬(("points":Str)="standing_ties"):=by decide +kernel
def Nj: ¬(("points":Str)="next_name"):=by decide +kernel
def RW: ¬(("points":Str)="done"):=by decide +kernel
def ne_sn: ¬(("standing_ties":Str)="next_name"):=by decide +kernel
def RX: ¬(("standing_ties":Str)="done"):=by decide +kernel
def RY: ¬(("next_name":Str)="done"):=by decide +kernel
def lE{g f:Str}{x v:V}{r:List (Str×V)}(h : ¬ g=f):di f v ((g,x)::r)=(g,x)::di f v r:=aaf h
def QJ{f:Str}{x v:V}{r:List (Str×V)}:di f v ((f,x)::r)=(f,v)::r:=aai rfl
def kA(n:Nat)(d:Addr)(f:Nat)(q:Addr):di "done" (.ref q) (di "next_name" (.int (f:Int)) (di "standing_ties" (.ref d) (di "points" (.int (n:Int)) [])))=j7 n d f q:=by
 have I:di "points" (.int (n:Int)) []=[(("points":Str),V.int (n:Int))]:=rfl;rw[I,lE RV];rw[show di "standing_ties" (.ref d) []=[(("standing_ties":Str),V.ref d)] from rfl,lE Nj,lE ne_sn]
 rw[show di "next_name" (.int (f:Int)) []=[(("next_name":Str),V.int (f:Int))] from rfl,lE RW,lE RX,lE RY]
 rfl
def AY(n:Nat)(d:Addr)(f g:Nat)(q:Addr):di "next_name" (.int (g:Int)) (j7 n d f q)=j7 n d g q:=by
 unfold j7;rw[lE Nj,lE ne_sn,QJ]
section
variable {n f:Nat}{d q:Addr}
def AZ:(j7 n d f q).lookup ("points":Str)=some (.int (n:Int)):=by
 rw[<-kA,bu,aaf RW,bu,aaf Nj,bu,aaf RV,bu,aai rfl]
def nc:(j7 n d f q).lookup ("standing_ties":Str)=some (.ref d):=by
 rw[<-kA,bu,aaf RX,bu,aaf ne_sn,bu,aai rfl]
def QK:(j7 n d f q).lookup ("next_name":Str)=some (.int (f:Int)):=by
 rw[<-kA,bu,aaf RY,bu,aai rfl]
def su:(j7 n d f q).lookup ("done":Str)=some (.ref q):=by
 rw[<-kA,bu,aai rfl]
def fF{m:Str}(h1 : ¬ m="points")(h2 : ¬ m="standing_ties")(h3 : ¬ m="next_name")(h4 : ¬ m="done"):(j7 n d f q).lookup m=none:=by
 rw[<-kA,bu,aaf h4,bu,aaf h3,bu,aaf h2,bu,aaf h1];rfl
end
def none_of{H H' : Hp}{p d:Addr}(k:∀b o,H b=some o->b≠p->H' b=some o)(h:H' d=none)(n:d≠p):H d=none:=by
 cases e:H d with
 | none=>rfl
 | some o =>
   rw[k d o e n]at h;cases h
structure gx(C:Addr)(H:Hp)(p d q:Addr)(n:Nat)(hs:List (Nat×cL))(ds:List kO):Prop where
 ch:Chain n hs ds
 p1:1<=n
 p2:n<=10
 ob:∃dx f m hs',hs=(f,m)::hs'/\H p=some (.ins C dx (j7 n d f q))/\eB H d m
 dn:∃ys,H q=some (.lst ys)/\Paired (ye H) ys ds.reverse
structure Kept(H H' : Hp)(p d q:Addr):Prop where
 tups:bG H H'
 rest:∀b o,H b=some o->b≠p->b≠d->b≠q->H' b=some o
def gx.same{C:Addr}{H H' : Hp}{p d q:Addr}{n:Nat}{hs:List (Nat×cL)}{ds:List kO}(h:gx C H p d q n hs ds)(s:aq H H'):gx C H' p d q n hs ds:=by
 obtain⟨dx,f,m,hs',e,h1,h2⟩:=h.ob;obtain⟨ys,h3,h4⟩:=h.dn;exact⟨h.ch,h.p1,h.p2,⟨dx,f,m,hs',e,s _ _ h1,h2.same s⟩,ys,s _ _ h3,Paired.imp' (λ_ _ z=>z.tups s.tups) h4⟩
def oJ(t:bZ):PyData:=.tuple [.int t.1,.int t.2.1,.int t.2.2]
def Nk(p:Nat)(ts:List bZ):PyData:=.tuple [.int (p:Int),.tuple (ts.map oJ)]
section
variable {K:bJ}
def sy{H:Hp}:∀{xs:List V} {ts:List bZ},Paired (TupAt H) xs ts->DatVs K H xs (ts.map oJ)
 | _,_,.nil=>.nil
 | _,_,.cons ⟨b,e,h⟩ r=>by
   subst e;exact .cons (.tup (aU.of h) (.cons (.int _) (.cons (.int _) (.cons (.int _) .nil)))) (sy r)
def pV{H:Hp}{w:Addr}{p:Nat}{ts:List bZ}(h:bE H w p ts):qQ K H (.ref w) (Nk p ts):=by
 obtain⟨b,xs,h1,h2,I⟩:=h.ex;exact .tup (aU.of h1) (.cons (.int _) (.cons (.tup (aU.of h2) (sy I)) .nil))
end
def yf:∀ts:List bZ,PyData.canLayAll0 (ts.map oJ)=true
 | []=>rfl
 | t::r=>by
   have I:=yf r;simp only[aaR,PyData.canLayAll0,I,acM];rfl
def uw:∀ts:List bZ,PyData.depthAll (ts.map oJ)<=1
 | []=>aa3 _
 | t::r=>by
   have I:=uw r;show max (PyData.depth (oJ t)) (PyData.depthAll (r.map oJ))<=1;have e:PyData.depth (oJ t)=1:=rfl
   lia
def xh(p:Nat)(ts:List bZ):(Nk p ts).canLay0=true:=by
 show(true&&((PyData.tuple (ts.map oJ)).canLay0&&true))=true;have e:(PyData.tuple (ts.map oJ)).canLay0=PyData.canLayAll0 (ts.map oJ):=by simp[PyData.canLay0]
 rw[e,yf];rfl
def iM(p:Nat)(ts:List bZ):SeqAt.shaped (Nk p ts)=true:=by
 unfold SeqAt.shaped;rw[xh,abx];refine dm ?_;have h:=uw ts;have e:PyData.depth (Nk p ts)=max 0 (max (PyData.depthAll (ts.map oJ)+1) 0)+1:=by simp[Nk,PyData.depth,PyData.depthAll]
 lia
end Ring
namespace L2
open PySem PySem.Spec PyProof.Rows
section
variable {X:Cx}
def T8:R2:=λx y H Q=>∃a b xs ys,x = .ref a/\y = .ref b/\H a=some (.tup xs)/\H b=some (.tup ys)/\xs.length+ys.length<=sizeLine/\∀p H',aq H H'->H' p=some (.tup (xs++ys))->Q (.ref p) H'
def WR:my X (binaryOp .Add) T8:=by
 intro pq s σ H x y v u Q I rx O h;obtain⟨a,b,xs,ys,rfl,rfl,ha,hb,hz,q⟩:=h
 by_cases hx:xs=[]
 ·subst hx;cases rx;cases O;obtain⟨U,Y,p1,_⟩:=I.tuple (aU.of ha);obtain⟨its2,r2,p2,_⟩:=I.tuple (aU.of hb);obtain⟨⟨cls,dd,data,sl⟩,ho,hc,n,hd⟩:=id p1;obtain⟨⟨P4,dd2,data2,sl2⟩,ho2,hc2,n2,hd2⟩:=id p2;simp only at hc hd hc2 hd2;subst hc hd hc2 hd2;cases Y;exact concat_meets ⟨_,ho,rfl⟩ ⟨_,ho2,rfl⟩ noFill_tuple_add seq_tuple_add adp adk (ac8 _ _)
   (tuple_addW0 a b _ its2.toArray n n2 dd dd2 sl sl2 rfl) ⟨ho,ho2,⟨.ref b,H,I,rfl,q b H (aq.refl _) hb⟩⟩
 ·exact P9 pq s σ H _ _ _ _ Q I rx O ⟨a,b,xs,ys,rfl,rfl,aU.of ha,aU.of hb,hx,hz,λz=>q a H (aq.refl _) (by rw[z,ab5];exact ha),λz p Z=>q p _ (aq.new Z) ae⟩
end
def A1{K:bJ}{a:Addr}{xs:List V}{g:TG}{tb:TS}{D:Ends}{σ:St}{H:Hp}(Pv:Nat->St->Hp->Prop)(h0:Pv 0 σ H)(hl:∀i σ H,i<=xs.length->Pv i σ H->aU K H a xs)
 (hs:∀i x T σ H,xs[i]?=some x->Pv i σ H->H T=none->g (.ref T) σ (upd H T (.tup [.int (i:Int),x])) λσ2 H2=>tb { D with nx:=Pv (i+1),ct:=Pv (i+1),bk:=D.nx} σ2 H2) (hd:∀σ H,Pv xs.length σ H->D.nx σ H) :
 ∃W:Nat->Nat->St->Hp->Prop,(∃m,W 0 m σ H)/\∀i m σ H,W i m σ H->
   ((J7 K a).stop i H/\D.nx σ H)\/((J7 K a).go i H/\∃N:St->Hp->Prop,(∀σ' H',N σ' H'->∃m',m'<m/\W (i+1) m' σ' H')/\∀x H',(J7 K a).Ma i H x H'->g x σ H' λσ2 H2=>tb { D with nx:=N,ct:=N,bk:=D.nx} σ2 H2):=by
 refine⟨λi m σ H=>m=xs.length-i/\i<=xs.length/\Pv i σ H,⟨xs.length,by simp,aa3 _,h0⟩,?_⟩
 rintro i m σ H ⟨rfl,hi,p⟩;have q:=hl i σ H hi p
 by_cases I:i<xs.length
 ·refine .inr ⟨⟨xs,xs[i],q,by simp[I]⟩,Pv (i+1),λσ' H' O=>⟨xs.length-(i+1),by lia,rfl,I,O⟩,λv H' y=>?_⟩
  obtain⟨T,x,rfl,U,rfl,Y⟩:=y;exact hs i x T σ _ (Y xs q) p U
 ·have e:i=xs.length:=by lia
  subst e;exact .inl ⟨⟨xs,q,rfl⟩,hd σ H p⟩
end L2
namespace Ring
open PySem L2
def oV:Option Int->V
 | none=>.eX
 | some i=>.int i
abbrev Pr:=Option Int×Option Int
def sel(q:Pr)(u:Bool):Option Int:=if u=true then q.2 else q.1
def yg:Option Int->Option Int->Int->Bool
 | none,none,_=>true
 | none,some _,_=>false
 | some _,none,_=>false
 | some x,some y,l=>decide ((if x-y<0 then -(x-y) else x-y)<=l)
def fQ(R:List Pr)(i:Nat):Pr:=R.getD i (none,none)
def DT(R:List Pr)(t:bZ)(u:Bool):Bool:=yg (fQ R t.1.toNat).1 (sel (fQ R t.2.1.toNat) u) t.2.2&&yg (fQ R t.1.toNat).2 (sel (fQ R t.2.1.toNat) (!u)) t.2.2
def RZ(ts:List bZ)(m i:Nat)(R:List Pr):Prop:=(fQ R i).1=some 0/\∀k,k<ts.length->DT R (bj ts k) (m.testBit k)=true
def B6(p:Nat)(ts:List bZ)(m:Nat)(W:List (List Pr)):Prop:=∀i,i<p->RZ ts m i (W.getD i [])
def iN(H:Hp)(x:V)(q:Pr):Prop:=∃b,x = .ref b/\H b=some (.tup [oV q.1,oV q.2])
def RowW(H:Hp)(x:V)(R:List Pr):Prop:=∃b ys,x = .ref b/\H b=some (.tup ys)/\Paired (iN H) ys R
def fK(H:Hp)(b:Addr)(W:List (List Pr)):Prop:=∃ys,H b=some (.tup ys)/\Paired (RowW H) ys W
def LR(p:Nat)(W:List (List Pr)):Prop:=W.length=p/\∀R∈W,R.length=p
def iN.same{H H' : Hp}(s:aq H H'){x:V}{q:Pr}(h:iN H x q):iN H' x q:=let⟨b,e,z⟩:=h;⟨b,e,s _ _ z⟩
def RowW.same{H H' : Hp}(s:aq H H'){x:V}{R:List Pr}(h:RowW H x R):RowW H' x R:=let⟨b,ys,e,z,pr⟩:=h;⟨b,ys,e,s _ _ z,Paired.imp' (λ_ _ z=>z.same s) pr⟩
def fK.same{H H' : Hp}(s:aq H H'){b:Addr}{W:List (List Pr)}(h:fK H b W):fK H' b W:=let⟨ys,z,pr⟩:=h;⟨ys,s _ _ z,Paired.imp' (λ_ _ z=>z.same s) pr⟩
def iN.tups{H H' : Hp}(s:bG H H'){x:V}{q:Pr}(h:iN H x q):iN H' x q:=let⟨b,e,z⟩:=h;⟨b,e,s _ _ z⟩
def RowW.tups{H H' : Hp}(s:bG H H'){x:V}{R:List Pr}(h:RowW H x R):RowW H' x R:=let⟨b,ys,e,z,pr⟩:=h;⟨b,ys,e,s _ _ z,Paired.imp' (λ_ _ z=>z.tups s) pr⟩
def iO{α β:Type}{F:α->β->Prop}{l:List α}{r:List β}(pr:Paired F l r){i:Nat}(h:i<r.length)(d:β):∃x,l[i]?=some x/\F x (r.getD i d):=by
 have I:i<l.length:=by rw[pr.length];exact h
 obtain⟨y,O,hf⟩:=Paired.lR pr (i:=i) (x:=l[i]) (by simp[I])
 refine⟨l[i],by simp[I],?_⟩
 rw[aad,O];exact hf
def RowW.at{H:Hp}{ys:List V}{R:List Pr}(pr:Paired (iN H) ys R){i:Nat}(h:i<R.length):∃b,ys[i]?=some (.ref b)/\H b=some (.tup [oV (fQ R i).1,oV (fQ R i).2]):=by
 obtain⟨x,hx,b,rfl,hb⟩:=iO pr h (none,none);exact⟨b,hx,hb⟩
def QL(a:Option Int):decide (oV a=V.int 0)=decide (a=some 0):=by
 cases a with
 | none=>rw[abw];simp[oV]
 | some i=>rw[abw];simp[oV]
def LR.row{p:Nat}{W:List (List Pr)}(h:LR p W){i:Nat}(hi:i<p):(W.getD i []).length=p:=by
 have I:i<W.length:=by rw[h.1];exact hi
 rw[aad];simp only[I,aag,Option.getD_some];exact h.2 _ (abZ I)
def Nl(q:Pr)(u:Bool):([oV q.1,oV q.2]:List V)[u.toNat]?=some (oV (sel q u)):=by
 cases u<;>rfl
end Ring
namespace RM
variable {N:Net}{m t0:Nat}
def Net.YO(N:Net)(t v:Nat):Nat:=if N.a t=v then N.b t else N.a t
def Net.ux(N:Net)(left v:Nat):List Nat:=(List.range N.n).filter λt=>left.testBit t&&(decide (N.a t=v) || decide (N.b t=v))
def kP{left v t:Nat}:t∈N.ux left v↔t<N.n/\left.testBit t=true/\(N.a t=v\/N.b t=v):=by
 unfold Net.ux;rw[aaX,aaI,abd,Bool.or_eq_true,decide_eq_true_eq,decide_eq_true_eq]
inductive Wk(N:Net)(m t0:Nat):List (Nat×Int)->Nat->Nat->Prop
 | start:Wk N m t0 [(t0,1)] (N.b t0) (m^^^2^t0)
 | next {acc:List (Nat×Int)} {v left t:Nat} (h:Wk N m t0 acc v left) (h0:left≠0) (ht:(N.ux left v)[0]?=some t):Wk N m t0 (acc++[(t,if N.a t=v then 1 else -1)]) (N.YO t v) (left^^^2^t)
def DU{t v:Nat}(h:N.a t=v\/N.b t=v):(N.a t=v/\N.b t=N.YO t v)\/(N.b t=v/\N.a t=N.YO t v):=by
 unfold Net.YO
 by_cases e:N.a t=v
 ·rw[aai e];exact .inl ⟨e,rfl⟩
 ·rw[aaf e];rcases h with h|h
  ·exact absurd h e
  ·exact .inr ⟨h,rfl⟩
def Nm{pre ks:List Nat}{v left:Nat}(h:Way N m pre v ks left)(hz:∀k,m.testBit k=true->k∈ks):left=0:=by
 apply abh;intro k;rw[h.se,abR];cases hb:m.testBit k with
 | false=>rfl
 | true=>rw[dm (hz k hb)];rfl
def A2{pre ks:List Nat}{v left:Nat}(r:N.Ring m)(h:Way N m pre v ks left)(h0:left≠0):v∉pre:=λI=>by
 obtain⟨i,hi⟩:=aa5 I;obtain⟨q0,qe,_,qs⟩:=h.closes hi;rcases r.2.2 _ qs qe with z|z
 ·exact q0 z
 ·refine h0 (Nm h λk hk=>?_)
  rw[<-z,Ring.j6]at hk;exact adM (ko hk)
def T9(hm:m<2^N.n)(r:N.Ring m)(hb:m.testBit t0=true){acc:List (Nat×Int)}{v left:Nat}(h:Wk N m t0 acc v left):∃pre,Way N m pre v (acc.map (·.1)) left/\pre[0]?=some (N.a t0):=by
 induction h with
 | start =>
   refine⟨[N.a t0],?_,rfl⟩;exact(Way.start hm r.2.1 hb).go (by simp) hb (.inl ⟨rfl,rfl⟩)
 | next h h0 ht ih =>
   obtain⟨pre,w,p0⟩:=ih;have I:=kP.mp (jV ht);refine⟨_,by rw[aaJ];exact w.go (A2 r w h0) I.2.1 (DU I.2.2),?_⟩
   rw[aba (by have:=(jo.mp p0).1;exact this)]
   exact p0
def WS(hm:m<2^N.n)(r:N.Ring m)(hb:m.testBit t0=true){acc:List (Nat×Int)}{v left:Nat}(h:Wk N m t0 acc v left)(h0:left≠0):∃t,(N.ux left v)[0]?=some t:=by
 obtain⟨pre,w,_⟩:=T9 hm r hb h;obtain⟨t,h1,h2⟩:=w.on (A2 r w h0);have ht:t<N.n:=dc w.Qz h1;have I:t∈N.ux left v:=kP.mpr ⟨ht,h1,h2⟩;cases e:N.ux left v with
 | nil=>rw[e]at I;cases I
 | cons x l=>exact⟨x,rfl⟩
def DV{left t n:Nat}(ht:t<n)(hb:left.testBit t=true):cnt (λj=>left.testBit j) n=cnt (λj=>(left^^^2^t).testBit j) n+1 :=
 xQ (h:=t) hb ht λx _=>by
  rw[aaB,aaQ]
  by_cases e:x=t
  ·subst e;simp[hb]
  ·rw[gj e,gj (λz=>e z.symm)]
   simp
def B7(hm:m<2^N.n)(hb:m.testBit t0=true){acc:List (Nat×Int)}{v left:Nat}(h:Wk N m t0 acc v left):acc.length+cnt (λj=>left.testBit j) N.n=cnt (λj=>m.testBit j) N.n:=by
 induction h with
 | start =>
   have:=DV (dc hm hb) hb;show 1+_=_
   lia
 | next h h0 ht ih =>
   have I:=kP.mp (jV ht);have:=DV I.1 I.2.1;rw[aaz,abt]
   lia
variable {N:Net}{m t0:Nat}
def QM(hb:m.testBit t0=true){acc:List (Nat×Int)}{v left:Nat}(h:Wk N m t0 acc v left):∀k,left.testBit k=(m.testBit k && !decide (k∈acc.map (·.1))):=by
 induction h with
 | start =>
   intro k;rw[aaB,aaQ]
   by_cases e:t0=k
   ·subst e;simp[hb]
   ·have e' : ¬ k=t0:=λz=>e z.symm
    simp[e,e']
 | @next acc v left t h h0 ht ih =>
   intro k;have O:=kP.mp (jV ht);have I:=O.2.1;rw[ih t]at I;rw[aaB,aaQ,ih k,aaJ]
   by_cases e:t=k
   ·subst e;rw[I];simp
   ·have e' : ¬ k=t:=λz=>e z.symm
    have U:(k∈acc.map (·.1)++[(t,if N.a t=v then(1:Int) else -1)].map (·.1))↔k∈acc.map (·.1):=by simp[e']
    rw[show decide (k∈acc.map (·.1)++[(t,if N.a t=v then(1:Int) else -1)].map (·.1))=decide (k∈acc.map (·.1)) from abv.mpr U]
    simp[e]
def Gv(hm:m<2^N.n)(hb:m.testBit t0=true){acc:List (Nat×Int)}{v left:Nat}(h:Wk N m t0 acc v left):left<2^N.n:=c6 λk hk=>by
 rw[QM hb h k,abd]at hk;exact dc hm hk.1
def Nn{left n:Nat}(hl:left<2^n):cnt (λj=>left.testBit j) n=0↔left=0:=by
 constructor
 ·intro h;apply abb;intro h0;obtain⟨j,hj⟩:=abL h0;have:=r6 (f:=λj=>left.testBit j) hj (dc hl hj)
  lia
 ·rintro rfl;rw[kM];refine(jx λk _=>?_).trans (w5 n)
  rw[aaf (by rw[abR];simp)]
def QN(hm:m<2^N.n)(hb:m.testBit t0=true){acc:List (Nat×Int)}{v left:Nat}(h:Wk N m t0 acc v left):acc.length=cnt (λj=>m.testBit j) N.n↔left=0:=by
 have:=B7 hm hb h;rw[<-Nn (Gv hm hb h)]
 lia
end RM
namespace Ring
open PySem L2
def Np{H:Hp}{xs:List V}{p:Nat}{ts:List bZ}{g:aA p ts}{k:Nat}(h3:Paired (TupAt H) xs ts)(hk:k<ts.length):∃c,xs[k]?=some (.ref c)/\H c=some (.tup [.int ((g.N.a k:Nat):Int),.int ((g.N.b k:Nat):Int),.int (bj ts k).2.2]):=by
 have I:k<xs.length:=by rw[h3.length];exact hk
 obtain⟨t,ht,c,hc,O⟩:=Paired.lR h3 (i:=k) (x:=xs[k]) (by simp[I])
 have U:t=bj ts k:=by
  have z:=um hk;rw[ht]at z;exact Option.some.inj z
 refine⟨c,by rw[<-hc];simp[I],?_⟩
 rw[O,<-IK hk,<-IL hk,U];rfl
end Ring
namespace RM
variable {N:Net}{row aeW:Nat->Int}
def Kg{m t0:Nat}(hm:m<2^N.n)(r:N.Ring m)(hb:m.testBit t0=true):∃acc v,Wk N m t0 acc v 0:=by
 have key:∀(k:Nat) (acc:List (Nat×Int)) (v left:Nat),Wk N m t0 acc v left->cnt (λj=>left.testBit j) N.n=k->∃acc v,Wk N m t0 acc v 0:=by
  intro k
  induction k with
  | zero =>
    intro acc v left h e;have I:=B7 hm hb h;rw[e]at I;have h0:=(QN hm hb h).mp I;subst h0;exact⟨acc,v,h⟩
  | succ k O =>
    intro acc v left h e
    by_cases h0:left=0
    ·subst h0;exact⟨acc,v,h⟩
    ·obtain⟨t,ht⟩:=WS hm r hb h h0;have h':=Wk.next h h0 ht;have l1:=B7 hm hb h;have U:=B7 hm hb h';rw[aaz]at U;refine O _ _ _ h' ?_;have Y:[((t:Nat),(if N.a t=v then(1:Int) else -1))].length=1:=rfl
     lia
 exact key _ _ _ _ .start rfl
variable {N' : Net}
end RM
namespace L2
open PySem PySem.Spec PyProof.Rows PySem.W
def zJ(n:Nat){α:Type}(R:α->Prop):KasT α->Prop
 | .ret a=>R a
 | .ask i j k=>i<n/\j<n/\∀b,zJ n R (k b)
def zJ.bind{n:Nat}{α β:Type}{R:α->Prop}{R' : β->Prop}{f:α->KasT β}:∀{t:KasT α},zJ n R t->(∀a,R a->zJ n R' (f a))->zJ n R' (t.bind f)
 | .ret a,h,g=>by
   rw[KasT.bind.eq_1];exact g a h
 | .ask i j k,h,g=>by
   rw[KasT.bind.eq_2];exact⟨h.1,h.2.1,λb=>zJ.bind (h.2.2 b) g⟩
def eE(n:Nat)(p:Array Nat):Prop:=p.toList.Perm (List.range n)
def eE.at{n:Nat}{p:Array Nat}(h:eE n p)(hn:0<n)(x:Nat):p.getD x 0<n:=by
 unfold Array.getD
 split
 ·rename_i hx
  have:p[x]∈p.toList:=by simp
  exact aaI.mp (h.mem_iff.mp this)
 ·exact hn
def Kh{n:Nat}{p:Array Nat}(h:eE n p)(i j:Nat):eE n (p.swapIfInBounds i j):=by
 unfold Array.swapIfInBounds
 split
 ·split
  ·exact(Array.perm_iff_toList_perm.mp (Array.swap_perm _ _)).trans h
  ·exact h
 ·exact h
def uy{n:Nat}(f g:Nat->Nat):∀(l:List Nat) {p:Array Nat},eE n p->eE n (l.foldl (λa k=>a.swapIfInBounds (f k) (g k)) p)
 | [],_,h=>h
 | k::l,_,h=>uy f g l (Kh h (f k) (g k))
def oM{n:Nat}{p:Array Nat}(h:eE n p)(i j:Nat):eE n (kas_rev p i j):=uy _ _ _ h
def Nq{n:Nat}{p:Array Nat}(h:eE n p)(i j:Nat):eE n (bubble p i j):=uy _ _ _ h
def Gw{n:Nat}{p:Array Nat}(h:eE n p)(hn:0<n):∀f x,zJ n (λ_=>True) (kas_asc p f x)
 | 0,x=>by
   rw[kas_asc.eq_1];trivial
 | f+1,x=>by
   rw[kas_asc.eq_2];refine⟨h.at hn _,h.at hn _,λb=>?_⟩
   cases b with
   | true=>trivial
   | false=>exact Gw h hn f (x+1)
def xj{n:Nat}(hn:0<n):∀f {p:Array Nat} (x q:Nat),eE n p->zJ n (λr:Array Nat×Nat×Nat=>eE n r.1) (kas_desc f p x q)
 | 0,p,x,q,h=>by
   rw[kas_desc.eq_1];exact h
 | f+1,p,x,q,h=>by
   rw[kas_desc.eq_2];refine⟨h.at hn _,h.at hn _,λb=>?_⟩
   cases b with
   | true =>
     show zJ n _ (if q > 0 then _ else _)
     by_cases I:q > 0
     ·rw[aai I];exact xj hn f _ _ (oM h _ _)
     ·rw[aaf I];exact xj hn f _ _ h
   | false =>
     refine⟨h.at hn _,h.at hn _,λb=>?_⟩
     cases b with
     | true=>exact h
     | false=>exact xj hn f _ _ h
def Ja{n:Nat}(hn:0<n){p:Array Nat}(h:eE n p)(x r:Nat):zJ n (λr:Nat×Array Nat=>eE n r.2) (kas_tail3 x r p) :=
 zJ.bind (Gw (oM h _ _) hn _ _) λ_ _=>oM h _ _
def Jb{n:Nat}(hn:0<n){p:Array Nat}(h:eE n p)(x r:Nat):zJ n (λr:Nat×Array Nat=>eE n r.2) (kas_descPart x r p):=by
 refine zJ.bind (xj hn _ _ _ h) λy I=>?_
 by_cases O:y.2.2 > 0
 ·rw[aai O];exact Ja hn (oM I _ _) _ _
 ·rw[aaf O];exact Ja hn I _ _
def Nr{n:Nat}(hn:0<n){p:Array Nat}(h:eE n p)(r:Nat):zJ n (λr:Nat×Array Nat=>eE n r.2) (kas_count r p):=by
 refine zJ.bind (Gw h hn _ _) λy _=>?_
 by_cases h1:(y==r)=true
 ·rw[aai h1];exact h
 ·rw[aaf h1]
  by_cases h2:y > 1
  ·rw[aai h2];refine⟨h.at hn _,h.at hn _,λb=>?_⟩
   cases b with
   | true=>exact h
   | false=>exact Jb hn (oM h _ _) _ _
  ·rw[aaf h2];exact Jb hn h _ _
def yh{n:Nat}(hn:0<n){p:Array Nat}(h:eE n p)(k:Nat):∀f x y,zJ n (λ_=>True) (kas_place p k f x y)
 | 0,x,y=>by
   rw[kas_place.eq_1];trivial
 | f+1,x,y=>by
   rw[kas_place.eq_2]
   by_cases hx:x ≥ y
   ·rw[aai hx];trivial
   ·rw[aaf hx];refine⟨h.at hn _,h.at hn _,λb=>?_⟩
    cases b with
    | true=>exact yh hn h k f _ _
    | false=>exact yh hn h k f _ _
def Nt{n:Nat}(hn:0<n):∀f {p:Array Nat} (x:Nat),eE n p->zJ n (eE n) (kas_bin f p x)
 | 0,p,x,h=>by
   rw[kas_bin.eq_1];exact h
 | f+1,p,x,h=>by
   rw[kas_bin.eq_2];exact zJ.bind (yh hn h _ _ _ _) λl _=>Nt hn f _ (Nq h _ _)
def Jc{n:Nat}(hn:0<n):zJ n (eE n) (kas_sort n):=by
 unfold kas_sort;have h0:eE n (List.range n).toArray:=by unfold eE;simp
 refine zJ.bind (Nr hn h0 n) λr hr=>?_
 by_cases hx:r.1<n
 ·rw[aai hx];exact Nt hn _ _ hr
 ·rw[aaf hx];exact hr
def R0(h:Heap)(v:Value):Prop:=∃(a:Addr) (o:Obj) (x y:Int) (t u:Tok) (k:Nat),v = .ref a/\h.get? a=some o/\o.cls = .type "tuple"/\o.data = .seq #[.int x t,.int y u] k
def Kl{prog:Program}{w:World}{A:Around}{E:dR}{s:Shared}{vs:List Value}{Q:SortKind->Shared->Prop}(hn:0<vs.length)(I:∀v∈vs,R0 s.heap v)(q:Q (tuples' true) s):wpAny (model prog w) A (keyKind' vs.toArray) Q E s:=by
 obtain⟨fs,hl,hf,hk⟩:∃fs:List Value,fs.length=vs.length/\(∀v∈fs,∃x t,v=Value.int x t)/\KatTups s.heap vs fs:=by
  clear q hn
  induction vs with
  | nil=>exact⟨[],rfl,λv I=>(by cases I),by rw[KatTups.eq_1];trivial⟩
  | cons v vs U =>
    obtain⟨fs,h1,h2,Y⟩:=U λv O=>I v (nU _ O)
    obtain⟨a,o,x,y,t,u,k,e,Z,hc,hd⟩:=I v aaF;refine⟨.int x t::fs,by simp[h1],λv' O=>?_,?_⟩
    ·rcases aaC.mp O with rfl|O
     ·exact⟨x,t,rfl⟩
     ·exact h2 v' O
    ·rw[KatTups.eq_2];exact⟨⟨a,o,_,k,e,Z,hc,hd,rfl⟩,Y⟩
 refine kat_kind (T:=.type "int") hk (by lia) (λv I=>?_) (by decide) q
 obtain⟨x,t,rfl⟩:=hf v I;intro A Q E s _ q;exact aaq q
section
variable {X:Cx}{pq:aX}{σ:St}{H:Hp}{s:Shared}{h' : Heap}
def Inv.WT{a:Addr}{o:HO}{t' : Nat}(I:Inv X pq σ H s)(k:∀b u,b≠X.env.locals->s.heap.get? b=some u->h'.get? b=some u)(ns:∀m,s.heap.Ns X.env.locals m->h'.Ns X.env.locals m)(hp:s.heap.objs.size<=a)(new:bK X.prog X.w (upd H a o) h' a o):
 Inv X pq σ (upd H a o) { s with heap:=h',toks:=t'}:=by
 have hn:H a=none:=I.hok.fresh hp;have nl:∀b u,H b=some u->b≠X.env.locals:=λb u e z=>by
  rw[z,I.free]at e;cases e
 refine I.step (g':=s.gens) (d':=s.drawn) (ch:=[]) (λb hb=>absurd hb acu) (λb o hb _ _ e _=>k b o hb e) (λb o hb _ _ e _=>⟨o.slots,k b o hb e⟩) (λb u _ e n=>?_) (λb o _ e=>?_) (λb xs e=>?_) (λb u xs e=>?_) (λb ps e=>?_) ns (λb u e=>?_) I.bare
 ·rw[ah (aaP (aaL (aax e) hp))];exact n
 ·by_cases hb:b=X.env.locals
  ·subst hb;obtain⟨m,hm,_⟩:=I.loc;obtain⟨o',es,ep,e',_⟩:=ns m hm;exact⟨o',e'⟩
  ·exact⟨o,k b o hb e⟩
 ·rw[ah (aJ e hn)];exact e
 ·rw[ah (aJ e hn)];exact e
 ·exact⟨#[],by rw[ah (aJ e hn),e];simp⟩
 ·by_cases hb:b=a
  ·subst hb;rw[ae]at e;cases e;exact new
  ·rw[ah hb]at e;refine(I.hok b u e).stay (λc v hc q=>k c v ?_ q) (λc q=>by rw[ah (aJ q hn)];exact q) λc xs q=>by rw[ah (aJ q hn)];exact q
   rcases hc with rfl|hc
   ·exact nl _ _ e
   ·exact nl _ _ hc
def Ua{h:Heap}{L:Addr}{m m' : nY}(a:h.Ns L m)(b:h.Ns L m'):m=m':=by
 obtain⟨o,es,ep,e,d,_,f⟩:=a;obtain⟨o',es',Ih,e',d',_,f'⟩:=b;rw[e]at e';cases e';rw[d]at d';cases d'
 funext x
 rw[<-f x,f' x]
end
def Nu{prog:Program}{w:World}{A:Around}{E:dR}{s:Shared}{a:Addr}{its:List Value}{n0:Nat}{P:PySem.Fin->Shared->Prop}(ho:s.heap.get? a=some (seqObj "list" its.toArray n0))(hn:its.length<2)
 (q:P (PySem.Fin.done (PySem.Flow.ret PySem.Value.none)) { s with heap:=sortedHeap s.heap a its its.toArray}):wpAny (model prog w) A (PySem.Builtin.«list.sort» { pos:=[PySem.Value.ref a]}) P E s:=by
 have U:its.length<=1000:=by lia
 have ht:its.toArray.size<=sizeLine:=by
  rw[aaG];exact dl (abM.mpr U)
 rw[list_sort_plain];refine aV (listItems_at ho rfl ?_);refine aV (listUpdate_at ho rfl ?_ ht (aa3 _));obtain⟨I,Y⟩:∃I,(s.heap.update a (Obj.mapSeq λ_=>#[])).get? a=some (seqObj "list" #[] I):=by
  exact⟨_,get?_update_seq ho λ_=>#[]⟩
 refine aV (seqEpoch_at Y rfl ?_);refine aV (wpAny_newTuple ?_ (by simpa using ht))
 refine aV (wpAny_newList ?_ (aa3 _));refine abg ?_;have Z:its.toArray.size<2:=by simpa using hn
 simp only[Z,↓reduceIte];refine aV (aaq ?_);refine aV (m:=pure ((),SortSt.mk' general' (its.toArray.zip its.toArray) #[] 7 none)) (aaq ?_);have O:(((s.heap.update a (Obj.mapSeq λx=>#[])).push { cls:=Value.type "tuple",data:=Data.seq its.toArray}).push { cls:=Value.type "list",data:=Data.seq #[]}).get? a=some (seqObj "list" #[] I):=by
  have h1:=aax Y;rw[acD _ _ _ (aaP (by rw[size_push'];exact abG h1)),acD _ _ _ (aaP h1)]
  exact Y
 refine aV (seqEpoch_at O rfl ?_);refine aV (listUpdate_at O rfl ?_ (aa3 _) ?_)
 ·show wpAny _ _ (if(I != I)=true then _ else ret Value.none) _ _ _
  rw[aaf (by simp)]
  refine aaq ?_;have e:Array.map (λx:Keyed=>x.snd) (its.toArray.zip its.toArray)=its.toArray:=by
   simp;exact ad0 (aam _)
  have e2:Array.map (λx:Keyed=>x.snd) (arrOf (SortSt.mk' general' (its.toArray.zip its.toArray) #[] 7 none))=its.toArray:=e
  rw[e2];exact q
 ·have e:Array.map (λx:Keyed=>x.snd) (its.toArray.zip its.toArray)=its.toArray:=by
   simp;exact ad0 (aam _)
  have e2:Array.map (λx:Keyed=>x.snd) (arrOf (SortSt.mk' general' (its.toArray.zip its.toArray) #[] 7 none))=its.toArray:=e
  show(Array.map (λx:Keyed=>x.snd) (arrOf (SortSt.mk' general' (its.toArray.zip its.toArray) #[] 7 none))).size<=_
  rw[e2];exact Nat.le_succ_of_le ht
end L2
namespace RM
variable {N:Net}
inductive Sp(B:List Nat):Nat->Prop
 | zero:Sp B 0
 | add {x b:Nat} (h:Sp B x) (hb:b∈B):Sp B (x^^^b)
section
variable {B C:List Nat}{x y b:Nat}
def Sp.mem(h:b∈B):Sp B b:=by
 have:=Sp.add .zero h;rw[abC]at this;exact this
def Sp.xor(h:Sp B x)(h' : Sp B y):Sp B (x^^^y):=by
 induction h' with
 | zero=>rw[abJ];exact h
 | add _ hb ih=>rw[<-abB];exact .add ih hb
def Sp.mono(h:Sp B x)(hc:∀b∈B,Sp C b):Sp C x:=by
 induction h with
 | zero=>exact .zero
 | add _ hb ih=>exact ih.xor (hc _ hb)
def mK(x b:Nat):x^^^b^^^b=x:=by rw[abB,ab7,abJ]
def Sp.oN:Sp (b::B) x↔Sp B x\/Sp B (x^^^b):=by
 constructor
 ·intro h
  induction h with
  | zero=>exact .inl .zero
  | add h hc I =>
    rename_i x c
    rcases aaC.mp hc with e|e
    ·subst e;rcases I with I|I
     ·exact .inr (by rw[mK];exact I)
     ·exact .inl I
    ·rcases I with I|I
     ·exact .inl (.add I e)
     ·exact .inr (by rw[abB,ad1 c,<-abB];exact .add I e)
 ·rintro(h|h)
  ·exact h.mono λc hc=>.mem (nU _ hc)
  ·have h2:Sp (b::B) (x^^^b):=h.mono λc hc=>.mem (nU _ hc)
   have:=h2.add (b:=b) aaF;rw[mK]at this;exact this
def Sp.off{t:Nat}(h:Sp B x)(hz:∀b∈B,b.testBit t=false):x.testBit t=false:=by
 induction h with
 | zero=>exact abR t
 | add _ hb ih=>rw[aaB,ih,hz _ hb];rfl
def Sp.lt{n:Nat}(h:Sp B x)(hz:∀b∈B,b<2^n):x<2^n:=by
 induction h with
 | zero=>exact abV n
 | add _ hb ih=>exact abu ih (hz _ hb)
end
inductive R1:List (Nat×Nat)->Prop
 | nil:R1 []
 | cons {t r:Nat} {rest:List (Nat×Nat)} (h:R1 rest) (hr:r.testBit t=true) (hz:∀q∈rest,q.2.testBit t=false):R1 ((t,r)::rest)
def DW(rows:List (Nat×Nat))(x:Nat):Nat:=rows.foldl (λx q=>if x.testBit q.1=true then x^^^q.2 else x) x
section
variable {rows:List (Nat×Nat)}{x t:Nat}
def Jd(rows:List (Nat×Nat)):∀x,Sp (rows.map (·.2)) (x^^^DW rows x):=by
 induction rows with
 | nil=>intro x;show Sp [] (x^^^x);rw[ab7];exact .zero
 | cons q rest I =>
   intro x;show Sp (q.2::rest.map (·.2)) (x^^^DW rest (if x.testBit q.1=true then x^^^q.2 else x))
   have h:=I (if x.testBit q.1=true then x^^^q.2 else x)
   by_cases e:x.testBit q.1=true
   ·rw[aai e]at h ⊢;refine Sp.oN.mpr (.inr ?_);rw[abB,ad1 _ q.2,<-abB];exact h
   ·rw[aaf e]at h ⊢;exact Sp.oN.mpr (.inl h)
def Km(hz:∀q∈rows,q.2.testBit t=false):∀{x},x.testBit t=false->(DW rows x).testBit t=false:=by
 induction rows with
 | nil=>intro x h;exact h
 | cons q rest I =>
   intro x h;have h2:(if x.testBit q.1=true then x^^^q.2 else x).testBit t=false:=by
    by_cases e:x.testBit q.1=true
    ·rw[aai e,aaB,h,hz q aaF];rfl
    ·rw[aaf e];exact h
   exact I (λq' O=>hz q' (nU _ O)) h2
def A3(h:R1 rows):∀x,∀q∈rows,(DW rows x).testBit q.1=false:=by
 induction h with
 | nil=>intro x q I;cases I
 | cons h hr hz O =>
   rename_i t r rest
   intro x q I;show(DW rest (if x.testBit t=true then x^^^r else x)).testBit q.1=false
   rcases aaC.mp I with e|e
   ·subst e;refine Km hz ?_
    by_cases e:x.testBit t=true
    ·rw[aai e,aaB,e,hr];rfl
    ·rw[aaf e];exact acU.mpr e
   ·exact O _ q e
def Nv(h:R1 rows):∀{x},Sp (rows.map (·.2)) x->(∀q∈rows,x.testBit q.1=false)->x=0:=by
 induction h with
 | nil=>intro x hs _;cases hs with
   | zero=>rfl
   | add _ hb=>cases hb
 | cons h hr hz O =>
   rename_i t r rest
   intro x hs hx;have off:∀y,Sp (rest.map (·.2)) y->y.testBit t=false:=λy U=>U.off λb hb=>by
    obtain⟨q,I,rfl⟩:=aaH.mp hb;exact hz q I
   rcases Sp.oN.mp hs with hs|hs
   ·exact O hs λq I=>hx q (nU _ I)
   ·exfalso
    have h1:=off _ hs;have h2:=hx (t,r) aaF;rw[aaB]at h1;have h2:x.testBit t=false:=h2;rw[h2,hr]at h1;cases h1
def Kn(h:R1 rows)(x:Nat):DW rows x=0↔Sp (rows.map (·.2)) x:=by
 have hs:=Jd rows x
 constructor
 ·intro e;rw[e,abJ]at hs;exact hs
 ·intro hx;refine Nv h ?_ (A3 h x);have:=hx.xor hs;rw[<-abB,ab7,abC]at this;exact this
end
open Classical in
open Classical in
def QO{x:Nat}(h:x≠0):x.testBit x.log2=true:=Nat.testBit_log2 h
open Ring (xorL xorL_cons maskOf)
variable {N:Net}
def Ko:N.bf.Nodup:=adL _ acr
def A4{c:Nat}(hc:c<N.n)(hf:N.oG c=false):N.Ring (N.ring c):=by
 refine⟨λz=>?_,pQ hc,λq O ev=>?_⟩
 ·have h:=xP hf;rw[z]at h;simp at h
 ·have U:q<2^N.n:=c6 λk hk=>dc (wZ hc) (O k hk)
  cases qc:q.testBit c with
  | true =>
    refine .inr (MV U (wZ hc) ev (pQ hc) λd hd I=>?_)
    rw[qT hf I]
    by_cases e:c=d
    ·subst e;simp[qc]
    ·rw[gj e];cases qd:q.testBit d with
     | false=>rfl
     | true =>
       have:=O d qd;rw[qT hf I,gj e]at this;cases this
  | false =>
    refine .inl (iq (λk hk=>?_) ev)
    rcases oH (O k hk) with e|e
    ·subst e;rw[qc]at hk;cases hk
    ·exact e
end RM
namespace L2
open PySem PySem.Spec PyProof.Rows
section
variable {X:Cx}
def Je:∀{bs:List Bool} {I:List Value},Vals (bs.map V.bl) I->I=bs.map Value.bool
 | [],_,.nil=>rfl
 | b::bs,_,.cons r rr=>by
   cases r;rw[Je rr];rfl
def Gx:∀bs:List Bool,((List.range bs.length).all λi=>(bs[i]?).getD true)=bs.all id:=λbs=>by
 rw[abw,abQ,abQ]
 constructor
 ·intro h b hb;obtain⟨i,hi,e⟩:=List.getElem_of_mem hb;have:=h i (aaI.mpr hi);rw[aag hi,e]at this;exact this
 ·intro h i hi;have hi:=aaI.mp hi;rw[aag hi];exact h _ (abZ hi)
def QS(K:bJ)(hc:X.calm=true)(hK:X.K=K:=by rfl):ic X (.builtin "all") (λxs H Q=>∃(p:Addr) (bs:List Bool),xs=[.ref p]/\aR K H p (bs.map V.bl)/\Q (.bl (bs.all id)) H):=by
 subst hK;intro pq s σ H xs us Q I r h;obtain⟨p,bs,rfl,Y,q⟩:=h;obtain⟨u,rfl,rx⟩:=vals1 r;cases rx;obtain⟨its,rv,pl,hz⟩:=I.list Y;obtain rfl:=Je rv;have lt:p<s.heap.objs.size:=by obtain⟨_,e,_⟩:=pl.isList;exact aax e
 refine call_all_walk (wpAny_pyIter_list pl.isList ⟨_,[_,p],[_],_,_,_,λi=>(bs[i]?).getD true,rfl,Walks.list (A:=X.A.in1) (I.ok.hd hc) _ p (aaP lt) _,
  ⟨⟨_,aaN _ rfl,rfl,rfl⟩,pl.isList.push _⟩,λi v s' Z E' O U=>?_,λh' tk hk=>?_⟩)
 ·have O:(bs.map Value.bool)[i]?=some v:=by simpa using O
  rw[aaw]at O;obtain⟨b,e,rfl⟩:=vY.mp O;simp only[e,Option.getD_some]at U;exact wpAny_truthy_bool U
 ·have z:(bs.map Value.bool).toArray.size=bs.length:=by simp
  rw[z,Gx];refine⟨.bl _,H,I.kept λb o e=>hk b o (λhm=>?_) (aao _ e),rfl,q⟩
  rw[aaW.mp hm]at e;exact abN _ (aax e)
end
end L2
namespace RM
def lsum(L:Nat->Int)(f:Nat->Bool):Nat->Int
 | 0=>0
 | n+1=>lsum L f n+(if f n=true then L n else 0)
section
variable {L:Nat->Int}
def qV{f g:Nat->Bool}:∀{n:Nat},(∀k,k<n->f k=g k)->lsum L f n=lsum L g n
 | 0,_=>rfl
 | n+1,h=>by
   unfold lsum;rw[qV λk hk=>h k (by lia),h n (by lia)]
def uz{f:Nat->Bool}:∀{n:Nat},(∀k,k<n->f k=false)->lsum L f n=0
 | 0,_=>rfl
 | n+1,h=>by
   unfold lsum;rw[uz λk hk=>h k (by lia),h n (by lia)]
   simp
def DX{f:Nat->Bool}{a:Nat}:∀{n:Nat},a<n->(∀k,k<n->f k=decide (k=a))->lsum L f n=L a
 | 0,h,_=>by lia
 | n+1,ha,h=>by
   unfold lsum
   by_cases e:a=n
   ·subst e;rw[uz λk hk=>by rw[h k (by lia)];exact gj (by lia),h a (by lia),dm rfl]
    simp
   ·rw[DX (show a<n by lia) λk hk=>h k (by lia),h n (by lia),gj (by lia)]
    simp
def pW{f g:Nat->Bool}:∀{n:Nat},(∀k,k<n->0<=L k)->(∀k,k<n->f k=true->g k=true)->lsum L f n<=lsum L g n
 | 0,_,_=>ab1 _
 | n+1,hL,h=>by
   unfold lsum;have I:=pW (n:=n) (λk hk=>hL k (by lia)) λk hk=>h k (by lia)
   have h0:=hL n (by lia)
   have hn:=h n (by lia)
   cases hf:f n with
   | false=>cases g n<;>simp<;>lia
   | true=>rw[hn hf];simp;lia
def DY{f g:Nat->Bool}:∀{n:Nat},(∀k,k<n->0<=L k)->lsum L (λk=>f k^^g k) n<=lsum L f n+lsum L g n
 | 0,_=>ab1 _
 | n+1,hL=>by
   unfold lsum;have I:=DY (f:=f) (g:=g) (n:=n) λk hk=>hL k (by lia)
   have h0:=hL n (by lia)
   cases f n<;>cases g n<;>simp<;>lia
def yi{f g:Nat->Bool}:∀{n:Nat},(∀k,k<n->f k=true->g k=false)->lsum L (λk=>f k^^g k) n=lsum L f n+lsum L g n
 | 0,_=>rfl
 | n+1,h=>by
   unfold lsum;rw[yi (f:=f) (g:=g) (n:=n) λk hk=>h k (by lia)]
   have hn:=h n (by lia)
   cases hf:f n with
   | false=>cases g n<;>simp<;>lia
   | true=>rw[hn hf];simp;lia
def yj{k n:Nat}(h:k<n):lsum L (λj=>(2^k).testBit j) n=L k:=DX h λj _=>by
 rw[aaQ];exact abv.mpr eq_comm
end
def oO{m n k:Nat}(h:m<2^n)(hb:m.testBit k=true):k<n:=by
 apply abb;intro hk;rw[aby (aaL h (ack (by decide) (by lia)))]at hb
 cases hb
def cd(x:Nat)(s:Bool):Nat:=2*x+s.toNat
def Jn(N:Net)(k v w:Nat):Prop:=(N.a k=v/\N.b k=w)\/(N.b k=v/\N.a k=w)
def Jn.lt{N:Net}{k v w:Nat}(hk:k<N.n)(h:Jn N k v w):w<N.p:=by
 rcases h with⟨_,rfl⟩|⟨_,rfl⟩
 ·exact N.bl k hk
 ·exact N.al k hk
inductive Wl(N:Net)(L:Nat->Int)(m u:Nat):List Nat->Nat->Bool->Int->Nat->Prop
 | nil:Wl N L m u [] u false 0 0
 | go {pre:List Nat} {v w k e:Nat} {s:Bool} {z:Int} (h:Wl N L m u pre v s z e) (hk:k<N.n) (hj:Jn N k v w):Wl N L m u (pre++[cd v s]) w (s^^m.testBit k) (z+L k) (e^^^2^k)
def Wy(N:Net)(L:Nat->Int)(m u x:Nat)(s:Bool)(z:Int):Prop:=∃pre e,Wl N L m u pre x s z e
section
variable {N:Net}{L:Nat->Int}{m u:Nat}
def Wy.nil:Wy N L m u u false 0:=⟨_,_,.nil⟩
def Wy.go{v w k:Nat}{s:Bool}{z:Int}(h:Wy N L m u v s z)(hk:k<N.n)(hj:Jn N k v w):Wy N L m u w (s^^m.testBit k) (z+L k):=let⟨_,_,h⟩:=h;⟨_,_,h.go hk hj⟩
def mL(hL:∀k,k<N.n->0<=L k)(hu:u<N.p){pre:List Nat}{v e:Nat}{s:Bool}{z:Int}(h:Wl N L m u pre v s z e):
 v<N.p/\e<2^N.n/\(∀x,N.bd e x=(decide (u=x)^^decide (v=x)))/\N.par e m=s/\lsum L (λk=>e.testBit k) N.n<=z/\0<=z:=by
 induction h with
 | nil =>
   refine⟨hu,abV _,λx=>?_,mJ m,?_,ab1 _⟩
   ·rw[pP];cases decide (u=x)<;>rfl
   ·rw[uz λk _=>abR k]
    exact ab1 _
 | @go pre v w k e s z h hk hj ih =>
   obtain⟨Y,I,O,U,Z,i6⟩:=ih;have h0:=hL k hk;refine⟨hj.lt hk,abu I (acm (by decide) hk),λx=>?_,?_,?_,by lia⟩
   ·rw[iL,O,oF hk];unfold Net.inc;rcases hj with⟨rfl,rfl⟩|⟨rfl,rfl⟩
    ·cases decide (u=x)<;>cases decide (N.a k=x)<;>cases decide (N.b k=x)<;>rfl
    ·cases decide (u=x)<;>cases decide (N.a k=x)<;>cases decide (N.b k=x)<;>rfl
   ·rw[pU,U,IV hk]
   ·have:=DY (L:=L) (f:=λj=>e.testBit j) (g:=λj=>(2^k).testBit j) hL
    rw[yj hk]at this;rw[qV (g:=λj=>e.testBit j^^(2^k).testBit j) λj _=>aaB ..]
    lia
def we(N:Net)(L:Nat->Int)(m u x:Nat)(s:Bool):Option Int->Prop
 | none=>∀z,¬ Wy N L m u x s z
 | some d=>Wy N L m u x s d/\∀z,Wy N L m u x s z->d<=z
def we.uniq{x:Nat}{s:Bool}{o o' : Option Int}(h:we N L m u x s o)(h' : we N L m u x s o'):o=o':=by
 cases o with
 | none=>cases o' with
   | none=>rfl
   | some d=>exact absurd h'.1 (h d)
 | some d=>cases o' with
   | none=>exact absurd h.1 (h' d)
   | some d' =>
     have h1:=h.2 _ h'.1;have h2:=h'.2 _ h.1;rw[show d=d' by lia]
def Wy.nonneg(hL:∀k,k<N.n->0<=L k)(hu:u<N.p){x:Nat}{s:Bool}{z:Int}(h:Wy N L m u x s z):0<=z:=let⟨_,_,h⟩:=h;(mL hL hu h).2.2.2.2.2
def Nx(hL:∀k,k<N.n->0<=L k)(hu:u<N.p){o:Option Int}(h:we N L m u u false o):o=some 0:=h.uniq ⟨.nil,λ_ hz=>hz.nonneg hL hu⟩
def Kp(_hL:∀k,k<N.n->0<=L k){k:Nat}{s:Bool}{o o' : Option Int}(hk:k<N.n)(h:we N L m u (N.a k) s o)(h' : we N L m u (N.b k) (s^^m.testBit k) o'):Ring.yg o o' (L k)=true:=by
 have I:∀{z},Wy N L m u (N.a k) s z->Wy N L m u (N.b k) (s^^m.testBit k) (z+L k):=λhz=>hz.go hk (.inl ⟨rfl,rfl⟩)
 have back:∀{z},Wy N L m u (N.b k) (s^^m.testBit k) z->Wy N L m u (N.a k) s (z+L k):=λhz=>by
  have:=hz.go hk (.inr ⟨rfl,rfl⟩)
  rwa [Bool.xor_assoc,adW,abD]at this
 cases o with
 | none=>cases o' with
   | none=>rfl
   | some d=>exact absurd (back h'.1) (h _)
 | some d=>cases o' with
   | none=>exact absurd (I h.1) (h' _)
   | some d' =>
     have h1:=h'.2 _ (I h.1);have h2:=h.2 _ (back h'.1);unfold Ring.yg;rw[decide_eq_true_eq]
     split<;>lia
def sH(hL:∀k,k<N.n->0<=L k)(m:Nat){r:Nat}(hr:N.Ring r)(hm:r<2^N.n):∃x,x<N.p/\Wy N L m x x (N.par r m) (lsum L (λk=>r.testBit k) N.n):=by
 obtain⟨t0,hb⟩:∃t0,r.testBit t0=true:=by
  apply abb;intro h;exact hr.1 (abh λi=>by
   rw[abR];cases e:r.testBit i with
   | false=>rfl
   | true=>exact absurd ⟨i,e⟩ h)
 have U:t0<N.n:=oO hm hb;obtain⟨acc,v,w⟩:=Kg hm hr hb;have key:∀{acc v left},Wk N r t0 acc v left->(∀k,left.testBit k=true->r.testBit k=true)/\∃pre s,Wl N L m (N.a t0) pre v s (lsum L (λk=>(r^^^left).testBit k) N.n) (r^^^left):=by
  intro acc v left w
  induction w with
  | start =>
    have e:r^^^(r^^^2^t0)=2^t0:=by rw[<-abB,ab7,abC]
    refine⟨λk hk=>?_,[]++[cd (N.a t0) false],false^^m.testBit t0,?_⟩
    ·rw[aaB,aaQ]at hk
     by_cases e:t0=k
     ·rw[<-e];exact hb
     ·rw[gj e,abD]at hk;exact hk
    ·rw[e,yj U];have:=Wl.go (m:=m) (L:=L) (.nil (u:=N.a t0)) U (.inl ⟨rfl,rfl⟩)
     rwa [abS,abC]at this
  | @next acc v left t w h0 ht ih =>
    obtain⟨sub,pre,s,wl⟩:=ih;have I:=kP.mp (jV ht);have O:=sub t I.2.1;have Y:=oO hm O;refine⟨λk hk=>?_,pre++[cd v s],s^^m.testBit t,?_⟩
    ·rw[aaB,aaQ]at hk
     by_cases e:t=k
     ·rw[<-e];exact O
     ·rw[gj e,abD]at hk;exact sub k hk
    ·have e:r^^^(left^^^2^t)=r^^^left^^^2^t:=by rw[abB]
     have hs:lsum L (λk=>(r^^^left^^^2^t).testBit k) N.n=lsum L (λk=>(r^^^left).testBit k) N.n+L t:=by
      rw[qV (g:=λj=>(r^^^left).testBit j^^(2^t).testBit j) λj _=>aaB ..,yi,yj Y]
      intro k _ hk;rw[aaQ];refine gj λe=>?_
      subst e;rw[aaB,O,I.2.1]at hk;cases hk
     rw[e,hs];exact wl.go Y (DU I.2.2)
 obtain⟨_,pre,s,wl⟩:=key w;rw[abJ]at wl;have f:=mL hL (N.al t0 U) wl;have Z:N.a t0=v:=by
  have:=f.2.2.1 v;rw[hr.2.1 v f.1,dm (rfl:v=v)]at this;cases h:decide (N.a t0=v) with
  | true=>exact ko h
  | false=>rw[h]at this;cases this
 refine⟨N.a t0,N.al t0 U,pre,r,?_⟩;have hs:=f.2.2.2.1;rw[hs];rw[<-Z]at wl;exact wl
def yk{m:Nat}:∀(c e:Nat),cnt (λk=>e.testBit k) N.n=c->e<2^N.n->N.fJ e->N.par e m=true->∃r,N.Ring r/\(∀k,r.testBit k=true->e.testBit k=true)/\N.par r m=true:=by
 intro c
 induction c using Nat.strongRecOn with
 | _ c ih =>
   intro e hc he ev hp
   by_cases hr:N.Ring e
   ·exact⟨e,hr,λ_ h=>h,hp⟩
   have h0:e≠0:=λz=>by rw[z,mJ]at hp;cases hp
   obtain⟨q,I,Y,q0,Z⟩:∃q,(∀k,q.testBit k=true->e.testBit k=true)/\N.fJ q/\q≠0/\q≠e:=by
    apply abb;intro h;refine hr ⟨h0,ev,λq I Y=>?_⟩
    apply abb;intro h2;exact h ⟨q,I,Y,λz=>h2 (.inl z),λz=>h2 (.inr z)⟩
   have small:∀q,(∀k,q.testBit k=true->e.testBit k=true)->q≠e->cnt (λk=>q.testBit k) N.n<c:=by
    intro q I Z;have h1:=xY (f:=λk=>q.testBit k) (g:=λk=>e.testBit k) (n:=N.n) λk _ h=>I k h
    have h2:cnt (λk=>q.testBit k) N.n≠cnt (λk=>e.testBit k) N.n:=λh=>Z (abh λk=>by
     by_cases hk:k<N.n
     ·have:=DG (f:=λk=>q.testBit k) (g:=λk=>e.testBit k) (λk _ h=>I k h) h k hk
      cases O:e.testBit k with
      | true=>exact this O
      | false=>cases h4:q.testBit k with
        | false=>rfl
        | true=>rw[I k h4]at O;cases O
     ·cases O:e.testBit k with
      | true=>exact absurd (oO he O) hk
      | false=>cases h4:q.testBit k with
        | false=>rfl
        | true=>rw[I k h4]at O;cases O)
    lia
   have lt:∀q,(∀k,q.testBit k=true->e.testBit k=true)->q<2^N.n:=λq I=>c6 λk hk=>oO he (I k hk)
   have ab:∀k,(e^^^q).testBit k=true->e.testBit k=true:=λk hk=>by
    rw[aaB]at hk;cases O:e.testBit k with
    | true=>rfl
    | false =>
      cases h4:q.testBit k with
      | false=>rw[O,h4]at hk;cases hk
      | true=>rw[I k h4]at O;cases O
   have fin:∀q,(∀k,q.testBit k=true->e.testBit k=true)->q≠e->N.fJ q->N.par q m=true->∃r,N.Ring r/\(∀k,r.testBit k=true->e.testBit k=true)/\N.par r m=true:=by
    intro q I Z Y U;obtain⟨r,h1,h2,O⟩:=ih _ (small q I Z) q rfl (lt q I) Y U;exact⟨r,h1,λk hk=>I k (h2 k hk),O⟩
   cases U:N.par q m with
   | true=>exact fin q I Z Y U
   | false =>
     refine fin (e^^^q) ab (λz=>q0 ?_) (fJ.xor ev Y) (by rw[pU,hp,U];rfl)
     have:e^^^(e^^^q)=e^^^e:=by rw[z]
     rwa [<-abB,ab7,abC]at this
def Ny(hL:∀k,k<N.n->0<=L k)(hu:u<N.p){z:Int}(h:Wy N L m u u true z):∃r,N.Ring r/\r<2^N.n/\N.par r m=true/\lsum L (λk=>r.testBit k) N.n<=z:=by
 obtain⟨pre,e,h⟩:=h;obtain⟨_,h2,h3,h4,h5,_⟩:=mL hL hu h;obtain⟨r,r1,r2,r3⟩:=yk _ e rfl h2 (λx _=>by rw[h3,adW]) h4
 refine⟨r,r1,c6 λk hk=>oO h2 (r2 k hk),r3,?_⟩
 have:=pW (L:=L) (f:=λk=>r.testBit k) (g:=λk=>e.testBit k) hL λk _ hk=>r2 k hk
 lia
end
end RM
namespace Ring
open PySem L2
def aW(ts:List bZ)(k:Nat):Int:=(bj ts k).2.2
def A5(ts:List bZ)(f:Nat->Bool):∀n,JU ts f n=RM.lsum (aW ts) f n
 | 0=>rfl
 | n+1=>by
   show JU ts f n+_=RM.lsum (aW ts) f n+_;rw[A5 ts f n];rfl
def yl{ts:List bZ}{m:Nat}(hm:m<2^ts.length):lenOf ts m=RM.lsum (aW ts) (λk=>m.testBit k) ts.length:=by
 rw[JV hm,A5]
def mO{p:Nat}{ts:List bZ}(g:aA p ts):∀k,k<g.N.n->0<=aW ts k:=λk hk=>by
 have:=(g.rS _ (ff hk)).l0;unfold aW
 lia
structure Gy(H0:Hp)(D:Addr)(es:List Addr)(F:Nat->Bool->Option Int)(H:Hp):Prop where
 same:aq H0 H
 nd:es.Nodup
 ne:D∉es
 fr:∀b∈es,H0 b=none
 Dn:H0 D=none
 lst:H D=some (.lst (es.map V.ref))
 at_:∀i b,es[i]?=some b->H b=some (.lst [oV (F i false),oV (F i true)])
def Gy.go{H0 H H' : Hp}{D:Addr}{es:List Addr}{F:Nat->Bool->Option Int}(h:Gy H0 D es F H)(s:aq H H'):Gy H0 D es F H' :=
 ⟨h.same.trans s,h.nd,h.ne,h.fr,h.Dn,s _ _ h.lst,λi b e=>s _ _ (h.at_ i b e)⟩
def Gy.off{H0 H:Hp}{D L:Addr}{es:List Addr}{F:Nat->Bool->Option Int}(h:Gy H0 D es F H)(hL:H L=none):L∉es:=λz=>by
 obtain⟨j,hj⟩:=aa5 z;have:=h.at_ j L hj;rw[hL]at this;cases this
def DZ(H0:Hp)(D:Addr)(i:Nat)(acc:List V)(H:Hp):Prop:=∃es,acc=es.map V.ref/\es.length=i/\Gy H0 D es (λ_ _=>none) H
def DZ.start{H0:Hp}{D:Addr}(hD:H0 D=none):DZ H0 D 0 [] (upd H0 D (.lst [])) :=
 ⟨[],rfl,rfl,aq.new hD,adi,acu,λ_ h=>(acu h).elim,hD,ae,λi b e=>by cases e⟩
def DZ.len{H0 H:Hp}{D:Addr}{i:Nat}{acc:List V}(h:DZ H0 D i acc H):H D=some (.lst acc)/\acc.length<=i:=by
 obtain⟨es,rfl,e,r⟩:=h;exact⟨r.lst,by rw[aac];lia⟩
def DZ.next{H0 H:Hp}{D b:Addr}{i:Nat}{acc:List V}(h:DZ H0 D i acc H)(hb:H b=none):upd H b (.lst [.eX,.eX]) D=some (.lst acc)/\DZ H0 D (i+1) (acc++[.ref b]) (upd (upd H b (.lst [.eX,.eX])) D (.lst (acc++[.ref b]))):=by
 obtain⟨es,rfl,e,r⟩:=h;have O:D≠b:=λz=>by
  have:=r.lst;rw[z,hb]at this;cases this
 have U:b∉es:=r.off hb;have I:H0 b=none:=r.same.free hb;refine⟨by rw[ah O];exact r.lst,es++[b],by simp,by simp[e],(r.same.put I).put r.Dn,?_,?_,λc hc=>?_,r.Dn,by rw[ae];simp,λj c hc=>?_⟩
 ·exact adX.mpr ⟨r.nd,by simp,λx hx y Z=>by rw[aaW.mp Z];exact λz=>U (z▸hx)⟩
 ·intro hm;rcases aa9.mp hm with z|z
  ·exact r.ne z
  ·exact O (aaW.mp z)
 ·rcases aa9.mp hc with z|z
  ·exact r.fr c z
  ·rw[aaW.mp z];exact I
 ·have VY:c≠D:=λz=>by
   subst z;rcases aa9.mp (jV hc) with z|z
   ·exact r.ne z
   ·exact O (aaW.mp z)
  rw[ah VY]
  by_cases Y:c=b
  ·rw[Y,ae];rfl
  ·rw[ah Y]
   by_cases hj:j<es.length
   ·rw[aba hj]at hc;exact r.at_ j c hc
   ·rw[abf (by lia)]at hc
    have:=jV hc;exact absurd (aaW.mp this) Y
def mP(F:Nat->Bool->Option Int)(p:Nat):List Pr:=(List.range p).map λi=>(F i false,F i true)
def Nz{F:Nat->Bool->Option Int}{p x:Nat}(h:x<p)(s:Bool):sel (fQ (mP F p) x) s=F x s:=by
 unfold fQ mP;rw[aad,aaw,ac6 h];cases s<;>rfl
def NB(F:Nat->Bool->Option Int)(i:Nat):mP F (i+1)=mP F i++[(F i false,F i true)]:=by
 unfold mP;rw[abE,aaJ];rfl
def B8(F:Nat->Bool->Option Int)(i:Nat):(mP F i).length=i:=by
 unfold mP;rw[aac,aaK]
def NC(R:List Pr)(t:bZ)(u:Bool):DT R t u=true↔∀I:Bool,yg (sel (fQ R t.1.toNat) I) (sel (fQ R t.2.1.toNat) (I^^u)) t.2.2=true:=by
 unfold DT;rw[abd]
 constructor
 ·rintro⟨h1,h2⟩ I;cases I with
  | false=>rw[aci];exact h1
  | true=>rw[Bool.true_xor];exact h2
 ·intro h;have h1:=h false;have h2:=h true;rw[aci]at h1;rw[Bool.true_xor]at h2;exact⟨h1,h2⟩
variable {p:Nat}{ts:List bZ}{g:aA p ts}{m:Nat}{W:List (List Pr)}
def sW(p:Nat)(ts:List bZ)(g:aA p ts)(m:Nat)(W:List (List Pr)):Prop:=∀i,i<p->∀x s,x<p->RM.we g.N (aW ts) m i x s (sel (fQ (W.getD i []) x) s)
def sW.stands(h:sW p ts g m W):B6 p ts m W:=λi hi=>by
 refine⟨RM.Nx (mO g) (show i<g.N.p from hi) (h i hi i false hi),λk hk=>?_⟩
 rw[NC];exact λs=>RM.Kp (mO g) (show k<g.N.n from hk) (h i hi _ s (g.N.al k hk)) (h i hi _ _ (g.N.bl k hk))
def Kq(h:sW p ts g m W){l:Int}(hl:∀r,r<2^ts.length->g.N.Ring r->g.N.par r m=true->l<=RM.lsum (aW ts) (λk=>r.testBit k) ts.length):∀i,i<p->∀d,(fQ (W.getD i []) i).2=some d->l<=d:=by
 intro i hi d hd;have b:=h i hi i true hi;have e:sel (fQ (W.getD i []) i) true=some d:=hd;rw[e]at b;obtain⟨r,I,O,U,Y⟩:=RM.Ny (mO g) (show i<g.N.p from hi) b.1
 exact Int.le_trans (hl r O I U) Y
def B9{r:Nat}(hm:m<2^ts.length):(bz ((r&&&m:Nat):Int)).length%2=1↔g.N.par r m=true:=by
 rw[<-BZ (g:=g) hm,adU]
end Ring
namespace RM
open Ring (maskOf mask_bit mask_lt)
def jz{a b:Nat}(h:a^^^b=0):a=b:=by
 have:=aa4 (λy=>y^^^b) h
 simp only[abC]at this
 rwa [abB,ab7,abJ]at this
def comb:List Nat->Nat->Nat
 | [],_=>0
 | b::B,z=>(if z.testBit 0=true then b else 0)^^^comb B (z/2)
def ND(a b c d:Nat):(a^^^b)^^^(c^^^d)=(a^^^c)^^^(b^^^d):=abh λi=>by
 simp only[aaB];cases a.testBit i<;>cases b.testBit i<;>cases c.testBit i<;>cases d.testBit i<;>rfl
def NF(z y:Nat):(z^^^y)/2=z/2^^^y/2:=abh λi=>by
 rw[aaB,<-acI,<-acI,<-acI,aaB]
def kQ:∀(B:List Nat) (z y:Nat),comb B (z^^^y)=comb B z^^^comb B y
 | [],_,_=>by simp[comb]
 | b::B,z,y=>by
   unfold comb;rw[NF,kQ B,aaB,ND]
   congr 1
   cases z.testBit 0<;>cases y.testBit 0<;>simp
def mQ:∀(B:List Nat),comb B 0=0
 | []=>rfl
 | b::B=>by
   unfold comb;rw[abR,show 0/2=0 from rfl,mQ B]
   simp
def NG(i:Nat):2^(i+1)/2=2^i:=by
 rw[acy,Nat.mul_div_cancel _ (by decide)]
def ym:∀{B:List Nat} {i b:Nat},B[i]?=some b->comb B (2^i)=b
 | [],i,b,h=>by simp at h
 | b'::B,0,b,h=>by
   have:b' = b:=by simpa using h
   subst this;unfold comb;rw[show(2^0:Nat).testBit 0=true from rfl,aai rfl,show(2^0:Nat)/2=0 from rfl,mQ,abJ]
 | b'::B,i+1,b,h=>by
   unfold comb;have h0:(2^(i+1)).testBit 0=false:=by rw[aaQ];simp
   rw[h0,aaf (by decide),abC,NG]
   exact ym (B:=B) h
def iP:∀(B:List Nat) (b z:Nat),comb (B++[b]) z=comb B z^^^(if z.testBit B.length=true then b else 0)
 | [],b,z=>by
   show(if z.testBit 0=true then b else 0)^^^0=0^^^_
   rw[abJ,abC];rfl
 | b'::B,b,z=>by
   show(if z.testBit 0=true then b' else 0)^^^comb (B++[b]) (z/2)=((if z.testBit 0=true then b' else 0)^^^comb B (z/2))^^^_
   rw[iP B b (z/2),abB,<-acI];rfl
def uA:∀(B:List Nat) {z:Nat},(∀i,i<B.length->z.testBit i=false)->comb B z=0
 | [],_,_=>rfl
 | b::B,z,h=>by
   unfold comb;rw[h 0 (by simp),aaf (by decide),abC]
   exact uA B λi hi=>by rw[<-acI];exact h (i+1) (by simp;lia)
def ng(B:List Nat):∀z,Sp B (comb B z):=by
 induction B with
 | nil=>intro z;exact .zero
 | cons b B I =>
   intro z;have h:Sp (b::B) (comb B (z/2)):=(I (z/2)).mono λc hc=>.mem (nU _ hc)
   unfold comb;rw[ad1]
   by_cases e:z.testBit 0=true
   ·rw[aai e];exact h.add aaF
   ·rw[aaf e,abJ];exact h
def xm{B:List Nat}{x:Nat}(h:Sp B x):∃z,z<2^B.length/\comb B z=x:=by
 induction h with
 | zero=>exact⟨0,abV _,mQ B⟩
 | add h hb ih =>
   obtain⟨z,hz,e⟩:=ih;obtain⟨i,hi⟩:=aa5 hb;have I:=(jo.mp hi).1;exact⟨z^^^2^i,abu hz (acm (by decide) I),by rw[kQ,e,ym hi]⟩
def zK(B:List Nat):Prop:=∀z,z<2^B.length->comb B z=0->z=0
def QT(B:List Nat):Prop:=∀i b,B[i]?=some b->¬ Sp (B.take i) b
def tu{B:List Nat}{b:Nat}:zK (B++[b])↔zK B/\¬ Sp B b:=by
 have I:(B++[b]).length=B.length+1:=by simp
 constructor
 ·intro h;refine⟨λz hz e=>h z ?_ ?_,λhs=>?_⟩
  ·rw[I,acy];lia
  ·rw[iP,e,aby hz];simp
  ·obtain⟨y,U,e⟩:=xm hs;have O:2^B.length<2^(B.length+1):=acm (by decide) (by lia)
   have:=h (y^^^2^B.length) (by rw[I];exact abu (by lia) O) (by
    have h1:(y^^^2^B.length).testBit B.length=true:=by
     rw[aaB,aby U,ada];rfl
    have h2:comb B (2^B.length)=0:=uA B λi hi=>by
     rw[aaQ];exact gj (by lia)
    rw[iP,h1,aai rfl,kQ,h2,e,abJ,ab7])
   have Y:(y^^^2^B.length).testBit B.length=false:=by rw[this,abR]
   rw[aaB,aby U,ada]at Y;cases Y
 ·rintro⟨h,hs⟩ z hz e;rw[iP]at e
  by_cases hb:z.testBit B.length=true
  ·rw[aai hb]at e;have Z:comb B z=b:=by
    have:=aa4 (λy=>y^^^b) e
    simp only[mK,abC]at this;exact this
   exact absurd (Z▸ng B z) hs
  ·rw[aaf hb,abJ]at e;refine h z ?_ e;refine c6 λk hk=>?_
   have:=dc hz hk;rw[I]at this;have:k≠B.length:=λe=>hb (e▸hk)
   lia
def Ks{B:List Nat}{b:Nat}:QT (B++[b])↔QT B/\¬ Sp B b:=by
 constructor
 ·intro h;refine⟨λi c hc=>?_,?_⟩
  ·have hi:=(jo.mp hc).1;have:=h i c (by rw[aba hi];exact hc)
   rwa [adN (abq hi)]at this
  ·have:=h B.length b (by simp)
   rwa [List.take_left' rfl]at this
 ·rintro⟨h,hs⟩ i c hc
  by_cases hi:i<B.length
  ·rw[aba hi]at hc;rw[adN (abq hi)];exact h i c hc
  ·have I:=(jo.mp hc).1;have e:i=B.length:=by simp at I;lia
   subst e;rw[abf (aam _),acX]at hc;have:b=c:=by simpa using hc
   subst this;rw[List.take_left' rfl];exact hs
def take_snoc{B:List Nat}{i b:Nat}(h:B[i]?=some b):B.take (i+1)=B.take i++[b]:=by
 rw[aa1,h];rfl
def Jf(B:List Nat):zK B↔QT B:=by
 have key:∀n,n<=B.length->(zK (B.take n)↔QT (B.take n)):=by
  intro n
  induction n with
  | zero=>exact λ_=>⟨λ_ i b h=>by simp at h,λ_ z hz _=>by simp at hz;exact hz⟩
  | succ n I =>
    intro hn;have hb:B[n]?=some B[n]:=aag hn;rw[take_snoc hb,tu,Ks,I (by lia)]
 have:=key B.length (aam _)
 rwa [aa7]at this
def yn(B:List Nat)(h:zK B){z y:Nat}(hz:z<2^B.length)(hy:y<2^B.length)(e:comb B z=comb B y):z=y:=by
 have:=h (z^^^y) (abu hz hy) (by rw[kQ,e,ab7])
 exact jz this
section
variable {N:Net}
def A6{B:List Nat}(h:∀b∈B,N.fJ b/\b<2^N.n)(z:Nat):N.fJ (comb B z)/\comb B z<2^N.n:=by
 have hs:=ng B z;refine⟨?_,hs.lt λb hb=>(h b hb).2⟩
 generalize comb B z=x at hs
 induction hs with
 | zero=>exact fJ.zero
 | add _ hb ih=>exact fJ.xor ih (h _ hb).1
def Jg{f:Nat->Nat}{a b:Nat}(hf:∀z,z<2^a->f z<2^b)(inj:∀z y,z<2^a->y<2^a->f z=f y->z=y):a<=b:=by
 have nd:((List.range (2^a)).map f).Nodup:=by
  refine abH.mpr ?_;refine ab0 (λ{z y} hz O I e=>?_) acr
  exact I (inj z y (aaI.mp hz) (aaI.mp O) e)
 have:=MZ nd λx hx=>by
  obtain⟨z,hz,rfl⟩:=aaH.mp hx;exact hf z (aaI.mp hz)
 rw[aac,aaK]at this;exact(Nat.pow_le_pow_iff_right (by decide)).mp this
def meets(ks:List Nat)(m:Nat):Nat:=maskOf (λi=>m.testBit (ks.getD i 0)) ks.length
def NH(ks:List Nat)(m:Nat):meets ks m<2^ks.length:=mask_lt _ _
def Ku{ks:List Nat}{m i k:Nat}(h:ks[i]?=some k):(meets ks m).testBit i=m.testBit k:=by
 unfold meets;rw[mask_bit,aad,h,dm (jo.mp h).1];rfl
def Uc{B:List Nat}(hi:zK B)(h:∀b∈B,N.fJ b/\b<2^N.n):B.length<=N.bf.length:=by
 refine Jg (f:=λz=>meets N.bf (comb B z)) (λz _=>NH _ _) λz y hz O e=>yn B hi hz O ?_
 have h1:=A6 h z;have h2:=A6 h y;refine jz (iq (N:=N) (λk hk=>?_) (fJ.xor h1.1 h2.1))
 have I:=dc (abu h1.2 h2.2) hk;refine⟨I,?_⟩;cases hf:N.oG k with
 | true=>rfl
 | false =>
   obtain⟨j,hj⟩:=aa5 (eN.mpr ⟨I,hf⟩);have e:meets N.bf (comb B z)=meets N.bf (comb B y):=e;have:=aa4 (λx=>x.testBit j) e
   simp only[Ku hj]at this;rw[aaB,this,adW]at hk;cases hk
structure Base(N:Net)(rs:List Nat):Prop where
 len:rs.length=N.bf.length
 ring:∀r∈rs,N.Ring r/\r<2^N.n
 ind:zK rs
end
abbrev Row3:=Nat×Nat×Nat
def two(q:Row3):Nat×Nat:=(q.1,q.2.1)
def cX(rows:List Row3)(x u:Nat):Nat×Nat:=rows.foldl (λs q=>if s.1.testBit q.1=true then(s.1^^^q.2.1,s.2^^^q.2.2) else s) (x,u)
def uB(q:Row3)(rows:List Row3)(x u:Nat):cX (q::rows) x u=if x.testBit q.1=true then cX rows (x^^^q.2.1) (u^^^q.2.2) else cX rows x u:=by
 unfold cX;rw[acA]
 by_cases h:x.testBit q.1=true
 ·rw[aai h,aai h]
 ·rw[aaf h,aaf h]
def oQ:∀(rows:List Row3) (x u:Nat),(cX rows x u).1=DW (rows.map two) x
 | [],_,_=>rfl
 | q::rows,x,u=>by
   rw[uB];show _=DW (rows.map two) (if x.testBit q.1=true then x^^^q.2.1 else x)
   by_cases h:x.testBit q.1=true
   ·rw[aai h,aai h];exact oQ rows _ _
   ·rw[aaf h,aaf h];exact oQ rows _ _
def zL(rows:List Row3)(a:Row3):List Row3:=a::rows.map λq=>if q.2.1.testBit a.1=true then(q.1,q.2.1^^^a.2.1,q.2.2^^^a.2.2) else q
structure Rw(B:List Nat)(rows:List Row3):Prop where
 own:∀q∈rows,q.2.1.testBit q.1=true
 Kv:rows.Pairwise λq q'=>q'.2.1.testBit q.1=false/\q.2.1.testBit q'.1=false
 R3:∀q∈rows,q.2.2<2^B.length/\comb B q.2.2=q.2.1
 span:∀b∈B,Sp (rows.map λq=>q.2.1) b
 le:rows.length<=B.length
 len:rows.length=B.length↔zK B
section
variable {B:List Nat}{rows:List Row3}
def Rw.start:Rw [] []:=⟨(λq I=>nomatch I),.nil,(λq I=>nomatch I),(λb hb=>nomatch hb),aam _,⟨λ_ z hz _=>by simp at hz;exact hz,λ_=>rfl⟩⟩
def Ud(own:∀q∈rows,q.2.1.testBit q.1=true)(Kv:rows.Pairwise λq q'=>q'.2.1.testBit q.1=false/\q.2.1.testBit q'.1=false):R1 (rows.map two):=by
 induction rows with
 | nil=>exact .nil
 | cons q rows I =>
   obtain⟨h1,h2⟩:=adb.mp Kv;refine .cons (I (λq' O=>own q' (nU _ O)) h2) (own q aaF) λx hx=>?_
   obtain⟨q',U,rfl⟩:=aaH.mp hx;exact(h1 q' U).1
def Rw.R4(h:Rw B rows):R1 (rows.map two):=Ud h.own h.Kv
def map_two(rows:List Row3):(rows.map two).map (λq=>q.2)=rows.map λq=>q.2.1:=by
 rw[abz];rfl
def Rw.pX(h:Rw B rows)(x u:Nat):(cX rows x u).1=0↔Sp B x:=by
 rw[oQ,Kn h.R4,map_two]
 constructor
 ·intro hs;refine hs.mono λb hb=>?_
  obtain⟨q,I,rfl⟩:=aaH.mp hb;rw[<-(h.R3 q I).2];exact ng B _
 ·exact λhs=>hs.mono h.span
def Rw.NI(h:Rw B rows)(x u:Nat):∀q∈rows,(cX rows x u).1.testBit q.1=false:=λq I=>by
 rw[oQ];exact A3 h.R4 x (two q) (aaH.mpr ⟨q,I,rfl⟩)
def A7(hc:∀q∈rows,q.2.2<2^B.length/\comb B q.2.2=q.2.1):∀(x u:Nat),u<2^B.length->(cX rows x u).2<2^B.length/\comb B (cX rows x u).2=comb B u^^^(x^^^(cX rows x u).1):=by
 induction rows with
 | nil=>intro x u I;exact⟨I,by show _=_^^^(x^^^x);rw[ab7,abJ];rfl⟩
 | cons q rows O =>
   intro x u I;have U:=hc q aaF;have O:=O λq' Y=>hc q' (nU _ Y)
   rw[uB]
   by_cases h:x.testBit q.1=true
   ·rw[aai h];obtain⟨Z,i2⟩:=O (x^^^q.2.1) (u^^^q.2.2) (abu I U.1);refine⟨Z,?_⟩;rw[i2,kQ,U.2];refine abh λi=>?_
    simp only[aaB];generalize (cX rows (x^^^q.2.1) (u^^^q.2.2)).1.testBit i=y;cases(comb B u).testBit i<;>cases q.2.1.testBit i<;>cases x.testBit i<;>cases y<;>rfl
   ·rw[aaf h];exact O x u I
def Ue(h:Rw B rows){x:Nat}(hx:∀b∈B,b<2^x):∀q∈rows,q.2.1<2^x:=λq I=>by
 rw[<-(h.R3 q I).2];exact(ng B _).lt hx
def yo{z:Nat}(b:Nat)(hz:z<2^B.length):comb (B++[b]) z=comb B z:=by
 rw[iP,aby hz];simp
def Rw.skip{b:Nat}(h:Rw B rows)(hs:Sp B b):Rw (B++[b]) rows:=by
 have O:(B++[b]).length=B.length+1:=by simp
 refine⟨h.own,h.Kv,λq I=>⟨?_,?_⟩,λc hc=>?_,?_,?_⟩
 ·have:=(h.R3 q I).1;rw[O,acy]
  lia
 ·rw[yo b (h.R3 q I).1];exact(h.R3 q I).2
 ·rcases aa9.mp hc with hc|hc
  ·exact h.span c hc
  ·have e:c=b:=by simpa using hc
   rw[e];exact hs.mono h.span
 ·have:=h.le
  lia
 ·rw[tu];have:=h.le;exact⟨λe=>by lia,λz=>absurd hs z.2⟩
def Rw.put{b:Nat}(h:Rw B rows)(h0:(cX rows b 0).1≠0):Rw (B++[b]) (zL rows ((cX rows b 0).1.log2,(cX rows b 0).1,(cX rows b 0).2^^^2^B.length)):=by
 have hl:(B++[b]).length=B.length+1:=by simp
 have ab : ¬ Sp B b:=λz=>h0 ((h.pX b 0).mpr z)
 have off:=h.NI b 0;obtain⟨c1,Z⟩:=A7 h.R3 b 0 (abV _);rw[mQ,abC]at Z;have Av:Sp (rows.map λq=>q.2.1) (b^^^(cX rows b 0).1):=by
  rw[oQ];have:=Jd (rows.map two) b
  rwa [map_two]at this
 generalize cX rows b 0=lu at *;obtain⟨l,u⟩:=lu;have h0:l≠0:=h0;have top:=QO h0;have c1:u<2^B.length:=c1;have Z:comb B u=b^^^l:=Z;have off:∀q∈rows,l.testBit q.1=false:=off;have Av:Sp (rows.map λq=>q.2.1) (b^^^l):=Av
 show Rw (B++[b]) (zL rows (l.log2,l,u^^^2^B.length));generalize l.log2=t at top;have p2:2^B.length<2^(B++[b]).length:=by rw[hl];exact acm (by decide) (by lia)
 have hc:comb (B++[b]) (u^^^2^B.length)=l:=by
  have h1:(u^^^2^B.length).testBit B.length=true:=by
   rw[aaB,aby c1,ada];rfl
  have h2:comb B (2^B.length)=0:=uA B λi hi=>by
   rw[aaQ];exact gj (by lia)
  rw[iP,h1,aai rfl,kQ,h2,Z,abJ];refine abh λi=>?_
  simp only[aaB];cases b.testBit i<;>cases l.testBit i<;>rfl
 unfold zL;refine⟨λq O=>?_,adb.mpr ⟨λq O=>?_,?_⟩,λq O=>?_,λc hc=>?_,?_,?_⟩
 ·rcases aaC.mp O with e|O
  ·rw[e];exact top
  ·obtain⟨I,U,rfl⟩:=aaH.mp O
   by_cases e:I.2.1.testBit t=true
   ·rw[aai e];show(I.2.1^^^l).testBit I.1=true;rw[aaB,h.own I U,off I U];rfl
   ·rw[aaf e];exact h.own I U
 ·obtain⟨I,U,rfl⟩:=aaH.mp O
  by_cases e:I.2.1.testBit t=true
  ·rw[aai e];refine⟨?_,off I U⟩;show(I.2.1^^^l).testBit t=false;rw[aaB,e,top];rfl
  ·rw[aaf e];exact⟨acU.mpr e,off I U⟩
 ·refine abH.mpr (ab0 (λ{q q'} O JG hz=>?_) h.Kv)
  obtain⟨z1,z2⟩:=hz;have o1:=off q O;have o2:=off q' JG;have fst:∀q:Row3,(if q.2.1.testBit t=true then(q.1,q.2.1^^^l,q.2.2^^^(u^^^2^B.length)) else q).1=q.1:=λq=>by
   split<;>rfl
  have snd:∀(q:Row3) (k:Nat),l.testBit k=false->(if q.2.1.testBit t=true then(q.1,q.2.1^^^l,q.2.2^^^(u^^^2^B.length)) else q).2.1.testBit k=q.2.1.testBit k:=λq k hk=>by
   split
   ·show(q.2.1^^^l).testBit k=_;rw[aaB,hk,abD]
   ·rfl
  refine⟨?_,?_⟩
  ·rw[snd q' _ (by rw[fst];exact o1),fst]
   exact z1
  ·rw[snd q _ (by rw[fst];exact o2),fst]
   exact z2
 ·rcases aaC.mp O with e|O
  ·rw[e];exact⟨abu (by lia) p2,hc⟩
  ·obtain⟨I,U,rfl⟩:=aaH.mp O;obtain⟨d1,d2⟩:=h.R3 I U
   by_cases e:I.2.1.testBit t=true
   ·rw[aai e];refine⟨abu (by lia) (abu (by lia) p2),?_⟩
    show comb (B++[b]) (I.2.2^^^(u^^^2^B.length))=I.2.1^^^l;rw[kQ,hc,yo b d1,d2]
   ·rw[aaf e];exact⟨by lia,by rw[yo b d1,d2]⟩
 ·have Y:l∈(((t,l,u^^^2^B.length):Row3)::rows.map λq=>if q.2.1.testBit t=true then(q.1,q.2.1^^^l,q.2.2^^^(u^^^2^B.length)) else q).map λq=>q.2.1:=by
   rw[aaR];exact aaF
  have old:∀x∈rows.map (λq=>q.2.1),Sp ((((t,l,u^^^2^B.length):Row3)::rows.map λq=>if q.2.1.testBit t=true then(q.1,q.2.1^^^l,q.2.2^^^(u^^^2^B.length)) else q).map λq=>q.2.1) x:=λx hx=>by
   obtain⟨I,U,rfl⟩:=aaH.mp hx;have hm:(if I.2.1.testBit t=true then(I.1,I.2.1^^^l,I.2.2^^^(u^^^2^B.length)) else I).2.1∈(((t,l,u^^^2^B.length):Row3)::rows.map λq=>if q.2.1.testBit t=true then(q.1,q.2.1^^^l,q.2.2^^^(u^^^2^B.length)) else q).map λq=>q.2.1 :=
    aaH.mpr ⟨_,nU _ (aaH.mpr ⟨I,U,rfl⟩),rfl⟩
   by_cases e:I.2.1.testBit t=true
   ·rw[aai e]at hm;have:=(Sp.mem hm).xor (Sp.mem Y)
    rwa [mK]at this
   ·rw[aaf e]at hm;exact .mem hm
  rcases aa9.mp hc with hc|hc
  ·exact(h.span c hc).mono old
  ·have e:c=b:=by simpa using hc
   rw[e];have:=(Av.mono old).xor (Sp.mem Y)
   rwa [mK]at this
 ·rw[abj,aac,hl];have:=h.le
  lia
 ·rw[abj,aac,hl,tu];have:=h.len
  constructor
  ·exact λe=>⟨this.mp (by lia),ab⟩
  ·exact λe=>by have:=this.mpr e.1;lia
def rx(f:Row3->Bool):List Row3->Bool
 | []=>false
 | q::rows=>f q^^rx f rows
def D0{f g:Row3->Bool}:∀{rows:List Row3},(∀q∈rows,f q=g q)->rx f rows=rx g rows
 | [],_=>rfl
 | q::rows,h=>by
   unfold rx;rw[h q aaF,D0 λq' I=>h q' (nU _ I)]
def A8(i:Nat):∀{rows:List Row3},(rows.Pairwise λq q'=>q'.2.1.testBit q.1=false/\q.2.1.testBit q'.1=false)->∀(x u:Nat),(cX rows x u).2.testBit i=(u.testBit i^^rx (λq=>x.testBit q.1&&q.2.2.testBit i) rows)
 | [],_,x,u=>by show u.testBit i=(u.testBit i^^false);rw[abD]
 | q::rows,Kv,x,u=>by
   obtain⟨h1,h2⟩:=adb.mp Kv;have I:=A8 i h2;rw[uB];unfold rx
   by_cases h:x.testBit q.1=true
   ·rw[aai h,I,h,abx,aaB,Bool.xor_assoc]
    congr 2
    exact D0 λq' O=>by rw[aaB,(h1 q' O).2,abD]
   ·rw[aaf h,I,acU.mpr h,adg,aci]
def cP(rows:List Row3)(i:Nat):List Nat:=(rows.filter λq=>q.2.2.testBit i).map λq=>q.1
def D5(own:∀q∈rows,q.2.1.testBit q.1=true)(Kv:rows.Pairwise λq q'=>q'.2.1.testBit q.1=false/\q.2.1.testBit q'.1=false)(i:Nat):(cP rows i).Nodup:=by
 unfold cP;refine abH.mpr ((ab0 (λ{q q'} O I hz e=>?_) Kv).filter _)
 have:=own q' I;rw[<-e,hz.1]at this;cases this
def uC(f:Nat->Bool)(n:Nat):∀{l:List Nat},l.Nodup->(∀k∈l,k<n)->bU (λk=>f k&&decide (k∈l)) n=l.foldr (λk acc=>f k^^acc) false
 | [],_,_=>kq λk _=>by simp
 | a::l,nd,h=>by
   obtain⟨I,O⟩:=abn.mp nd;have U:=uC f n O λk hk=>h k (nU _ hk)
   have:bU (λk=>f k&&decide (k∈a::l)) n=bU (λk=>(f k&&decide (a=k))^^(f k&&decide (k∈l))) n:=bV λk _=>by
    by_cases e:a=k
    ·subst e;rw[dm aaF,dm rfl,gj I,acs,abD]
    ·have:(k∈a::l)↔k∈l:=⟨λz=>(aaC.mp z).resolve_left λz=>e z.symm,nU _⟩
     rw[gj e,acs,aci,abv.mpr this]
   rw[this,kK,kL f (h a aaF),U];rfl
def D6(f:Nat->Bool)(i:Nat):∀rows:List Row3,(cP rows i).foldr (λk acc=>f k^^acc) false=rx (λq=>f q.1&&q.2.2.testBit i) rows
 | []=>rfl
 | q::rows=>by
   have I:=D6 f i rows;unfold cP at I ⊢;unfold rx;cases h:q.2.2.testBit i with
   | true =>
     rw[aa2,aai h,aaR,List.foldr_cons,I,acM]
   | false =>
     rw[aa2,aaf (by rw[h];decide),I,acs,aci]
def Rw.marks{N:Net}(h:Rw B rows)(hi:zK B)(hb:∀b∈B,b<2^N.n){i j b:Nat}(hj:B[j]?=some b):N.par b (Ring.orM (cP rows i))=decide (i=j)/\∀k∈cP rows i,k<N.n:=by
 have lt:∀k∈cP rows i,k<N.n:=λk hk=>by
  obtain⟨q,I,rfl⟩:=aaH.mp hk;have I:=(aaX.mp I).1;exact dc (Ue h hb q I) (h.own q I)
 refine⟨?_,lt⟩;have Y:N.par b (Ring.orM (cP rows i))=rx (λq=>b.testBit q.1&&q.2.2.testBit i) rows:=by
  rw[<-D6 (λk=>b.testBit k),<-uC (λk=>b.testBit k) N.n (D5 h.own h.Kv i) lt]
  exact bV λk _=>by rw[Ring.j6]
 have hz:(cX rows b 0).1=0:=(h.pX b 0).mpr (.mem (jV hj));obtain⟨Z,O⟩:=A7 h.R3 b 0 (abV _);rw[mQ,abC,hz,abJ]at O
 replace O:=O.trans (ym hj).symm
 have NJ:=(jo.mp hj).1;have e2:=yn B hi Z (acm (by decide) NJ) O
 have U:=A8 i h.Kv b 0;rw[e2,abR,aci,aaQ]at U;rw[Y,<-U];exact abv.mpr eq_comm
end
end RM
namespace Ring
open PySem L2
def vP(q:RM.Row3):List V:=[.int (q.1:Int),.int (q.2.1:Int),.int (q.2.2:Int)]
def yp(H:Hp)(x:V)(q:RM.Row3):Prop:=∃b,x = .ref b/\H b=some (.tup (vP q))
def yp.tups{H H' : Hp}(s:bG H H'){x:V}{q:RM.Row3}(h:yp H x q):yp H' x q:=let⟨b,e,z⟩:=h;⟨b,e,s _ _ z⟩
def j8(H:Hp)(l:Addr)(rows:List RM.Row3):Prop:=∃xs,H l=some (.lst xs)/\Paired (yp H) xs rows
def j8.same{H H' : Hp}(s:aq H H'){l:Addr}{rows:List RM.Row3}(h:j8 H l rows):j8 H' l rows:=let⟨xs,e,z⟩:=h;⟨xs,s _ _ e,Paired.imp' (λ_ _ z=>z.tups s.tups) z⟩
def Kw(rows:List RM.Row3)(q:RM.Row3)(x u:Nat):RM.cX (rows++[q]) x u=if(RM.cX rows x u).1.testBit q.1=true then((RM.cX rows x u).1^^^q.2.1,(RM.cX rows x u).2^^^q.2.2) else RM.cX rows x u:=by
 unfold RM.cX;rw[acC];rfl
def take3{α:Type}{l:List α}{i:Nat}{q:α}(h:l[i]?=some q):l.take (i+1)=l.take i++[q]:=by
 rw[aa1,h];rfl
def NK{m:Nat}(h:m≠0):((Builtin.Int.intBits (m:Int):Nat):Int)-1=((m.log2:Nat):Int):=by
 rw[xM,aaf h]
 lia
end Ring
namespace L2
open PySem PySem.Spec PyProof.Rows
def Gz{K:bJ}{a:Addr}{xs:List V}{g:TG}{tt:TT}{te:TE}{n:Nat}{fr:St}{D:Addr}{Q:Hp->Prop}{H1:Hp}(Pv:Nat->List V->Hp->Prop)(h0:Pv 0 [] H1)(hl:∀i acc H,i<=xs.length->Pv i acc H->aR K H a xs/\H D=some (.lst acc)/\acc.length<=i)(hz:xs.length<=sizeLine)
 (hs:∀i x T acc H,xs[i]?=some x->Pv i acc H->H T=none->g (.ref T) (List.replicate n none++fr) (upd H T (.tup [.int (i:Int),x])) λσ2 H2=>σ2.drop n=fr/\tt σ2 H2 λb H3 =>
  if b=true then te σ2 H3 λv H4=>H4 D=some (.lst acc)/\Pv (i+1) (acc++[v]) (upd H4 D (.lst (acc++[v]))) else Pv (i+1) acc H3)
 (hd:∀acc H,Pv xs.length acc H->Q H):jt (Ve K a) g tt te n fr D Q H1:=by
 refine⟨λi m acc H=>m=xs.length-i/\i<=xs.length/\Pv i acc H,⟨xs.length,by simp,aa3 _,h0⟩,?_⟩
 rintro i m acc H ⟨rfl,hi,p⟩;obtain⟨q,U,ha⟩:=hl i acc H hi p;refine⟨U,?_⟩
 by_cases I:i<xs.length
 ·refine .inr ⟨⟨xs,xs[i],q,by simp[I]⟩,by lia,Pv (i+1),λO H' Y=>⟨xs.length-(i+1),by lia,rfl,I,Y⟩,λv H' y=>?_⟩
  obtain⟨T,x,rfl,Z,rfl,y⟩:=y;exact hs i x T acc _ (y xs q) p Z
 ·have e:i=xs.length:=by lia
  subst e;exact .inl ⟨⟨xs,q,aam _⟩,hd acc H p⟩
end L2
namespace RM
variable {N:Net}{S:Nat->Bool}
def mR{b:Nat}{B:List Nat}:zK (b::B)↔zK B/\¬ Sp B b:=by
 have dbl:∀z,(2*z).testBit 0=false:=λz=>by rw[ad2];exact gj (by lia)
 have I:∀z,(2*z+1).testBit 0=true:=λz=>by rw[ad2];exact dm (by lia)
 constructor
 ·intro h;refine⟨λz hz e=>?_,λhs=>?_⟩
  ·have:=h (2*z) (by rw[abj,acy];lia) (by
    unfold comb;rw[dbl,aaf (by decide),abC,show 2*z/2=z by lia]
    exact e)
   lia
  ·obtain⟨y,U,e⟩:=xm hs;have:=h (2*y+1) (by rw[abj,acy];lia) (by
    unfold comb;rw[I,aai rfl,show(2*y+1)/2=y by lia,e,ab7])
   lia
 ·rintro⟨h,hs⟩ z hz e;unfold comb at e;rw[abj,acy]at hz
  by_cases hb:z.testBit 0=true
  ·rw[aai hb]at e;have O:=jz e;exact absurd (O▸ng B (z/2)) hs
  ·rw[aaf hb,abC]at e;have h0:=h (z/2) (by lia) e
   rw[ad2,adU]at hb
   lia
def QU{B C:List Nat}(h:B.Perm C)(x:Nat):Sp B x↔Sp C x :=
 ⟨λz=>z.mono λb hb=>.mem (h.mem_iff.mp hb),λz=>z.mono λb hb=>.mem (h.mem_iff.mpr hb)⟩
def NL{B C:List Nat}(h:B.Perm C):zK B↔zK C:=by
 induction h with
 | nil=>exact Iff.rfl
 | cons x h O=>rw[mR,mR,O,QU h]
 | swap x y l =>
   rw[mR,mR,mR,mR,Sp.oN,Sp.oN,ad1 y x]
   constructor
   ·rintro⟨⟨h1,h2⟩,I⟩;exact⟨⟨h1,λz=>I (.inl z)⟩,λz=>z.elim h2 λz=>I (.inr z)⟩
   ·rintro⟨⟨h1,h2⟩,I⟩;exact⟨⟨h1,λz=>I (.inl z)⟩,λz=>z.elim h2 λz=>I (.inr z)⟩
 | trans _ _ i1 i2=>exact i1.trans i2
def Base.perm{N:Net}{rs rs' : List Nat}(b:Base N rs)(h:rs'.Perm rs):Base N rs' :=
 ⟨by rw[h.length_eq];exact b.len,λr hr=>b.ring r (h.mem_iff.mp hr),(NL h).mpr b.ind⟩
end RM
namespace L2
open PySem PySem.Spec PyProof.Rows
def dU(q:Str)(pos:Pos):Array Value:=#[.str q 0,rawInt pos.line,rawInt pos.col]
def qv(pos:Pos)(c:Addr):Array Value:=#[rawInt pos.line,rawInt pos.col,.ref c]
def gP(H:Hp)(P c:Addr)(oc:Obj)(q:Str)(pos:Pos):Hp:=upd (upd H c (.n5 oc (.own P))) P (.jF (dU q pos++qv pos c))
def given(H:Hp)(P c:Addr)(q:Str)(pos:Pos):Hp:=upd (upd H c (.own P)) P (.jF (dU q pos))
def CodeObj(oc:Obj)(q:Str):Prop:=∃vs t,oc.data = .fields vs/\vs[1]?=some (.str q t)
def CodeObj.rec{h:Heap}{c:Addr}{oc:Obj}{q:Str}(x:CodeObj oc q)(e:h.get? c=some oc):h.CodeRec (.ref c) q :=
 let⟨vs,t,e1,e2⟩:=x
 ⟨c,oc,vs,t,rfl,e,e1,e2⟩
def Ug{P:Program}{w:World}{H:Hp}{h:Heap}{a:Addr}{q:Str}{pos:Pos}(x:bK P w H h a (.jF (dU q pos))):
 h.get? a=some (PySem.W.tabObj #[])\/∃c oc,h.get? a=some (PySem.W.tabObj (qv pos c))/\H c=some (.own a)/\h.get? c=some oc/\CodeObj oc q:=by
 obtain⟨ps,e,f⟩:=x;rcases f with⟨_,f|⟨c,I,O,c',oc,vs,U,hc,Y,hd,Z⟩⟩|⟨q',l,k,f,z⟩
 ·subst f;exact .inl e
 ·cases hc;subst I;exact .inr ⟨c,oc,e,O,Y,vs,U,hd,Z⟩
 ·have:=aa4 Array.size f;rw[Array.size_append,z]at this;exact absurd this (by simp[dU])
def NO{P:Program}{w:World}{H:Hp}{h:Heap}{a c:Addr}{q:Str}{pos:Pos}(x:bK P w H h a (.jF (dU q pos++qv pos c))):h.get? a=some (PySem.W.tabObj (qv pos c)):=by
 obtain⟨ps,e,f⟩:=x;rcases f with⟨f,_⟩|⟨q',l,k,f,z⟩
 ·rw[Array.size_append]at f;exact absurd f (by simp[dU,qv])
 ·have I:=aa4 (λa=>a.toList.drop 3) f
  simp only[Array.toList_append,dU,qv,List.cons_append,List.nil_append,List.drop_succ_cons,List.drop_zero]at I;have O:ps=qv pos c:=by
   apply Array.toList_inj.mp;exact I.symm
  rw[<-O];exact e
abbrev D7(X:Cx)(params:Arguments)(body:Expr)(scope:Scope)(c:Addr)(ctv:Value):FuncData :=
 PySem.W.kla_fn "<lambda>" (X.env.qual ++ "<lambda>") params body scope (ez X.env.cells scope.names []) ((X.mg "__name__").getD .none) (.ref c) ctv
abbrev fD(X:Cx)(params:Arguments)(body:Expr)(scope:Scope)(c:Addr)(ctv:Value):Obj :=
 { cls:=.type "function",data:=.func (D7 X params body scope c ctv)}
section
variable {X:Cx}{pq:aX}{σ:St}{H H2:Hp}{s:Shared}{params:Arguments}{body:Expr}{scope:Scope}{pos:Pos}{own fq:List Str}{js:List Nat}{c P:Addr}
def D8{Q:dR}{E:dR}
 (I:Inv X pq σ H s) (T:eY X scope own fq js) (hcode:X.env.code = .ref c) (hK:PySem.W.codeHdIn X.K c P=true) (hP:H P=some (.jF (dU (X.env.qual ++ "<lambda>") pos)))
 (hdef:defaultsOf params X.env=([],[]))
 (h:∀f O oc ctv s',(H O = none\/H O = some (.own P))->O≠P->CodeObj oc (X.env.qual ++ "<lambda>")->Inv X ((f,fD X params body scope O ctv)::pq) σ (gP H P O oc (X.env.qual ++ "<lambda>") pos) s'->Q (.ref f) s') :
 wpAny (model X.prog X.w) X.A (eval (.Lambda params body scope pos) X.env) Q E s:=by
 have a6:=Ug (show bK X.prog X.w H s.heap P (.jF (dU (X.env.qual ++ "<lambda>") pos)) from I.hok P _ hP)
 have C:PySem.W.CodeHd s.heap c P:=PySem.W.codeHd_of_K I.Fy hK;have hg:=I.mod.glob.keeps I.bk;have ar:∀b o,X.base.get? b=some o->b≠P:=λb o q z=>by
  have:=(I.bs b o q).2;rw[z,hP]at this;cases this
 have a7:mainGlobals≠P:=by
  obtain⟨o,es,ep,q,_⟩:=I.mod.glob;exact ar _ o q
 have hb:s.heap.BuiltinsAt X.mg P:=by
  obtain⟨bm,ob,b1,b2,b3,b4,b5,b6⟩:=I.mod.bmain;refine⟨bm,ob,b1,b2,λz=>?_,ar _ _ b3,I.bk _ _ b3,b4,b5,b6⟩
  obtain⟨o,es,ep,q,hd,_⟩:=I.mod.glob;rw[z,q]at b3;cases b3;rw[hd]at b6;cases b6
 have aw:=qP (iJ I T);have fin:∀(f O : Addr) (oc:Obj) (ctv:Value) (h2:Heap) (tk:Nat),(H O = none\/H O = some (.own P))->O≠P->(H O = none->s.heap.objs.size<=O)->CodeObj oc (X.env.qual ++ "<lambda>")->(∀b o,b≠P->s.heap.get? b=some o->h2.get? b=some o)->
  h2.get? P=some (PySem.W.tabObj (qv pos O))->h2.get? O = some oc->s.heap.objs.size<=f->f≠O->h2.get? f=some (fD X params body scope O ctv)->
  Inv X ((f,fD X params body scope O ctv)::pq) σ (gP H P O oc (X.env.qual ++ "<lambda>") pos) { s with heap:=h2,toks:=tk}:=by
  intro f O oc ctv h2 tk hc D9 ax ab hx YR U hf a8 a9;have nP:∀b,H b=none->b≠P:=λb n z=>by rw[z,hP]at n;cases n
  have QV:∀b u,H b=some u->(∀y,u≠.own y)->(∀qs,u≠.jF qs)->gP H P O oc (X.env.qual ++ "<lambda>") pos b=some u:=λb u e n1 n2=>by
   unfold gP;rw[ah (λz=>by rw[z,hP]at e;exact n2 _ (Option.some.inj e).symm),ah (λz=>by
    rw[z]at e;rcases hc with q|q
    ·rw[q]at e;cases e
    ·rw[q]at e;exact n1 _ (Option.some.inj e).symm)]
   exact e
  have Uh:∀b,H b=none->(b<s.heap.objs.size\/b≠O)->gP H P O oc (X.env.qual ++ "<lambda>") pos b=none:=λb n hb=>by
   unfold gP;rw[ah (nP b n),ah (λz=>by
    rcases hb with q|q
    ·rw[z]at q n;exact absurd (ax n) (Nat.not_le.mpr q)
    ·exact q z)]
   exact n
  have un:Un X.fs [] H (gP H P O oc (X.env.qual ++ "<lambda>") pos) s.heap h2:=by
   refine⟨λb o q n _ _=>hx b o (nP b n) q,λb o q n _ _=>⟨o.slots,hx b o (nP b n) q⟩,λb o q n _=>Uh b n (.inl (aax q)),λb o q _=>?_,λb xs q=>QV b _ q (by intro y z;cases z) (by intro y z;cases z),λb o u q=>QV b _ q (by intro y z;cases z) (by intro y z;cases z),λb ps q=>?_⟩
   ·by_cases hb:b=P
    ·exact⟨_,by rw[hb];exact YR⟩
    ·exact⟨o,hx b o hb q⟩
   ·by_cases hb:b=P
    ·subst hb;rw[hP]at q;cases q;exact⟨qv pos O,ae⟩
    ·refine⟨#[],?_⟩;unfold gP;rw[ah hb,ah (λz=>by
      rw[z]at q;rcases hc with r|r<;>(rw[r]at q;cases q)),q]
     simp
  have hok:n8 X.prog X.w (gP H P O oc (X.env.qual ++ "<lambda>") pos) h2:=λb u q=>by
   by_cases Ea:b=P
   ·subst Ea;unfold gP at q;rw[ae]at q;cases q;exact⟨_,YR,.inr ⟨_,_,_,rfl,rfl⟩⟩
   ·by_cases aT:b=O
    ·subst aT;unfold gP at q;rw[ah Ea,ae]at q;cases q;exact⟨U,oc,U⟩
    ·have q' : H b=some u:=by
      unfold gP at q;rw[ah Ea,ah aT]at q;exact q
     have ow:∀d,H d=some (.own b)->d≠P/\d≠O:=λd Y=>⟨aQ Y hP (by intro z;cases z),λz=>by
      rw[z]at Y;rcases hc with r|r
      ·rw[r]at Y;cases Y
      ·rw[r]at Y;cases Y;exact Ea rfl⟩
     refine(I.hok b u q').stay (λd v hd Y=>hx d v ?_ Y) (λd Y=>?_) λd xs Y=>QV d _ Y (by intro y z;cases z) (by intro y z;cases z)
     ·rcases hd with rfl|hd
      ·exact Ea
      ·exact(ow d hd).1
     ·unfold gP;rw[ah (ow d Y).1,ah (ow d Y).2];exact Y
  have J:=I.un (t':=tk) un hok;have ba:H f=none:=I.hok.fresh hf;refine J.ia λp hp=>?_
  rcases aaC.mp hp with rfl|hp
  ·exact⟨a9,Uh _ ba (.inr a8),abX (aaL I.lt hf),I.VE hf,λv z=>by cases z⟩
  ·exact J.pin p (jY _ hp)
 refine PySem.W.kla_eval hdef ?_;rcases a6 with e|⟨O,oc,e,ho,U,ab⟩
 ·refine PySem.W.kla_makeFunction (mg:=X.mg) aw I.ok.glob hg hcode C e trivial rfl a7 hb λO ctv h' tk hx Z a3 a4 bb=>?_
  obtain⟨c2,oc,vs,t,e2,U,hd,hv⟩:=a4;cases e2;have hf:s.heap.objs.size<=h'.objs.size:=aa0 Z (abq a3);have D9:O≠P:=abX (aaL (aax e) Z);exact h _ O oc ctv _ (.inl (I.hok.fresh Z)) D9 ⟨vs,t,hd,hv⟩ (fin _ O oc ctv _ tk (.inl (I.hok.fresh Z)) D9 (λ_=>Z) ⟨vs,t,hd,hv⟩ (λb o hb q=>aao _ (hx b o hb q)) (aao _ bb) (aao _ U) hf (abX a3) (aaN _ rfl))
 ·have hf:codeAmong pos (qv pos O).toList=some (.ref O):=codeAmong_snoc [] trivial rfl;have tr:TriplesOk (qv pos O).toList:=TriplesOk_snoc pos.line pos.col (.ref O) [] trivial;refine PySem.W.kla_makeFunctionHit (mg:=X.mg) aw I.ok.glob hg hcode C e tr hf hb λctv h' tk hk a5=>?_
  have D9:O≠P:=aQ ho hP (by intro z;cases z)
  have ag : ∀b o,s.heap.get? b=some o->(h'.push (fD X params body scope O ctv)).get? b=some o:=λb o q=>aao _ (hk b o q)
  exact h _ O oc ctv _ (.inr ho) D9 ab (fin _ O oc ctv _ tk (.inr ho) D9 (λz=>by rw[ho]at z;cases z) ab (λb o _ q=>ag b o q) (ag _ _ e) (ag _ _ U) a5 (abX (aaL (aax U) a5)) (aaN _ rfl))
def Eb{yq:aX}{σ0:St}{s0:Shared}{q:Str}{oc:Obj}(I0:Inv X yq σ0 H s0)(hP:H P=some (.jF (dU q pos)))(hc:H c=none\/H c=some (.own P))(D9:c≠P)(hoc:CodeObj oc q)
 (I:Inv X pq σ H2 s) (e1:H2 P=some (.jF (dU q pos++qv pos c))) (e2:H2 c=some (.n5 oc (.own P))):Inv X pq σ (given H2 P c q pos) s:=by
 have YR:=NO (show bK X.prog X.w H2 s.heap P (.jF (dU q pos++qv pos c)) from I.hok P _ e1)
 obtain⟨U,_⟩:=(show bK X.prog X.w H2 s.heap c (.n5 oc (.own P)) from I.hok c _ e2)
 have Uh:∀b,H2 b=none->given H2 P c q pos b=none:=λb n=>by
  unfold given;rw[ah (λz=>by rw[z,e1]at n;cases n),ah (λz=>by rw[z,e2]at n;cases n)]
  exact n
 have Y:∀b u,b≠P->b≠c->H2 b=some u->given H2 P c q pos b=some u:=λb u n1 n2 e=>by
  unfold given;rw[ah n1,ah n2];exact e
 refine⟨I.ok,I.os,I.bare,⟨I.base.keep,I.base.slot,λb o z n hx=>Uh b (I.base.free b o z n hx),I.base.there,λb xs z=>?_,λb o u z=>?_,λb ps z=>?_⟩,I.loc,I.cell,Uh _ I.free,λx c' z=>Uh _ (I.gh x c' z),λp hp=>?_,λb u z=>?_,I.len⟩
 ·have r:=I.base.tups b xs z;exact Y b _ (aQ r e1 (by intro z;cases z)) (aQ r e2 (by intro z;cases z)) r
 ·have r:=I.base.m3 b o u z;refine Y b _ (aQ r e1 (by intro z;cases z)) (λy=>?_) r
  have O:=I0.base.m3 b o u z;rw[y]at O;rcases hc with hc|hc<;>(rw[hc]at O;cases O)
 ·by_cases hb:b=P
  ·subst hb;obtain⟨more,O⟩:=I0.base.oh b ps z;rw[hP]at O;exact⟨more,by unfold given;rw[ae];exact O⟩
  ·obtain⟨more,r⟩:=I.base.oh b ps z;exact⟨more,Y b _ hb (aQ r e2 (by intro z;cases z)) r⟩
 ·obtain⟨a1,a2,a3⟩:=I.pin p hp;exact⟨a1,Uh _ a2,a3⟩
 ·by_cases Ea:b=P
  ·subst Ea;unfold given at z;rw[ae]at z;cases z;refine⟨_,YR,.inl ⟨rfl,.inr ⟨c,rfl,?_,hoc.rec U⟩⟩⟩;unfold given;rw[ah D9,ae]
  ·by_cases Z:b=c
   ·subst Z;unfold given at z;rw[ah Ea,ae]at z;cases z;exact⟨oc,U⟩
   ·have z' : H2 b=some u:=by
     unfold given at z;rw[ah Ea,ah Z]at z;exact z
    refine(I.hok b u z').stay (λ_ _ _ r=>r) (λd r=>Y d _ (aQ r e1 (by intro z;cases z)) (aQ r e2 (by intro z;cases z)) r) λd xs r=>Y d _ (aQ r e1 (by intro z;cases z)) (aQ r e2 (by intro z;cases z)) r
def Ec{q:Str}{oc:Obj}(hP:H P=some (.jF (dU q pos)))(hc:H c=none\/H c=some (.own P))(D9:c≠P)(S:aq (gP H P c oc q pos) H2):aq H (given H2 P c q pos):=λb u e=>by
 unfold given
 by_cases O:b=P
 ·subst O;rw[ae,<-hP];exact e
 ·rw[ah O]
  by_cases I:b=c
  ·subst I;rw[ae];rcases hc with hc|hc
   ·rw[hc]at e;cases e
   ·rw[<-hc];exact e
  ·rw[ah I];refine S b u ?_;unfold gP;rw[ah O,ah I];exact e
def xn{q:Str}{oc:Obj}{b:Addr}{u:HO}(hP:H P=some (.jF (dU q pos)))(hc:H c=none\/H c=some (.own P))(e:H b=some u)(n1:∀y,u≠.own y)(n2:∀I,u≠.jF I):gP H P c oc q pos b=some u:=by
 unfold gP;rw[ah (λz=>by rw[z,hP]at e;exact n2 _ (Option.some.inj e).symm),ah (λz=>by
  rw[z]at e;rcases hc with q|q
  ·rw[q]at e;cases e
  ·rw[q]at e;exact n1 _ (Option.some.inj e).symm)]
 exact e
def yr(X:Cx)(N:List Str)(scope:Scope)(f c:Addr)(A:Around)(s:Shared)(H:Hp):Cx where
 prog:=X.prog
 w:=X.w
 K:=X.K
 mg:=X.mg
 base:=X.base
 A:=A.deeper (PySem.W.envX (X.env.qual ++ "<lambda>") scope s.heap.objs.size f (.ref c) (ez X.env.cells scope.names []))
 N:=N
 s₀:=s
 H₀:=H
 env:=PySem.W.envX (X.env.qual ++ "<lambda>") scope s.heap.objs.size f (.ref c) (ez X.env.cells scope.names [])
 outer:=X.stack
 stack:=PySem.W.envX (X.env.qual ++ "<lambda>") scope s.heap.objs.size f (.ref c) (ez X.env.cells scope.names [])::X.stack
 ex:=[]
 fn:=λ_=>false
 calm:=X.calm
 pn:=[]
 xe:=λ_ _=>False
def QW{f:Addr}{A:Around}{x:Str}{v:V}{u:Value}{h1:Heap}{t1:Nat}(I:Inv X pq σ H s)(T:eY X scope [x] fq js)(hx:scope.names.lookup x=some .local)
 (hfr:A.frames=some X.stack) (hh:A.handled=X.A.handled) (r:RelV v u) (old:∀b o,s.heap.get? b=some o->h1.get? b=some o) (hn:h1.Ns s.heap.objs.size (λy=>[(x,u)].reverse.lookup y)) :
 Inv (yr X ([x]++fq) scope f c A s H) [] (some v::gm σ js) H { s with heap:=h1,toks:=t1}:=by
 have cells:∀x c,(ez X.env.cells scope.names []).lookup x=some c->X.env.cells.lookup x=some c:=λx c h=>by
  rcases lC h with q|⟨q1,q2⟩
  ·cases q
  ·obtain⟨c',O⟩:=iJ I T x .free q1 rfl;rw[O]at q2;rw[O];exact aa4 some q2
 refine⟨⟨I.ok.mod,T.kind,rfl,rfl,aam _,λx y c a b=>I.ok.inj x y c (cells x c a) (cells y c b),λy Y=>?_,λx c z _=>(nomatch z),λhc=>hh.trans (I.ok.hd hc),Around.frames_deeper hfr,.inr ⟨rfl,rfl⟩,λb hb=>absurd (show b∈([]:List Addr) from hb) (by simp),
  λb o e=>I.bs b o e,aa0 I.ok.L1 I.sz,λb o _ hb=>absurd (show b∈([]:List Addr) from hb) (by simp),λb hb=>absurd (show b∈([]:List Addr) from hb) (by simp),I.stack,I.Bm⟩,
  rfl,I.bare,Un.kept old,⟨_,hn,λi y v' U e2 e3=>?_⟩,λy c e=>?_,I.hok.fresh (aam _),λy c e=>I.gh y c (cells y c e),λp hp=>absurd (show p∈([]:aX) from hp) (by simp),I.hok.kept old,?_⟩
 ·have Y:scope.names.lookup y=some .cell\/scope.names.lookup y=some .free:=Y;rcases Y with Y|Y
  ·exact absurd rfl (T.By _ (abA Y))
  ·exact kJ (.inl (abA Y))
 ·replace U:([x]++fq)[i]?=some y:=U
  cases i with
  | zero =>
    have U:x=y:=by simpa using U
    have e2:v=v':=by simpa using e2
    subst U e2;exact⟨u,r,.inl ⟨hx,by simp⟩⟩
  | succ i =>
    have U:fq[i]?=some y:=by simpa using U
    have e2:(gm σ js)[i]?=some (some v'):=by simpa using e2
    obtain⟨j,hj,hσ⟩:=xF e2;have hN:X.N[j]?=some y:=by
     have q:=aa4 (λl=>l[i]?) T.at_
     simp only[aaw,hj,U,acj]at q;exact Option.some.inj q
    have ab:=T.fr y (jV U);have hm:=abA ab;have hk:=T.free (y,.free) hm rfl;obtain⟨m0,ag,IC⟩:=I.loc;obtain⟨u',r',l⟩:=IC j y v' hN hσ (by rcases hk with k|k;exact .inr (.inl k);exact .inr (.inr k))
    refine⟨u',r',.inr ⟨.inr ab,?_⟩⟩;rcases l with⟨xG,_⟩|⟨_,c1,hc,Z⟩
    ·have xG:X.env.scope.names.lookup y=some .local:=xG;rcases hk with k|k<;>(rw[xG]at k;cases k)
    ·obtain⟨c',O⟩:=kJ (cells:=X.env.cells) (names:=scope.names) (cs:=[]) (x:=y) (.inl hm);have q:=cells y c' O;rw[hc]at q;cases q;exact⟨c1,O,Z.keeps old⟩
 ·obtain⟨v',q⟩:=I.cell y c (cells y c e);exact⟨v',q.keeps old⟩
 ·show _=([x]++fq).length;have q:=aa4 List.length T.at_;rw[aac,aac]at q;simp only[abj,aaz,acz];unfold gm;rw[aac]
  lia
def Ed{f:Addr}{ctv:Value}{A:Around}{te:TE}{x:Str}{v:V}{u:Value}{Q:VK}{E:dR}(I:Inv X pq σ H s)(T:eY X scope [x] fq js)(hx:scope.names.lookup x=some .local)
 (hfr:A.frames=some X.stack) (hh:A.handled=X.A.handled) (hroom:A.depth<recursionLimit) (hp:(f,fD X params body scope c ctv)∈pq) (hcd:s.heap.CodeRec (.ref c) (X.env.qual ++ "<lambda>"))
 (hb:bindArgs (D7 X params body scope c ctv) ⟨[u],[]⟩=pure [(x,u)]) (hco:scope.isCoroutine=false) (hgen:scope.isGenerator=false)
 (he:PE (yr X ([x]++fq) scope f c A s H) body te) (r:RelV v u) (h:te (some v::gm σ js) H Q) :
 wpAny (model X.prog X.w) A (call (.ref f) [u]) (λu' s'=>∃O H',Inv X pq σ H' s'/\RelV O u'/\Q O H') E s:=by
 have hf:=I.pin _ (jY _ hp);refine wpAny_call (PySem.W.kla_callFunE hroom hf.1 rfl hco hgen rfl hcd ?_);rw[hb];refine aaq (wpAny_newFunctionEnv (λy Y=>T.By y Y) (by intro y Y;have:=aaW.mp Y;subst this;exact hx) (λh₁ Z WV=>⟨I.nolimit.fresh _ WV,?_⟩) T.kind)
 show codeAny _ _ (.expr body (PySem.W.envX (X.env.qual ++ "<lambda>") scope s.heap.objs.size f (.ref c) (ez X.env.cells scope.names []))) _ _;have old:∀b o,s.heap.get? b=some o->h₁.get? b=some o:=λb o e=>WV.extBut b o (aaP (aax e)) (aao _ e)
 have J:=QW (f:=f) (c:=c) (A:=A) (t1:=s.toks+[(x,u)].length) I T hx hfr hh r old Z;refine PySem.W.kla_codeExpr (aa8 (he [] _ _ H Q J h) (λu' s' hq=>?_) λ_ _ z=>z.elim)
 obtain⟨O,H',U,r',q'⟩:=hq;exact⟨O,H',I.L4 (ch:=[]) U.os U.base U.hok U.bare (λb z=>absurd z (by simp)),r',q'⟩
end
end L2
namespace HT
def iu:∀a:List Int,lexLt a a=false
 | []=>rfl
 | x::xs=>by rw[iI,aai rfl];exact iu xs
def vQ:∀{a b c:List Int},lexLt a b=true->lexLt b c=true->lexLt a c=true
 | [],[],_,h,_=>by rw[qz]at h;cases h
 | [],_::_,[],_,h=>by rw[ig]at h;cases h
 | [],_::_,_::_,_,_=>rfl
 | _::_,[],_,h,_=>by rw[ig]at h;cases h
 | _::_,_::_,[],_,h=>by rw[ig]at h;cases h
 | x::xs,y::ys,z::zs,h1,h2=>by
   rw[iI]at h1 h2 ⊢
   by_cases O:x=y
   ·rw[aai O]at h1
    by_cases I:y=z
    ·rw[aai I]at h2;rw[aai (O.trans I)];exact vQ h1 h2
    ·rw[aaf I]at h2;rw[aaf (λq=>I (O.symm.trans q)),O]
     exact h2
   ·rw[aaf O]at h1;have h1:=ko h1
    by_cases I:y=z
    ·subst I;rw[aaf O];exact dm h1
    ·rw[aaf I]at h2;have h2:=ko h2;rw[aaf (by lia)]
     exact dm (by lia)
def yt{a b c:List Int}(h1:lexLt c b=false)(h2:lexLt a b=true):lexLt c a=false:=by
 cases q:lexLt c a with
 | false=>rfl
 | true=>rw[vQ q h2]at h1;cases h1
end HT
namespace L2
open PySem PySem.Spec PyProof.Rows
def YS(h:Heap)(a:Addr)(es:Array DictEntry)(ep:Nat):Prop:=∃o,h.get? a=some o/\o.ExactDict/\o.data = .dict es ep
def YT(o:Obj)(a:Addr)(i n ep:Nat):Prop:=o.cls = .type "dict_keyiterator"/\o.data = .fields #[.ref a,.int i 0,.int n 0,.int ep 0]
section
variable {P:Program}{w:World}{A:Around}{E:dR}{s:Shared}{a it:Addr}{es:Array DictEntry}{ep i:Nat}{oi:Obj}
def NP{Q:dR}(hs:(a==sysModules)=false)(g:YS s.heap a es ep)
 (q:Q (.ref s.heap.objs.size) { s with heap:=s.heap.push { cls:=.type "dict_keyiterator",data:=.fields #[.ref a,.int 0 0,.int es.size 0,.int ep 0]}}):wpAny (model P w) A (pyIter (.ref a)) Q E s:=by
 obtain⟨o,I,hc,hd⟩:=g;have O:s.TypeIs (.ref a) "dict":=⟨o,I,hc.1⟩;refine wpAny_pyIter_slot O PySem.F.slot_dict_iter (wpAny_call_entry PySem.F.slot_dict_iter O PySem.F.entry_dict_iter ?_ (PySem.F.args_dict_iter_1 _));unfold Builtin.«dict.__iter__» Builtin.Dict.dictSlotNone;refine aV (aV (wpAny_notOrdered_dict O ?_));show wpAny _ _ (pure (Value.ref a)) _ _ s;refine aaq ?_;show wpAny _ _ (Builtin.Dict.showsAll a >>= _) _ _ s;unfold Builtin.Dict.showsAll;rw[hs];refine aV (aaq (aV (wpAny_dictEntries I hd (aV (wpAny_dictEpoch I hd ?_)))));exact aV (wpAny_newObj_type (aaq ⟨_,rfl,"dict_keyiterator",_,⟨_,aaN _ rfl,rfl⟩,acE.lookup,q⟩))
def yu{Q:Option Value->Shared->Prop}(hi:s.heap.get? it=some oi)(g:YT oi a i es.size ep)(gd:YS s.heap a es ep)
 (q:match (es[i]?:Option DictEntry) with
  | some e=>∀h' O,h'.get? it=some O->YT O a (i+1) es.size ep->Heap.SameBut it s.heap h'->Q (some e.key) { s with heap:=h'}
  | none=>A.handled=none/\∀h',Heap.ExtBut it s.heap h'->Q none { s with heap:=h'}):wpAny (model P w) A (pyNext (.ref it)) Q E s:=by
 obtain⟨hc,hd⟩:=g;obtain⟨o,ho,hx,hdd⟩:=gd;have I:s.TypeIs (.ref it) "dict_keyiterator":=⟨oi,hi,hc⟩;unfold pyNext;refine aV (wpAny_attempt (wpAny_callSpecial?_slot (name:=Str.ofString "__next__") I acE (wpAny_call_entry acE I PySem.F.entry_dict_keyiterator_next ?_ (PySem.F.args_dict_keyiterator_next_1 _))));refine aV (aaq (aV (aV ?_)))
 first | refine aV (wpAny_typeNameOfWhole_keyiter I (aaq ?_)) | refine aV (wpAny_typeNameOf_keyiter I (aaq ?_))
 refine aV (wpAny_fieldsOf hi hd ?_);have U:Builtin.Dict_items.ownsTuple "dict_keyiterator"=false:=by decide
 simp only[U,abK,if_false];show wpAny _ _ (if(Value.ref a==Value.none)=true then _ else _) _ _ s
 rw[aaf (show ¬((Value.ref a==Value.none)=true) from aav)]
 refine aV (aaq (aV (wpAny_dictEntries ho hdd ?_)));rw[aaf (by simp)]
 refine aV (aaq (aV (wpAny_dictEpoch ho hdd ?_)));rw[aaf (by simp)]
 refine aaq ?_;simp only[show ¬((i:Int)<0) from by lia,if_false,aaE]
 cases hei:(es[i]?:Option DictEntry) with
 | some e =>
   rw[hei]at q;refine aV ?_
   first | refine aV (wpAny_typeNameOfWhole_keyiter I (aaq ?_)) | refine aV (wpAny_typeNameOf_keyiter I (aaq ?_))
   refine aV (wpAny_isOneOf_keyiter I ?_);show wpAny _ _ (setField (.ref it) 1 (rawInt ((i:Int)+1)) >>= _) _ _ s;refine aV (wpAny_setField hi hd (by simp) ?_)
   have d1:=acN hd (·.setIfInBounds 1 (rawInt ((i:Int)+1)));have g1:=acg (Obj.mapFields (·.setIfInBounds 1 (rawInt ((i:Int)+1)))) hi (acW d1);have Y:(Obj.mapFields (·.setIfInBounds 1 (rawInt ((i:Int)+1))) oi).cls = .type "dict_keyiterator":=(Obj.cls_mapFields ..).trans hc;refine aV (abg ?_);refine aV (wpAny_isOneOf_keyiter (s:={ s with heap:=s.heap.update it (Obj.mapFields (·.setIfInBounds 1 (rawInt ((i:Int)+1))))}) ⟨_,g1,Y⟩ ?_)
   show wpAny _ _ (pure e.key) _ _ _;exact aaq (aaq ⟨_,rfl,aaq (q _ _ g1 ⟨Y,by rw[d1];simp[rawInt]⟩ (abp ..))⟩)
 | none =>
   rw[hei]at q;obtain⟨hh,q⟩:=q;refine aV ?_
   first | refine aV (wpAny_typeNameOfWhole_keyiter I (aaq ?_)) | refine aV (wpAny_typeNameOf_keyiter I (aaq ?_))
   show wpAny _ _ (setField (.ref it) 0 .none >>= _) _ _ s;refine aV (wpAny_setField hi hd (by simp) ?_)
   show wpAny _ _ (newExc (.type "StopIteration") [] >>= _) _ _ _;refine aV ?_;simp only[newExc,newTuple];refine aV (wpAny_newObj_type (aV (m:=firstArgMember _ _) (wpAny_of_eq (a:=Value.none) (by first | rfl | (simp only[firstArgMember];rfl)) (wpAny_newObj_type ?_ (by size_fits)))) (by size_fits))
   simp only[raiseNew];refine aV (wpAny_handled ?_);rw[show A.in1.handled=none from hh]
   refine aV (aaq (wpAny_throw ?_));refine aV (wpAny_isInstance (T:="StopIteration") (b:=true) ⟨_,aaN _ rfl,rfl⟩ isSubtype_stop (aaq ?_));exact q _ (((abp ..).extBut.push _).push _)
end
section
variable {X:Cx}{pq:aX}{σ:St}{H H2:Hp}{s:Shared}
def Inv.QX{a:Addr}{kvs:List (List Key×V)}{ob:Obj}(I:Inv X pq σ H s)(e:H a=some (.dT kvs))(ho:s.heap.get? a=some ob):Inv X pq σ (upd H a (.n5 ob (.dT kvs))) s:=by
 have ne:∀b,H b=none->b≠a:=λb h z=>by rw[z,e]at h;cases h
 refine⟨I.ok,I.os,I.bare,⟨I.base.keep,I.base.slot,λb o q n hx=>?_,I.base.there,λb xs q=>?_,λb o u q=>?_,λb ps q=>?_⟩,I.loc,I.cell,?_,λx c q=>?_,λp O=>?_,λb u q=>?_,I.len⟩
 ·have z:=I.base.free b o q n hx;rw[ah (ne b z)];exact z
 ·have z:=I.base.tups b xs q;rw[ah (aQ z e (by intro z;cases z))]
  exact z
 ·have z:=I.base.m3 b o u q;rw[ah (aQ z e (by intro z;cases z))]
  exact z
 ·obtain⟨more,z⟩:=I.base.oh b ps q;exact⟨more,by rw[ah (aQ z e (by intro z;cases z))];exact z⟩
 ·rw[ah (ne _ I.free)];exact I.free
 ·rw[ah (ne _ (I.gh x c q))];exact I.gh x c q
 ·obtain⟨a1,a2,U⟩:=I.pin p O;exact⟨a1,by rw[ah (ne _ a2)];exact a2,U⟩
 ·by_cases hb:b=a
  ·subst hb;rw[ae]at q;cases q;exact⟨ho,(I.hok b _ e).stay (λ_ _ _ q=>q) (λc q=>by rw[ah (aQ q e (by intro z;cases z))];exact q) λc xs q=>by rw[ah (aQ q e (by intro z;cases z))];exact q⟩
  ·rw[ah hb]at q;exact(I.hok b u q).stay (λ_ _ _ q=>q) (λc q=>by rw[ah (aQ q e (by intro z;cases z))];exact q) λc xs q=>by rw[ah (aQ q e (by intro z;cases z))];exact q
def Inv.WW{yq:aX}{σ0:St}{s0:Shared}{a:Addr}{kvs:List (List Key×V)}{ob:Obj}(I0:Inv X yq σ0 H s0)(e0:H a=some (.dT kvs))(I:Inv X pq σ H2 s)(e:H2 a=some (.n5 ob (.dT kvs))):
 Inv X pq σ (upd H2 a (.dT kvs)) s:=by
 have ne:∀b,H2 b=none->b≠a:=λb h z=>by rw[z,e]at h;cases h
 obtain⟨Z,hd⟩:=(show bK X.prog X.w H2 s.heap a (.n5 ob (.dT kvs)) from I.hok a _ e)
 refine⟨I.ok,I.os,I.bare,⟨I.base.keep,I.base.slot,λb o q n hx=>?_,I.base.there,λb xs q=>?_,λb o u q=>?_,λb ps q=>?_⟩,I.loc,I.cell,?_,λx c q=>?_,λp U=>?_,λb u q=>?_,I.len⟩
 ·have z:=I.base.free b o q n hx;rw[ah (ne b z)];exact z
 ·have z:=I.base.tups b xs q;rw[ah (aQ z e (by intro z;cases z))]
  exact z
 ·have z:=I.base.m3 b o u q;rw[ah (λy=>by
   have O:=I0.base.m3 b o u q;rw[y,e0]at O;cases O)]
  exact z
 ·obtain⟨more,z⟩:=I.base.oh b ps q;exact⟨more,by rw[ah (aQ z e (by intro z;cases z))];exact z⟩
 ·rw[ah (ne _ I.free)];exact I.free
 ·rw[ah (ne _ (I.gh x c q))];exact I.gh x c q
 ·obtain⟨a1,a2,Y⟩:=I.pin p U;exact⟨a1,by rw[ah (ne _ a2)];exact a2,Y⟩
 ·by_cases hb:b=a
  ·subst hb;rw[ae]at q;cases q;exact hd.stay (λ_ _ _ q=>q) (λc q=>by rw[ah (aQ q e (by intro z;cases z))];exact q) λc xs q=>by rw[ah (aQ q e (by intro z;cases z))];exact q
  ·rw[ah hb]at q;exact(I.hok b u q).stay (λ_ _ _ q=>q) (λc q=>by rw[ah (aQ q e (by intro z;cases z))];exact q) λc xs q=>by rw[ah (aQ q e (by intro z;cases z))];exact q
def GA(X:Cx)(b:Addr):Prop:=X.s₀.heap.objs.size<=b/\b≠X.env.locals/\b∉X.fs/\(∀x c,X.env.cells.lookup x=some c->c≠b)/\∀p∈X.pn,p.1≠b
def Inv.NQ(I:Inv X pq σ H s){b:Addr}(hb:s.heap.objs.size<=b):GA X b :=
 let⟨_,f1,f2,_,f4,f5⟩:=I.Fz hb (I.hok.fresh hb)
 ⟨aa0 I.sz hb,f1,f2,f4,λp O=>f5 p (adH _ O)⟩
def Inv.lF{pa pb:aX}{b:Addr}{o:Obj}{h' : Heap}{t' : Nat}(I:Inv X pa σ H s)(hb:GA X b)(hin:(b,o)∈pa)(k:∀c u,c≠b->s.heap.get? c=some u->h'.get? c=some u)
 (O:∀p∈pb,(p.1=b/\h'.get? b=some p.2/\∀v,p.2.data≠.cell v)\/(p∈pa/\p.1≠b)):Inv X pb σ H { s with heap:=h',toks:=t'}:=by
 obtain⟨b1,U,Y,Z,b5⟩:=hb;have n:=(I.pin (b,o) (jY _ hin)).2.1;have J:=(I.ia (SH:=pa.filter λp=>decide (p.1≠b)) λp O=>I.pin p (jY _ (aaX.mp O).1)).turned (t':=t') k n U (.inr b1) Z (λp O=>by
  rcases aa9.mp O with O|O
  ·exact b5 p O
  ·exact ko (aaX.mp O).2)
 refine J.ia λp h=>?_
 rcases O p h with⟨e,g,d⟩|⟨m,ne⟩
 ·refine⟨by rw[e];exact g,by rw[e];exact n,by rw[e];exact U,by rw[e];exact Y,d⟩
 ·exact J.pin p (jY _ (aaX.mpr ⟨m,dm ne⟩))
end
section
variable {X:Cx}{pq:aX}{σ:St}{H2:Hp}{params:Arguments}{body:Expr}{scope:Scope}{fq:List Str}{js:List Nat}{x:Str}{te:TE}{f c a It S:Addr}{oc ob:Obj}{ctv:Value}{q:Str}{kvs:List (List Key×V)}
 {es:Array DictEntry} {ep:Nat} {ka:Nat->Addr} {ks:Nat->List Int} {PZ:Addr} {R:Result->Shared->Prop}
structure GB(X:Cx)(σ:St)(H2:Hp)(params:Arguments)(body:Expr)(scope:Scope)(fq:List Str)(js:List Nat)(x:Str)(te:TE)(f c a It S:Addr)(oc ob:Obj)(ctv:Value)(kvs:List (List Key×V))(es:Array DictEntry)(ep:Nat)(ka:Nat->Addr)(ks:Nat->List Int)(PZ:Addr):Prop where
 T:eY X scope [x] fq js
 hx:scope.names.lookup x=some .local
 hh:X.A.handled=none
 dp:X.A.in1.depth<recursionLimit
 un:X.A.in1.units<cLine
 hb:∀u,bindArgs (D7 X params body scope c ctv) ⟨[u],[]⟩=pure [(x,u)]
 co:scope.isCoroutine=false
 gen:scope.isGenerator=false
 he:∀s H,PE (yr X ([x]++fq) scope f c X.A.in1 s H) body te
 code:CodeObj oc (X.env.qual ++ "<lambda>")
 hc:H2 c=some (.n5 oc (.own PZ))
 ha:H2 a=some (.n5 ob (.dT kvs))
 hob:ob.ExactDict/\ob.data = .dict es ep
 key:∀(i:Nat) (e:DictEntry),(es[i]?:Option DictEntry)=some e->e.key = .ref (ka i)
 turn:∀i H3,i<es.size->aq H2 H3->te (some (.ref (ka i))::gm σ js) H3 λv H4=>aq H3 H4/\∃d,v = .ref d/\aU X.K H4 d ((ks i).map V.int)
 oS:GA X S
 oI:GA X It
 SI:S≠It
 fS:f≠S
 fI:f≠It
def Ef{pa:aX}{s:Shared}{H3:Hp}{i:Nat}{E:dR}(F:GB X σ H2 params body scope fq js x te f c a It S oc ob ctv kvs es ep ka ks PZ)(hi:i<es.size)(hs:aq H2 H3)(I:Inv X pa σ H3 s)
 (hf:(f,fD X params body scope c ctv)∈pa) :
 wpAny (model X.prog X.w) X.A.in1 (call (.ref f) [.ref (ka i)]) (λu s'=>∃d H4,u = .ref d/\Inv X pa σ H4 s'/\aq H2 H4/\aq H3 H4/\aU X.K H4 d ((ks i).map V.int)) E s:=by
 obtain⟨O,_⟩:=(show bK X.prog X.w H3 s.heap c (.n5 oc (.own PZ)) from I.hok c _ (hs _ _ F.hc))
 refine aa8 (Ed (v:=.ref (ka i)) I F.T F.hx I.ok.frames rfl F.dp hf (F.code.rec O) (F.hb _) F.co F.gen (F.he s H3) rfl (F.turn i H3 hi hs)) (λu s' ⟨v,H4,J,r,U,d,e,Y⟩=>?_) λ_ _ z=>z
 subst e;cases r;exact⟨d,H4,rfl,J,λb o z=>U _ _ (hs _ _ z),U,Y⟩
def NR{pa:aX}{s:Shared}{H3:Hp}{d d' : Addr}{ns ms:List Int}{A:Around}{E:dR}{Q:dR}(I:Inv X pa σ H3 s)(h1:aU X.K H3 d (ns.map V.int))(h2:aU X.K H3 d' (ms.map V.int))(hu:A.units<cLine)
 (q:Q (.bool (HT.lexLt ns ms)) s):wpAny (model X.prog X.w) A (richCompare .Lt (.ref d) (.ref d')) Q E s:=by
 obtain⟨O,U,p1,_⟩:=I.tuple h1;obtain⟨its2,r2,p2,_⟩:=I.tuple h2;exact(HT.F3 p1 p2 (intsAre_of U) (intsAre_of r2) hu q:wpAny (model X.prog X.w) A (compareOp .Lt (.ref d) (.ref d')) Q E s)
abbrev pY(pq:aX)(S It f:Addr)(oS oI lo:Obj):aX:=(S,oS)::(It,oI)::(f,lo)::pq
def NS(F:GB X σ H2 params body scope fq js x te f c a It S oc ob ctv kvs es ep ka ks PZ)(pI:∀p∈pq,p.1≠It)(pS:∀p∈pq,p.1≠S)
 (hR:∀i s' H3,i<es.size->(∀j,j<es.size->HT.lexLt (ks j) (ks i)=false)->aq H2 H3->Inv X pq σ H3 s'->R (.ok (.ret (.ref (ka i)))) s') :
 ∀(r j i:Nat) (s:Shared) (H3:Hp) (d:Addr) (n:Nat) (oI:Obj),es.size-j=r->j<=es.size->i<j->aq H2 H3->Inv X (pY pq S It f (seqObj "list" #[.ref (ka i),.ref d] n) oI (fD X params body scope c ctv)) σ H3 s->YT oI a j es.size ep->
  aU X.K H3 d ((ks i).map V.int)->(∀Y,Y<j->HT.lexLt (ks Y) (ks i)=false)->codeAny (model X.prog X.w) X.A (.builtin "min.loop" ⟨[.ref It,.ref f,.ref S],[]⟩) R s:=by
 have U:(toString "min" ++ toString ".loop":String)="min.loop":=by decide
 intro r
 induction r with
 | zero =>
   intro j i s H3 d n oI hr hj aw hs I hk hd tw;have Fj:j=es.size:=by lia
   have yv:=I.pin (S,_) (jY _ (.head _));have NT:=I.pin (It,oI) (jY _ (.tail _ (.head _)));obtain⟨hob,_⟩:=(show bK X.prog X.w H3 s.heap a (.n5 ob (.dT kvs)) from I.hok a _ (hs _ _ F.ha))
   refine codeAny_builtin ab8 ?_;rw[Around.under_plainId abi _];show wpAny _ X.A.in1 (seqItems? (.ref S) >>= _) _ _ _;refine aV (wpAny_seqItems yv.1 rfl ?_);show wpAny _ X.A.in1 (tryCatch (pyNext (.ref It)) _ >>= _) _ _ _;refine aV (ab2 (yu NT.1 hk ⟨ob,hob,F.hob⟩ ?_));rw[Fj,Array.getElem?_eq_none (aam _)];refine⟨F.hh,λh' eb=>?_⟩
   have I1:=I.lF (t':=s.toks) (h':=h') (pb:=(S,seqObj "list" #[.ref (ka i),.ref d] n)::pq) F.oI (List.Mem.tail _ (.head _)) (λb u hb e=>eb b u hb e) (λp O=>by
    rcases aaC.mp O with rfl|O
    ·exact .inr ⟨.head _,F.SI⟩
    ·exact .inr ⟨.tail _ (.tail _ (.tail _ O)),pI p O⟩)
   have NU:=I1.pin (S,_) (jY _ (.head _));show wpAny _ X.A.in1 (updateSeq S (λ_=>#[]) >>= _) _ _ _
   refine aV (wpAny_updateSeq NU.1 rfl (aV (wpAny_letGo (aaq ?_))));have s1:=abp h' S (Obj.mapSeq λ_=>(#[]:Array Value))
   exact hR i _ H3 (by lia) (λY ag=>tw Y (by lia)) hs (I1.lF (t':=s.toks) (pb:=pq) F.oS (.head _) (λb u hb e=>(s1.2 b hb).trans e) λp O=>.inr ⟨.tail _ O,pS p O⟩)
 | succ r ih =>
   intro j i s H3 d n oI hr hj aw hs I hk hd tw;have Fj:j<es.size:=by lia
   have yv:=I.pin (S,_) (jY _ (.head _));have NT:=I.pin (It,oI) (jY _ (.tail _ (.head _)));obtain⟨hob,_⟩:=(show bK X.prog X.w H3 s.heap a (.n5 ob (.dT kvs)) from I.hok a _ (hs _ _ F.ha))
   refine codeAny_builtin ab8 ?_;rw[Around.under_plainId abi _];show wpAny _ X.A.in1 (seqItems? (.ref S) >>= _) _ _ _;refine aV (wpAny_seqItems yv.1 rfl ?_);show wpAny _ X.A.in1 (tryCatch (pyNext (.ref It)) _ >>= _) _ _ _;refine aV (ab2 (yu NT.1 hk ⟨ob,hob,F.hob⟩ ?_));have Z:(es[j]?:Option DictEntry)=some es[j]:=Array.getElem?_eq_getElem Fj;rw[Z];intro h' LS ax ab sb;have I1:=I.lF (t':=s.toks) (h':=h') (pb:=pY pq S It f (seqObj "list" #[.ref (ka i),.ref d] n) LS (fD X params body scope c ctv)) F.oI (List.Mem.tail _ (.head _)) (λb u hb e=>(sb.2 b hb).trans e) (λp O=>by
    rcases aaC.mp O with rfl|O
    ·exact .inr ⟨.head _,F.SI⟩
    ·rcases aaC.mp O with rfl|O
     ·exact .inl ⟨rfl,ax,λv z=>by rw[ab.2]at z;cases z⟩
     ·rcases aaC.mp O with rfl|O
      ·exact .inr ⟨.tail _ (.tail _ (.head _)),F.fI⟩
      ·exact .inr ⟨.tail _ (.tail _ (.tail _ O)),pI p O⟩)
   rw[F.key j _ Z];show wpAny _ X.A.in1 (tryCatch (holding [.ref (ka j)] (call (.ref f) [.ref (ka j)])) _ >>= _) _ _ _;refine aV (ab2 (abg (aa8 (Ef F Fj hs I1 (List.Mem.tail _ (.tail _ (.head _)))) (λu s2 hu=>?_) λ_ _ z=>z)))
   obtain⟨d2,H4,rfl,I2,MM,aT,hd2⟩:=hu;have ar:aU X.K H4 d ((ks i).map V.int):=aT.sqT hd;show wpAny _ X.A.in1 (tryCatch (holding [.ref (ka j),.ref d2] (richCompare .Lt (.ref d2) (.ref d) >>= _)) _ >>= _) _ _ _;refine aV (ab2 (abg (aV (NR I2 hd2 ar F.un ?_))));refine aV (abg (wpAny_truthy_bool (aV (wpAny_letGo (aaq ?_)))));have oR:=I2.pin (S,_) (jY _ (.head _));cases hl:HT.lexLt (ks j) (ks i) with
   | true =>
     have s1:=abp s2.heap S (Obj.mapSeq λ_=>(#[.ref (ka j),.ref d2]:Array Value))
     obtain⟨n2,a3⟩:∃n2,(s2.heap.update S (Obj.mapSeq λ_=>(#[.ref (ka j),.ref d2]:Array Value))).get? S=some (seqObj "list" #[.ref (ka j),.ref d2] n2):=⟨_,get?_update_seq oR.1 λ_=>#[.ref (ka j),.ref d2]⟩
     simp only[if_true];refine aV (wpAny_updateSeq oR.1 rfl (aV (wpAny_letGo ?_)));rw[U];have I3:=I2.lF (t':=s2.toks) (pb:=pY pq S It f (seqObj "list" #[.ref (ka j),.ref d2] n2) LS (fD X params body scope c ctv)) F.oS (.head _) (λb u hb e=>(s1.2 b hb).trans e) (λp O=>by
      rcases aaC.mp O with rfl|O
      ·exact .inl ⟨rfl,a3,λv z=>by cases z⟩
      ·rcases aaC.mp O with rfl|O
       ·exact .inr ⟨.tail _ (.head _),F.SI.symm⟩
       ·rcases aaC.mp O with rfl|O
        ·exact .inr ⟨.tail _ (.tail _ (.head _)),F.fS⟩
        ·exact .inr ⟨.tail _ (.tail _ (.tail _ O)),pS p O⟩)
     refine aaq ⟨plainId_quiet abi _,ih (j+1) j _ H4 d2 n2 LS (by lia) (by lia) (by lia) MM I3 ab hd2 λY ag=>?_⟩
     by_cases e:Y = j
     ·rw[e];exact HT.iu _
     ·exact HT.yt (tw Y (by lia)) hl
   | false =>
     simp only[abK,if_false];refine aV (wpAny_letGo ?_);rw[U];refine aaq ⟨plainId_quiet abi _,ih (j+1) i _ H4 d n LS (by lia) (by lia) (by lia) MM I2 ab ar λY ag=>?_⟩
     by_cases e:Y = j
     ·rw[e];exact hl
     ·exact tw Y (by lia)
end
def boot_min:bootBuiltins "min"=some (.builtin "min"):=by kernel_rfl
def WX(K:bJ)(P:Addr)(q:Str)(lp:Pos)(ta:TA)(te:TE)(js:List Nat):TE:=λσ H Q=>ta σ H λvs H1=>∃a kvs,∃ks:Nat->List Int,vs=[.ref a]/\H1 a=some (.dT kvs)/\0<kvs.length/\H1 P=some (.jF (dU q lp))/\
 (∀ob H3,(∀b u,H1 b=some u->b≠a->(∀y,u≠.own y)->(∀I,u≠.jF I)->H3 b=some u)->H3 a=some (.n5 ob (.dT kvs))->
  ∀(i:Nat) kv b,kvs[i]?=some kv->H3 b=some (.tup (kv.1.map kV))->te (some (.ref b)::gm σ js) H3 λv H4=>aq H3 H4/\∃d,v = .ref d/\aU K H4 d ((ks i).map V.int))/\
 ∀(i:Nat) kv b H4,kvs[i]?=some kv->(∀j,j<kvs.length->HT.lexLt (ks j) (ks i)=false)->aq H1 H4->H4 b=some (.tup (kv.1.map kV))->Q (.ref b) H4
def iO{α β:Type}{R:α->β->Prop}:∀{l₁:List α} {l₂:List β},Paired R l₁ l₂->∀{i:Nat} {a:α} {b:β},l₁[i]?=some a->l₂[i]?=some b->R a b
 | _,_,.nil,i,_,_,h,_=>by simp at h
 | _,_,.cons r t,0,_,_,h1,h2=>by
   simp at h1 h2;subst h1 h2;exact r
 | _,_,.cons r t,i+1,_,_,h1,h2=>iO t (by simpa using h1) (by simpa using h2)
section
variable {X:Cx}{params:Arguments}{body e:Expr}{scope:Scope}{lp p pos kp:Pos}{fq:List Str}{js:List Nat}{x:Str}{ta:TA}{te:TE}{c0 P:Addr}{k:Nat}
def QY(hr:eJ (k+2) X.A)(T:eY X scope [x] fq js)(hx:scope.names.lookup x=some .local)(hg:Gl X "min")(hm:X.mg "min"=none)(hcode:X.env.code = .ref c0)(hK:PySem.W.codeHdIn X.K c0 P=true)(ha:PA X [e] ta)
 (he:∀f c s H,eJ k (yr X ([x]++fq) scope f c X.A.in1 s H).A->PE (yr X ([x]++fq) scope f c X.A.in1 s H) body te)
 (hb:∀c ctv u,bindArgs (D7 X params body scope c ctv) ⟨[u],[]⟩=pure [(x,u)]:=by intro _ _ _;rfl) (hco:scope.isCoroutine=false:=by rfl) (hgen:scope.isGenerator=false:=by rfl)
 (hdef:defaultsOf params X.env=([],[]):=by rfl)
 (hs:backTo pos (starEach [e] X.env)=(false,eval e X.env)::backTo pos (starEach [] X.env):=by rfl) (hs2:(backTo pos (starEach [e] X.env)).any (·.1)=false:=by rfl) :
 PE X (.Call (.Name "min" p) [e] [⟨some (Str.ofString "key"),.Lambda params body scope lp,kp⟩] pos) (WX X.K P (X.env.qual ++ "<lambda>") lp ta te js):=by
 intro pq s σ H Q I h;refine wpAny_Call_Name_kw (om I hg hm boot_min (callWith_kw (dh (ha pos pq s σ H _ I h) λus s1 hq=>?_) hs hs2 rfl rfl))
 obtain⟨vs,H1,I1,r1,a,kvs,ks,rfl,a7,bo,hP,ag,Ui⟩:=hq;obtain⟨u,rfl,rx⟩:=vals1 r1;cases rx;refine kws_cons (D8 I1 T hcode hK hP hdef λf c oc ctv s2 hc D9 ax J=>kws_nil ?_)
 show wpAny _ X.A (call (.builtin "min") [.ref a] [(Str.ofString "key",.ref f)]) _ _ s2;have Y:(toString "min" ++ toString ".loop":String)="min.loop":=by decide
 have U:=xn (oc:=oc) hP hc a7 (by intro y z;cases z) (by intro y z;cases z)
 obtain⟨hz,aT,xs,pr,ob,es,ep,ar,hex,Z,a3,bp⟩:=(show bK X.prog X.w (gP H1 P c oc (X.env.qual ++ "<lambda>") lp) s2.heap a (.dT kvs) from J.hok a _ U)
 have J2:=J.QX U ar;have a8:es.size=kvs.length:=by
  have:=aa4 List.length a3;rw[aac,<-pr.length]at this
  simpa using this
 have bt:xs.length=kvs.length:=pr.length.symm;have aw:∀i,i<kvs.length->∃kv y,kvs[i]?=some kv/\xs[i]?=some y/\gP H1 P c oc (X.env.qual ++ "<lambda>") lp y.2.1=some (.tup (kv.1.map kV)):=λi hi=>by
  have e1:kvs[i]?=some kvs[i]:=aag hi;have e2:xs[i]?=some (xs[i]'(by lia)):=aag _
  exact⟨_,_,e1,e2,(iO pr e1 e2).2.1⟩
 have Uj:gP H1 P c oc (X.env.qual ++ "<lambda>") lp P=some (.jF (dU (X.env.qual ++ "<lambda>") lp++qv lp c)):=ae;have QZ:gP H1 P c oc (X.env.qual ++ "<lambda>") lp c=some (.n5 oc (.own P)):=by unfold gP;rw[ah D9,ae]
 have ca:c≠a:=aQ QZ U (by intro z;cases z)
 have pa:P≠a:=aQ Uj U (by intro z;cases z)
 generalize Qh:upd (gP H1 P c oc (X.env.qual ++ "<lambda>") lp) a (.n5 ob (.dT kvs))=H2 at J2;have at2:∀b u,b≠a->gP H1 P c oc (X.env.qual ++ "<lambda>") lp b=some u->H2 b=some u:=λb u n e=>by rw[<-Qh,ah n];exact e
 have a2:H2 a=some (.n5 ob (.dT kvs)):=by rw[<-Qh,ae]
 let ka:Nat->Addr:=λi=>((xs[i]?).map (·.2.1)).getD 0
 have Uk:∀{i:Nat} {y:List Key×Addr×Value},xs[i]?=some y->ka i=y.2.1:=λ{i y} e=>by show((xs[i]?).map (·.2.1)).getD 0=_;rw[e];rfl
 refine kmk_tree PySem.F.kind_min PySem.F.plain_min PySem.F.entry_min (kmk_min_key _ _) ?_;show wpAny _ X.A.in1 (Builtin.Builtins.bindParams "min" ["key","default"] 0 ⟨[],[(Str.ofString "key",.ref f)]⟩ >>= _) _ _ s2;refine aV (wpAny_of_eq (show Builtin.Builtins.bindParams "min" ["key","default"] 0 ⟨[],[(Str.ofString "key",.ref f)]⟩=pure [some (.ref f),none] from rfl) ?_)
 refine aV (aaq (aV (NP aT ⟨ob,ar,hex,Z⟩ (aV (wpAny_newList ?_ (aa3 _))))));rw[Y];refine aaq ⟨plainId_quiet abi _,?_⟩;generalize Ul:({ cls:=.type "dict_keyiterator",data:=.fields #[.ref a,.int 0 0,.int es.size 0,.int ep 0]}:Obj)=oI;have a4:YT oI a 0 es.size ep:=by rw[<-Ul];exact⟨rfl,rfl⟩
 have hS:(s2.heap.push oI).objs.size=s2.heap.objs.size+1:=size_push' ..;have a5:∀b o,s2.heap.get? b=some o->((s2.heap.push oI).push (seqObj "list" #[] 0)).get? b=some o:=λb o e=>aao _ (aao _ e)
 have gI:((s2.heap.push oI).push (seqObj "list" #[] 0)).get? s2.heap.objs.size=some oI:=aao _ (aaN _ (by rw[<-Ul];rfl))
 have gS:((s2.heap.push oI).push (seqObj "list" #[] 0)).get? (s2.heap.push oI).objs.size=some (seqObj "list" #[] 0):=aaN _ rfl;have Q0:∀p∈(f,fD X params body scope c ctv)::pq,p.1<s2.heap.objs.size:=λp O=>aax (J2.pin p (jY _ O)).1
 have R5:=J2.NQ (aam s2.heap.objs.size);have oS:=J2.NQ (b:=(s2.heap.push oI).objs.size) (by rw[hS];exact abO _)
 have F:GB X σ H2 params body scope fq js x te f c a s2.heap.objs.size (s2.heap.push oI).objs.size oc ob ctv kvs es ep ka ks P:=by
  refine⟨T,hx,hr.hd,(hr.in1).depth,(hr.in1).F0,λu=>hb c ctv u,hco,hgen,λs H=>he f c s H ((hr.in1).deeper _),ax,at2 c _ ca QZ,a2,⟨hex,Z⟩,λi e hi=>?_,λi H3 hi Fl=>?_,oS,R5,by rw[hS];exact adw _,?_,aaP (Q0 _ (.head _))⟩
  ·have a9 : i<kvs.length:=by rw[<-a8];exact(ab9.mp hi).1
   obtain⟨kv,y,e1,e2,_⟩:=aw i a9;have e3:=aa4 (λl=>l[i]?) a3
   simp only[aaw,e2,acj,ach]at e3;rw[hi]at e3;have e4:=Option.some.inj e3;rw[e4,Uk e2];rfl
  ·obtain⟨kv,y,e1,e2,e3⟩:=aw i (by lia)
   refine ag ob H3 (λb u eb nb n1 n2=>Fl _ _ (at2 b u nb (xn hP hc eb n1 n2))) (Fl _ _ a2) i kv (ka i) e1 ?_
   rw[Uk e2];exact Fl _ _ (at2 _ _ (aQ e3 U (by intro z;cases z)) e3)
  ·rw[hS];exact aaP (abG (Q0 _ (.head _)))
 have pI:∀p∈pq,p.1≠s2.heap.objs.size:=λp O=>aaP (Q0 p (.tail _ O))
 have pS:∀p∈pq,p.1≠(s2.heap.push oI).objs.size:=λp O=>by rw[hS];exact aaP (abG (Q0 p (.tail _ O)))
 have J3:Inv X (pY pq (s2.heap.push oI).objs.size s2.heap.objs.size f (seqObj "list" #[] 0) oI (fD X params body scope c ctv)) σ H2 { s2 with heap:=(s2.heap.push oI).push (seqObj "list" #[] 0)}:=by
  have K:=J2.kept (t':=s2.toks) a5;refine K.ia λp O=>?_
  rcases aaC.mp O with rfl|O
  ·exact⟨gS,J2.hok.fresh (by rw[hS];exact abO _),oS.2.1,oS.2.2.1,λv z=>by cases z⟩
  ·rcases aaC.mp O with rfl|O
   ·exact⟨gI,J2.hok.fresh (aam _),R5.2.1,R5.2.2.1,λv z=>by rw[a4.2]at z;cases z⟩
   ·exact K.pin p (jY _ O)
 have h0:0<es.size:=by lia
 have ab:(es[0]?:Option DictEntry)=some es[0]:=Array.getElem?_eq_getElem h0;have yv:=J3.pin ((s2.heap.push oI).objs.size,seqObj "list" #[] 0) (jY _ (.head _));have NT:=J3.pin (s2.heap.objs.size,oI) (jY _ (.tail _ (.head _)));refine codeAny_builtin ab8 ?_;rw[Around.under_plainId abi _];show wpAny _ X.A.in1 (seqItems? (.ref _) >>= _) _ _ _;refine aV (wpAny_seqItems yv.1 rfl ?_);show wpAny _ X.A.in1 (tryCatch (pyNext (.ref s2.heap.objs.size)) _ >>= _) _ _ _;refine aV (ab2 (yu NT.1 a4 ⟨ob,a5 _ _ ar,hex,Z⟩ ?_));rw[ab];intro h' LS ba a6 sb;have I4:=J3.lF (t':=s2.toks) (h':=h') (pb:=pY pq (s2.heap.push oI).objs.size s2.heap.objs.size f (seqObj "list" #[] 0) LS (fD X params body scope c ctv)) F.oI (List.Mem.tail _ (.head _)) (λb u hb e=>(sb.2 b hb).trans e) (λp O=>by
  rcases aaC.mp O with rfl|O
  ·exact .inr ⟨.head _,F.SI⟩
  ·rcases aaC.mp O with rfl|O
   ·exact .inl ⟨rfl,ba,λv z=>by rw[a6.2]at z;cases z⟩
   ·rcases aaC.mp O with rfl|O
    ·exact .inr ⟨.tail _ (.tail _ (.head _)),F.fI⟩
    ·exact .inr ⟨.tail _ (.tail _ (.tail _ O)),pI p O⟩)
 rw[F.key 0 _ ab];show wpAny _ X.A.in1 (tryCatch (holding [.ref (ka 0)] (call (.ref f) [.ref (ka 0)])) _ >>= _) _ _ _;refine aV (ab2 (abg (aa8 (Ef F h0 (aq.refl _) I4 (List.Mem.tail _ (.tail _ (.head _)))) (λu s3 hu=>?_) λ_ _ z=>z)))
 obtain⟨d2,H4,rfl,I5,MM,_,hd2⟩:=hu;have oR:=I5.pin ((s2.heap.push oI).objs.size,_) (jY _ (.head _));have bb:=abp s3.heap (s2.heap.push oI).objs.size (Obj.mapSeq λ_=>(#[.ref (ka 0),.ref d2]:Array Value))
 obtain⟨n2,bc⟩:∃n2,(s3.heap.update (s2.heap.push oI).objs.size (Obj.mapSeq λ_=>(#[.ref (ka 0),.ref d2]:Array Value))).get? (s2.heap.push oI).objs.size=some (seqObj "list" #[.ref (ka 0),.ref d2] n2):=⟨_,get?_update_seq oR.1 λ_=>#[.ref (ka 0),.ref d2]⟩
 show wpAny _ X.A.in1 (updateSeq (s2.heap.push oI).objs.size (λ_=>#[.ref (ka 0),.ref d2]) >>= _) _ _ _
 refine aV (wpAny_updateSeq oR.1 rfl ?_);rw[Y];have I6:=I5.lF (t':=s3.toks) (pb:=pY pq (s2.heap.push oI).objs.size s2.heap.objs.size f (seqObj "list" #[.ref (ka 0),.ref d2] n2) LS (fD X params body scope c ctv)) F.oS (.head _) (λb u hb e=>(bb.2 b hb).trans e) (λp O=>by
  rcases aaC.mp O with rfl|O
  ·exact .inl ⟨rfl,bc,λv z=>by cases z⟩
  ·rcases aaC.mp O with rfl|O
   ·exact .inr ⟨.tail _ (.head _),F.SI.symm⟩
   ·rcases aaC.mp O with rfl|O
    ·exact .inr ⟨.tail _ (.tail _ (.head _)),F.fS⟩
    ·exact .inr ⟨.tail _ (.tail _ (.tail _ O)),pS p O⟩)
 refine aaq ⟨plainId_quiet abi _,NS F pI pS (λi s' H3 hi best Fl I7=>?_) _ 1 0 _ H4 d2 n2 LS rfl h0 (ace _) MM I6 a6 hd2 λj hj=>?_⟩
 ·obtain⟨kv,y,e1,e2,e3⟩:=aw i (by lia)
  have i3:=Fl _ _ a2;have I8:=Inv.WW J U I7 i3;have p3:upd H3 a (.dT kvs) P=some (.jF (dU (X.env.qual ++ "<lambda>") lp++qv lp c)):=by rw[ah pa];exact Fl _ _ (at2 _ _ pa Uj)
  have c3:upd H3 a (.dT kvs) c=some (.n5 oc (.own P)):=by rw[ah ca];exact Fl _ _ (at2 _ _ ca QZ)
  have I9:=Eb I1 hP hc D9 ax I8 p3 c3;have ya:y.2.1≠a:=aQ e3 U (by intro z;cases z)
  have y3:upd H3 a (.dT kvs) y.2.1=some (.tup (kv.1.map kV)):=by rw[ah ya];exact Fl _ _ (at2 _ _ ya e3)
  refine⟨.ref (ka i),_,I9,rfl,Ui i kv (ka i) _ e1 (λj hj=>best j (by lia)) (Ec hP hc D9 (oc:=oc) λb u eb=>?_) ?_⟩
  ·by_cases hb:b=a
   ·subst hb;rw[U]at eb;rw[ae];exact eb
   ·rw[ah hb];exact Fl _ _ (at2 _ _ hb eb)
  ·rw[Uk e2];unfold given;rw[ah (aQ y3 p3 (by intro z;cases z)),ah (aQ y3 c3 (by intro z;cases z))]
   exact y3
 ·have e:j=0:=by lia
  rw[e];exact HT.iu _
end
section
variable {P:Program}{w:World}{A:Around}{E:dR}{s:Shared}{a:Addr}{es:Array DictEntry}{ep:Nat}
def Um(hd:(a==sysModules)=false):MeetsIn P w (Builtin.«dict.__len__» ⟨[.ref a],[]⟩) (λ_ R s=>∃es ep,YS s.heap a es ep/\R (.ok (.ret (.int es.size s.toks))) { s with toks:=s.toks+1}) :=
 .of_wp λA R s ⟨es,ep,⟨o,O,_,I⟩,h⟩=>by
  show wpAny _ _ (dictSize a >>= _) _ _ s;unfold dictSize;refine aV (aV (wpAny_dictEntries O I (aaq ?_)));show wpAny _ _ (Builtin.Dict.pendingCount a >>= _) _ _ s;refine aV (wpAny_pendingCount_other hd (wpAny_ret_mkInt ?_));rw[Nat.add_zero];exact h
def Kx{Q:dR}(hd:(a==sysModules)=false)(g:YS s.heap a es ep)(hfit:(es.size:Int)<2^63)(h:Q (.int es.size (s.toks+1)) { s with toks:=s.toks+1+1}):
 wpAny (model P w) A (call (.builtin "len") [.ref a]) Q E s:=by
 have I:s.TypeIs (.ref a) "dict":=let⟨o,ho,hc,_⟩:=g;⟨o,ho,hc.1⟩;refine Calls.call_function_entry kind_len plain_len entry_len (args_len1 _) ?_;unfold Builtin.«len»;refine aV (m:=oneArg "len" _) (aaq ?_);refine aV (m:=callSpecial? (.ref a) (Str.ofString "__len__")) (wpAny_callSpecial?_slot (name:=Str.ofString "__len__") I PySem.F.slot_dict_len
  (call_meetsIn PySem.F.slot_dict_len I PySem.F.entry_dict_len (PySem.F.args_dict_len_1 _) (Um hd) ⟨es,ep,g,?_⟩))
 show wpAny _ _ _ _ _ { s with toks:=s.toks+1}
 refine aV (abg (aaq (aV (wpAny_letGo ?_))));show wpAny _ _ (if((es.size:Nat):Int)<0 then _ else _) _ _ _
 rw[aaf (by lia)]
 show wpAny _ _ (if((es.size:Nat):Int) ≥ 2^63 then _ else _) _ _ _
 rw[aaf (by lia)]
 exact aV (wpAny_mkInt (aaq ⟨_,rfl,h⟩))
end
def erase_filter{K α:Type}[DecidableEq K]{k:K}{p:α}:∀{xs:List (K×α)} {j:Nat},(xs.map (·.1)).Nodup->xs[j]?=some (k,p)->xs.eraseIdx j=xs.filter λx=>decide (x.1≠k)
 | [],j,_,h=>by simp at h
 | x::r,0,nd,h=>by
   simp at h;subst h;rw[aaR,abn]at nd;rw[List.eraseIdx_cons_zero,aa2,aaf (by simp)]
   refine(List.filter_eq_self.mpr λy I=>?_).symm
   have z:y.1≠k:=λz=>nd.1 (aaH.mpr ⟨y,I,z⟩)
   simp[z]
 | x::r,j+1,nd,h=>by
   rw[aaR,abn]at nd;have h:r[j]?=some (k,p):=by simpa using h
   have hx:x.1≠k:=λz=>nd.1 (by rw[z];exact abU (f:=(·.1)) (jV h))
   rw[acK,aa2,aai (dm hx),erase_filter nd.2 h]
def qD{α β:Type}(f:α->β):∀(l:List α) (i:Nat),(l.map f).eraseIdx i=(l.eraseIdx i).map f
 | [],_=>rfl
 | _::_,0=>rfl
 | x::r,i+1=>by rw[aaR,acK,acK,aaR,qD f r i]
def KT.drop{H:Hp}{kvs:List (List Key×V)}{xs:List (List Key×Addr×Value)}(r:KT H kvs xs)(k:List Key):KT H (bO kvs k) (xs.filter λx=>decide (x.1≠k)):=by
 unfold bO
 induction r with
 | nil=>exact .nil
 | @cons p q ps qs h t ih =>
   rw[aa2,aa2]
   by_cases e:p.1=k
   ·rw[aaf (by simp[e]),aaf (by simp[h.1.symm.trans e])];exact ih
   ·have e' : ¬ q.1=k:=λz=>e (h.1.trans z)
    rw[aai (by simp[e]),aai (by simp[e'])];exact .cons h ih
section
variable {P:Program}{w:World}{A:Around}{E:dR}{s:Shared}{K:Type}[DecidableEq K]{knd:HeapKind P w K}{d b:Addr}{xs:List (K×Addr×Value)}{k:K}{j:Nat}{p:Addr×Value}
def Uo{Q:Option DictEntry->Shared->Prop}(hu:knd.room A)(hkey:knd.is s.heap k b)(hm:s.heap.DictOfH knd d xs)(hj:xs[j]?=some (k,p))(hsz:xs.length<=sizeLine)
 (h:∀e h' o' I Ih,e.val=p.2->h'.get? d=some o'->o'.ExactDict->o'.data = .dict I Ih->I.toList=(xs.eraseIdx j).map (entryOfKey knd)->Heap.SameBut d s.heap h'->Q (some e) { s with heap:=h',toks:=s.toks+knd.draws k}) :
 wpAny (model P w) A (Builtin.Dict.takeOut d (.ref b)) Q E s:=by
 obtain⟨o,es,ep,O,hc,hd,he,U,hn⟩:=hm;unfold Builtin.Dict.takeOut
 try with_reducible refine abg ?_
 refine aV (knd.pyHash hu hkey (aV (wpAny_dictFind_heap (s:={ s with toks:=s.toks+knd.draws k}) hu hkey O hd he U hn (λY=>absurd hj (Y j p)) λj' p' Z=>?_)))
 have ab:j' = j:=idxH_unique hn Z hj;subst ab;refine aV (wpAny_dictEntries (s:={ s with toks:=s.toks+knd.draws k}) O hd ?_)
 rw[entry_at he j',hj];refine aV (wpAny_updateDictKeys (hz:=by have e:=size_of_entries he;lia) (s:={ s with toks:=s.toks+knd.draws k}) O hd (aaq (h _ _ _ _ (ep+1) rfl (acg _ O (Obj.isFreed_of_dict (Obj.data_mapDictKeys hd _))) (hc.mapDictKeys _) (Obj.data_mapDictKeys hd _) ?_ (abp ..))))
 rw[<-qD,<-he];obtain⟨l⟩:=es;simp
def WY{Q:dR}(hu:knd.room A.in1)(hkey:knd.is s.heap k b)(hm:s.heap.DictOfH knd d xs)(hj:xs[j]?=some (k,p))(hsz:xs.length<=sizeLine)
 (h:∀h' o' I O,h'.get? d=some o'->o'.ExactDict->o'.data = .dict I O->I.toList=(xs.eraseIdx j).map (entryOfKey knd)->Heap.SameBut d s.heap h'->Q p.2 { s with heap:=h',toks:=s.toks+knd.draws k}) :
 wpAny (model P w) A (call (.builtin "dict.pop") [.ref d,.ref b]) Q E s:=by
 have Z:=hm.typeIs;refine wpAny_call_entry acY Z PySem.F.entry_dict_pop ?_ (PySem.F.args_dict_pop_2 _ _);unfold Builtin.«dict.pop» Builtin.Dict.keyAndDefault;refine aV (aV (wpAny_notOrdered_dict Z ?_));show wpAny _ _ (pure (d,Value.ref b,(none:Option Value))) _ _ s;refine aaq ?_;obtain⟨o,es,ep,ho,hc,hd,he,ab,hn⟩:=id hm;have U:es.isEmpty=false:=by
  have e:=size_of_entries he;have hl:=(jo.mp hj).1;rw[Array.isEmpty_eq_false_iff_exists_mem];exact⟨es[j]'(by lia),Array.getElem_mem _⟩
 have Y:(keyPart (Value.ref b)).isSome=false:=rfl;simp only[Y,abK,if_false];refine aV (wpAny_dictEntries ho hd (aV (aaq ?_)));rw[U];simp only[abK,if_false];refine aV (Uo hu hkey hm hj hsz λe h' o' I O e1 e2 e3 e4 e5 e6=>?_)
 simp only[Option.isNone_some,abK,if_false];refine aV (wpAny_letGo (aaq ⟨e.val,rfl,?_⟩));rw[e1];exact h h' o' I O e2 e3 e4 e5 e6
end
section
variable {X:Cx}{pq:aX}{σ:St}{H:Hp}{s:Shared}
def aan:ic X (.builtin "len") (λxs H Q=>∃a kvs,xs=[.ref a]/\Rd H a (.dT kvs)/\Q (.int kvs.length) H):=by
 intro pq s σ H xs us Q I r h;obtain⟨a,kvs,rfl,e,q⟩:=h;obtain⟨u,rfl,rx⟩:=vals1 r;cases rx;obtain⟨z,hsys,ys,pr,ob,es,ep,hgo,hex,hdat,hes,hnd⟩:=(show bK X.prog X.w H s.heap a (.dT kvs) from e.ok I.hok)
 have O:es.size=kvs.length:=by
  have:=aa4 List.length hes;rw[aac,<-pr.length]at this
  simpa using this
 refine Kx hsys ⟨ob,hgo,hex,hdat⟩ (by rw[O];rw[sizeLine_eq]at z;lia) ?_
 rw[O];exact⟨.int kvs.length,H,I.tok _,⟨_,rfl⟩,q⟩
def Uq(td ty:TE):TE:=λσ H Q=>td σ H λx H1=>∃a,x = .ref a/\YN H1 a/\ty σ H1 λy H2=>∃kvs k b v,H2 a=some (.dT kvs)/\y = .ref b/\H2 b=some (.tup (k.map kV))/\dS kvs k=some v/\Q v (upd H2 a (.dT (bO kvs k)))
def Ur{A:Around}{E:dR}{a b:Addr}{kvs:List (List Key×V)}{k:List Key}{v:V}{Q:dR}(hu:A.units+1<cLine)(I:Inv X pq σ H s)(e:H a=some (.dT kvs))(eb:H b=some (.tup (k.map kV)))(l:dS kvs k=some v)
 (h:∀U s',Inv X pq σ (upd H a (.dT (bO kvs k))) s'->RelV v U->Q U s'):wpAny (model X.prog X.w) A (call (.builtin "dict.pop") [.ref a,.ref b]) Q E s:=by
 obtain⟨z,hd,xs,rel,dd⟩:=M8 I.hok e;have hv:=rel.val k;rw[l]at hv;obtain⟨U,hw,rw'⟩:=mq.some_of hv;obtain⟨p,Eg,LP⟩:=vY.mp hw;obtain⟨j,hj⟩:∃j,xs[j]?=some (k,p):=by
  unfold atKey at Eg;obtain⟨y,WZ,Y⟩:=vY.mp Eg;have hk:=List.find?_some WZ;have hm:=List.mem_of_find?_eq_some WZ;obtain⟨j,hj⟩:=aa5 hm;have Z : y.1=k:=ko hk;exact⟨j,by rw[hj,<-Z,<-Y]⟩
 have O:(xs.map (·.1)).Nodup:=let⟨_,_,_,_,_,_,_,_,hn⟩:=dd;hn;refine WY (tupleKind_room_in1 hu) (qU I.hok eb) dd hj (by rw[<-rel.length];exact z) λh' o' ab Ih g1 g2 g3 g4 sb=>?_
 rw[LP];refine h U _ ?_ rw';have ag:∀b ys,H b=some (.tup ys)->upd H a (.dT (bO kvs k)) b=some (.tup ys):=λb ys q=>by rw[ah (aQ q e (by intro z;cases z))];exact q
 rw[erase_filter O hj]at g4;refine sj I (by rw[e];exact True.intro) sb ⟨o',g1⟩ ⟨aa0 (DN kvs k) z,hd,_,(rel.drop k).keeps ag,o',ab,Ih,g1,g2,g3,g4,?_⟩
 exact O.sublist (List.filter_sublist.map _)
variable {o e:Expr}{apos cpos:Pos}{td ty:TE}
def NV(hu:X.A.units+1<cLine)(ho:PE X o td)(he:PE X e ty)(m:M1 X o "pop" apos e cpos):PE X (.Call (.Attribute o "pop" apos) [e] [] cpos) (Uq td ty):=by
 intro pq s σ H Q I h;refine wpAny_Call_method m.base m.few m.line adm acY PySem.F.type_dict_pop (dh (ho pq s σ H _ I h) λu s1 ⟨x,H1,U,rx,a,ex,d,Y⟩=>?_)
 subst ex;obtain rfl:u=Value.ref a:=rx;obtain⟨t1,t2,_⟩:=Gr U d;refine⟨t1,t2,?_⟩;rw[m.trees];refine Calls.callWith_builtin rfl (Calls.evalArgs_plain (Calls.spliced_cons (dh (he pq s1 σ H1 _ U Y) λZ s2 ⟨y,H2,I2,ry,kvs,k,b,v,ea,ey,eb,l,q2⟩=>Calls.spliced_nil ?_)))
 subst ey;obtain rfl:Z=Value.ref b:=ry;exact Ur hu I2 ea eb l λw' s3 I3 O=>⟨v,_,I3,O,q2⟩
def Us(tk tv:TE):TE:=λσ H Q=>∀p,H p=none->tk σ (upd H p (.dT [])) λy H1=>tv σ H1 λv H2=>∃b k,y = .ref b/\H2 b=some (.tup (k.map kV))/\H2 p=some (.dT [])/\Q (.ref p) (upd H2 p (.dT [(k,v)]))
end
section
variable {X:Cx}{k v:Expr}{pos:Pos}{tk tv:TE}
def NW(hu:X.A.units+1<cLine)(hk:PE X k tk)(hv:PE X v tv):PE X (.Dict [some k] [v] pos) (Us tk tv):=by
 intro pq s σ H Q I q;have hn:=I.hok.fresh (aam s.heap.objs.size);have I1:=I.laid (a:=s.heap.objs.size) (o:=.dT []) (h':=s.heap.push { cls:=.type "dict",data:=.dict #[]}) (t':=s.toks) (λ_ _ q=>aao _ q) (aam _) (Nc s.heap I.big)
 rw[arm_eval_Dict,zip_pairTrees [some k] [v] X.env pos rfl rfl,dictDisplay_pairs (pairTrees [some k] [v] X.env pos) (by intro z;cases z) (show 1<17 by decide)]
 refine aV (wpAny_standAt (aV ?_));unfold subDict;refine aV (wpAny_alloc (aV (abg ?_)));rw[aai (show(pairTrees [some k] [v] X.env pos).length<=15 from(show 1<=15 by decide))]
 refine aV (pairTrees_cons_walk (dh (hk pq _ σ _ _ I1 (q _ hn)) λu s1 ⟨y,H1,I2,ry,q1⟩=>dh (hv pq s1 σ H1 _ I2 q1) λu2 s2 ⟨O,H2,U,rv,b,ks,ey,Y,ep,q2⟩=>pairTrees_nil_walk ?_))
 subst ey;obtain rfl:u=Value.ref b:=ry;obtain⟨z,hd,xs,rel,dd⟩:=M8 U.hok ep;cases rel;refine abg (aV ?_);rw[List.forIn_cons];refine aV (aV (wpAny_dictSet_heap (hsz:=aa3 _) (show X.A.units<cLine from Nat.lt_of_succ_lt hu) (qU U.hok Y) dd λh' Na hs=>aaq ?_))
 show wpAny _ _ (forIn [] PUnit.unit _) _ _ _;rw[List.forIn_nil];refine aaq (aaq (aaq (aaq ?_)));obtain⟨o',Z,Ih,g1,g2,g3,g4,g5,g6⟩:=Na;have hb:upd H2 s.heap.objs.size (.dT [(ks,O)]) b=some (.tup (ks.map kV)):=by
  rw[ah (aQ Y ep (by intro z;cases z))]
  exact Y
 have new:bK X.prog X.w (upd H2 s.heap.objs.size (.dT [(ks,O)])) h' s.heap.objs.size (.dT [(ks,O)]):=⟨(show 1<=sizeLine by decide),hd,[(ks,b,u2)],.cons ⟨rfl,hb,rv⟩ .nil,o',Z,Ih,g1,g2,g3,g4,g6⟩
 exact⟨.ref s.heap.objs.size,_,sj U (by rw[ep];exact True.intro) hs ⟨o',g1⟩ new,rfl,q2⟩
end
end L2
namespace HT
open PySem PyProof.Rows
def Q2(a b c d:Int):Bool:=if a=c then(if b=d then true else decide (b<=d)) else decide (a<=c)
def Ca(a b c d:Int):Q2 a b c d=true↔a<c\/(a=c/\b<=d):=by
 unfold Q2
 by_cases h:a=c
 ·rw[aai h]
  by_cases h2:b=d
  ·rw[aai h2];simp[h,h2]
  ·rw[aaf h2];simp only[decide_eq_true_eq];lia
 ·rw[aaf h];simp only[decide_eq_true_eq];lia
def NX(A:Around)(s:Shared)(a:Int)(t:Tok)(c:Int)(u:Tok)(prog:Program)(w:World)(E:dR)(Q:dR)(h:Q (.bool (decide (a<=c))) s):
 wpAny (model prog w) A (richCompare .LtE (.int a t) (.int c u)) Q E s :=
 (PyProof.Rows.le_int h:wpAny (model prog w) A (compareOp .LtE (.int a t) (.int c u)) Q E s)
section
open PySem.SeqAt
open PySem.AutoSeq1 (wpAny_loadPart')
open PySem.MeetsSeq PySem.MeetsSeq2 PySem.MeetsSeq3
def Ky(l b:Addr)(items items2:Array Value)(n n2:Nat)(dd dd2:Option Addr)(sl sl2:Array (Option Value))(x1 y1 x2 y2:Int)(t1 u1 t2 u2:Tok)(hi:items.toList=[.int x1 t1,.int y1 u1])(hj:items2.toList=[.int x2 t2,.int y2 u2]):
 Meets (Builtin.«tuple.__le__» ⟨[.ref l,.ref b],[]⟩)
  (λ_ R s=>s.heap.get? l=some { cls:=.type "tuple",dict:=dd,data:=.seq items n,slots:=sl}/\s.heap.get? b=some { cls:=.type "tuple",dict:=dd2,data:=.seq items2 n2,slots:=sl2}/\
   R (.ok (.ret (.bool (Q2 x1 y1 x2 y2)))) s) :=
 .of_wp λprog w A R s h=>by
  obtain⟨I,g,d,tk,os⟩:=s;obtain⟨hl,hb,h⟩:=h;have f2:=AutoSeq1.sub_tuple_tuple;have z1:items.size=2:=by rw[<-acq,hi];rfl
  have z2:items2.size=2:=by rw[<-acq,hj];rfl
  wp_walk using wpAny_loadPart' hl,wpAny_loadPart' hb,wpAny_forIn_list _ (λrest b s'=>b.1=none/\s' = ⟨I,g,d,tk,os⟩/\
   ((rest=[((Value.int x1 t1:Value),(Value.int x2 t2:Value)),(.int y1 u1,.int y2 u2)]/\R (.ok (.ret (.bool (Q2 x1 y1 x2 y2)))) ⟨I,g,d,tk,os⟩)\/
    (rest=[((Value.int y1 u1:Value),(Value.int y2 u2:Value))]/\R (.ok (.ret (.bool (if y1=y2 then true else decide (y1<=y2))))) ⟨I,g,d,tk,os⟩)\/(rest=[]/\R (.ok (.ret (.bool true))) ⟨I,g,d,tk,os⟩))) _
  case turn =>
   rintro⟨y,x⟩ rest b s' ⟨U,rfl,hh⟩;obtain⟨a,c,t,u,vv,Z,hx,O,hN⟩:∃(a c:Int) (t u:Tok) (vv:Bool),y = .int a t/\x = .int c u/\R (.ok (.ret (.bool (if a=c then vv else decide (a<=c))))) ⟨I,g,d,tk,os⟩/\
    (R (.ok (.ret (.bool vv))) ⟨I,g,d,tk,os⟩->(rest=[((Value.int y1 u1:Value),(Value.int y2 u2:Value))]/\R (.ok (.ret (.bool (if y1=y2 then true else decide (y1<=y2))))) ⟨I,g,d,tk,os⟩)\/(rest=[]/\R (.ok (.ret (.bool true))) ⟨I,g,d,tk,os⟩)):=by
    rcases hh with⟨hz,O⟩|⟨hz,O⟩|⟨hz,_⟩
    ·injection hz with ha hr
     obtain⟨Z,hx⟩:=Prod.mk.inj ha;exact⟨x1,x2,t1,t2,_,Z,hx,O,λY=>.inl ⟨hr,Y⟩⟩
    ·injection hz with ha hr
     obtain⟨Z,hx⟩:=Prod.mk.inj ha;exact⟨y1,y2,u1,u2,true,Z,hx,O,λY=>.inr ⟨hr,Y⟩⟩
    ·cases hz
   subst Z hx;obtain⟨e,he,Mt⟩:=De A.in1 ⟨I,g,d,tk,os⟩ a t c u;refine wpAny_bind (he prog w _ _ ?_);cases e with
   | true =>
     rw[aai (Mt.mp rfl)]at O
     wp_walk
     exact⟨rfl,rfl,.inr (hN O)⟩
   | false =>
     rw[aaf (λq=>absurd (Mt.mpr q) aav)]at O
     have Df:=NX A.in1 ⟨I,g,d,tk,os⟩ a t c u prog w
     wp_walk using Df
     exact⟨_,rfl,by simpa using O⟩
  case fin =>
   rintro⟨b1,b2⟩ s' ⟨U,rfl,hh⟩;simp only at U;subst U;rcases hh with⟨hz,_⟩|⟨hz,_⟩|⟨_,O⟩
   ·cases hz
   ·cases hz
   ·wp_walk
    refine⟨_,rfl,?_⟩
    simpa[Builtin.Tuple.tupleCompareSizes,z1,z2]using O
  case h =>
   refine⟨rfl,rfl,.inl ⟨?_,h⟩⟩;rw[hi,hj];rfl
end
section
variable {prog:Program}{w:World}{A:Around}{E:dR}{s:Shared}
def NY{l b:Addr}{items items2:Array Value}{x1 y1 x2 y2:Int}{Q:dR}(hl:IsTup s.heap l items)(hb:IsTup s.heap b items2)(hi:IntsAre items.toList [x1,y1])(hj:IntsAre items2.toList [x2,y2])
 (hu:A.units<cLine) (h:Q (.bool (Q2 x1 y1 x2 y2)) s):wpAny (model prog w) A (compareOp .LtE (.ref l) (.ref b)) Q E s:=by
 obtain⟨⟨cls,O,data,sl⟩,I,hc,n,hd⟩:=id hl;obtain⟨⟨P4,dd2,data2,sl2⟩,ho2,hc2,n2,hd2⟩:=id hb;simp only at hc hd hc2 hd2;subst hc hd hc2 hd2;have two:∀{vs:List Value} {a c:Int},IntsAre vs [a,c]->∃t u,vs=[.int a t,.int c u]:=λ{vs a c} q=>by
  cases q with
  | cons n t r=>cases r with
    | cons n' U Y=>cases Y;exact⟨t,U,rfl⟩
 obtain⟨t1,Z,e1⟩:=two hi;obtain⟨t2,u2,e2⟩:=two hj;exact richCompare_meets_room (op:=.LtE) ⟨_,I,rfl⟩ ⟨_,ho2,rfl⟩ PySem.F.slot_tuple_le PySem.F.entry_tuple_le (PySem.F.args_tuple_le_2 _ _) (Ky l b items items2 n n2 O dd2 sl sl2 x1 y1 x2 y2 t1 Z t2 u2 e1 e2)
  ⟨I,ho2,show Value.bool (Q2 x1 y1 x2 y2)≠Value.notImplemented/\Q (.bool (Q2 x1 y1 x2 y2)) s from⟨(λx=>nomatch x),h⟩⟩ hu
end
end HT
namespace L2
open PySem PySem.Spec PyProof.Rows
section
variable {X:Cx}
def aap(K:bJ):R2:=λx y H Q=>∃a b I O U Y,x = .ref a/\y = .ref b/\aU K H a [.int I,.int O]/\aU K H b [.int U,.int Y]/\Q (.bl (HT.Q2 I O U Y)) H
def Ut(hu:X.A.units<cLine):my X (compareOp .LtE) (aap X.K):=by
 intro pq s σ H x y v u Q I rx ry h;obtain⟨a,b,O,U,Y,Z,rfl,rfl,ha,hb,q⟩:=h;cases rx;cases ry;obtain⟨its,r1,p1,_⟩:=I.tuple ha;obtain⟨its2,r2,p2,_⟩:=I.tuple hb;exact HT.NY p1 p2 (intsAre_of (ns:=[O,U]) r1) (intsAre_of (ns:=[Y,Z]) r2) hu ⟨.bl (HT.Q2 O U Y Z),H,I,rfl,q⟩
end
abbrev wg:=List (Addr×Str×Pos)
structure TabsOk(K:bJ)(h:Heap)(tb:wg):Prop where
 nd:(tb.map (·.1)).Nodup
 mt:∀p∈tb,h.get? p.1=some (PySem.W.tabObj #[])
 code:∀p∈tb,∃c,PySem.W.CodeHd h c p.1
 out:∀p∈tb,K.lookup p.1=none
def TabsAt(tb:wg)(H:Hp):Prop:=∀p∈tb,H p.1=some (.jF (dU p.2.1 p.2.2))
def Eh(tb:wg):Hp:=λb=>(tb.find? λp=>p.1==b).map λp=>.jF (dU p.2.1 p.2.2)
def pZ{tb:wg}{b:Addr}{u:HO}(e:Eh tb b=some u):∃p∈tb,p.1=b/\u = .jF (dU p.2.1 p.2.2):=by
 unfold Eh at e;obtain⟨p,h1,h2⟩:=vY.mp e;have I:(p.1==b)=true:=List.find?_some (p:=λp:Addr×Str×Pos=>p.1==b) h1
 exact⟨p,List.mem_of_find?_eq_some h1,eq_of_beq I,h2.symm⟩
def Cb:∀{tb:wg},(tb.map (·.1)).Nodup->TabsAt tb (Eh tb)
 | [],_=>λp I=>nomatch I
 | q::r,nd=>λp I=>by
   rw[aaR,abn]at nd;rcases aaC.mp I with rfl|I
   ·unfold Eh;rw[List.find?_cons_of_pos (by simp)];rfl
   ·have ne:(q.1==p.1)=false:=beq_eq_false_iff_ne.mpr λz=>nd.1 (by rw[z];exact abU I)
    unfold Eh;rw[List.find?_cons_of_neg (by rw[ne];exact aav)]
    exact Cb nd.2 p I
def Kz{P:Program}{w:World}{K:bJ}{mg mb:nY}{CX:LN}{k:Nat}{fa a:Addr}{fd:FuncData}{x:Str}{sp:Sp}{s₁:Shared}{vs:List Value}{ns:List Int}{tb:wg}
 (KX:K.In s₁.heap) (TB:TabsOk K s₁.heap tb) (hns:s₁.heap.Ns mainGlobals mg) (hb:s₁.heap.Ns builtinsNs mb) (hbb:∀x:Str,x≠"__name__"->mb x=bootBuiltins x) (hlim:s₁.heap.NoLimit)
 (hbm:∃bm ob,mg "__builtins__"=some (.ref bm)/\bm≠builtinsNs/\s₁.heap.get? bm=some ob/\ob.cls = .type "module"/\ob.dict=some builtinsNs/\ob.data = .plain) (hg:s₁.gens = #[])
 (ha:s₁.heap.get? a=some { cls:=.type "list",data:=.seq vs.toArray}) (hi:IntsAre vs ns) (hl:ns.length<=sizeLine) (hr:eJ k callerA)
 (F:∀base:Heap,K.In base->base.Ns mainGlobals mg->gH P w K mg base CX k fa fd [x] sp) (hbind:∀(s:Shared) (u:Value),BindsTo s fd ⟨[u],[]⟩ [(x,u)])
 (Av:∀H:Hp,TabsAt tb H->aR K H a (ns.map V.int)->sp [.ref a] H (λv _=>v = .bl true) λ_ _ _=>False)
 (hCX:∀H e s',CX [] H s₁ (λ_ _ _=>False) e s'->False) :
 codeAny (model P w) callerA (.call (.ref fa) ⟨[.ref a],[]⟩) (λr s'=>r = .ok (.ret (.bool true))/\OldK s₁.heap s'.heap/\s'.os=s₁.os/\AllBare s'.gens) s₁:=by
 have rv:=Ay hi;have ab:=hi.length;have aT:∀p∈tb,p.1≠a:=λp I z=>by
  have:=TB.mt p I;rw[z,ha]at this;cases this
 let fz:HO:=.n5 { cls:=.type "list",data:=.seq vs.toArray} (.lst (ns.map V.int))
 have core:∀H:Hp,aR K H a (ns.map V.int)->TabsAt tb H->n8 P w H s₁.heap->(∀b u,H b=some u->(b=a/\K.lookup a=none/\u=fz)\/∃p∈tb,p.1=b/\u = .jF (dU p.2.1 p.2.2))->
  codeAny (model P w) callerA (.call (.ref fa) ⟨[.ref a],[]⟩) (λr s'=>r = .ok (.ret (.bool true))/\OldK s₁.heap s'.heap/\s'.os=s₁.os/\AllBare s'.gens) s₁:=by
  intro H hS hT hok hA;have free:∀{b:Addr} {o:Obj},s₁.heap.get? b=some o->(∀xs n,o.data≠.seq xs n)->(∀xs,o.data≠.fields xs)->H b=none:=λ{b o} e n1 n2=>by
   cases q:H b with
   | none=>rfl
   | some u =>
     rcases hA b u q with⟨z,_⟩|⟨p,I,z,_⟩
     ·rw[z,ha]at e;cases e;exact absurd rfl (n1 _ _)
     ·rw[<-z,TB.mt p I]at e;cases e;exact absurd rfl (n2 _)
  have YU:∀{b:Addr} {m:nY},s₁.heap.Ns b m->(C3 s₁.heap H).Ns b m:=λ{b m} ⟨o,es,ep,e,d,r⟩=>⟨o,es,ep,xu e (free e (by intro _ _ z;rw[d]at z;cases z) (by intro _ z;rw[d]at z;cases z)),d,r⟩
  have U:K.In (C3 s₁.heap H):=λb o e=>xu (KX b o e) (by
   cases q:H b with
   | none=>rfl
   | some u =>
     rcases hA b u q with⟨z,n,_⟩|⟨p,I,z,_⟩
     ·rw[z,n]at e;cases e
     ·rw[<-z,TB.out p I]at e;cases e)
  have hM:Mod K mg (C3 s₁.heap H):=⟨U,YU hns,⟨mb,YU hb,hbb⟩,(let⟨mc,h1,h2⟩:=hlim;⟨mc,YU h1,h2⟩),
   let⟨bm,ob,b1,b2,b3,b4,b5,b6⟩:=hbm;⟨bm,ob,b1,b2,xu b3 (free b3 (by intro _ _ z;rw[b6]at z;cases z) (by intro _ z;rw[b6]at z;cases z)),b4,b5,b6⟩⟩
  have e0:F1 P w K mg (C3 s₁.heap H) callerA [] s₁ H:=⟨rfl,hM,λb o e=>PJ e,acV (Jx _ _),trivial,λb hb=>absurd (show b∈([]:List Addr) from hb) (by simp),hok,.of_eq hg⟩
  refine codeAny_mono ((F _ U (YU hns)).run callerA [] s₁ H ⟨[.ref a],[]⟩ [.ref a] [.ref a] _ _ hr e0 (hbind s₁ (.ref a)) (.cons rfl .nil) (Av H hT hS)) λr s' h=>?_
  cases r with
  | error e=>exact(hCX H e s' h).elim
  | ok fl =>
    cases fl with
    | next=>exact False.elim h
    | brk=>exact False.elim h
    | cont=>exact False.elim h
    | ret u =>
      obtain⟨v,H',os,bare,un,W0,r',q⟩:=h;have q' : v = .bl true:=q;subst q';obtain rfl:u=Value.bool true:=r';have all:∀b o,s₁.heap.get? b=some o->s'.heap.get? b=some o\/∃p∈tb,p.1=b/\∃ps,s'.heap.get? b=some (PySem.W.tabObj ps):=λb o e=>by
       cases q:H b with
       | none=>exact .inl (un.keep b o e q (by intro z;exact absurd (show b∈([]:List Addr) from z) (by simp)) (by simp))
       | some u =>
         rcases hA b u q with⟨z,_,Y⟩|⟨p,I,z,Y⟩
         ·rw[Y]at q;obtain⟨Z,_⟩:=hok b _ q;obtain⟨O,_⟩:=W0 b _ (un.m3 b _ _ q);rw[e]at Z;cases Z;exact .inl O
         ·rw[Y]at q;obtain⟨more,q2⟩:=un.oh b _ q;obtain⟨ps,O,_⟩:=W0 b _ q2;exact .inr ⟨p,I,z,ps,O⟩
      refine⟨rfl,⟨λb o e=>?_,λb o e=>?_⟩,os,bare⟩
      ·rcases all b o e with z|⟨p,I,z,ps,O⟩
       ·exact .inl z
       ·obtain⟨c,hc⟩:=TB.code p I;have Z:=TB.mt p I;subst z;rw[e]at Z;cases Z;exact .inr (.inl ⟨(hc.tab e).isCodeTable,rfl,#[],ps,rfl,by rw[O,Array.empty_append]⟩)
      ·rcases all b o e with z|⟨p,I,z,ps,O⟩
       ·exact⟨o,z⟩
       ·exact⟨_,O⟩
 have tok:∀{H:Hp} {b:Addr} {p},p∈tb->p.1=b->bK P w H s₁.heap b (.jF (dU p.2.1 p.2.2)):=λ{H b p} I z=>⟨#[],by rw[<-z];exact TB.mt p I,.inl ⟨rfl,.inl rfl⟩⟩
 cases hk:K.lookup a with
 | some o =>
   have e:=KX a o hk;rw[ha]at e;cases e;refine core (Eh tb) (.inr ⟨_,vs.toArray,_,hk,rfl,rfl,rfl,by rw[aaG,ab];exact hl,by simpa using rv⟩) (Cb TB.nd) (λb u e=>?_) λb u e=>.inr (pZ e)
   obtain⟨p,I,z,rfl⟩:=pZ e;exact tok I z
 | none =>
   refine core (λb=>if b=a then some fz else Eh tb b) (.inl (.inr ⟨{ cls:=.type "list",data:=.seq vs.toArray},aai rfl⟩)) (λp I=>?_) (λb u e=>?_) λb u e=>?_
   ·show(if p.1=a then some fz else Eh tb p.1)=_
    rw[aaf (aT p I)];exact Cb TB.nd p I
   ·by_cases hb:b=a
    ·have z:=(aai hb).symm.trans e;cases z;subst hb;exact⟨ha,by rw[aac];exact hl,vs,_,rv,ha⟩
    ·have z:=(aaf hb).symm.trans e;obtain⟨p,I,Y,rfl⟩:=pZ z;exact tok I Y
   ·by_cases hb:b=a
    ·have z:=(aai hb).symm.trans e;exact .inl ⟨hb,hk,(Option.some.inj z).symm⟩
    ·exact .inr (pZ ((aaf hb).symm.trans e))
def NZ{l:PySem.W.OpenLaw}{n k:Nat}{q:Program}{loose:List Str}{XP:(Str->Option Value)->Heap->Prop}{YP:World->Heap->Prop}{d:DefRec}{K:Params->bJ}{CX:World->LN}{sp:World->wg->Sp}{x:Str}{ts:List Addr}
 (hn:l.most=some n) (hn2:n<=sizeLine) (RH:d.params.defaults=[]) (hr:eJ k callerA)
 (hY:∀(w:World) (h:Heap),YP w h->(K w.params).In h/\∀P∈ts,h.get? P=some (PySem.W.tabObj #[]))
 (F:∀(w:World) (mg:nY) (fa:Addr) (h:Heap),(K w.params).In h->h.Ns mainGlobals mg->mg d.name=some (.ref fa)->
  ∃(fd:FuncData) (tb:wg),((tb.map (·.1)).Nodup/\PySem.W.noTabs (K w.params)=true/\∀p∈tb,p.1∈ts/\∃c,PySem.W.codeHdIn (K w.params) c p.1=true)/\(∀(s:Shared) (u:Value),BindsTo s fd ⟨[u],[]⟩ [(x,u)])/\
   ∀base:Heap,(K w.params).In base->base.Ns mainGlobals mg->gH l.prog w (K w.params) mg base (CX w) k fa fd [x] (sp w tb))
 (Av:∀(w:World) (H:Hp) (a:Addr) (ns:List Int) (tb:wg),ns.length<=n->TabsAt tb H->aR (K w.params) H a (ns.map V.int)->sp w tb [.ref a] H (λv _=>v = .bl true) λ_ _ _=>False)
 (hCX:∀(w:World) (H:Hp) (s:Shared) (e:Value) (s' : Shared),CX w [] H s (λ_ _ _=>False) e s'->False) :
 PySem.W.WalkO q loose XP YP l.row.toRowW d [] (λf vs=>PySem.call f vs):=by
 refine Att.Di hn RH λw s₀ s₁ mg mb fa o pm cd doc a vs ns G Y ho hd ag ab I hints hlen hg=>?_
 obtain⟨Z,O⟩:=hY w _ Y;obtain⟨fd,tb,⟨nd,nt,ht⟩,hb,hF⟩:=F w mg fa _ Z G.T.g ab;have TB:TabsOk (K w.params) s₁.heap tb:=⟨nd,λp U=>O _ (ht p U).1,λp U=>let⟨_,c,e⟩:=ht p U;⟨c,PySem.W.codeHd_of_K Z e⟩,λp U=>by
  cases e:(K w.params).lookup p.1 with
  | none=>rfl
  | some ob =>
    have e1:=Z _ _ e;rw[O _ (ht p U).1]at e1;cases e1;have z:=abQ.mp nt (p.1,PySem.W.tabObj #[]) (PySem.W.mem_of_lookupK e);exact absurd (show false=true from z) aav⟩
 exact Kz Z TB G.T.g G.T.b G.T.builtins G.T.nolimit G.T.bmain hg I hints (aa0 hlen hn2) hr hF hb (λH hT hS=>Av w H a ns tb hlen hT hS) λH e s'=>hCX w H s₁ e s'
def lA(f:Str):Str:=f ++ ".<locals>." ++ "<lambda>"
structure GC(K:bJ)(x qual:Str)(st:Stmt)(f:Addr)(fd:FuncData)(c0 P:Addr):Prop where
 ex:∃(oc:Value) (od:Option Addr) (kV doc pm:Value) (an:Option Addr) (ct:Value) (osl:Array (Option Value)),
  fd=PySem.W.fnOf x qual (fE st) (cI st) (aj st) .none kV doc pm an (.ref c0) ct/\K.lookup f=some ⟨oc,od,.func fd,osl⟩/\PySem.W.codeIn K (.ref c0) qual=true
 kp:PySem.W.keepIn K (.ref f)=true
 hd:PySem.W.codeHdIn K c0 P=true
section
variable {P:Program}{w:World}{K:bJ}{mg:nY}{base:Heap}{x qual:Str}{st:Stmt}{f c0 p0:Addr}{fd:FuncData}
def GC.ok{N ps:List Str}{k:Nat}{sp:Sp}(F:GC K x qual st f fd c0 p0)(S:aC N ps (aj st))(len:∀vs H Q E,sp vs H Q E->vs.length=ps.length)
 (hbody:∀(A:Around) (outer:List Env) (s:Shared) (H:Hp) (vs:List V) (Q:VK) (E:XK),eJ k (A.deeper (envOfC qual (aj st) s.heap.objs.size f (.ref c0)))->sp vs H Q E->
  ∃t,zA (vZ wW P w K mg base N qual (aj st) f (.ref c0) A outer s H E).Fg (cI st) t/\t { nx:=λ_ H'=>Q .eX H',rt:=Q} (start N vs) H):gH P w K mg base wW (k+1) f fd ps sp:=by
 obtain⟨oc,od,kV,doc,pm,an,ct,osl,rfl,O,I⟩:=F.ex;refine Mr O I S len λA outer s H vs Q E hr U=>?_
 obtain⟨t,h,q⟩:=hbody A outer s H vs Q E hr U;exact⟨t,h.Fg,q⟩
def GC.binds{ps:List Str}(F:GC K x qual st f fd c0 p0)
 (h:∀(kV doc pm:Value) (an:Option Addr) (cdv ct:Value) (us:List Value),us.length=ps.length->bindArgs (PySem.W.fnOf x qual (fE st) (cI st) (aj st) .none kV doc pm an cdv ct) ⟨us,[]⟩=pure (ps.zip us)):Binds K fd ps []:=by
 obtain⟨oc,od,kV,doc,pm,an,ct,osl,rfl,O,I⟩:=F.ex;exact .all (h kV doc pm an (.ref c0) ct)
def Q3{oc:Value}{od an:Option Addr}{osl:Array (Option Value)}{kV doc pm ct:Value}(l:K.lookup f=some ⟨oc,od,.func (PySem.W.fnOf x qual (fE st) (cI st) (aj st) .none kV doc pm an (.ref c0) ct),osl⟩)
 (c:PySem.W.codeIn K (.ref c0) qual=true) (k:PySem.W.keepIn K (.ref f)=true) (hd:PySem.W.codeHdIn K c0 p0=true):GC K x qual st f (PySem.W.fnOf x qual (fE st) (cI st) (aj st) .none kV doc pm an (.ref c0) ct) c0 p0 :=
 ⟨⟨oc,od,kV,doc,pm,an,ct,osl,rfl,l,c⟩,k,hd⟩
end
end L2
namespace RM
abbrev OW:=Nat->Bool->Option (Int×Nat)
def kR(F:OW)(x:Nat)(s:Bool)(d:Int×Nat):OW:=λy t=>if y=x/\t=s then some d else F y t
def Cc(F:OW)(x:Nat)(s:Bool):OW:=λy t=>if y=x/\t=s then none else F y t
def cj(F:OW)(x:Nat)(s:Bool)(d:Int×Nat):kR F x s d x s=some d:=aai ⟨rfl,rfl⟩
def bH{F:OW}{x y:Nat}{s t:Bool}{d:Int×Nat}(h : ¬(y=x/\t=s)):kR F x s d y t=F y t:=aaf h
def xo(F:OW)(x:Nat)(s:Bool):Cc F x s x s=none:=aai ⟨rfl,rfl⟩
def p5{F:OW}{x y:Nat}{s t:Bool}(h : ¬(y=x/\t=s)):Cc F x s y t=F y t:=aaf h
def Wz(N:Net)(L:Nat->Int)(m u v:Nat)(s:Bool)(z:Int)(e:Nat):Prop:=∃pre,Wl N L m u pre v s z e
structure Dj(N:Net)(L:Nat->Int)(m u:Nat)(F W:OW)(now:Option (Nat×Bool))(done:Nat->Nat->Prop):Prop where
 fw:∀x s d,F x s=some d->Wz N L m u x s d.1 d.2
 ww:∀x s d,W x s=some d->Wz N L m u x s d.1 d.2
 dj:∀x s d,W x s=some d->F x s=none
 le:∀x s d y t d',F x s=some d->W y t=some d'->d.1<=d'.1
 mx:∀x s d y t d',now=some (x,s)->F x s=some d->F y t=some d'->d'.1<=d.1
 cl:∀x s d k y,F x s=some d->k<N.n->Jn N k x y->(now=some (x,s)->done k y)->∃d',(F y (s^^m.testBit k)=some d'\/W y (s^^m.testBit k)=some d')/\d'.1<=d.1+L k
 st:∃d,(F u false=some d\/W u false=some d)/\d.1<=0
section
variable {N:Net}{L:Nat->Int}{m u:Nat}{F W:OW}
def Dj.start:Dj N L m u (λ_ _=>none) (kR (λ_ _=>none) u false (0,0)) none (λ_ _=>False):=by
 refine⟨λ_ _ _ h=>(nomatch h),λx s d h=>?_,λ_ _ _ _=>rfl,λ_ _ _ _ _ _ h=>(nomatch h),λ_ _ _ _ _ _ h=>(nomatch h),λ_ _ _ _ _ h=>(nomatch h),⟨(0,0),.inr (cj _ _ _ _),ab1 _⟩⟩
 by_cases e:x=u/\s=false
 ·obtain⟨rfl,rfl⟩:=e;rw[cj]at h;cases h;exact⟨[],.nil⟩
 ·rw[bH e]at h;cases h
def Dj.pop(h:Dj N L m u F W none (λ_ _=>False)){x:Nat}{s:Bool}{d:Int×Nat}(e:W x s=some d)(hmin:∀y t d',W y t=some d'->d.1<=d'.1):Dj N L m u (kR F x s d) (Cc W x s) (some (x,s)) (λ_ _=>False):=by
 have hF:=h.dj x s d e;have of:∀y t d',kR F x s d y t=some d'->(y=x/\t=s/\d' = d)\/F y t=some d':=λy t d' q=>by
  by_cases z:y=x/\t=s
  ·obtain⟨rfl,rfl⟩:=z;rw[cj]at q;exact .inl ⟨rfl,rfl,(Option.some.inj q).symm⟩
  ·rw[bH z]at q;exact .inr q
 have U:∀y t d',Cc W x s y t=some d'->¬(y=x/\t=s)/\W y t=some d':=λy t d' q=>by
  by_cases z:y=x/\t=s
  ·obtain⟨rfl,rfl⟩:=z;rw[xo]at q;cases q
  ·rw[p5 z]at q;exact⟨z,q⟩
 have moved:∀y t d',F y t=some d'\/W y t=some d'->kR F x s d y t=some d'\/Cc W x s y t=some d':=λy t d' q=>by
  by_cases z:y=x/\t=s
  ·obtain⟨rfl,rfl⟩:=z;rcases q with q|q
   ·rw[hF]at q;cases q
   ·rw[e]at q;cases q;exact .inl (cj _ _ _ _)
  ·rw[bH z,p5 z];exact q
 refine⟨λy t d' q=>?_,λy t d' q=>h.ww y t d' (U y t d' q).2,λy t d' q=>?_,λy t d' O Y d2 q I=>?_,λy t d' O Y d2 hn q I=>?_,λy t d' k O q hk hj hd=>?_,?_⟩
 ·rcases of y t d' q with⟨rfl,rfl,rfl⟩|q
  ·exact h.ww _ _ _ e
  ·exact h.fw y t d' q
 ·obtain⟨z,q⟩:=U y t d' q;rw[bH z];exact h.dj y t d' q
 ·obtain⟨_,I⟩:=U O Y d2 I;rcases of y t d' q with⟨_,_,rfl⟩|q
  ·exact hmin _ _ _ I
  ·exact h.le _ _ _ _ _ _ q I
 ·cases hn;rw[cj]at q;cases q;rcases of O Y d2 I with⟨_,_,rfl⟩|I
  ·exact ab1 _
  ·exact h.le _ _ _ _ _ _ I e
 ·rcases of y t d' q with⟨rfl,rfl,rfl⟩|q
  ·exact(hd rfl).elim
  ·obtain⟨d2,I,Z⟩:=h.cl y t d' k O q hk hj (λz=>nomatch z)
   exact⟨d2,moved _ _ _ I,Z⟩
 ·obtain⟨d2,I,Z⟩:=h.st;exact⟨d2,moved _ _ _ I,Z⟩
def Dj.put{done:Nat->Nat->Prop}{x:Nat}{s:Bool}(h:Dj N L m u F W (some (x,s)) done){d:Int×Nat}{k y:Nat}(e:F x s=some d)(hk:k<N.n)(hL:0<=L k)(hj:Jn N k x y)(hF:F y (s^^m.testBit k)=none)
 (hW:∀d',W y (s^^m.testBit k)=some d'->d.1+L k<=d'.1):Dj N L m u F (kR W y (s^^m.testBit k) (d.1+L k,d.2^^^2^k)) (some (x,s)) (λZ y'=>done Z y'\/(Z = k/\y' = y)):=by
 have O:∀v t d',kR W y (s^^m.testBit k) (d.1+L k,d.2^^^2^k) v t=some d'->(v=y/\t=(s^^m.testBit k)/\d' = (d.1+L k,d.2^^^2^k))\/W v t=some d':=λv t d' q=>by
  by_cases z:v=y/\t=(s^^m.testBit k)
  ·obtain⟨rfl,rfl⟩:=z;rw[cj]at q;exact .inl ⟨rfl,rfl,(Option.some.inj q).symm⟩
  ·rw[bH z]at q;exact .inr q
 have moved:∀v t d',F v t=some d'\/W v t=some d'->∃d2,(F v t=some d2\/kR W y (s^^m.testBit k) (d.1+L k,d.2^^^2^k) v t=some d2)/\d2.1<=d'.1:=λv t d' q=>by
  rcases q with q|q
  ·exact⟨d',.inl q,ab1 _⟩
  ·by_cases z:v=y/\t=(s^^m.testBit k)
   ·obtain⟨rfl,rfl⟩:=z;exact⟨_,.inr (cj _ _ _ _),hW d' q⟩
   ·exact⟨d',.inr (by rw[bH z];exact q),ab1 _⟩
 refine⟨h.fw,λv t d' q=>?_,λv t d' q=>?_,λv t d' v2 t2 d2 q I=>?_,h.mx,λv t d' k2 y2 q U N1 hd=>?_,?_⟩
 ·rcases O v t d' q with⟨rfl,rfl,rfl⟩|q
  ·obtain⟨pre,w⟩:=h.fw x s d e;exact⟨_,w.go hk hj⟩
  ·exact h.ww v t d' q
 ·rcases O v t d' q with⟨rfl,rfl,rfl⟩|q
  ·exact hF
  ·exact h.dj v t d' q
 ·rcases O v2 t2 d2 I with⟨rfl,rfl,rfl⟩|I
  ·have:=h.mx x s d v t d' rfl e q;show d'.1<=d.1+L k
   lia
  ·exact h.le _ _ _ _ _ _ q I
 ·by_cases hd2:some (x,s)=some (v,t)->done k2 y2
  ·obtain⟨d2,I,Y⟩:=h.cl v t d' k2 y2 q U N1 hd2;obtain⟨d3,q3,l3⟩:=moved _ _ _ I;exact⟨d3,q3,Int.le_trans l3 Y⟩
  ·have hn:some (x,s)=some (v,t):=abb λz=>hd2 λz2=>absurd z2 z
   rcases hd hn with z|⟨rfl,rfl⟩
   ·exact absurd (λ_=>z) hd2
   ·cases hn;rw[e]at q;cases q;exact⟨_,.inr (cj _ _ _ _),ab1 _⟩
 ·obtain⟨d2,I,Y⟩:=h.st;obtain⟨d3,q3,l3⟩:=moved _ _ _ I;exact⟨d3,q3,Int.le_trans l3 Y⟩
def Dj.skip{done:Nat->Nat->Prop}{x:Nat}{s:Bool}(h:Dj N L m u F W (some (x,s)) done){d d2:Int×Nat}{k y:Nat}(e:F x s=some d)(hL:0<=L k)(I:F y (s^^m.testBit k)=some d2\/(W y (s^^m.testBit k)=some d2/\d2.1<=d.1+L k)):
 Dj N L m u F W (some (x,s)) (λU Y=>done U Y\/(U = k/\Y = y)):=by
 refine⟨h.fw,h.ww,h.dj,h.le,h.mx,λv t d' Z y2 q O N1 hd=>?_,h.st⟩
 by_cases hd2:some (x,s)=some (v,t)->done Z y2
 ·exact h.cl v t d' Z y2 q O N1 hd2
 ·have hn:some (x,s)=some (v,t):=abb λz=>hd2 λz2=>absurd z2 z
  rcases hd hn with z|⟨rfl,rfl⟩
  ·exact absurd (λ_=>z) hd2
  ·cases hn;rw[e]at q;cases q;rcases I with I|⟨I,l2⟩
   ·have:=h.mx x s d _ _ d2 rfl e I;exact⟨d2,.inl I,by lia⟩
   ·exact⟨d2,.inr I,l2⟩
def Dj.all{done:Nat->Nat->Prop}{x:Nat}{s:Bool}(h:Dj N L m u F W (some (x,s)) done)(ha:∀k y,k<N.n->Jn N k x y->done k y):Dj N L m u F W none (λ_ _=>False) :=
 ⟨h.fw,h.ww,h.dj,h.le,λ_ _ _ _ _ _ z=>(nomatch z),λv t d k y q hk hj _=>h.cl v t d k y q hk hj λz=>by cases z;exact ha k y hk hj,h.st⟩
def Dj.best(h:Dj N L m u F W none (λ_ _=>False))(hW:∀x s,W x s=none)(x:Nat)(s:Bool):we N L m u x s ((F x s).map (·.1)):=by
 have low:∀{pre:List Nat} {v e:Nat} {t:Bool} {z:Int},Wl N L m u pre v t z e->∃d,F v t=some d/\d.1<=z:=λ{pre v e t z} w=>by
  induction w with
  | nil =>
    obtain⟨d,q,l⟩:=h.st;rcases q with q|q
    ·exact⟨d,q,l⟩
    ·rw[hW]at q;cases q
  | @go pre v w k e s z _ hk hj ih =>
    obtain⟨d,q,l⟩:=ih;obtain⟨d2,I,O⟩:=h.cl _ _ d k _ q hk hj (λz=>nomatch z)
    rcases I with I|I
    ·exact⟨d2,I,by lia⟩
    ·rw[hW]at I;cases I
 cases q:F x s with
 | none =>
   intro z ⟨_,_,w⟩;obtain⟨d,I,_⟩:=low w;rw[q]at I;cases I
 | some d =>
   obtain⟨pre,w⟩:=h.fw x s d q;refine⟨⟨_,_,w⟩,λz ⟨_,_,U⟩=>?_⟩
   obtain⟨d2,I,O⟩:=low U;rw[q]at I;cases I;exact O
end
end RM
namespace L2
open PySem Ring
abbrev ky(x:Nat)(s:Bool):List Key:=[.inl (x:Int),.inl (s.toNat:Int)]
def GD{x y:Nat}{s t:Bool}(h:ky x s=ky y t):x=y/\s=t:=by
 injection h with h1 h2
 injection h2 with h2 _
 injection h1 with h1
 injection h2 with h2
 refine⟨by lia,?_⟩
 cases s<;>cases t<;>first | rfl | (simp at h2)
def wV(H:Hp):Option (Int×Nat)->V->Prop
 | none,v=>v = .eX
 | some d,v=>∃c,v = .ref c/\H c=some (.tup [.int d.1,.int (d.2:Int)])
def wV.tups{H H' : Hp}{o:Option (Int×Nat)}{v:V}(h:wV H o v)(s:bG H H'):wV H' o v:=by
 cases o with
 | none=>exact h
 | some d=>obtain⟨c,e,q⟩:=h;exact⟨c,e,s _ _ q⟩
structure yw(p:Nat)(H0:Hp)(D wd:Addr)(es:List Addr)(kvs:List (List Key×V))(F W:RM.OW)(H:Hp):Prop where
 same:aq H0 H
 nd:es.Nodup
 ne:D∉es
 fr:∀b∈es,H0 b=none
 Dn:H0 D=none
 wn:H0 wd=none
 wD:wd≠D
 wE:wd∉es
 lst:H D=some (.lst (es.map V.ref))
 at_:∀i b,es[i]?=some b->∃v0 v1,H b=some (.lst [v0,v1])/\wV H (F i false) v0/\wV H (F i true) v1
 dt:H wd=some (.dT kvs)
 kn:(kvs.map (·.1)).Nodup
 keys:∀kv∈kvs,∃x s,x<p/\kv.1=ky x s
 out:∀x s d,W x s=some d->x<p
 val:∀x s,(W x s=none/\dS kvs (ky x s)=none)\/∃d c,W x s=some d/\dS kvs (ky x s)=some (.ref c)/\H c=some (.tup [.int d.1,.int (d.2:Int)])
section
variable {p:Nat}{H0 H H' : Hp}{D wd:Addr}{es:List Addr}{kvs:List (List Key×V)}{F W:RM.OW}
def yw.go(h:yw p H0 D wd es kvs F W H)(s:aq H H'):yw p H0 D wd es kvs F W H' :=
 ⟨h.same.trans s,h.nd,h.ne,h.fr,h.Dn,h.wn,h.wD,h.wE,s _ _ h.lst,λi b e=>let⟨v0,v1,a,b1,c⟩:=h.at_ i b e;⟨v0,v1,s _ _ a,b1.tups s.tups,c.tups s.tups⟩,s _ _ h.dt,h.kn,h.keys,h.out,
  λx t=>(h.val x t).imp (λz=>z) λ⟨d,c,a,b,e⟩=>⟨d,c,a,b,s _ _ e⟩⟩
def yw.len(h:yw p H0 D wd es kvs F W H):kvs.length<=2*p:=by
 have hn:=h.kn;have hk:=h.keys
 let code:List Key->Nat:=λk=>match k with | [.inl x,.inl s]=>2*x.toNat+s.toNat | _=>0
 have inj:∀a∈kvs.map (·.1),∀b∈kvs.map (·.1),code a=code b->a=b:=λa ha b hb e=>by
  obtain⟨u,I,rfl⟩:=aaH.mp ha;obtain⟨v,hv,rfl⟩:=aaH.mp hb;obtain⟨x,s,_,ex⟩:=hk u I;obtain⟨y,t,_,ey⟩:=hk v hv;rw[ex,ey]at e ⊢;have e:2*((x:Int)).toNat+((s.toNat:Int)).toNat=2*((y:Int)).toNat+((t.toNat:Int)).toNat:=e;rw[aaE,aaE,aaE,aaE]at e;have hs:s.toNat<2:=by cases s<;>decide
  have ht:t.toNat<2:=by cases t<;>decide
  have O:x=y:=by lia
  have U:s.toNat=t.toNat:=by lia
  have Y:s=t:=by cases s<;>cases t<;>first | rfl | (simp at U)
  rw[O,Y]
 have nd:((kvs.map (·.1)).map code).Nodup:=by
  revert inj
  generalize kvs.map (·.1)=l at hn;intro inj
  induction hn with
  | nil=>exact adi
  | @cons a l h1 h2 ih =>
    rw[aaR,abn];refine⟨λhm=>?_,ih λa ha b hb e=>inj a (nU _ ha) b (nU _ hb) e⟩
    obtain⟨b,hb,e⟩:=aaH.mp hm;exact h1 b hb (inj a aaF b (nU _ hb) e.symm)
 have sub:∀c∈(kvs.map (·.1)).map code,c∈List.range (2*p):=λc hc=>by
  obtain⟨a,ha,rfl⟩:=aaH.mp hc;obtain⟨u,I,rfl⟩:=aaH.mp ha;obtain⟨x,s,hx,ex⟩:=hk u I;rw[ex,aaI];show 2*((x:Int)).toNat+((s.toNat:Int)).toNat<2*p;rw[aaE,aaE];have hs:s.toNat<2:=by cases s<;>decide
  lia
 have:=nd.length_le_of_subset sub
 simpa using this
def yw.row(h:yw p H0 D wd es kvs F W H){i:Nat}(hi:i<es.length):∃b v0 v1,(es.map V.ref)[i]?=some (.ref b)/\es[i]?=some b/\H b=some (.lst [v0,v1])/\wV H (F i false) v0/\wV H (F i true) v1:=by
 have e:es[i]?=some es[i]:=aag hi;obtain⟨v0,v1,a,b,c⟩:=h.at_ i _ e;exact⟨es[i],v0,v1,by rw[aaw,e];rfl,e,a,b,c⟩
def uD{κ:Type}[DecidableEq κ](k j:κ):∀kvs:List (κ×V),dS (bO kvs k) j=if j=k then none else dS kvs j
 | []=>by rw[show bO ([]:List (κ×V)) k=[] from rfl,x9];split<;>rfl
 | q::r=>by
   by_cases e:q.1=k
   ·rw[AU e,uD k j r]
    by_cases I:j=k
    ·rw[aai I,aai I]
    ·rw[aaf I,aaf I,ck (λz=>I (z.symm.trans e))]
   ·rw[AV e]
    by_cases O:q.1=j
    ·rw[cN O,aaf (λz=>e (O.trans z)),cN O]
    ·rw[ck O,uD k j r,ck O]
def yw.take(h:yw p H0 D wd es kvs F W H){x:Nat}{s:Bool}{d:Int×Nat}{b c:Addr}{v0 v1:V}(e:W x s=some d)(hc:H c=some (.tup [.int d.1,.int (d.2:Int)]))(hb:es[x]?=some b)(hv:H b=some (.lst [v0,v1])):
 yw p H0 D wd es (bO kvs (ky x s)) (RM.kR F x s d) (RM.Cc W x s) (upd (upd H wd (.dT (bO kvs (ky x s)))) b (.lst (([v0,v1]:List V).set s.toNat (.ref c)))):=by
 have hm:=jV hb;have bw:b≠wd:=λz=>h.wE (z▸hm)
 have bD:D≠b:=λz=>h.ne (z▸hm)
 have tp:bG H (upd (upd H wd (.dT (bO kvs (ky x s)))) b (.lst (([v0,v1]:List V).set s.toNat (.ref c)))):=λa ys q=>by
  rw[ah (aQ q hv (by intro z;cases z)),ah (aQ q h.dt (by intro z;cases z))]
  exact q
 refine⟨(h.same.put h.wn).put (h.fr b hm),h.nd,h.ne,h.fr,h.Dn,h.wn,h.wD,h.wE,by rw[ah bD,ah (aa6 h.wD)];exact h.lst,λi b' I=>?_,by rw[ah (aa6 bw),ae],yd h.kn,λkv ab=>h.keys kv (AW ab),λy t d' q=>?_,λy t=>?_⟩
 ·by_cases Z:i=x
  ·subst Z;rw[hb]at I;cases I;obtain⟨w0,w1,O,U,Y⟩:=h.at_ _ _ hb;rw[hv]at O;cases O;cases s with
   | false=>exact⟨.ref c,v1,ae,by rw[RM.cj];exact⟨c,rfl,tp _ _ hc⟩,by rw[RM.bH (λz=>by cases z.2)];exact Y.tups tp⟩
   | true=>exact⟨v0,.ref c,ae,by rw[RM.bH (λz=>by cases z.2)];exact U.tups tp,by rw[RM.cj];exact⟨c,rfl,tp _ _ hc⟩⟩
  ·have bb:b'≠b:=λz=>by
    subst z;obtain⟨h1,h2⟩:=jo.mp I;obtain⟨h3,h4⟩:=jo.mp hb;exact Z ((adv h.nd).mp (h2.trans h4.symm))
   obtain⟨w0,w1,O,U,Y⟩:=h.at_ _ _ I;exact⟨w0,w1,by rw[ah bb,ah (show b'≠wd from λz=>h.wE (z▸jV I))];exact O,by rw[RM.bH (λz=>Z z.1)];exact U.tups tp,by rw[RM.bH (λz=>Z z.1)];exact Y.tups tp⟩
 ·by_cases z:y=x/\t=s
  ·obtain⟨rfl,rfl⟩:=z;rw[RM.xo]at q;cases q
  ·rw[RM.p5 z]at q;exact h.out y t d' q
 ·rw[uD]
  by_cases z:y=x/\t=s
  ·obtain⟨rfl,rfl⟩:=z;exact .inl ⟨RM.xo _ _ _,aai rfl⟩
  ·rw[RM.p5 z,aaf (λq=>z (GD q))]
   rcases h.val y t with q|⟨d',c',O,U,Y⟩
   ·exact .inl q
   ·exact .inr ⟨d',c',O,U,tp _ _ Y⟩
def yw.wait(h:yw p H0 D wd es kvs F W H){x:Nat}{s:Bool}{d:Int×Nat}{c:Addr}(hx:x<p)(hc:H c=some (.tup [.int d.1,.int (d.2:Int)])):
 yw p H0 D wd es (putK kvs (ky x s) (.ref c)) F (RM.kR W x s d) (upd H wd (.dT (putK kvs (ky x s) (.ref c)))):=by
 have tp:bG H (upd H wd (.dT (putK kvs (ky x s) (.ref c)))):=λa ys q=>by
  rw[ah (aQ q h.dt (by intro z;cases z))]
  exact q
 have R6:(∀kv∈putK kvs (ky x s) (.ref c),∃x s,x<p/\kv.1=ky x s)/\((putK kvs (ky x s) (.ref c)).map (·.1)).Nodup:=by
  cases q:dS kvs (ky x s) with
  | none =>
    refine⟨λkv I=>?_,QE _ h.kn q⟩
    rw[yb _ q]at I;rcases aa9.mp I with z|z
    ·exact h.keys kv z
    ·rw[aaW.mp z];exact⟨x,s,hx,rfl⟩
  | some v =>
    have O:(kvs.any λkv=>decide (kv.1=ky x s))=true:=by rw[jy,q];rfl
    have e:putK kvs (ky x s) (.ref c)=kvs.map λkv=>if kv.1=ky x s then(kv.1,.ref c) else kv:=by unfold putK;rw[aai O]
    have ek:(putK kvs (ky x s) (.ref c)).map (·.1)=kvs.map (·.1):=by
     rw[e,abz];refine adQ λkv _=>?_
     show(if kv.1=ky x s then(kv.1,V.ref c) else kv).1=kv.1
     split<;>rfl
    refine⟨λkv I=>?_,by rw[ek];exact h.kn⟩
    have hm:kv.1∈kvs.map (·.1):=by rw[<-ek];exact abU I
    obtain⟨U,h1,h2⟩:=aaH.mp hm;rw[<-h2];exact h.keys U h1
 refine⟨h.same.put h.wn,h.nd,h.ne,h.fr,h.Dn,h.wn,h.wD,h.wE,by rw[ah (aa6 h.wD)];exact h.lst,λi b hb=>?_,ae,R6.2,R6.1,λy t d' q=>?_,λy t=>?_⟩
 ·obtain⟨w0,w1,Y,Z,q3⟩:=h.at_ _ _ hb;exact⟨w0,w1,by rw[ah (show b≠wd from λz=>h.wE (z▸jV hb))];exact Y,Z.tups tp,q3.tups tp⟩
 ·by_cases z:y=x/\t=s
  ·rw[z.1];exact hx
  ·rw[RM.bH z]at q;exact h.out y t d' q
 ·rw[M6]
  by_cases z:y=x/\t=s
  ·obtain⟨rfl,rfl⟩:=z;exact .inr ⟨d,c,RM.cj _ _ _ _,aai rfl,tp _ _ hc⟩
  ·rw[RM.bH z,aaf (λq=>z (GD q))]
   rcases h.val y t with q|⟨d',c',Y,Z,q3⟩
   ·exact .inl q
   ·exact .inr ⟨d',c',Y,Z,tp _ _ q3⟩
end
abbrev kT(m:Nat)(H:Hp)(c:Addr)(kw:Nat×Nat):Prop:=H c=some (.tup [.int (kw.1:Int),.int (kw.2:Int),.int ((m.testBit kw.1).toNat:Int)])
structure KA(m:Nat)(H0:Hp)(D:Addr)(es:List Addr)(S:Nat->List (Nat×Nat))(H:Hp):Prop where
 same:aq H0 H
 nd:es.Nodup
 ne:D∉es
 fr:∀b∈es,H0 b=none
 Dn:H0 D=none
 lst:H D=some (.lst (es.map V.ref))
 at_:∀i b,es[i]?=some b->∃cs,H b=some (.lst (cs.map V.ref))/\Paired (kT m H) cs (S i)
section
variable {m:Nat}{H0 H H' : Hp}{D b:Addr}{es:List Addr}{S:Nat->List (Nat×Nat)}{i:Nat}
def KA.go(h:KA m H0 D es S H)(s:aq H H'):KA m H0 D es S H' :=
 ⟨h.same.trans s,h.nd,h.ne,h.fr,h.Dn,s _ _ h.lst,λi b e=>let⟨cs,a,q⟩:=h.at_ i b e;⟨cs,s _ _ a,Paired.Bl q λ_ _ z=>s _ _ z⟩⟩
def yx(S:Nat->List (Nat×Nat))(x:Nat)(kw:Nat×Nat):Nat->List (Nat×Nat):=λi=>if i=x then S i++[kw] else S i
def KA.get(h:KA m H0 D es S H)(hi:i<es.length):∃b cs,(es.map V.ref)[i]?=some (.ref b)/\es[i]?=some b/\H b=some (.lst (cs.map V.ref))/\Paired (kT m H) cs (S i):=by
 have e:es[i]?=some es[i]:=aag hi;obtain⟨cs,a,q⟩:=h.at_ i _ e;exact⟨es[i],cs,by rw[aaw,e];rfl,e,a,q⟩
def KA.put(h:KA m H0 D es S H){cs:List Addr}{c:Addr}{kw:Nat×Nat}(hb:es[i]?=some b)(hcs:H b=some (.lst (cs.map V.ref)))(q:Paired (kT m H) cs (S i))(hc:kT m H c kw):
 KA m H0 D es (yx S i kw) (upd H b (.lst (cs.map V.ref++[.ref c]))):=by
 have hm:=jV hb;have U:D≠b:=λz=>h.ne (z▸hm)
 have tp:∀c kw,kT m H c kw->kT m (upd H b (.lst (cs.map V.ref++[.ref c]))) c kw:=λc kw z=>by
  show upd H b _ c=_;rw[ah (aQ z hcs (by intro z;cases z))]
  exact z
 have O : ∀x kw,kT m H x kw->kT m (upd H b (.lst (cs.map V.ref++[.ref c]))) x kw:=λx kw z=>by
  show upd H b _ x=_;rw[ah (aQ z hcs (by intro z;cases z))]
  exact z
 refine⟨h.same.put (h.fr b hm),h.nd,h.ne,h.fr,h.Dn,by rw[ah U];exact h.lst,λj Z I=>?_⟩
 by_cases e:j=i
 ·subst e;rw[hb]at I;cases I;refine⟨cs++[c],by rw[ae];simp,?_⟩
  unfold yx;rw[aai rfl];exact Paired.snoc (Paired.Bl q λ_ _ z=>O _ _ z) (O _ _ hc)
 ·have bb:Z≠b:=λz=>by
   subst z;obtain⟨h1,h2⟩:=jo.mp I;obtain⟨h3,h4⟩:=jo.mp hb;exact e ((adv h.nd).mp (h2.trans h4.symm))
  obtain⟨Y,q1,q2⟩:=h.at_ j Z I;refine⟨Y,by rw[ah bb];exact q1,?_⟩
  unfold yx;rw[aaf e];exact Paired.Bl q2 λ_ _ z=>O _ _ z
def KA.off(h:KA m H0 D es S H){L:Addr}(hL:H L=none):L∉es:=λz=>by
 obtain⟨j,hj⟩:=aa5 z;obtain⟨_,q,_⟩:=h.at_ j L hj;rw[hL]at q;cases q
def R7(m:Nat)(H0:Hp)(D:Addr)(i:Nat)(acc:List V)(H:Hp):Prop:=∃es,acc=es.map V.ref/\es.length=i/\KA m H0 D es (λ_=>[]) H
def R7.start(hD:H0 D=none):R7 m H0 D 0 [] (upd H0 D (.lst [])) :=
 ⟨[],rfl,rfl,aq.new hD,adi,acu,λ_ h=>(acu h).elim,hD,ae,λi b e=>by cases e⟩
def R7.len{acc:List V}(h:R7 m H0 D i acc H):H D=some (.lst acc)/\acc.length<=i:=by
 obtain⟨es,rfl,e,r⟩:=h;exact⟨r.lst,by rw[aac];lia⟩
def R7.next{acc:List V}(h:R7 m H0 D i acc H)(hb:H b=none):upd H b (.lst []) D=some (.lst acc)/\R7 m H0 D (i+1) (acc++[.ref b]) (upd (upd H b (.lst [])) D (.lst (acc++[.ref b]))):=by
 obtain⟨es,rfl,e,r⟩:=h;have O:D≠b:=λz=>by
  have:=r.lst;rw[z,hb]at this;cases this
 have U:b∉es:=r.off hb;have I:H0 b=none:=r.same.free hb;refine⟨by rw[ah O];exact r.lst,es++[b],by simp,by simp[e],(r.same.put I).put r.Dn,?_,?_,λc hc=>?_,r.Dn,by rw[ae];simp,λj c hc=>?_⟩
 ·exact adX.mpr ⟨r.nd,by simp,λx hx y Z=>by rw[aaW.mp Z];exact λz=>U (z▸hx)⟩
 ·intro hm;rcases aa9.mp hm with z|z
  ·exact r.ne z
  ·exact O (aaW.mp z)
 ·rcases aa9.mp hc with z|z
  ·exact r.fr c z
  ·rw[aaW.mp z];exact I
 ·have VY:c≠D:=λz=>by
   subst z;rcases aa9.mp (jV hc) with z|z
   ·exact r.ne z
   ·exact O (aaW.mp z)
  refine⟨[],?_,.nil⟩;rw[ah VY]
  by_cases Y:c=b
  ·rw[Y,ae];rfl
  ·rw[ah Y]
   by_cases hj:j<es.length
   ·rw[aba hj]at hc;obtain⟨cs,q1,q2⟩:=r.at_ j c hc;cases q2;exact q1
   ·rw[abf (by lia)]at hc
    have:=jV hc;exact absurd (aaW.mp this) Y
end
structure R8(N:RM.Net)(k:Nat)(S:Nat->List (Nat×Nat)):Prop where
 mem:∀i kw,kw∈S i↔(kw.1<k/\RM.Jn N kw.1 i kw.2)
 len:∀i,(S i).length<=2*k
def R8.start{N:RM.Net}:R8 N 0 (λ_=>[]):=⟨λi kw=>⟨λh=>(nomatch h),λh=>absurd h.1 (abI _)⟩,λ_=>aa3 _⟩
def R8.next{N:RM.Net}{k:Nat}{S:Nat->List (Nat×Nat)}(h:R8 N k S):R8 N (k+1) (yx (yx S (N.a k) (k,N.b k)) (N.b k) (k,N.a k)):=by
 refine⟨λi kw=>?_,λi=>?_⟩
 ·have one:∀(S:Nat->List (Nat×Nat)) (x:Nat) (q:Nat×Nat),kw∈yx S x q i↔kw∈S i\/(i=x/\kw=q):=λS x q=>by
   unfold yx
   by_cases e:i=x
   ·rw[aai e,aa9,aaW];simp[e]
   ·rw[aaf e];simp[e]
  rw[one,one,h.mem];obtain⟨O,w⟩:=kw
  constructor
  ·rintro((⟨h1,h2⟩|⟨rfl,h2⟩) | ⟨rfl,h2⟩)
   ·exact⟨abG h1,h2⟩
   ·cases h2;exact⟨ace _,.inl ⟨rfl,rfl⟩⟩
   ·cases h2;exact⟨ace _,.inr ⟨rfl,rfl⟩⟩
  ·rintro⟨h1,h2⟩
   by_cases e:O<k
   ·exact .inl (.inl ⟨e,h2⟩)
   ·have e:O = k:=by have:O<k+1:=h1;lia
    subst e;rcases h2 with⟨U,I⟩|⟨U,I⟩
    ·exact .inl (.inr ⟨U.symm,by have I:N.b O = w:=I;rw[I]⟩)
    ·exact .inr ⟨U.symm,by have I:N.a O = w:=I;rw[I]⟩
 ·have one:∀(S:Nat->List (Nat×Nat)) (x:Nat) (q:Nat×Nat),(yx S x q i).length<=(S i).length+1:=λS x q=>by
   unfold yx
   split
   ·simp
   ·lia
  have h1:=one (yx S (N.a k) (k,N.b k)) (N.b k) (k,N.a k);have h2:=one S (N.a k) (k,N.b k);have U:=h.len i
  lia
end L2
namespace RM
def left(F:OW):Nat->Nat
 | 0=>0
 | p+1=>left F p+(if(F p false).isNone then 1 else 0)+(if(F p true).isNone then 1 else 0)
def A9{F G:OW}:∀{p:Nat},(∀x,x<p->∀s,F x s=G x s)->left F p=left G p
 | 0,_=>rfl
 | p+1,h=>by
   unfold left;rw[A9 λx hx=>h x (by lia),h p (by lia),h p (by lia)]
def Ei{F:OW}{x:Nat}{s:Bool}{d:Int×Nat}(hn:F x s=none):∀{p:Nat},x<p->left (kR F x s d) p<left F p
 | 0,h=>absurd h (abI _)
 | p+1,h=>by
   unfold left
   by_cases e:x=p
   ·subst e;rw[A9 (F:=kR F x s d) (G:=F) λy I t=>bH λz=>by lia]
    cases s with
    | false=>rw[cj,bH (λz=>by cases z.2),hn];simp
    | true=>rw[cj,bH (λz=>by cases z.2),hn];simp
   ·have O:=Ei (F:=F) (x:=x) (s:=s) (d:=d) hn (p:=p) (by lia)
    rw[bH (λz=>e z.1.symm),bH (λz=>e z.1.symm)]
    lia
end RM
namespace L2
open PySem Ring
def YV(W:RM.OW)(k:List Key):List Int:=match k with
 | [.inl x,.inl s]=>(match W x.toNat (decide (s=1)) with | some d=>[d.1,(d.2:Int)] | none=>[])
 | _=>[]
def N2{W:RM.OW}{x:Nat}{s:Bool}{d:Int×Nat}(h:W x s=some d):YV W (ky x s)=[d.1,(d.2:Int)]:=by
 have e:(decide (((s.toNat:Nat):Int)=1))=s:=by cases s<;>rfl
 show(match W ((x:Int)).toNat (decide (((s.toNat:Nat):Int)=1)) with | some d=>[d.1,(d.2:Int)] | none=>[])=_
 rw[aaE,e,h]
def N3(W:RM.OW)(kvs:List (List Key×V))(i:Nat):List Int:=YV W ((kvs[i]?.map (·.1)).getD [])
def Cd{a b c d:Int}(h:HT.lexLt [a,b] [c,d]=false):c<=a:=by
 rw[HT.iI]at h
 by_cases e:a=c
 ·lia
 ·rw[aaf e]at h;have:=of_decide_eq_false h
  lia
def Ba{κ:Type}[DecidableEq κ]:∀{kvs:List (κ×V)} {k:κ} {v:V},(kvs.map (·.1)).Nodup->(k,v)∈kvs->dS kvs k=some v
 | [],_,_,_,h=>nomatch h
 | q::r,k,v,nd,h=>by
   rw[aaR,abn]at nd;rcases aaC.mp h with e|h
   ·subst e;exact cN rfl
   ·have ne : ¬ q.1=k:=λz=>nd.1 (by rw[z];exact abU (f:=(·.1)) h)
    rw[ck ne];exact Ba nd.2 h
def yw.entry{p:Nat}{H0 H:Hp}{D wd:Addr}{es:List Addr}{kvs:List (List Key×V)}{F W:RM.OW}(h:yw p H0 D wd es kvs F W H){i:Nat}{kv:List Key×V}(e:kvs[i]?=some kv):
 ∃x s d c,x<p/\kv.1=ky x s/\W x s=some d/\dS kvs (ky x s)=some (.ref c)/\kv.2 = .ref c/\H c=some (.tup [.int d.1,.int (d.2:Int)])/\N3 W kvs i=[d.1,(d.2:Int)]:=by
 have hm:=jV e;obtain⟨x,s,hx,I⟩:=h.keys kv hm;have O:dS kvs (ky x s)=some kv.2:=Ba h.kn (by rw[<-I];exact hm)
 rcases h.val x s with⟨_,z⟩|⟨d,c,h1,h2,U⟩
 ·rw[O]at z;cases z
 ·rw[O]at h2;refine⟨x,s,d,c,hx,I,h1,O.trans h2,Option.some.inj h2,U,?_⟩;unfold N3;rw[e];show YV W kv.1=_;rw[I];exact N2 h1
def yw.find{p:Nat}{H0 H:Hp}{D wd:Addr}{es:List Addr}{kvs:List (List Key×V)}{F W:RM.OW}(h:yw p H0 D wd es kvs F W H){x:Nat}{s:Bool}{d:Int×Nat}(e:W x s=some d):∃(i:Nat) (kv:List Key×V),kvs[i]?=some kv/\kv.1=ky x s/\N3 W kvs i=[d.1,(d.2:Int)]:=by
 rcases h.val x s with⟨z,_⟩|⟨d',c,h1,h2,U⟩
 ·rw[e]at z;cases z
 ·have hm:=QD h2;obtain⟨kv,I,O⟩:=aaH.mp hm;obtain⟨i,hi⟩:=aa5 I;refine⟨i,kv,hi,O,?_⟩;unfold N3;rw[hi];show YV W kv.1=_;rw[O];exact N2 e
def yw.start{p:Nat}{H0 H:Hp}{D wd c:Addr}{es:List Addr}{u:Nat}(f:Gy H0 D es (λ_ _=>none) H)(hu:u<p)(hw:H wd=some (.dT []))(h0:H0 wd=none)(hc:H c=some (.tup [.int 0,.int 0])):
 yw p H0 D wd es [(ky u false,.ref c)] (λ_ _=>none) (RM.kR (λ_ _=>none) u false (0,0)) (upd H wd (.dT [(ky u false,.ref c)])):=by
 have wD:wd≠D:=λz=>by rw[z,f.lst]at hw;cases hw
 have wE:wd∉es:=λz=>by
  obtain⟨j,hj⟩:=aa5 z;have:=f.at_ j wd hj;rw[hw]at this;cases this
 refine⟨f.same.put h0,f.nd,f.ne,f.fr,f.Dn,h0,wD,wE,by rw[ah (aa6 wD)];exact f.lst,λi b hb=>?_,ae,by simp,λkv I=>?_,λx s d e=>?_,λx s=>?_⟩
 ·have nb:b≠wd:=λz=>wE (z▸jV hb)
  exact⟨.eX,.eX,by rw[ah nb];exact f.at_ i b hb,rfl,rfl⟩
 ·rw[aaW.mp I];exact⟨u,false,hu,rfl⟩
 ·by_cases z:x=u/\s=false
  ·rw[z.1];exact hu
  ·rw[RM.bH z]at e;cases e
 ·by_cases z:x=u/\s=false
  ·obtain⟨rfl,rfl⟩:=z;exact .inr ⟨(0,0),c,RM.cj _ _ _ _,cN rfl,by rw[ah (aQ hc hw (by intro z;cases z))];exact hc⟩
  ·refine .inl ⟨RM.bH z,?_⟩;rw[ck (λq=>z ?_),x9]
   obtain⟨O,U⟩:=GD q;exact⟨O.symm,U.symm⟩
open PySem PySem.Spec PyProof.Rows
section
variable {P:Program}{w:World}{A:Around}{E:dR}{s:Shared}
def N4{l:Addr}{u0 u1:Value}{Q:List Value->Shared->Prop}(hh:A.handled=none)(hl:s.heap.IsList l #[u0,u1])
 (hQ:∀h' tk,(∀b o,s.heap.get? b=some o->h'.get? b=some o)->Q [u0,u1] { s with heap:=h',toks:=tk}):wpAny (model P w) A (unpackItems (.ref l) 2 none) Q E s:=by
 obtain⟨ol,O,I,nl,U⟩:=id hl;have hT:s.TypeIs (.ref l) "list":=⟨ol,O,I⟩;have Y:l≠s.heap.objs.size:=aaP (aax O);unfold unpackItems;refine aV ?_;unfold notIterableAtAll;refine aV (wpAny_specialOf hT PySem.F.slot_list_iter.lookup (aaq ?_));simp only[abK,if_false];refine aV (abg (wpAny_pyIter_list hl ?_));have W:=Walks.list (prog:=P) (w:=w) (A:=A) hh s.heap.objs.size l Y #[u0,u1];generalize Z:s.heap.push { cls:=.type "list_iterator",data:=.fields #[.ref l,.int 0 0]}=g0;have ab:∀b o,s.heap.get? b=some o->g0.get? b=some o:=λb o e=>by rw[<-Z];exact aao _ e
 have ag:g0.IsListIter s.heap.objs.size l 0:=by rw[<-Z];exact⟨_,aaN _ rfl,rfl,rfl⟩
 have ar:g0.IsList l #[u0,u1]:=by rw[<-Z];exact⟨ol,aao _ O,I,nl,U⟩
 have nI:∀b o,s.heap.get? b=some o->b∉[s.heap.objs.size]:=λb o e z=>aaP (aax e) (aaW.mp z)
 refine aV (abg ?_);show wpAny _ _ (pyNext (.ref s.heap.objs.size) >>= _) _ _ _;refine aV (W.item 0 _ _ _ (by simp) ⟨ag,ar⟩ λv1 h1 a5 aw ax k1=>?_)
 obtain rfl:u0=v1:=by simpa using aw
 refine aV (abg ?_);show wpAny _ _ (pyNext (.ref s.heap.objs.size) >>= _) _ _ _;refine aV (W.item 1 _ _ _ (by simp) ax λv2 h2 a6 aT a3 k2=>?_)
 obtain rfl:u1=v2:=by simpa using aT
 refine aV (abg ?_);show wpAny _ _ (pure []) _ _ _;refine aaq (aaq (aaq ?_));rw[aaf (by simp)]
 refine aV (abg (W.done _ _ _ a3 λh3 a4 k3=>?_))
 simp only[Option.isSome_none,abK,if_false];exact aaq (hQ h3 a4 λb o e=>k3 b o (nI b o e) (k2 b o (nI b o e) (k1 b o (nI b o e) (ab b o e))))
def N5{env:Env}{elts:List Expr}{x1}{pos:Pos}{l:Addr}{u0 u1:Value}{Q:Unit->Shared->Prop}(hh:A.handled=none)(hl:s.heap.IsList l #[u0,u1])
 (hn:(assignEach elts env).length=2) (hstar:(assignEach elts env).findIdx? (·.1)=none)
 (h:∀h' tk,(∀b o,s.heap.get? b=some o->h'.get? b=some o)->wpAny (model P w) A (assignInOrder ((assignEach elts env).map (·.2)) [u0,u1]) Q E { s with heap:=h',toks:=tk}) :
 wpAny (model P w) A (assign (.Tuple elts x1 pos) env (.ref l)) Q E s:=by
 rw[arm_assign_Tuple];refine aV (wpAny_standAt ?_);unfold unpack;rw[hn,hstar];exact aV (abg (N4 hh hl h))
end
section
variable {X:Cx}{es:List Expr}{pos:Pos}
def W4(K:bJ)(t:Pj):TG:=λv σ H Q=>∃a x y,v = .ref a/\aR K H a [x,y]/\t [x,y] σ H Q
def aas(K:bJ){k:Nat}{t:Pj}(hc:X.calm=true)(h:U7 X es t)
 (hn:(assignEach es X.env).length=2:=by rfl) (hst:(assignEach es X.env).findIdx? (·.1)=none:=by rfl) (hK:X.K=K:=by rfl):PG X (.Tuple es k pos) (W4 K t):=by
 subst hK;intro pq s σ H v u Q I r hw;obtain⟨a,x,y,U,Y,hw⟩:=hw;subst U;cases r;obtain⟨its,rv,ht,hz⟩:=I.list Y;cases rv with
 | cons Z rr=>cases rr with
   | cons r2 O =>
     cases O;refine N5 (I.ok.hd hc) ht.isList hn hst λh' tk hx=>?_
     exact h pq _ σ H [x,y] _ Q (I.kept (t':=tk) hx) (.cons Z (.cons r2 .nil)) hw
end
end L2
namespace RM
section
variable {N:Net}{L:Nat->Int}{m u:Nat}
def vR{f g:Nat->Bool}:∀{n:Nat},(∀k,k<n->0<L k)->(∀k,k<n->f k=true->g k=true)->∀k,k<n->f k=false->g k=true->lsum L f n<lsum L g n
 | 0,_,_,k,hk,_,_=>absurd hk (abI _)
 | n+1,hL,h,k,hk,hf,hg=>by
   unfold lsum;have hn:=h n (by lia)
   have h0:=hL n (by lia)
   by_cases e:k=n
   ·subst e;have:=pW (L:=L) (f:=f) (g:=g) (n:=k) (λj hj=>acZ (hL j (by lia))) λj hj=>h j (by lia)
    rw[hf,hg];simp only[abK,if_false,if_true]
    lia
   ·have I:=vR (n:=n) (λj hj=>hL j (by lia)) (λj hj=>h j (by lia)) k (by lia) hf hg
    cases hfn:f n with
    | false=>cases g n<;>simp<;>lia
    | true=>rw[hn hfn];simp;lia
def GF(hL:∀k,k<N.n->0<L k)(hu:u<N.p){z:Int}{e:Nat}(h:Wz N L m u u true z e)(hmin:∀x z',x<N.p->Wy N L m x x true z'->z<=z'):
 N.Ring e/\e<2^N.n/\N.par e m=true/\lsum L (λk=>e.testBit k) N.n=z:=by
 have I:∀k,k<N.n->0<=L k:=λk hk=>acZ (hL k hk)
 obtain⟨pre,h⟩:=h;obtain⟨_,h2,h3,h4,h5,_⟩:=mL I hu h;obtain⟨r,r1,r2,r3⟩:=yk _ e rfl h2 (λx _=>by rw[h3,adW]) h4
 have O:r<2^N.n:=c6 λk hk=>oO h2 (r2 k hk)
 obtain⟨x,hx,hw⟩:=sH I m r1 O;rw[r3]at hw;have hz:=hmin x _ hx hw;have hle:=pW (L:=L) (f:=λk=>r.testBit k) (g:=λk=>e.testBit k) I λk _ hk=>r2 k hk
 have U:e=r:=abh λk=>by
  cases hr:r.testBit k with
  | true=>exact r2 k hr
  | false =>
    cases he:e.testBit k with
    | false=>rfl
    | true =>
      have:=vR (L:=L) (f:=λk=>r.testBit k) (g:=λk=>e.testBit k) hL (λk _ hk=>r2 k hk) k (oO h2 he) hr he
      lia
 rw[U];exact⟨r1,O,r3,by lia⟩
def N6(hL:∀k,k<N.n->0<=L k)(hno:∀x z',x<N.p->¬ Wy N L m x x true z'){r:Nat}(hr:N.Ring r)(hm:r<2^N.n):N.par r m=false:=by
 cases hp:N.par r m with
 | false=>rfl
 | true =>
   obtain⟨x,hx,hw⟩:=sH hL m hr hm;rw[hp]at hw;exact absurd hw (hno x _ hx)
end
end RM
namespace L2
open PySem PySem.Spec PyProof.Rows
section
variable {X:Cx}{pq:aX}{σ:St}{H:Hp}{l It S:Addr}{cs:List Addr}{ks:Nat->List Int}{R:Result->Shared->Prop}
def nh{pa:aX}{s:Shared}(I:Inv X pa σ H s)(hl:aR X.K H l (cs.map V.ref)):s.heap.IsList l (cs.map Value.ref).toArray:=by
 obtain⟨O,U,p,hz⟩:=I.list hl;have e:O=cs.map Value.ref:=by
  clear hl p hz
  induction cs generalizing O with
  | nil=>cases U;rfl
  | cons c r Y =>
    rw[aaR]at U;cases U with
    | cons h t=>cases h;rw[Y _ t];rfl
 rw[e]at p;exact p.isList
def KC(hh:X.A.handled=none)(un:X.A.in1.units<cLine)(hl:aR X.K H l (cs.map V.ref))(hk:∀(i:Nat) c,cs[i]?=some c->aU X.K H c ((ks i).map V.int))(oS:GA X S)(oI:GA X It)(SI:S≠It)(lI:l≠It)
 (pI:∀p∈pq,p.1≠It) (pS:∀p∈pq,p.1≠S)
 (hR:∀(i:Nat) c s',cs[i]?=some c->(∀j,j<cs.length->HT.lexLt (ks j) (ks i)=false)->Inv X pq σ H s'->R (.ok (.ret (.ref c))) s') :
 ∀(r j i:Nat) (c:Addr) (s:Shared) (n:Nat) (LS:Obj),cs.length-j=r->j<=cs.length->i<j->cs[i]?=some c->Inv X ((S,seqObj "list" #[.ref c,.ref c] n)::(It,LS)::pq) σ H s->s.heap.IsListIter It l j->
  (∀Z,Z<j->HT.lexLt (ks Z) (ks i)=false)->codeAny (model X.prog X.w) X.A (.builtin "min.loop" ⟨[.ref It,.none,.ref S],[]⟩) R s:=by
 have U:(toString "min" ++ toString ".loop":String)="min.loop":=by decide
 have W:=Walks.list (prog:=X.prog) (w:=X.w) (A:=X.A.in1) hh It l lI (cs.map Value.ref).toArray;have ag:(cs.map Value.ref).toArray.size=cs.length:=by simp
 intro r
 induction r with
 | zero =>
   intro j i c s n LS hr hj aT hc I hit tw;have Fj:j=cs.length:=by lia
   have yv:=I.pin (S,_) (jY _ (.head _));refine codeAny_builtin ab8 ?_;rw[Around.under_plainId abi _];show wpAny _ X.A.in1 (seqItems? (.ref S) >>= _) _ _ _;refine aV (wpAny_seqItems yv.1 rfl ?_);show wpAny _ X.A.in1 (tryCatch (pyNext (.ref It)) _ >>= _) _ _ _;refine aV (ab2 (W.done _ _ _ ⟨by rw[ag,<-Fj];exact hit,nh I hl⟩ λh' Y ab=>?_))
   have I1:=I.lF (t':=Y) (h':=h') (pb:=(S,seqObj "list" #[.ref c,.ref c] n)::pq) oI (List.Mem.tail _ (.head _)) (λb u hb e=>ab b u (by simpa using hb) e) (λp O=>by
    rcases aaC.mp O with rfl|O
    ·exact .inr ⟨.head _,SI⟩
    ·exact .inr ⟨.tail _ (.tail _ O),pI p O⟩)
   have NU:=I1.pin (S,_) (jY _ (.head _));show wpAny _ X.A.in1 (updateSeq S (λ_=>#[]) >>= _) _ _ _
   refine aV (wpAny_updateSeq NU.1 rfl (aV (wpAny_letGo (aaq ?_))));have s1:=abp h' S (Obj.mapSeq λ_=>(#[]:Array Value))
   exact hR i c _ hc (λZ ar=>tw Z (by lia)) (I1.lF (t':=Y) (pb:=pq) oS (.head _) (λb u hb e=>(s1.2 b hb).trans e) λp O=>.inr ⟨.tail _ O,pS p O⟩)
 | succ r ih =>
   intro j i c s n LS hr hj aT hc I hit tw;have Fj:j<cs.length:=by lia
   have yv:=I.pin (S,_) (jY _ (.head _));refine codeAny_builtin ab8 ?_;rw[Around.under_plainId abi _];show wpAny _ X.A.in1 (seqItems? (.ref S) >>= _) _ _ _;refine aV (wpAny_seqItems yv.1 rfl ?_);show wpAny _ X.A.in1 (tryCatch (pyNext (.ref It)) _ >>= _) _ _ _;refine aV (ab2 (W.item j _ _ _ (by rw[ag];exact Fj) ⟨hit,nh I hl⟩ λv h' Y hv aw ab=>?_))
   have Vj:cs[j]?=some cs[j]:=aag Fj;obtain rfl:v = .ref cs[j]:=by
    have:(cs.map Value.ref)[j]?=some v:=by simpa using hv
    rw[aaw,Vj]at this;exact(Option.some.inj this).symm
   obtain⟨Px,N7,a3,ax⟩:=id aw.1;have I1:=I.lF (t':=Y) (h':=h') (pb:=(S,seqObj "list" #[.ref c,.ref c] n)::(It,Px)::pq) oI (List.Mem.tail _ (.head _)) (λb u hb e=>ab b u (by simpa using hb) e) (λp O=>by
    rcases aaC.mp O with rfl|O
    ·exact .inr ⟨.head _,SI⟩
    ·rcases aaC.mp O with rfl|O
     ·exact .inl ⟨rfl,N7,λv z=>by rw[ax]at z;cases z⟩
     ·exact .inr ⟨.tail _ (.tail _ O),pI p O⟩)
   have oR:=I1.pin (S,_) (jY _ (.head _));show wpAny _ X.A.in1 (tryCatch (holding [.ref cs[j],.ref cs[j]] (richCompare .Lt (.ref cs[j]) (.ref c) >>= _)) _ >>= _) _ _ _;refine aV (ab2 (abg (aV (NR I1 (hk j _ Vj) (hk i c hc) un ?_))));refine aV (abg (wpAny_truthy_bool (aV (wpAny_letGo (aaq ?_)))));cases hlt:HT.lexLt (ks j) (ks i) with
   | true =>
     have s1:=abp h' S (Obj.mapSeq λ_=>(#[.ref cs[j],.ref cs[j]]:Array Value))
     obtain⟨n2,a4⟩:∃n2,(h'.update S (Obj.mapSeq λ_=>(#[.ref cs[j],.ref cs[j]]:Array Value))).get? S=some (seqObj "list" #[.ref cs[j],.ref cs[j]] n2):=⟨_,get?_update_seq oR.1 λ_=>#[.ref cs[j],.ref cs[j]]⟩
     simp only[if_true];refine aV (wpAny_updateSeq oR.1 rfl (aV (wpAny_letGo ?_)));rw[U];have I3:=I1.lF (t':=Y) (pb:=(S,seqObj "list" #[.ref cs[j],.ref cs[j]] n2)::(It,Px)::pq) oS (.head _) (λb u hb e=>(s1.2 b hb).trans e) (λp O=>by
      rcases aaC.mp O with rfl|O
      ·exact .inl ⟨rfl,a4,λv z=>by cases z⟩
      ·rcases aaC.mp O with rfl|O
       ·exact .inr ⟨.tail _ (.head _),SI.symm⟩
       ·exact .inr ⟨.tail _ (.tail _ O),pS p O⟩)
     refine aaq ⟨plainId_quiet abi _,ih (j+1) j cs[j] _ n2 Px (by lia) (by lia) (by lia) Vj I3 ⟨Px,(s1.2 It SI.symm).trans N7,a3,ax⟩ λZ ar=>?_⟩
     by_cases e:Z = j
     ·rw[e];exact HT.iu _
     ·exact HT.yt (tw Z (by lia)) hlt
   | false =>
     simp only[abK,if_false];refine aV (wpAny_letGo ?_);rw[U];refine aaq ⟨plainId_quiet abi _,ih (j+1) i c _ n Px (by lia) (by lia) (by lia) hc I1 aw.1 λZ ar=>?_⟩
     by_cases e:Z = j
     ·rw[e];exact hlt
     ·exact tw Z (by lia)
def aat(hr:X.A.handled=none)(un:X.A.in1.units<cLine):ic X (.builtin "min") (λxs H Q=>∃(l:Addr) (cs:List Addr) (ks:Nat->List Int),xs=[.ref l]/\aR X.K H l (cs.map V.ref)/\0<cs.length/\(∀(i:Nat) c,cs[i]?=some c->aU X.K H c ((ks i).map V.int))/\
 ∀(i:Nat) c,cs[i]?=some c->(∀j,j<cs.length->HT.lexLt (ks j) (ks i)=false)->Q (.ref c) H):=by
 intro pq s σ H xs us Q I r h;obtain⟨l,cs,ks,rfl,hl,Y,hk,q⟩:=h;obtain⟨u,rfl,rx⟩:=vals1 r;cases rx;have U:(toString "min" ++ toString ".loop":String)="min.loop":=by decide
 have Z:=nh I hl;obtain⟨ol,W3,_⟩:=id Z;have ar:l<s.heap.objs.size:=aax W3;refine call_function_tree PySem.F.kind_min PySem.F.plain_min PySem.F.entry_min (PySem.F.args_min1 _) ?_;show wpAny _ X.A.in1 (Builtin.Builtins.bindParams "min" ["key","default"] 0 ⟨[],[]⟩ >>= _) _ _ s;refine aV (wpAny_of_eq (show Builtin.Builtins.bindParams "min" ["key","default"] 0 ⟨[],[]⟩=pure [none,none] from rfl) ?_)
 refine aV (aaq (aV (wpAny_pyIter_list Z (aV (wpAny_newList ?_ (aa3 _))))));rw[U];refine aaq ⟨plainId_quiet abi _,?_⟩;generalize Ul:({ cls:=.type "list_iterator",data:=.fields #[.ref l,.int 0 0]}:Obj)=oI;have hS:(s.heap.push oI).objs.size=s.heap.objs.size+1:=size_push' ..;have aw:∀b o,s.heap.get? b=some o->((s.heap.push oI).push (seqObj "list" #[] 0)).get? b=some o:=λb o e=>aao _ (aao _ e)
 have gI:((s.heap.push oI).push (seqObj "list" #[] 0)).get? s.heap.objs.size=some oI:=aao _ (aaN _ (by rw[<-Ul];rfl))
 have gS:((s.heap.push oI).push (seqObj "list" #[] 0)).get? (s.heap.push oI).objs.size=some (seqObj "list" #[] 0):=aaN _ rfl;have Q0:∀p∈pq,p.1<s.heap.objs.size:=λp O=>aax (I.pin p (jY _ O)).1
 have R5:=I.NQ (aam s.heap.objs.size);have oS:=I.NQ (b:=(s.heap.push oI).objs.size) (by rw[hS];exact abO _)
 have SI:(s.heap.push oI).objs.size≠s.heap.objs.size:=by rw[hS];exact adw _
 have lI:l≠s.heap.objs.size:=aaP ar;have pI:∀p∈pq,p.1≠s.heap.objs.size:=λp O=>aaP (Q0 p O)
 have pS:∀p∈pq,p.1≠(s.heap.push oI).objs.size:=λp O=>by rw[hS];exact aaP (abG (Q0 p O))
 have J:Inv X (((s.heap.push oI).objs.size,seqObj "list" #[] 0)::(s.heap.objs.size,oI)::pq) σ H { s with heap:=(s.heap.push oI).push (seqObj "list" #[] 0)}:=by
  have K:=I.kept (t':=s.toks) aw;refine K.ia λp O=>?_
  rcases aaC.mp O with rfl|O
  ·exact⟨gS,I.hok.fresh (by rw[hS];exact abO _),oS.2.1,oS.2.2.1,λv z=>by cases z⟩
  ·rcases aaC.mp O with rfl|O
   ·exact⟨gI,I.hok.fresh (aam _),R5.2.1,R5.2.2.1,λv z=>by rw[<-Ul]at z;cases z⟩
   ·exact K.pin p (jY _ O)
 have W:=Walks.list (prog:=X.prog) (w:=X.w) (A:=X.A.in1) hr s.heap.objs.size l lI (cs.map Value.ref).toArray;have yv:=J.pin ((s.heap.push oI).objs.size,seqObj "list" #[] 0) (jY _ (.head _));refine codeAny_builtin ab8 ?_;rw[Around.under_plainId abi _];show wpAny _ X.A.in1 (seqItems? (.ref _) >>= _) _ _ _;refine aV (wpAny_seqItems yv.1 rfl ?_);show wpAny _ X.A.in1 (tryCatch (pyNext (.ref s.heap.objs.size)) _ >>= _) _ _ _;refine aV (ab2 (W.item 0 _ _ _ (by simpa using Y) ⟨⟨oI,gI,by rw[<-Ul],by rw[<-Ul];rfl⟩,nh J hl⟩ λv h' ab hv ax aT=>?_))
 have Vj:cs[0]?=some cs[0]:=aag Y;obtain rfl:v = .ref cs[0]:=by
  have:(cs.map Value.ref)[0]?=some v:=by simpa using hv
  rw[aaw,Vj]at this;exact(Option.some.inj this).symm
 obtain⟨Px,N7,a3,ag⟩:=id ax.1;have I1:=J.lF (t':=ab) (h':=h') (pb:=((s.heap.push oI).objs.size,seqObj "list" #[] 0)::(s.heap.objs.size,Px)::pq) R5 (List.Mem.tail _ (.head _)) (λb u hb e=>aT b u (by simpa using hb) e) (λp O=>by
  rcases aaC.mp O with rfl|O
  ·exact .inr ⟨.head _,SI⟩
  ·rcases aaC.mp O with rfl|O
   ·exact .inl ⟨rfl,N7,λv z=>by rw[ag]at z;cases z⟩
   ·exact .inr ⟨.tail _ (.tail _ O),pI p O⟩)
 have oR:=I1.pin ((s.heap.push oI).objs.size,_) (jY _ (.head _));have s1:=abp h' (s.heap.push oI).objs.size (Obj.mapSeq λ_=>(#[.ref cs[0],.ref cs[0]]:Array Value))
 obtain⟨n2,a4⟩:∃n2,(h'.update (s.heap.push oI).objs.size (Obj.mapSeq λ_=>(#[.ref cs[0],.ref cs[0]]:Array Value))).get? (s.heap.push oI).objs.size=some (seqObj "list" #[.ref cs[0],.ref cs[0]] n2):=⟨_,get?_update_seq oR.1 λ_=>#[.ref cs[0],.ref cs[0]]⟩
 show wpAny _ X.A.in1 (updateSeq (s.heap.push oI).objs.size (λ_=>#[.ref cs[0],.ref cs[0]]) >>= _) _ _ _
 refine aV (wpAny_updateSeq oR.1 rfl ?_);rw[U];have I3:=I1.lF (t':=ab) (pb:=((s.heap.push oI).objs.size,seqObj "list" #[.ref cs[0],.ref cs[0]] n2)::(s.heap.objs.size,Px)::pq) oS (.head _) (λb u hb e=>(s1.2 b hb).trans e) (λp O=>by
  rcases aaC.mp O with rfl|O
  ·exact .inl ⟨rfl,a4,λv z=>by cases z⟩
  ·rcases aaC.mp O with rfl|O
   ·exact .inr ⟨.tail _ (.head _),SI.symm⟩
   ·exact .inr ⟨.tail _ (.tail _ O),pS p O⟩)
 refine aaq ⟨plainId_quiet abi _,KC hr un hl hk oS R5 SI lI pI pS (λi c s' hc best I7=>⟨.ref c,H,I7,rfl,q i c hc best⟩) _ 1 0 cs[0] _ n2 Px rfl Y (ace _) Vj I3 ⟨Px,(s1.2 _ SI.symm).trans N7,a3,ag⟩ λj hj=>?_⟩
 have e:j=0:=by lia
 rw[e];exact HT.iu _
end
end L2
namespace RM
def lx(a b:Int×Nat):Prop:=a.1<b.1\/(a.1=b.1/\a.2<=b.2)
def lx.anti{a b:Int×Nat}(h1:lx a b)(h2:lx b a):a=b:=by
 obtain⟨a1,a2⟩:=a;obtain⟨b1,b2⟩:=b;unfold lx at h1 h2;simp only at h1 h2;have I:a1=b1:=by lia
 have O:a2=b2:=by lia
 rw[I,O]
def stp(L:Nat->Int)(d:Int×Nat)(k:Nat):Int×Nat:=(d.1+L k,d.2^^^2^k)
structure Fx(N:Net)(L:Nat->Int)(m u:Nat)(F:OW):Prop where
 st:F u false=some (0,0)
 cx:∀x s d k y,F x s=some d->k<N.n->Jn N k x y->∃d',F y (s^^m.testBit k)=some d'/\lx d' (stp L d k)
 org:∀y t d,F y t=some d->(y=u/\t=false/\d=(0,0))\/∃x s d0 k,F x s=some d0/\k<N.n/\Jn N k x y/\t=(s^^m.testBit k)/\d=stp L d0 k
 nn:∀y t d,F y t=some d->0<=d.1
section
variable {N:Net}{L:Nat->Int}{m u:Nat}{F G:OW}
def Fx.part(hL:∀k,k<N.n->0<L k)(f:Fx N L m u F)(g:Fx N L m u G):∀(n:Nat),(∀y t d,d.1<(n:Int)->(F y t=some d↔G y t=some d)):=by
 intro n
 induction n with
 | zero =>
   intro y t d hd;have hd:d.1<0:=hd;exact⟨λh=>absurd (f.nn y t d h) (by lia),λh=>absurd (g.nn y t d h) (by lia)⟩
 | succ n I =>
   have one:∀{F G:OW},Fx N L m u F->Fx N L m u G->(∀y t d,d.1<(n:Int)->(F y t=some d↔G y t=some d))->∀y t d,d.1<((n+1:Nat):Int)->F y t=some d->∃d',G y t=some d'/\lx d' d:=λ{F G} f g I y t d hd h=>by
    rcases f.org y t d h with⟨rfl,rfl,rfl⟩|⟨x,s,d0,k,h0,hk,hj,rfl,rfl⟩
    ·exact⟨_,g.st,.inr ⟨rfl,aam _⟩⟩
    ·have Z:=hL k hk;have O:d0.1<(n:Int):=by
      have hd:d0.1+L k<((n+1:Nat):Int):=hd
      lia
     exact g.cx x s d0 k y ((I x s d0 O).mp h0) hk hj
   have both:∀{F G:OW},Fx N L m u F->Fx N L m u G->(∀y t d,d.1<(n:Int)->(F y t=some d↔G y t=some d))->∀y t d,d.1<((n+1:Nat):Int)->F y t=some d->G y t=some d:=λ{F G} f g I y t d hd h=>by
    obtain⟨d',h',Y⟩:=one f g I y t d hd h;have U : d'.1<((n+1:Nat):Int):=by
     rcases Y with z|z<;>lia
    obtain⟨d2,h2,l2⟩:=one g f (λy t d hd=>(I y t d hd).symm) y t d' U h'
    rw[h]at h2;cases h2;rw[Y.anti l2]at h';exact h'
   intro y t d hd;exact⟨both f g I y t d hd,both g f (λy t d hd=>(I y t d hd).symm) y t d hd⟩
def Fx.uniq(hL:∀k,k<N.n->0<L k)(f:Fx N L m u F)(g:Fx N L m u G):F=G:=by
 have go:∀{F G:OW},Fx N L m u F->Fx N L m u G->∀y t d,F y t=some d->G y t=some d:=λ{F G} f g y t d h=>by
  have hn:=f.nn y t d h;exact(Fx.part hL f g (d.1.toNat+1) y t d (by lia)).mp h
 funext y t
 cases h:F y t with
 | some d=>exact(go f g y t d h).symm
 | none =>
   cases h' : G y t with
   | none=>rfl
   | some d=>rw[go g f y t d h']at h;cases h
end
def W6(N:Net)(L:Nat->Int)(m u:Nat)(F:OW)(y:Nat)(t:Bool)(d:Int×Nat):Prop:=(y=u/\t=false/\d=(0,0))\/∃x s d0 k,F x s=some d0/\k<N.n/\Jn N k x y/\t=(s^^m.testBit k)/\d=stp L d0 k
structure Dx(N:Net)(L:Nat->Int)(m u:Nat)(F W:OW)(now:Option (Nat×Bool))(done:Nat->Nat->Prop):Prop where
 dj:Dj N L m u F W now done
 cx:∀x s d k y,F x s=some d->k<N.n->Jn N k x y->(now=some (x,s)->done k y)->∃d',(F y (s^^m.testBit k)=some d'\/W y (s^^m.testBit k)=some d')/\lx d' (stp L d k)
 fo:∀y t d,F y t=some d->W6 N L m u F y t d
 wo:∀y t d,W y t=some d->W6 N L m u F y t d
 s0:F u false=some (0,0)\/W u false=some (0,0)
section
variable {N:Net}{L:Nat->Int}{m u:Nat}{F W:OW}
def W6.grow{y x:Nat}{t s:Bool}{d e:Int×Nat}(h:W6 N L m u F y t d)(hF:F x s=none):W6 N L m u (kR F x s e) y t d:=by
 rcases h with h|⟨I,s',d0,k,h0,r⟩
 ·exact .inl h
 ·refine .inr ⟨I,s',d0,k,?_,r⟩;rw[bH (λz=>by rw[z.1,z.2,hF]at h0;cases h0)]
  exact h0
def Dx.start:Dx N L m u (λ_ _=>none) (kR (λ_ _=>none) u false (0,0)) none (λ_ _=>False):=by
 refine⟨.start,λ_ _ _ _ _ h=>(nomatch h),λ_ _ _ h=>(nomatch h),λy t d h=>?_,.inr (cj _ _ _ _)⟩
 by_cases e:y=u/\t=false
 ·obtain⟨rfl,rfl⟩:=e;rw[cj]at h;exact .inl ⟨rfl,rfl,(Option.some.inj h).symm⟩
 ·rw[bH e]at h;cases h
def Dx.pop(h:Dx N L m u F W none (λ_ _=>False)){x:Nat}{s:Bool}{d:Int×Nat}(e:W x s=some d)(hmin:∀y t d',W y t=some d'->d.1<=d'.1):Dx N L m u (kR F x s d) (Cc W x s) (some (x,s)) (λ_ _=>False):=by
 have I:=h.dj.dj x s d e;have moved:∀y t d',F y t=some d'\/W y t=some d'->kR F x s d y t=some d'\/Cc W x s y t=some d':=λy t d' q=>by
  by_cases z:y=x/\t=s
  ·obtain⟨rfl,rfl⟩:=z;rcases q with q|q
   ·rw[I]at q;cases q
   ·rw[e]at q;cases q;exact .inl (cj _ _ _ _)
  ·rw[bH z,p5 z];exact q
 refine⟨h.dj.pop e hmin,λy t d' k O q hk hj hd=>?_,λy t d' q=>?_,λy t d' q=>?_,moved _ _ _ h.s0⟩
 ·by_cases z:y=x/\t=s
  ·obtain⟨rfl,rfl⟩:=z;exact(hd rfl).elim
  ·rw[bH z]at q;obtain⟨d2,U,Y⟩:=h.cx y t d' k O q hk hj (λz=>nomatch z)
   exact⟨d2,moved _ _ _ U,Y⟩
 ·by_cases z:y=x/\t=s
  ·obtain⟨rfl,rfl⟩:=z;rw[cj]at q;cases q;exact(h.wo _ _ _ e).grow I
  ·rw[bH z]at q;exact(h.fo y t d' q).grow I
 ·by_cases z:y=x/\t=s
  ·obtain⟨rfl,rfl⟩:=z;rw[xo]at q;cases q
  ·rw[p5 z]at q;exact(h.wo y t d' q).grow I
def lx.trans{a b c:Int×Nat}(h1:lx a b)(h2:lx b c):lx a c:=by
 unfold lx at *
 lia
def Dx.put{done:Nat->Nat->Prop}{x:Nat}{s:Bool}(h:Dx N L m u F W (some (x,s)) done){d:Int×Nat}{k y:Nat}(e:F x s=some d)(h0:0<=d.1)(hk:k<N.n)(hL:0<L k)(hj:Jn N k x y)(hF:F y (s^^m.testBit k)=none)
 (hW:∀d',W y (s^^m.testBit k)=some d'->lx (stp L d k) d'):Dx N L m u F (kR W y (s^^m.testBit k) (stp L d k)) (some (x,s)) (λU Y=>done U Y\/(U = k/\Y = y)):=by
 have moved:∀v t d',F v t=some d'\/W v t=some d'->∃d2,(F v t=some d2\/kR W y (s^^m.testBit k) (stp L d k) v t=some d2)/\lx d2 d':=λv t d' q=>by
  rcases q with q|q
  ·exact⟨d',.inl q,.inr ⟨rfl,aam _⟩⟩
  ·by_cases z:v=y/\t=(s^^m.testBit k)
   ·obtain⟨rfl,rfl⟩:=z;exact⟨_,.inr (cj _ _ _ _),hW d' q⟩
   ·exact⟨d',.inr (by rw[bH z];exact q),.inr ⟨rfl,aam _⟩⟩
 refine⟨h.dj.put e hk (acZ hL) hj hF λd' q=>?_,λv t d' Z y2 q I N1 hd=>?_,h.fo,λv t d' q=>?_,?_⟩
 ·have:=hW d' q;unfold lx stp at this;simp only at this
  lia
 ·by_cases hd2:some (x,s)=some (v,t)->done Z y2
  ·obtain⟨d2,q2,l2⟩:=h.cx v t d' Z y2 q I N1 hd2;obtain⟨d3,q3,l3⟩:=moved _ _ _ q2;exact⟨d3,q3,l3.trans l2⟩
  ·have hn:some (x,s)=some (v,t):=abb λz=>hd2 λO=>absurd O z
   rcases hd hn with z|⟨rfl,rfl⟩
   ·exact absurd (λ_=>z) hd2
   ·cases hn;rw[e]at q;cases q;exact⟨_,.inr (cj _ _ _ _),.inr ⟨rfl,aam _⟩⟩
 ·by_cases z:v=y/\t=(s^^m.testBit k)
  ·obtain⟨rfl,rfl⟩:=z;rw[cj]at q;cases q;exact .inr ⟨x,s,d,k,e,hk,hj,rfl,rfl⟩
  ·rw[bH z]at q;exact h.wo v t d' q
 ·rcases h.s0 with q|q
  ·exact .inl q
  ·right
   rw[bH (λz=>?_)]
   ·exact q
   ·obtain⟨z1,O⟩:=z;have q':=q;rw[z1,O]at q';have:=hW _ q';unfold lx stp at this;simp only at this
    lia
def Dx.skip{done:Nat->Nat->Prop}{x:Nat}{s:Bool}(h:Dx N L m u F W (some (x,s)) done){d d2:Int×Nat}{k y:Nat}(e:F x s=some d)(hL:0<L k)(I:F y (s^^m.testBit k)=some d2\/(W y (s^^m.testBit k)=some d2/\lx d2 (stp L d k))):
 Dx N L m u F W (some (x,s)) (λZ y'=>done Z y'\/(Z = k/\y' = y)):=by
 have q3:F y (s^^m.testBit k)=some d2\/(W y (s^^m.testBit k)=some d2/\d2.1<=d.1+L k):=by
  rcases I with I|⟨I,O⟩
  ·exact .inl I
  ·refine .inr ⟨I,?_⟩;unfold lx stp at O;simp only at O
   lia
 refine⟨h.dj.skip e (acZ hL) q3,λv t d' U y2 q Y N1 hd=>?_,h.fo,h.wo,h.s0⟩
 by_cases hd2:some (x,s)=some (v,t)->done U y2
 ·exact h.cx v t d' U y2 q Y N1 hd2
 ·have hn:some (x,s)=some (v,t):=abb λz=>hd2 λz2=>absurd z2 z
  rcases hd hn with z|⟨rfl,rfl⟩
  ·exact absurd (λ_=>z) hd2
  ·cases hn;rw[e]at q;cases q;rcases I with I|⟨I,O⟩
   ·have:=h.dj.mx x s d _ _ d2 rfl e I;refine⟨d2,.inl I,.inl ?_⟩;show d2.1<d.1+L U
    lia
   ·exact⟨d2,.inr I,O⟩
def Dx.all{done:Nat->Nat->Prop}{x:Nat}{s:Bool}(h:Dx N L m u F W (some (x,s)) done)(ha:∀k y,k<N.n->Jn N k x y->done k y):Dx N L m u F W none (λ_ _=>False) :=
 ⟨h.dj.all ha,λv t d k y q hk hj _=>h.cx v t d k y q hk hj λz=>by cases z;exact ha k y hk hj,h.fo,h.wo,h.s0⟩
def Dj.less{now:Option (Nat×Bool)}{done done' : Nat->Nat->Prop}(h:Dj N L m u F W now done)(hd:∀k y,done' k y->done k y):Dj N L m u F W now done' :=
 ⟨h.fw,h.ww,h.dj,h.le,h.mx,λv t d k y q hk hj z=>h.cl v t d k y q hk hj λI=>hd _ _ (z I),h.st⟩
def Dx.less{now:Option (Nat×Bool)}{done done' : Nat->Nat->Prop}(h:Dx N L m u F W now done)(hd:∀k y,done' k y->done k y):Dx N L m u F W now done' :=
 ⟨h.dj.less hd,λv t d k y q hk hj z=>h.cx v t d k y q hk hj λI=>hd _ _ (z I),h.fo,h.wo,h.s0⟩
def Dx.fin(hL:∀k,k<N.n->0<L k)(hu:u<N.p)(h:Dx N L m u F W none (λ_ _=>False))(hW:∀x s,W x s=none):Fx N L m u F:=by
 refine⟨?_,λx s d k y e hk hj=>?_,h.fo,λy t d e=>?_⟩
 ·rcases h.s0 with q|q
  ·exact q
  ·rw[hW]at q;cases q
 ·obtain⟨d',q,l⟩:=h.cx x s d k y e hk hj (λz=>nomatch z)
  rcases q with q|q
  ·exact⟨d',q,l⟩
  ·rw[hW]at q;cases q
 ·obtain⟨pre,w⟩:=h.dj.fw y t d e;exact(mL (λk hk=>acZ (hL k hk)) hu w).2.2.2.2.2
end
section
variable {N:Net}{L:Nat->Int}{m:Nat}
def Lo(N:Net)(L:Nat->Int)(m:Nat)(z:Int)(e:Nat):Prop:=∃I:Nat->OW,(∀i,i<N.p->Fx N L m i (I i))/\(∃i,i<N.p/\I i i true=some (z,e))/\∀j d,j<N.p->I j j true=some d->lx (z,e) d
def Lo.uniq(hL:∀k,k<N.n->0<L k){z z' : Int}{e e' : Nat}(h:Lo N L m z e)(h' : Lo N L m z' e'):z=z'/\e=e':=by
 obtain⟨F,f1,⟨i,hi,f2⟩,f3⟩:=h;obtain⟨G,g1,⟨j,hj,g2⟩,g3⟩:=h';have I:F j=G j:=Fx.uniq hL (f1 j hj) (g1 j hj);have O:F i=G i:=Fx.uniq hL (f1 i hi) (g1 i hi);have:=(f3 j (z',e') hj (by rw[I];exact g2)).anti (g3 i (z,e) hi (by rw[<-O];exact f2))
 exact⟨aa4 Prod.fst this,aa4 Prod.snd this⟩
structure yy(N:Net)(L:Nat->Int)(m:Nat)(z:Int)(e:Nat):Prop where
 ring:N.Ring e
 lt:e<2^N.n
 par:N.par e m=true
 len:lsum L (λk=>e.testBit k) N.n=z
 way:∃x,x<N.p/\Wy N L m x x true z
 min:∀x z',x<N.p->Wy N L m x x true z'->z<=z'
def yy.least(hL:∀k,k<N.n->0<=L k){z:Int}{e r:Nat}(h:yy N L m z e)(hr:N.Ring r)(lr:r<2^N.n)(pr:N.par r m=true):z<=lsum L (λk=>r.testBit k) N.n:=by
 obtain⟨x,hx,hw⟩:=sH hL m hr lr;rw[pr]at hw;exact h.min x _ hx hw
end
end RM
namespace L2
open PySem PySem.Spec PyProof.Rows PySem.W
def SRun(r:Nat->Int){α:Type}:KasT α->α
 | .ret a=>a
 | .ask i j k=>SRun r (k (decide (r i<r j)))
section
variable {r:Nat->Int}
def kB{α β:Type}{f:α->KasT β}:∀(t:KasT α),SRun r (t.bind f)=SRun r (f (SRun r t))
 | .ret a=>by rw[KasT.bind.eq_1];rfl
 | .ask i j k=>by
   rw[KasT.bind.eq_2];exact kB (k _)
def Ce{n:Nat}{α:Type}{R:α->Prop}{cmp:Nat->Nat->(Bool->Shared->Prop)->Shared->Prop}{Q:α->Shared->Prop}{s:Shared}(hc:∀i j C,i<n->j<n->C (decide (r i<r j)) s->cmp i j C s):∀{t:KasT α},zJ n R t->(R (SRun r t)->Q (SRun r t) s)->KasT.kasWp cmp t Q s
 | .ret a,h,q=>q h
 | .ask i j k,h,q=>hc i j _ h.1 h.2.1 (Ce hc (h.2.2 _) q)
def Kr(r:Nat->Int)(p:Array Nat)(i:Nat):Int:=r (p.getD i 0)
def yz(p:Array Nat)(i:Nat):Kr r p i=r ((p[i]?).getD 0):=by
 unfold Kr;rw[ac2]
def Cf{p:Array Nat}{i j:Nat}(hj:j<=p.size)(k:Nat):Kr r (kas_rev p i j) k=if i<=k/\k<j then Kr r p (i+j-1-k) else Kr r p k:=by
 have e:=getElem?_mirror_all (i:=i) hj k;unfold kas_rev;rw[yz,e]
 split
 ·rw[yz]
 ·rw[yz]
def N8{p:Array Nat}{src d:Nat}(hs:src<p.size)(hd:d<=src)(k:Nat):Kr r (bubble p src d) k=if k=src-d then Kr r p src else if src-d<k/\k<=src then Kr r p (k-1) else Kr r p k:=by
 have e:=getElem?_bubble hs d hd k;rw[yz,e]
 split
 ·rw[yz]
 ·split
  ·rw[yz]
  ·rw[yz]
def oU(p:Array Nat)(i j:Nat):(kas_rev p i j).size=p.size:=mirror_size _ _ _ _
def Up(r:Nat->Int)(p:Array Nat)(n:Nat):Prop:=∀i,1<=i->i<n->Kr r p (i-1)<=Kr r p i
def Up.le{p:Array Nat}{n:Nat}(h:Up r p n):∀{i j:Nat},i<=j->j<n->Kr r p i<=Kr r p j:=by
 intro i j I;obtain⟨d,rfl⟩:=adl I;clear I
 induction d with
 | zero=>intro _;exact ab1 _
 | succ d O =>
   intro hj;have h1:=O (by lia)
   have h2:=h (i+(d+1)) (by lia) hj
   rw[show i+(d+1)-1=i+d by lia]at h2
   lia
def GG{p:Array Nat}:∀(f n:Nat),1<=n->Up r p n->n<=SRun r (kas_asc p f n)/\SRun r (kas_asc p f n)<=n+f/\Up r p (SRun r (kas_asc p f n))/\(SRun r (kas_asc p f n)<n+f->Kr r p (SRun r (kas_asc p f n))<Kr r p (SRun r (kas_asc p f n)-1))
 | 0,n,_,h=>by
   rw[kas_asc.eq_1];exact⟨aam n,aam n,h,λz=>absurd z (abN n)⟩
 | f+1,n,h1,h=>by
   rw[kas_asc.eq_2];show n<=SRun r (if decide (Kr r p n<Kr r p (n-1))=true then _ else _)/\SRun r (if decide (Kr r p n<Kr r p (n-1))=true then _ else _)<=_/\Up r p (SRun r (if decide (Kr r p n<Kr r p (n-1))=true then _ else _))/\_
   by_cases c:Kr r p n<Kr r p (n-1)
   ·show n<=SRun r (if decide (Kr r p n<Kr r p (n-1))=true then _ else _)/\SRun r (if decide (Kr r p n<Kr r p (n-1))=true then _ else _)<=_/\Up r p (SRun r (if decide (Kr r p n<Kr r p (n-1))=true then _ else _))/\(SRun r (if decide (Kr r p n<Kr r p (n-1))=true then _ else _)<_->Kr r p (SRun r (if decide (Kr r p n<Kr r p (n-1))=true then _ else _))<Kr r p (SRun r (if decide (Kr r p n<Kr r p (n-1))=true then _ else _)-1))
    rw[aai (dm c)];exact⟨aam n,acG _ _,h,λ_=>c⟩
   ·show n<=SRun r (if decide (Kr r p n<Kr r p (n-1))=true then _ else _)/\SRun r (if decide (Kr r p n<Kr r p (n-1))=true then _ else _)<=_/\Up r p (SRun r (if decide (Kr r p n<Kr r p (n-1))=true then _ else _))/\(SRun r (if decide (Kr r p n<Kr r p (n-1))=true then _ else _)<_->Kr r p (SRun r (if decide (Kr r p n<Kr r p (n-1))=true then _ else _))<Kr r p (SRun r (if decide (Kr r p n<Kr r p (n-1))=true then _ else _)-1))
    rw[aaf (by simpa using c)]
    have I:=GG (p:=p) f (n+1) (by lia) (λi hi hn=>by
     by_cases e:i=n
     ·rw[e];lia
     ·exact h i hi (by lia))
    refine⟨by lia,by lia,I.2.2.1,λz=>I.2.2.2 (by lia)⟩
def Down(r:Nat->Int)(p:Array Nat)(n q:Nat):Prop:=(∀i,1<=i->i<n->Kr r p i<=Kr r p (i-1))/\q+1<=n/\∀i,n-(q+1)<=i->i<n->Kr r p i=Kr r p (n-1)
def Down.rev{p:Array Nat}{n q:Nat}(h:Down r p n q)(hn:n<=p.size)(k:Nat):Kr r (kas_rev p (n-(q+1)) n) k=Kr r p k:=by
 rw[Cf hn]
 split
 ·rename_i hk
  rw[h.2.2 _ (by lia) (by have:=h.2.1;lia),h.2.2 k hk.1 hk.2]
 ·rfl
def p7:∀(f:Nat) {p:Array Nat} {n q:Nat},n+f<=p.size->Down r p n q->
 (SRun r (kas_desc f p n q)).1.size=p.size/\n<=(SRun r (kas_desc f p n q)).2.1/\(SRun r (kas_desc f p n q)).2.1<=n+f/\Down r (SRun r (kas_desc f p n q)).1 (SRun r (kas_desc f p n q)).2.1 (SRun r (kas_desc f p n q)).2.2
 | 0,p,n,q,_,h=>by
   rw[kas_desc.eq_1];exact⟨rfl,aam n,aam n,h⟩
 | f+1,p,n,q,hs,h=>by
   rw[kas_desc.eq_2];obtain⟨h1,h2,h3⟩:=id h
   by_cases c:Kr r p n<Kr r p (n-1)
   ·have dn:∀Y : Array Nat,(∀k,Kr r Y k=Kr r p k)->Down r Y (n+1) 0:=λY e=>by
     refine⟨λi hi hn=>?_,by lia,λi hi hn=>by rw[show i=n+1-1 by lia]⟩
     rw[e,e]
     by_cases z:i=n
     ·rw[z];lia
     ·exact h1 i hi (by lia)
    have Z:∀(I O:KasT (Array Nat×Nat×Nat)),SRun r (KasT.ask (p.getD n 0) (p.getD (n-1) 0) λc=>if c=true then I else O)=SRun r I:=λI O=>by
     show SRun r (if decide (Kr r p n<Kr r p (n-1))=true then I else O)=_
     rw[aai (dm c)]
    rw[Z]
    by_cases hq:q > 0
    ·rw[aai hq];have U:=p7 f (p:=kas_rev p (n-(q+1)) n) (n:=n+1) (q:=0) (by rw[oU];lia) (dn _ (h.rev (by lia)))
     rw[oU]at U;exact⟨U.1,by lia,by lia,U.2.2.2⟩
    ·rw[aaf hq];have U:=p7 f (p:=p) (n:=n+1) (q:=0) (by lia) (dn _ λ_=>rfl)
     exact⟨U.1,by lia,by lia,U.2.2.2⟩
   ·have Z:∀(I O:KasT (Array Nat×Nat×Nat)),SRun r (KasT.ask (p.getD n 0) (p.getD (n-1) 0) λc=>if c=true then I else O)=SRun r O:=λI O=>by
     show SRun r (if decide (Kr r p n<Kr r p (n-1))=true then I else O)=_
     rw[aaf (by simpa using c)]
    rw[Z]
    by_cases d:Kr r p (n-1)<Kr r p n
    ·have e1:∀(I O:KasT (Array Nat×Nat×Nat)),SRun r (KasT.ask (p.getD (n-1) 0) (p.getD n 0) λc=>if c=true then I else O)=SRun r I:=λI O=>by
      show SRun r (if decide (Kr r p (n-1)<Kr r p n)=true then I else O)=_
      rw[aai (dm d)]
     rw[e1];exact⟨rfl,aam n,acG _ _,h⟩
    ·have e1:∀(I O:KasT (Array Nat×Nat×Nat)),SRun r (KasT.ask (p.getD (n-1) 0) (p.getD n 0) λc=>if c=true then I else O)=SRun r O:=λI O=>by
      show SRun r (if decide (Kr r p (n-1)<Kr r p n)=true then I else O)=_
      rw[aaf (by simpa using d)]
     rw[e1];have U:=p7 f (p:=p) (n:=n+1) (q:=q+1) (by lia) ⟨λi hi hn=>by
      by_cases z:i=n
      ·rw[z];lia
      ·exact h1 i hi (by lia),by lia,λi hi hn=>by
      rw[show n+1-1=n by lia]
      by_cases z:i=n
      ·rw[z]
      ·have:=h3 i (by lia) (by lia)
       lia⟩
     exact⟨U.1,by lia,by lia,U.2.2.2⟩
def Ej(r:Nat->Int)(n:Nat)(x:Nat×Array Nat):Prop:=x.2.size=n/\1<=x.1/\x.1<=n/\Up r x.2 x.1
def Ek{n nrem:Nat}{p:Array Nat}{q:Nat}(h:Down r p n q)(hn:1<=n)(hle:n<=nrem)(hs:p.size=nrem):Ej r nrem (SRun r (kas_tail3 n nrem p)):=by
 have up:Up r (kas_rev p 0 n) n:=λi hi I=>by
  rw[Cf (by lia),Cf (by lia),aai (by lia),aai (by lia)]
  have:=h.1 (0+n-1-(i-1)) (by lia) (by lia)
  rw[show 0+n-1-(i-1)-1=0+n-1-i by lia]at this
  exact this
 have a:=GG (nrem-n) n hn up;unfold kas_tail3;rw[kB];exact⟨by show(kas_rev p 0 n).size=nrem;rw[oU,hs],by show 1<=SRun r _;lia,by show SRun r _<=nrem;lia,a.2.2.1⟩
def Down.congr{p p' : Array Nat}{n q:Nat}(h:Down r p n q)(e:∀k,Kr r p' k=Kr r p k):Down r p' n q:=⟨λi h1 h2=>by rw[e,e];exact h.1 i h1 h2,h.2.1,λi h1 h2=>by rw[e,e];exact h.2.2 i h1 h2⟩
def El{n nrem:Nat}{p:Array Nat}(hn:1<=n)(hle:n+1<=nrem)(hs:p.size=nrem)(heq:∀i,i<n->Kr r p i=Kr r p (n-1))(hlt:Kr r p n<Kr r p (n-1)):Ej r nrem (SRun r (kas_descPart n nrem p)):=by
 have d0:Down r p (n+1) 0:=⟨λi h1 h2=>by
  by_cases z:i=n
  ·rw[z];lia
  ·rw[heq i (by lia),heq (i-1) (by lia)]
   exact ab1 _,by lia,λi h1 h2=>by rw[show i=n+1-1 by lia]⟩
 have d:=p7 (nrem-(n+1)) (p:=p) (n:=n+1) (q:=0) (by lia) d0
 unfold kas_descPart;rw[kB];generalize SRun r (kas_desc (nrem-(n+1)) p (n+1) 0)=x at d;obtain⟨d1,d2,d3,d4⟩:=d
 by_cases I:x.2.2 > 0
 ·rw[aai I];exact Ek (d4.congr (d4.rev (by lia))) (by lia) (by lia) (by rw[oU,d1,hs])
 ·rw[aaf I];exact Ek d4 (by lia) (by lia) (by rw[d1,hs])
def KD{nrem:Nat}{p:Array Nat}(h1:1<=nrem)(hs:p.size=nrem):Ej r nrem (SRun r (kas_count nrem p)):=by
 have a:=GG (r:=r) (p:=p) (nrem-1) 1 (aam 1) (λi hi hn=>by lia)
 unfold kas_count;rw[kB];generalize SRun r (kas_asc p (nrem-1) 1)=n at a;obtain⟨a1,a2,O,Y⟩:=a
 by_cases e:(n==nrem)=true
 ·rw[aai e];exact⟨hs,a1,by show n<=nrem;lia,O⟩
 ·rw[aaf e];have e:n≠nrem:=by simpa using e
  have I:=Y (by lia)
  by_cases h2:n > 1
  ·rw[aai h2]
   by_cases c:Kr r p 0<Kr r p (n-1)
   ·show Ej r nrem (SRun r (if decide (Kr r p 0<Kr r p (n-1))=true then _ else _))
    rw[aai (dm c)];exact⟨hs,a1,by show n<=nrem;lia,O⟩
   ·show Ej r nrem (SRun r (if decide (Kr r p 0<Kr r p (n-1))=true then _ else _))
    rw[aaf (by simpa using c)]
    have all:∀i,i<n->Kr r p i=Kr r p (n-1):=λi hi=>by
     have l1:=O.le (show 0<=i by lia) hi
     have l2:=O.le (show i<=n-1 by lia) (by lia)
     lia
    have U:∀k,Kr r (kas_rev p 0 n) k=Kr r p k:=λk=>by
     rw[Cf (by lia)]
     split
     ·rw[all _ (by lia),all k (by lia)]
     ·rfl
    exact El a1 (by lia) (by rw[oU,hs]) (λi hi=>by rw[U,U];exact all i hi) (by rw[U,U];exact I)
  ·rw[aaf h2];have Z:n=1:=by lia
   subst Z;exact El a1 (by lia) hs (λi hi=>by rw[show i=1-1 by lia]) I
def yC{p:Array Nat}{k:Nat}(up:Up r p k):∀(f l u:Nat),u-l<=f->l<=u->u<=k->(∀i,i<l->Kr r p i<=Kr r p k)->(∀i,u<=i->i<k->Kr r p k<Kr r p i)->
 SRun r (kas_place p k f l u)<=k/\(∀i,i<SRun r (kas_place p k f l u)->Kr r p i<=Kr r p k)/\∀i,SRun r (kas_place p k f l u)<=i->i<k->Kr r p k<Kr r p i
 | 0,l,u,hf,hlu,huk,h1,h2=>by
   rw[kas_place.eq_1];have e:l=u:=by lia
   subst e;exact⟨huk,h1,h2⟩
 | f+1,l,u,hf,hlu,huk,h1,h2=>by
   rw[kas_place.eq_2]
   by_cases hx:l ≥ u
   ·rw[aai hx];have e:l=u:=by lia
    subst e;exact⟨huk,h1,h2⟩
   ·rw[aaf hx]
    by_cases c:Kr r p k<Kr r p ((l+u)/2)
    ·have U:∀(I O:KasT Nat),SRun r (KasT.ask (p.getD k 0) (p.getD ((l+u)/2) 0) λc=>if c=true then I else O)=SRun r I:=λI O=>by
      show SRun r (if decide (Kr r p k<Kr r p ((l+u)/2))=true then I else O)=_
      rw[aai (dm c)]
     rw[U];exact yC up f l ((l+u)/2) (by lia) (by lia) (by lia) h1 λi hi hk=>by
      have:=up.le hi hk
      lia
    ·have U:∀(I O:KasT Nat),SRun r (KasT.ask (p.getD k 0) (p.getD ((l+u)/2) 0) λc=>if c=true then I else O)=SRun r O:=λI O=>by
      show SRun r (if decide (Kr r p k<Kr r p ((l+u)/2))=true then I else O)=_
      rw[aaf (by simpa using c)]
     rw[U];exact yC up f ((l+u)/2+1) u (by lia) (by lia) huk (λi hi=>by
      have:=up.le (show i<=(l+u)/2 by lia) (by lia)
      lia) h2
def N9:∀(f:Nat) {p:Array Nat} {k:Nat},k+f<=p.size->Up r p k->Up r (SRun r (kas_bin f p k)) (k+f)
 | 0,p,k,_,h=>by
   rw[kas_bin.eq_1];exact h
 | f+1,p,k,hs,h=>by
   rw[kas_bin.eq_2,kB];have I:=yC h k 0 k (by lia) (by lia) (aam k) (λi hi=>by lia) (λi h1 h2=>by lia)
   generalize SRun r (kas_place p k k 0 k)=l at I;obtain⟨p1,p2,Z⟩:=I;have up:Up r (bubble p k (k-l)) (k+1):=λi hi hk=>by
    rw[N8 (by lia) (by lia),N8 (by lia) (by lia),show k-(k-l)=l by lia]
    by_cases O:i=l
    ·rw[aaf (by lia),aaf (by lia),aai O]
     exact p2 (i-1) (by lia)
    ·rw[aaf O]
     by_cases U:l<i/\i<=k
     ·rw[aai U]
      by_cases Y:i-1=l
      ·rw[aai Y];exact acZ (Z (i-1) (by lia) (by lia))
      ·rw[aaf Y,aai (by lia)]
       exact h (i-1) (by lia) (by lia)
     ·rw[aaf U,aaf (by lia),aaf (by lia)]
      exact h i hi (by lia)
   have:=N9 f (p:=bubble p k (k-l)) (k:=k+1) (by rw[bubble_size];lia) up
   rw[show k+(f+1)=k+1+f by lia]
   exact this
def Jh{n:Nat}(hn:1<=n):Up r (SRun r (kas_sort n)) n:=by
 unfold kas_sort;rw[kB];have c:=KD (r:=r) (p:=List.toArray (List.range n)) hn (by simp)
 generalize SRun r (kas_count n (List.toArray (List.range n)))=x at c;obtain⟨O,U,Y,I⟩:=c
 by_cases hx:x.1<n
 ·rw[aai hx];have:=N9 (n-max x.1 1) (p:=x.2) (k:=max x.1 1) (by lia) (by rw[show max x.1 1=x.1 by lia];exact I)
  rw[show max x.1 1+(n-max x.1 1)=n by lia]at this
  exact this
 ·rw[aaf hx];have e:x.1=n:=by lia
  rw[e]at I;exact I
end
def Cg:bootBuiltins "sorted"=some (.builtin "sorted"):=by kernel_rfl
def kx(z:Int×Int):Int:=z.1*1073741824+z.2
def W9(z:Int×Int):Prop:=0<=z.2/\z.2<1073741824
section
variable {X:Cx}{pq:aX}{σ:St}{H H2:Hp}{s:Shared}
def Inv.Q4{a:Addr}{xs:List V}{ob:Obj}(I:Inv X pq σ H s)(e:H a=some (.lst xs))(ho:s.heap.get? a=some ob):Inv X pq σ (upd H a (.n5 ob (.lst xs))) s:=by
 have ne:∀b,H b=none->b≠a:=λb h z=>by rw[z,e]at h;cases h
 refine⟨I.ok,I.os,I.bare,⟨I.base.keep,I.base.slot,λb o q n hx=>?_,I.base.there,λb xs q=>?_,λb o u q=>?_,λb ps q=>?_⟩,I.loc,I.cell,?_,λx c q=>?_,λp O=>?_,λb u q=>?_,I.len⟩
 ·have z:=I.base.free b o q n hx;rw[ah (ne b z)];exact z
 ·have z:=I.base.tups b xs q;rw[ah (aQ z e (by intro z;cases z))]
  exact z
 ·have z:=I.base.m3 b o u q;rw[ah (aQ z e (by intro z;cases z))]
  exact z
 ·obtain⟨more,z⟩:=I.base.oh b ps q;exact⟨more,by rw[ah (aQ z e (by intro z;cases z))];exact z⟩
 ·rw[ah (ne _ I.free)];exact I.free
 ·rw[ah (ne _ (I.gh x c q))];exact I.gh x c q
 ·obtain⟨a1,a2,U⟩:=I.pin p O;exact⟨a1,by rw[ah (ne _ a2)];exact a2,U⟩
 ·by_cases hb:b=a
  ·subst hb;rw[ae]at q;cases q;exact⟨ho,(I.hok b _ e).stay (λ_ _ _ q=>q) (λc q=>by rw[ah (aQ q e (by intro z;cases z))];exact q) λc xs q=>by rw[ah (aQ q e (by intro z;cases z))];exact q⟩
  ·rw[ah hb]at q;exact(I.hok b u q).stay (λ_ _ _ q=>q) (λc q=>by rw[ah (aQ q e (by intro z;cases z))];exact q) λc xs q=>by rw[ah (aQ q e (by intro z;cases z))];exact q
def Inv.Xa{yq:aX}{σ0:St}{s0:Shared}{a:Addr}{xs:List V}{ob:Obj}(I0:Inv X yq σ0 H s0)(e0:H a=some (.lst xs))(I:Inv X pq σ H2 s)(e:H2 a=some (.n5 ob (.lst xs))):
 Inv X pq σ (upd H2 a (.lst xs)) s:=by
 have ne:∀b,H2 b=none->b≠a:=λb h z=>by rw[z,e]at h;cases h
 obtain⟨Z,hd⟩:=(show bK X.prog X.w H2 s.heap a (.n5 ob (.lst xs)) from I.hok a _ e)
 refine⟨I.ok,I.os,I.bare,⟨I.base.keep,I.base.slot,λb o q n hx=>?_,I.base.there,λb xs q=>?_,λb o u q=>?_,λb ps q=>?_⟩,I.loc,I.cell,?_,λx c q=>?_,λp U=>?_,λb u q=>?_,I.len⟩
 ·have z:=I.base.free b o q n hx;rw[ah (ne b z)];exact z
 ·have z:=I.base.tups b xs q;rw[ah (aQ z e (by intro z;cases z))]
  exact z
 ·have z:=I.base.m3 b o u q;rw[ah (λy=>by
   have O:=I0.base.m3 b o u q;rw[y,e0]at O;cases O)]
  exact z
 ·obtain⟨more,z⟩:=I.base.oh b ps q;exact⟨more,by rw[ah (aQ z e (by intro z;cases z))];exact z⟩
 ·rw[ah (ne _ I.free)];exact I.free
 ·rw[ah (ne _ (I.gh x c q))];exact I.gh x c q
 ·obtain⟨a1,a2,Y⟩:=I.pin p U;exact⟨a1,by rw[ah (ne _ a2)];exact a2,Y⟩
 ·by_cases hb:b=a
  ·subst hb;rw[ae]at q;cases q;exact hd.stay (λ_ _ _ q=>q) (λc q=>by rw[ah (aQ q e (by intro z;cases z))];exact q) λc xs q=>by rw[ah (aQ q e (by intro z;cases z))];exact q
  ·rw[ah hb]at q;exact(I.hok b u q).stay (λ_ _ _ q=>q) (λc q=>by rw[ah (aQ q e (by intro z;cases z))];exact q) λc xs q=>by rw[ah (aQ q e (by intro z;cases z))];exact q
end
def Ji(h:Heap)(v:Value)(z:Int×Int):Prop:=∃(a:Addr) (o:Obj) (t u:Tok) (k:Nat),v = .ref a/\h.get? a=some o/\o.cls = .type "tuple"/\o.data = .seq #[.int z.1 t,.int z.2 u] k
def Ji.pair{h:Heap}{v:Value}{z:Int×Int}(q:Ji h v z):R0 h v:=let⟨a,o,t,u,k,q⟩:=q;⟨a,o,z.1,z.2,t,u,k,q⟩
def KG{prog:Program}{w:World}{A:Around}{s:Shared}{vs:List Value}{n:Nat}{zs:Nat->Int×Int}(hz:∀i,i<n->W9 (zs i))(hv:∀i,i<n->Ji s.heap (vs.getD i Value.none) (zs i)):
 ∀i j C,i<n->j<n->C (decide (kx (zs i)<kx (zs j))) s->kas_ask prog w A (tuples' true) vs i j C s:=by
 intro i j C hi hj I;unfold kas_ask;obtain⟨a,o,t,u,k,e,Z,_,hd⟩:=hv i hi;obtain⟨a',o',t',u',k',e',ho',_,hd'⟩:=hv j hj;have oi:=hz i hi;have O:=hz j hj;generalize zs i=z at hd I oi;generalize zs j=z' at hd' I O;obtain⟨x,y⟩:=z;obtain⟨x',y'⟩:=z';unfold kx at I;unfold W9 at oi O;dsimp only at hd hd' I oi O;rw[e,e'];refine kat_lt Z hd ho' hd' ?_;show KatLex prog w A true _ C [(.int x t,.int x' t'),(.int y u,.int y' u')] 0 s;rw[KatLex.eq_2];refine wpAny_eqBool_int ?_
 by_cases ex:x=x'
 ·rw[show(x==x')=true by simpa using ex]
  rw[aai rfl,KatLex.eq_2];refine wpAny_eqBool_int ?_
  by_cases Y:y=y'
  ·rw[show(y==y')=true by simpa using Y]
   rw[aai rfl,KatLex.eq_1];rw[gj (by lia)]at I
   exact I
  ·rw[show(y==y')=false by simpa using Y]
   rw[aaf aav];refine kat_one _ _ (lt_int ?_);have U:decide (y<y')=decide (x*1073741824+y<x'*1073741824+y'):=abv.mpr (by lia)
   rw[<-U]at I;exact I
 ·rw[show(x==x')=false by simpa using ex]
  rw[aaf aav];refine oneLt_int ?_;have U:decide (x<x')=decide (x*1073741824+y<x'*1073741824+y'):=abv.mpr (by lia)
  rw[<-U]at I;exact I
def Uu(P:Addr)(q:Str)(lp:Pos)(ta:TA)(te:TE)(js:List Nat):TE:=λσ H Q=>ta σ H λvs H1=>∃(a:Addr) (ns:List Int) (O:Int->Int×Int),vs=[.ref a]/\H1 a=some (.lst (ns.map V.int))/\ns.length<64/\(∀n∈ns,W9 (O n))/\H1 P=some (.jF (dU q lp))/\
 (∀H3,(∀b u,H1 b=some u->(∀y,u≠.own y)->(∀U,u≠.jF U)->H3 b=some u)->∀n∈ns,te (some (.int n)::gm σ js) H3 λv H4=>aq H3 H4/\∃d,v = .ref d/\H4 d=some (.tup [.int (O n).1,.int (O n).2]))/\
 ∀(l:Addr) (I : List Int) H4,H1 l=none->aq H1 H4->H4 l=some (.lst (I.map V.int))->I.Perm ns->I.Pairwise (λx y=>kx (O x)<=kx (O y))->Q (.ref l) H4
section
variable {X:Cx}{pq:aX}{σ:St}{H2:Hp}
def KH{A:Around}{E:dR}{P:PySem.Fin->Shared->Prop}{s:Shared}{H3:Hp}{D U:Addr}{e e1:Nat}{its:List Value}{ns:List Int}{ds:List Addr}{kf:Int->Int×Int}
 (I:Inv X ((U,seqObj "list" (ds.map Value.ref).toArray e)::pq) σ H3 s) (oK:GA X U) (pK:∀p∈pq,p.1≠U) (hD:H3 D=some (.n5 (seqObj "list" #[] e1) (.lst []))) (rv:Vals (ns.map V.int) its) (hn:ns.length<64) (hdl:ds.length=ns.length)
 (hk:∀(j:Nat) d n,ds[j]?=some d->ns[j]?=some n->H3 d=some (.tup [.int (kf n).1,.int (kf n).2])) (hok:∀n∈ns,W9 (kf n))
 {yq:aX} {σ0:St} {s0:Shared} {H0:Hp} (I0:Inv X yq σ0 H0 s0) (e0:H0 D=some (.lst []))
 (fin:∀(s' : Shared) (O : List Int),O.Perm ns->O.Pairwise (λx y=>kx (kf x)<=kx (kf y))->Inv X pq σ (upd (upd H3 D (.lst [])) D (.lst (O.map V.int))) s'->P (.done (.ret .none)) s') :
 wpAny (model X.prog X.w) A (ksk_end D false its.toArray e1 (.ref U) ((ds.map Value.ref).toArray)) P E s:=by
 have hl:its.length=ns.length:=by have:=rv.length;rw[aac]at this;lia
 obtain⟨aw,_⟩:=(show bK X.prog X.w H3 s.heap D (.n5 (seqObj "list" #[] e1) (.lst [])) from I.hok D _ hD)
 have GH:=I.pin (U,seqObj "list" (ds.map Value.ref).toArray e) (jY _ (.head _));have ax:D≠U:=λz=>by
  have:=GH.2.1;rw[<-z,hD]at this;cases this
 have tail:∀(st:SortSt) (O : List Int) (out:List Value),(arrOf st).map (·.2)=out.toArray->out.length<64->failedOf st=none->O.Perm ns->O.Pairwise (λx y=>kx (kf x)<=kx (kf y))->Vals (O.map V.int) out->wpAny (model X.prog X.w) A (ksk_tail D false e1 (.ref U) st) P E s:=by
  intro st O out ab hz hf hp hs hv;have s1:=abp s.heap U (Obj.mapSeq λ_=>(#[]:Array Value))
  have uE:(s.heap.update U (Obj.mapSeq λ_=>(#[]:Array Value))).get? D=some (seqObj "list" #[] e1):=(s1.2 D ax).trans aw
  have s2:=abp (s.heap.update U (Obj.mapSeq λ_=>(#[]:Array Value))) D (Obj.mapSeq λ_=>out.toArray)
  obtain⟨c2,ag⟩:∃c2,((s.heap.update U (Obj.mapSeq λ_=>(#[]:Array Value))).update D (Obj.mapSeq λ_=>out.toArray)).get? D=some (seqObj "list" out.toArray c2):=⟨_,get?_update_seq uE λ_=>out.toArray⟩
  unfold ksk_tail
  try dsimp only
  rw[ab];refine aV (listUpdate_at GH.1 rfl ?_ (by rw[aaG,aac,sizeLine_eq];lia) (aa3 _))
  refine aV (wpAny_letGo ?_);refine aV (seqEpoch_at uE rfl ?_);refine aV (listUpdate_at uE rfl ?_ (aa3 _) (by show out.toArray.size<=_;rw[aaG,sizeLine_eq];lia))
  rw[hf];simp only[bne_self_eq_false,abK,if_false];have J1:=I.lF (t':=s.toks) (h':=s.heap.update U (Obj.mapSeq λ_=>(#[]:Array Value))) (pb:=pq) oK (.head _) (λc u ne e=>(s1.2 c ne).trans e) (λp hp=>.inr ⟨.tail _ hp,pK p hp⟩)
  have J2:=Inv.Xa I0 e0 J1 hD;have J3:=J2.write (x:=D) (e:=D) (o:=.lst (O.map V.int)) (t':=s.toks) (h':=(s.heap.update U (Obj.mapSeq λ_=>(#[]:Array Value))).update D (Obj.mapSeq λ_=>out.toArray)) (by rw[ae];trivial) (.inl rfl) (λb u nb eb=>(s2.2 b nb).trans eb) ⟨_,ag⟩
   ⟨by rw[aac,hp.length_eq,sizeLine_eq];lia,out,c2,hv,ag⟩
  exact aaq (fin _ O hp hs J3)
 by_cases h2:2<=ns.length
 ·have kv:∀i,i<its.length->Ji s.heap ((ds.map Value.ref).getD i Value.none) (kf (ns.getD i 0)):=λi hi=>by
   have e1:ds[i]?=some (ds[i]'(by lia)):=aag _
   have e2:ns[i]?=some (ns[i]'(by lia)):=aag _
   have hd:=hk i _ _ e1 e2;obtain⟨ts,rt,⟨o,eo,hc,n,aT⟩,_⟩:=I.tuple (aU.of hd);have g1:(ds.map Value.ref).getD i Value.none = .ref (ds[i]'(by lia)):=by rw[aad,aaw,e1];rfl
   have g2:ns.getD i 0=ns[i]'(by lia):=by rw[aad,e2];rfl
   rw[g1,g2]
   match ts,rt with
   | [_,_],.cons ⟨t,rfl⟩ (.cons ⟨u,rfl⟩ .nil)=>exact⟨_,o,t,u,n,rfl,eo,hc,aT⟩
  have kz:∀i,i<its.length->W9 (kf (ns.getD i 0)):=λi hi=>by
   have e2:ns[i]?=some (ns[i]'(by lia)):=aag _
   rw[aad,e2];exact hok _ (abZ _)
  have ar:(ds.map Value.ref).length=its.length:=by rw[aac];lia
  have Y : ¬ its.toArray.size<2:=by rw[aaG];lia
  unfold ksk_end
  try dsimp only
  rw[aaf aav,aaf Y,aaf Y,aaf aav];refine aV (Kl (by rw[aac];lia) (λv hv=>?_) ?_)
  ·obtain⟨i,hi,rfl⟩:=List.mem_iff_getElem.mp hv;have:=(kv i (by lia)).pair
   rw[aad,aag hi]at this;exact this
  refine aV (aa8 (kat_run (Q:=λZ s'=>s' = s/\∃p:Array Nat,eE its.length p/\Up (λi=>kx (kf (ns.getD i 0))) p its.length/\(arrOf Z).map (·.2)=(p.toList.map λi=>its.getD i Value.none).toArray/\failedOf Z = none) (G:=λp s'=>s' = s/\eE its.length p/\Up (λi=>kx (kf (ns.getD i 0))) p its.length)
   ar (by lia) (by lia) (λp Z s' a1 a2 a3 a4=>⟨a4.1,p,a4.2.1,a4.2.2,kat_snds ar a2,a3⟩) ?_) ?_ λ_ _ x=>x)
  ·exact Ce (r:=λi=>kx (kf (ns.getD i 0))) (n:=its.length) (KG kz kv) (Jc (by lia)) λhg=>⟨rfl,hg,Jh (by lia)⟩
  ·rintro⟨⟨⟩,Z⟩ s' ⟨rfl,p,hg,hu,a5,hf⟩
   try dsimp only
   have a7:p.toList.length=its.length:=by have:=hg.length_eq;rw[aaK]at this;exact this
   refine tail Z (p.toList.map λi=>ns.getD i 0) _ a5 (by rw[aac];lia) hf ?_ ?_ ?_
   ·have h1:=List.Perm.map (λi=>ns.getD i 0) hg
    have h3:(List.range its.length).map (λi=>ns.getD i 0)=ns:=by
     rw[hl];refine ac3 (by simp) λi h1 h2=>?_
     simp[aad,aag h2]
    rw[h3]at h1;exact h1
   ·rw[abH,ac7];intro i j hi hj a6;have:=hu.le (abq a6) (by lia)
    have ga:∀i (hi:i<p.toList.length),p.getD i 0=p.toList[i]:=λi hi=>by
     rw[ac2,<-ach,aag hi];rfl
    unfold Kr at this;rw[ga i hi,ga j hj]at this;exact this
   ·have:∀l:List Nat,(∀i∈l,i<ns.length)->Vals ((l.map λi=>ns.getD i 0).map V.int) (l.map λi=>its.getD i Value.none):=λl=>by
     induction l with
     | nil=>exact λ_=>.nil
     | cons i l ih =>
       intro h;refine .cons ?_ (ih λj hj=>h j (nU _ hj))
       have hi:=h i aaF;have h1:(ns.map V.int)[i]?=some (.int (ns.getD i 0)):=by
        rw[aaw,aad,aag hi];rfl
       obtain⟨u,hu,ru⟩:=rv.get h1;have gu:its.getD i Value.none=u:=by rw[aad,hu];rfl
       show RelV (V.int (ns.getD i 0)) (its.getD i Value.none);rw[gu];exact ru
    refine this _ λi hi=>?_
    have:=aaI.mp (hg.mem_iff.mp hi)
    lia
 ·have Y:its.toArray.size<2:=by rw[aaG];lia
  unfold ksk_end
  try dsimp only
  rw[aaf aav,aai Y,aai Y,aaf aav];refine aV (aaq ?_);refine aV (m:=pure ((),SortSt.mk' general' (((ds.map Value.ref).toArray).zip its.toArray) #[] 7 none)) (aaq ?_);refine tail _ ns its ?_ (by lia) rfl (adj _) ?_ rv
  ·show Array.map (λx:Keyed=>x.snd) (((ds.map Value.ref).toArray).zip its.toArray)=its.toArray
   apply Array.toList_inj.mp;simp;exact ad0 (by rw[aac];lia)
  ·match ns,h2 with
   | [],_=>exact .nil
   | [x],_=>exact List.pairwise_singleton _ _
   | _::_::_,h2=>exact absurd (by simp:2<=_) h2
end
section
variable {X:Cx}{params:Arguments}{body e:Expr}{scope:Scope}{lp p pos kp:Pos}{fq:List Str}{js:List Nat}{x:Str}{ta:TA}{te:TE}{c0 P:Addr}{k:Nat}
def Oa(hr:eJ (k+3) X.A)(T:eY X scope [x] fq js)(hx:scope.names.lookup x=some .local)(hg:Gl X "sorted")(hm:X.mg "sorted"=none)(hcode:X.env.code = .ref c0)(hK:PySem.W.codeHdIn X.K c0 P=true)(ha:PA X [e] ta)
 (he:∀f c s H,eJ k (yr X ([x]++fq) scope f c X.A.in1.in1 s H).A->PE (yr X ([x]++fq) scope f c X.A.in1.in1 s H) body te)
 (hb:∀c ctv u,bindArgs (D7 X params body scope c ctv) ⟨[u],[]⟩=pure [(x,u)]:=by intro _ _ _;rfl) (hco:scope.isCoroutine=false:=by rfl) (hgen:scope.isGenerator=false:=by rfl)
 (hdef:defaultsOf params X.env=([],[]):=by rfl)
 (hs:backTo pos (starEach [e] X.env)=(false,eval e X.env)::backTo pos (starEach [] X.env):=by rfl) (hs2:(backTo pos (starEach [e] X.env)).any (·.1)=false:=by rfl) :
 PE X (.Call (.Name "sorted" p) [e] [⟨some (Str.ofString "key"),.Lambda params body scope lp,kp⟩] pos) (Uu P (X.env.qual ++ "<lambda>") lp ta te js):=by
 intro pq s σ H Q I h;refine wpAny_Call_Name_kw (om I hg hm Cg (callWith_kw (dh (ha pos pq s σ H _ I h) λus s1 Y=>?_) hs hs2 rfl rfl))
 obtain⟨vs,H1,I1,r1,a,ns,kf,rfl,ba,bb,hok,hP,ax,Ui⟩:=Y;obtain⟨u,rfl,rx⟩:=vals1 r1;cases rx;refine kws_cons (D8 I1 T hcode hK hP hdef λf c oc ctv s2 hc D9 a5 J=>kws_nil ?_)
 show wpAny _ X.A (call (.builtin "sorted") [.ref a] [(Str.ofString "key",.ref f)]) _ _ s2;have a6:=xn (oc:=oc) hP hc ba (by intro y z;cases z) (by intro y z;cases z)
 have Uj:gP H1 P c oc (X.env.qual ++ "<lambda>") lp P=some (.jF (dU (X.env.qual ++ "<lambda>") lp++qv lp c)):=ae;have QZ:gP H1 P c oc (X.env.qual ++ "<lambda>") lp c=some (.n5 oc (.own P)):=by unfold gP;rw[ah D9,ae]
 have Sa:∀b,gP H1 P c oc (X.env.qual ++ "<lambda>") lp b=none->H1 b=none:=λb hb=>by
  have bP:b≠P:=λz=>by rw[z,Uj]at hb;cases hb
  have bc:b≠c:=λz=>by rw[z,QZ]at hb;cases hb
  unfold gP at hb
  rwa [ah bP,ah bc]at hb
 have a7:∀b u,H1 b=some u->(∀y,u≠.own y)->(∀qs,u≠.jF qs)->gP H1 P c oc (X.env.qual ++ "<lambda>") lp b=some u:=λb u U n1 n2=>xn hP hc U n1 n2
 generalize bo:gP H1 P c oc (X.env.qual ++ "<lambda>") lp=HL at J a6 Uj QZ Sa a7;obtain⟨O,rv,⟨o,n,ho,bp,b6,hd⟩,hz⟩:=J.list (aR.of a6);have hl:=rv.length;rw[aac]at hl;have ag:O.length<=sizeLine:=dl (abM.mpr (by lia))
 refine call_function_entry_kw kind_sorted plain_sorted entry_sorted (ksk_s1 _ _) ?_;unfold Builtin.«sorted»;refine aV (m:=checkCount "sorted" 1 1 _) (aaq ?_);refine aV (wpAny_collect_seq a (T:="list") (.inl rfl) ho bp hd (λh1 hk=>?_) (by rw[aaG];exact ag))
 have J1:=J.kept (t':=s2.toks) hk;have aw:HL h1.objs.size=none:=J1.hok.fresh (aam _);refine aV (wpAny_newList ?_ (by simpa using ag))
 have e0:O.toArray.toList=O:=by simp
 rw[e0];have Al:(h1.push (seqObj "list" O.toArray 0)).get? h1.objs.size=some (seqObj "list" O.toArray 0):=aaN _ rfl;have J2:Inv X ((f,fD X params body scope c ctv)::pq) σ (upd HL h1.objs.size (.lst (ns.map V.int))) { s2 with heap:=h1.push (seqObj "list" O.toArray 0)}:=by
  refine J1.laid (t':=s2.toks) (λb o hb=>?_) (aam _) ⟨?_,O,0,rv,Al⟩
  ·rw[acD _ _ _ (aaP (aax hb))];exact hb
  ·rw[aac,hl];exact ag
 generalize b7:h1.objs.size=D at aw Al J2;refine aV (abg (wpAny_call_entry_kw slot_list_sort ⟨_,Al,rfl⟩ entry_list_sort ?body (ksk_l1 _ _)));show wpAny (model X.prog X.w) X.A.in1.in1 (Builtin.«list.sort» ⟨[.ref D],[(Str.ofString "key",.ref f)]⟩) _ _ _;rw[ksk_t1];generalize h1.push (seqObj "list" O.toArray 0)=h2 at Al J2;have bt:=abp h2 D (Obj.mapSeq λ_=>(#[]:Array Value))
 obtain⟨Z,Po⟩:∃Z,(h2.update D (Obj.mapSeq λ_=>(#[]:Array Value))).get? D=some (seqObj "list" #[] Z):=⟨_,get?_update_seq Al λ_=>#[]⟩
 unfold ksk_tree;refine aV (listItems_at Al rfl ?_);refine aV (listUpdate_at Al rfl ?_ (by rw[aaG];exact ag) (aa3 _))
 refine aV (seqEpoch_at Po rfl ?_);refine aV (wpAny_newTuple ?_ (by show O.toArray.toList.length<=_;rw[e0];exact ag))
 refine aV (wpAny_newList ?_ (aa3 _));refine abg ?_;have J3:=J2.write (x:=D) (e:=D) (o:=.lst []) (t':=s2.toks) (h':=h2.update D (Obj.mapSeq λ_=>(#[]:Array Value))) (by rw[ae];trivial) (.inl rfl) (λb u nb U=>(bt.2 b nb).trans U) ⟨_,Po⟩ ⟨aa3 _,[],Z,.nil,Po⟩
 have J4:=J3.Q4 (a:=D) ae Po;generalize Qh:upd (upd (upd HL D (.lst (ns.map V.int))) D (.lst [])) D (.n5 (seqObj "list" #[] Z) (.lst []))=H2 at J4;have at2:∀b u,HL b=some u->H2 b=some u:=λb u U=>by
  have nb:b≠D:=λz=>by rw[z,aw]at U;cases U
  rw[<-Qh,ah nb,ah nb,ah nb];exact U
 have j9:H2 D=some (.n5 (seqObj "list" #[] Z) (.lst [])):=by rw[<-Qh,ae]
 generalize h2.update D (Obj.mapSeq λ_=>(#[]:Array Value))=h3 at J3 J4
 rw[e0];have bw:∀b u,h3.get? b=some u->((h3.push (seqObj "tuple" O.toArray 0)).push (seqObj "list" #[] 0)).get? b=some u:=λb u U=>aao _ (aao _ U)
 have hS:(h3.push (seqObj "tuple" O.toArray 0)).objs.size=h3.objs.size+1:=size_push' ..;have oK:=J4.NQ (b:=(h3.push (seqObj "tuple" O.toArray 0)).objs.size) (by show h3.objs.size<=_;rw[hS];exact abO _)
 have gK:((h3.push (seqObj "tuple" O.toArray 0)).push (seqObj "list" #[] 0)).get? (h3.push (seqObj "tuple" O.toArray 0)).objs.size=some (seqObj "list" #[] 0):=aaN _ rfl;have bD:H2 (h3.push (seqObj "tuple" O.toArray 0)).objs.size=none:=J4.hok.fresh (by show h3.objs.size<=_;rw[hS];exact abO _)
 have Q0:∀q∈(f,fD X params body scope c ctv)::pq,q.1<h3.objs.size:=λq Y=>aax (J4.pin q (jY _ Y)).1
 have J5:Inv X (((h3.push (seqObj "tuple" O.toArray 0)).objs.size,seqObj "list" #[] 0)::(f,fD X params body scope c ctv)::pq) σ H2 { s2 with heap:=(h3.push (seqObj "tuple" O.toArray 0)).push (seqObj "list" #[] 0)}:=by
  have K:=J4.kept (t':=s2.toks) bw;refine K.ia λq Y=>?_
  rcases aaC.mp Y with rfl|Y
  ·exact⟨gK,bD,oK.2.1,oK.2.2.1,λv z=>by cases z⟩
  ·exact K.pin q (jY _ Y)
 have pK:∀q∈(f,fD X params body scope c ctv)::pq,q.1≠(h3.push (seqObj "tuple" O.toArray 0)).objs.size:=λq Y=>by
  have:=Q0 q Y;rw[hS];exact aaP (abG this)
 have cb:O.toArray.size=O.length:=aaG ..;show wpAny (model X.prog X.w) X.A.in1.in1 (ksk_rest D (.ref f) false O.toArray Z (.ref (h3.push (seqObj "tuple" O.toArray 0)).objs.size)) _ _ { s2 with heap:=(h3.push (seqObj "tuple" O.toArray 0)).push (seqObj "list" #[] 0)}
 generalize (h3.push (seqObj "tuple" O.toArray 0)).objs.size=kS at oK J5 pK;generalize (h3.push (seqObj "tuple" O.toArray 0)).push (seqObj "list" #[] 0)=h4 at J5;unfold ksk_rest;refine aV (wpAny_rule ?_);rw[List.forIn_toArray];refine aV (ksk_fold (λi s'=>∃H3 ds en,aq H2 H3/\Inv X ((kS,seqObj "list" ((ds.map Value.ref).toArray) en)::(f,fD X params body scope c ctv)::pq) σ H3 s'/\ds.length=i/\∀(j:Nat) d n,ds[j]?=some d->ns[j]?=some n->H3 d=some (.tup [.int (kf n).1,.int (kf n).2]))
  O 0 _ ⟨H2,[],0,aq.refl _,J5,rfl,λj d n z=>by cases z⟩ ?_ ?_)
 ·rintro j y s' hy ⟨H3,ds,en,Fl,I3,ar,ab⟩;rw[Nat.zero_add]at ar ⊢;have hj:j<O.length:=(jo.mp hy).1;have a8:ns[j]?=some (ns[j]'(by lia)):=aag _
  obtain⟨uu,hu,ru⟩:=rv.get (show(ns.map V.int)[j]?=some (.int (ns[j]'(by lia))) by rw[aaw,a8];rfl)
  rw[hy]at hu;cases hu;obtain⟨bR,_⟩:=(show bK X.prog X.w H3 s'.heap c (.n5 oc (.own P)) from I3.hok c _ (Fl _ _ (at2 _ _ QZ)))
  have aT:X.A.in1.in1.depth<recursionLimit:=((hr.in1).in1).depth;refine aV (wpAny_attempt (aa8 (Ed (v:=.int (ns[j]'(by lia))) I3 T hx I3.ok.frames rfl aT (List.Mem.tail _ (.head _)) (a5.rec bR) (hb c ctv _) hco hgen (he f c s' H3 (((hr.in1).in1).deeper _)) ru
   (ax H3 (λb u U n1 n2=>Fl _ _ (at2 _ _ (a7 b u U n1 n2))) _ (abZ _))) (λv s3 hv=>?_) λ_ _ z=>z))
  obtain⟨w',H4,I4,b2,a9,d,rfl,Xb⟩:=hv;cases b2;have GH:=I4.pin (kS,_) (jY _ (.head _));have sb:=abp s3.heap kS (Obj.mapSeq (·.push (.ref d)));have ea:((ds.map Value.ref).toArray).push (.ref d)=((ds++[d]).map Value.ref).toArray:=by simp
  obtain⟨c2,b3⟩:∃c2,(s3.heap.update kS (Obj.mapSeq (·.push (.ref d)))).get? kS=some (seqObj "list" (((ds++[d]).map Value.ref).toArray) c2):=⟨_,by rw[<-ea];exact get?_update_seq GH.1 (·.push (.ref d))⟩
  try dsimp only
  refine aV (listUpdate_at GH.1 rfl ?_ (by rw[aaG,aac,sizeLine_eq];lia) (aa0 (acV (Array.size_push ..)) (by rw[aaG,aac,sizeLine_eq];lia)))
  refine aaq ⟨rfl,H4,ds++[d],c2,λb u z=>a9 _ _ (Fl _ _ z),?_,by rw[aaz,abt,ar],λi d' n' Z e2=>?_⟩
  ·exact I4.lF (t':=s3.toks) oK (.head _) (λb u nb U=>(sb.2 b nb).trans U) λq Y=>by
    rcases aaC.mp Y with rfl|Y
    ·exact .inl ⟨rfl,b3,λv z=>by cases z⟩
    ·exact .inr ⟨.tail _ Y,pK q Y⟩
  ·by_cases hi:i<ds.length
   ·rw[aba hi]at Z;exact a9 _ _ (ab i d' n' Z e2)
   ·rw[abf (by lia)]at Z
    have b4:i=j:=by
     have:=(jo.mp Z).1;rw[abt]at this
     lia
    subst b4;rw[ar,acX]at Z;have Z:d=d':=by simpa using Z
    rw[a8]at e2;cases e2;rw[<-Z];exact Xb
 ·rintro s' ⟨H3,ds,en,Fl,I3,ar,ab⟩;rw[Nat.zero_add]at ar;have GH:=I3.pin (kS,_) (jY _ (.head _))
  try dsimp only
  refine aV (listItems_at GH.1 rfl ?_);refine KH I3 oK pK (Fl _ _ j9) rv bb (by lia) ab hok J3 ae λs5 a3 hp b5 I5=>⟨_,rfl,aaq ⟨_,rfl,?_⟩⟩
  have I6:Inv X pq σ (upd (upd H3 D (.lst [])) D (.lst (a3.map V.int))) s5:=I5.ia λq Y=>I5.pin q (jY _ (.tail _ Y))
  have nD:∀b u,HL b=some u->b≠D:=λb u U z=>by rw[z,aw]at U;cases U
  have a4:∀b u,HL b=some u->upd (upd H3 D (.lst [])) D (.lst (a3.map V.int)) b=some u:=λb u U=>by
   rw[ah (nD b u U),ah (nD b u U)];exact Fl _ _ (at2 _ _ U)
  have I7:=Eb I1 hP hc D9 a5 I6 (a4 _ _ Uj) (a4 _ _ QZ);refine⟨.ref D,_,I7,rfl,Ui D a3 _ (Sa D aw) (Ec hP hc D9 (oc:=oc) λb u U=>a4 b u (by rw[<-bo];exact U)) ?_ hp b5⟩
  unfold given;rw[ah (λz=>nD _ _ Uj z.symm),ah (λz=>nD _ _ QZ z.symm),ae]
end
def gQ(x y:Int×Int×Int):Prop:=x.1<y.1\/(x.1=y.1/\(x.2.1<y.2.1\/(x.2.1=y.2.1/\x.2.2<y.2.2)))
instance (x y:Int×Int×Int):Decidable (gQ x y):=by unfold gQ;infer_instance
def gQ.trans{x y z:Int×Int×Int}(h:gQ x y)(h' : gQ y z):gQ x z:=by
 unfold gQ at h h' ⊢
 lia
def gQ.irr{x:Int×Int×Int}(h:gQ x x):False:=by
 unfold gQ at h
 lia
def Sb(x y:Int×Int×Int):gQ x y\/x=y\/gQ y x:=by
 by_cases h:gQ x y
 ·exact .inl h
 by_cases h' : gQ y x
 ·exact .inr (.inr h')
 refine .inr (.inl ?_);unfold gQ at h h';obtain⟨a,b,c⟩:=x;obtain⟨a',b',c'⟩:=y;dsimp only at h h';obtain rfl:a=a':=by lia
 obtain rfl:b=b':=by lia
 obtain rfl:c=c':=by lia
 rfl
def xY{α:Type}{p q:α->Bool}(h:∀a,p a=true->q a=true):∀l:List α,(l.filter p).length<=(l.filter q).length
 | []=>aam _
 | a::l=>by
   have I:=xY h l;cases hp:p a with
   | true =>
     rw[abP hp,abP (h a hp)];exact Nat.succ_le_succ I
   | false =>
     rw[aco (by rw[hp];decide)]
     cases hq:q a with
     | true=>rw[abP hq];exact Nat.le_succ_of_le I
     | false=>rw[aco (by rw[hq];decide)];exact I
def Ob{α:Type}{p q:α->Bool}(h:∀a,p a=true->q a=true){x:α}(hq:q x=true)(hp:p x=false):∀{l:List α},x∈l->(l.filter p).length<(l.filter q).length
 | a::l,hm=>by
   rcases aaC.mp hm with rfl|hm
   ·rw[abP hq,aco (by rw[hp];decide)]
    exact Nat.lt_succ_of_le (xY h l)
   ·have I:=Ob h hq hp hm;cases e:p a with
    | true =>
      rw[abP e,abP (h a e)];exact Nat.succ_lt_succ I
    | false =>
      rw[aco (by rw[e];decide)]
      cases e2:q a with
      | true=>rw[abP e2];exact abG I
      | false=>rw[aco (by rw[e2];decide)];exact I
def Py(l:List (Int×Int×Int))(x:Int×Int×Int):Int:=((l.filter λy=>decide (gQ y x)).length:Int)
def GI{l:List (Int×Int×Int)}{x y:Int×Int×Int}(hx:x∈l)(h:gQ x y):Py l x<Py l y:=by
 have:=Ob (p:=λz=>decide (gQ z x)) (q:=λz=>decide (gQ z y)) (λz hz=>dm ((ko hz).trans h)) (dm h) (gj λz=>z.irr) hx
 unfold Py
 lia
def Q5{l:List (Int×Int×Int)}{x y:Int×Int×Int}(hx:x∈l)(hy:y∈l):decide (Py l x<Py l y)=decide (gQ x y):=by
 refine abv.mpr ⟨λh=>?_,GI hx⟩
 rcases Sb x y with z|z|z
 ·exact z
 ·subst z;exact absurd h (by lia)
 ·have:=GI hy z
  lia
def Xc(h:Heap)(v:Value):Prop:=∃(a:Addr) (o:Obj) (x y z:Int) (t u r:Tok) (k:Nat),v = .ref a/\h.get? a=some o/\o.cls = .type "tuple"/\o.data = .seq #[.int x t,.int y u,.int z r] k
def Oc(h:Heap)(v:Value)(z:Int×Int×Int):Prop:=∃(a:Addr) (o:Obj) (t u r:Tok) (k:Nat),v = .ref a/\h.get? a=some o/\o.cls = .type "tuple"/\o.data = .seq #[.int z.1 t,.int z.2.1 u,.int z.2.2 r] k
def Oc.R4{h:Heap}{v:Value}{z:Int×Int×Int}(q:Oc h v z):Xc h v:=let⟨a,o,t,u,r,k,q⟩:=q;⟨a,o,z.1,z.2.1,z.2.2,t,u,r,k,q⟩
def Od{prog:Program}{w:World}{A:Around}{s:Shared}{vs:List Value}{n:Nat}{zs:Nat->Int×Int×Int}{l:List (Int×Int×Int)}(hz:∀i,i<n->zs i∈l)(hv:∀i,i<n->Oc s.heap (vs.getD i Value.none) (zs i)):
 ∀i j C,i<n->j<n->C (decide (Py l (zs i)<Py l (zs j))) s->kas_ask prog w A (tuples' true) vs i j C s:=by
 intro i j C hi hj I;rw[Q5 (hz i hi) (hz j hj)]at I;unfold kas_ask;obtain⟨a,o,t,u,r,k,e,Y,_,hd⟩:=hv i hi;obtain⟨a',o',t',u',r',k',e',ho',_,hd'⟩:=hv j hj;generalize zs i=z at hd I;generalize zs j=z' at hd' I;obtain⟨x,y,m⟩:=z;obtain⟨x',y',m'⟩:=z';dsimp only at hd hd';have ht:gQ (x,y,m) (x',y',m')↔(x<x'\/(x=x'/\(y<y'\/(y=y'/\m<m')))):=Iff.rfl;rw[e,e'];refine kat_lt Y hd ho' hd' ?_;show KatLex prog w A true _ C [(.int x t,.int x' t'),(.int y u,.int y' u'),(.int m r,.int m' r')] 0 s;rw[KatLex.eq_2];refine wpAny_eqBool_int ?_
 by_cases ex:x=x'
 ·rw[show(x==x')=true by simpa using ex]
  rw[aai rfl,KatLex.eq_2];refine wpAny_eqBool_int ?_
  by_cases U:y=y'
  ·rw[show(y==y')=true by simpa using U]
   rw[aai rfl,KatLex.eq_2];refine wpAny_eqBool_int ?_
   by_cases em:m=m'
   ·rw[show(m==m')=true by simpa using em]
    rw[aai rfl,KatLex.eq_1];rw[gj (by rw[ht];lia)]at I
    exact I
   ·rw[show(m==m')=false by simpa using em]
    rw[aaf aav];refine kat_one _ _ (lt_int ?_);have O:decide (m<m')=decide (gQ (x,y,m) (x',y',m')):=abv.mpr (by rw[ht];lia)
    rw[O];exact I
  ·rw[show(y==y')=false by simpa using U]
   rw[aaf aav];refine kat_one _ _ (lt_int ?_);have O:decide (y<y')=decide (gQ (x,y,m) (x',y',m')):=abv.mpr (by rw[ht];lia)
   rw[O];exact I
 ·rw[show(x==x')=false by simpa using ex]
  rw[aaf aav];refine oneLt_int ?_;have O:decide (x<x')=decide (gQ (x,y,m) (x',y',m')):=abv.mpr (by rw[ht];lia)
  rw[O];exact I
def Oe{prog:Program}{w:World}{A:Around}{E:dR}{s:Shared}{vs:List Value}{Q:SortKind->Shared->Prop}(hn:0<vs.length)(I:∀v∈vs,Xc s.heap v)(q:Q (tuples' true) s):wpAny (model prog w) A (keyKind' vs.toArray) Q E s:=by
 obtain⟨fs,hl,hf,hk⟩:∃fs:List Value,fs.length=vs.length/\(∀v∈fs,∃x t,v=Value.int x t)/\KatTups s.heap vs fs:=by
  clear q hn
  induction vs with
  | nil=>exact⟨[],rfl,λv I=>(by cases I),by rw[KatTups.eq_1];trivial⟩
  | cons v vs U =>
    obtain⟨fs,h1,h2,Y⟩:=U λv O=>I v (nU _ O)
    obtain⟨a,o,x,y,z,t,u,r,k,e,Z,hc,hd⟩:=I v aaF;refine⟨.int x t::fs,by simp[h1],λv' O=>?_,?_⟩
    ·rcases aaC.mp O with rfl|O
     ·exact⟨x,t,rfl⟩
     ·exact h2 v' O
    ·rw[KatTups.eq_2];exact⟨⟨a,o,_,k,e,Z,hc,hd,rfl⟩,Y⟩
 refine kat_kind (T:=.type "int") hk (by lia) (λv I=>?_) (by decide) q
 obtain⟨x,t,rfl⟩:=hf v I;intro A Q E s _ q;exact aaq q
section
variable {X:Cx}{pq:aX}{σ:St}{H:Hp}{s:Shared}
def KI{a:Addr}{ps:List (Addr×Int×Int×Int)}{its:List Value}{E:dR}{P:PySem.Fin->Shared->Prop}{A:Around}(I:Inv X pq σ (upd H a (.lst (ps.map λq=>V.ref q.1))) s)(ha:H a=none)(ho:s.heap.get? a=some (seqObj "list" its.toArray 0))(rv:Vals (ps.map λq=>V.ref q.1) its)
 (U:∀q∈ps,H q.1=some (.tup [.int q.2.1,.int q.2.2.1,.int q.2.2.2])) (h2:2<=ps.length) (hn:ps.length<64)
 (k:∀(h' : Heap) (c:Nat) (Y : List (Addr×Int×Int×Int)) (out:List Value),Y.Perm ps->Y.Pairwise (λx y=>¬ gQ y.2 x.2)->Vals (Y.map λq=>V.ref q.1) out->h'.get? a=some (listOf out.toArray c)->(∀m,s.heap.Ns X.env.locals m->h'.Ns X.env.locals m)->(∀b o,b≠X.env.locals->b≠a->s.heap.get? b=some o->h'.get? b=some o)->P (PySem.Fin.done (PySem.Flow.ret PySem.Value.none)) { s with heap:=h'}) :
 wpAny (model X.prog X.w) A (PySem.Builtin.«list.sort» { pos:=[PySem.Value.ref a]}) P E s:=by
 have hl:=rv.length;rw[aac]at hl;obtain⟨m,F⟩:=I.fr;have aT:a≠X.env.locals:=λz=>by
  have:=I.free;rw[<-z,ae]at this;cases this
 have hb:X.base.get? a=none:=by
  cases e:X.base.get? a with
  | none=>rfl
  | some o =>
    have:=(I.bs a o e).2;rw[ae]at this;cases this
 have N:News X.base X.env.locals s.heap (rest X.base s.heap X.env.locals a):=λp U=>L0 p (aaX.mp U).1
 have at_:∀i,i<ps.length->its.getD i Value.none = .ref (ps.getD i (0,0,0,0)).1/\ps.getD i (0,0,0,0)∈ps:=λi hi=>by
  have h1:(ps.map λq=>V.ref q.1)[i]?=some (.ref (ps.getD i (0,0,0,0)).1):=by
   rw[aaw,aad,aag hi];rfl
  obtain⟨u,hu,ru⟩:=rv.get h1;refine⟨?_,?_⟩
  ·rw[aad,hu];exact ru
  ·rw[aad,aag hi];exact abZ hi
 refine kat_list_sort F N ho aT hb Ig (by lia) (by lia) λe1 h' F' N'=>?_
 have kept:=rF (d:=a) I.bk F' λp U=>N' p (nU _ U)
 have pv:∀q∈ps,Oc h' (.ref q.1) q.2:=λq hq=>by
  have hH:=U q hq;have ne1:q.1≠a:=λz=>by
   rw[z,ha]at hH;cases hH
  have Z : upd H a (.lst (ps.map λq=>V.ref q.1)) q.1=some (.tup [.int q.2.1,.int q.2.2.1,.int q.2.2.2]):=by rw[ah ne1];exact hH
  have ne2:q.1≠X.env.locals:=λz=>by
   have:=I.free;rw[<-z,Z]at this;cases this
  obtain⟨ts,rt,⟨o,e,hc,n,hd⟩,_⟩:=I.tuple (aU.of Z)
  match ts,rt with
  | [_,_,_],.cons ⟨t,rfl⟩ (.cons ⟨u,rfl⟩ (.cons ⟨v,rfl⟩ .nil))=>exact⟨q.1,o,t,u,v,n,rfl,kept _ _ ne2 ne1 e,hc,hd⟩
 have ab:∀i,i<its.length->Oc h' (its.getD i Value.none) (ps.getD i (0,0,0,0)).2:=λi hi=>by
  obtain⟨e,hm⟩:=at_ i (by lia)
  rw[e];exact pv _ hm
 refine Oe (by lia) (λv hv=>?_) (Ce (r:=λi=>Py (ps.map λq=>q.2) (ps.getD i (0,0,0,0)).2) (n:=its.length) (Od (λi hi=>aaH.mpr ⟨_,(at_ i (by lia)).2,rfl⟩) ab) (Jc (by lia)) (λUv=>?_))
 ·obtain⟨i,hi,rfl⟩:=List.mem_iff_getElem.mp hv;have:=(ab i hi).R4;rw[aad,aag hi]at this;exact this
 have ag:=Jh (r:=λi=>Py (ps.map λq=>q.2) (ps.getD i (0,0,0,0)).2) (n:=its.length) (by lia)
 generalize SRun (λi=>Py (ps.map λq=>q.2) (ps.getD i (0,0,0,0)).2) (kas_sort its.length)=O at Uv ag ⊢
 refine KasFin.intro F' N' (UpdF.head Ig) λar c aw ax=>?_
 have Xd:∀b o,b≠X.env.locals->b≠a->s.heap.get? b=some o->ar.get? b=some o:=rF (d:=a) I.bk aw λp U=>ax p (nU _ U)
 have Jj:(O.toList.map λi=>ps.getD i (0,0,0,0)).Perm ps:=by
  have h1:=List.Perm.map (λi=>ps.getD i (0,0,0,0)) Uv
  have h2:(List.range its.length).map (λi=>ps.getD i (0,0,0,0))=ps:=by
   rw[<-hl];refine ac3 (by simp) λi h1 h2=>?_
   simp[aad,aag h2]
  rw[h2]at h1;exact h1
 have a6:O.toList.length=its.length:=by have:=Uv.length_eq;rw[aaK]at this;exact this
 have a3:(O.toList.map λi=>ps.getD i (0,0,0,0)).Pairwise (λx y=>¬ gQ y.2 x.2):=by
  rw[abH,ac7];intro i j hi hj a4;have:=ag.le (abq a4) (by lia)
  have ga:∀i (hi:i<O.toList.length),O.getD i 0=O.toList[i]:=λi hi=>by
   rw[ac2,<-ach,aag hi];rfl
  unfold Kr at this;rw[ga i hi,ga j hj]at this;have mem:∀i (hi:i<O.toList.length),(ps.getD O.toList[i] (0,0,0,0)).2∈ps.map λq=>q.2:=λi hi=>by
   have h3:=aaI.mp (Uv.mem_iff.mp (abZ hi));exact aaH.mpr ⟨_,(at_ _ (by lia)).2,rfl⟩
  dsimp only at this;exact λz=>absurd (GI (mem j hj) z) (by lia)
 refine k ar c _ _ Jj a3 ?_ (ax _ aaF).1 (λm' a5=>?_) Xd
 ·have:∀l:List Nat,(∀i∈l,i<ps.length)->Vals ((l.map λi=>ps.getD i (0,0,0,0)).map λq=>V.ref q.1) (l.map λi=>its.getD i Value.none):=λl=>by
   induction l with
   | nil=>exact λ_=>.nil
   | cons i l ih =>
     intro h;refine .cons ?_ (ih λj hj=>h j (nU _ hj))
     exact(at_ i (h i aaF)).1
  refine this _ λi hi=>?_
  have:=aaI.mp (Uv.mem_iff.mp hi)
  lia
 ·rw[Ua a5 F.ns];exact aw.ns
end
open PySem PySem.Spec PyProof.Rows
section
variable {X:Cx}
def Bb(K:bJ)(hK:X.K=K:=by rfl):ic X (.builtin "sorted") (λxs H Q=>∃(p:Addr) (ps:List (Addr×Int×Int×Int)),xs=[.ref p]/\aU K H p (ps.map λq=>V.ref q.1)/\(∀q∈ps,H q.1=some (.tup [.int q.2.1,.int q.2.2.1,.int q.2.2.2]))/\ps.length<64/\
 ∀(l:Addr) (O : List (Addr×Int×Int×Int)),H l=none->O.Perm ps->O.Pairwise (λx y=>¬ gQ y.2 x.2)->Q (.ref l) (upd H l (.lst (O.map λq=>V.ref q.1)))):=by
 subst hK;intro pq s σ H xs us Q I r h;obtain⟨p,ps,rfl,hq,hp,hn,q⟩:=h;obtain⟨u,rfl,rx⟩:=vals1 r;cases rx;obtain⟨its,rv,⟨o,ho,hc,n,hd⟩,hz⟩:=I.tuple hq;have hl:=rv.length;rw[aac]at hl;have U:its.length<=sizeLine:=dl (abM.mpr (by lia))
 refine Calls.call_function_entry kind_sorted plain_sorted entry_sorted (args_sorted1 _) ?_;unfold Builtin.«sorted»;refine aV (m:=checkCount "sorted" 1 1 _) (aaq ?_);refine aV (wpAny_collect_seq p (T:="tuple") (.inr rfl) ho hc hd (λh1 hk=>?_) (by rw[aaG];exact U))
 have I1:=I.kept (t':=s.toks) hk;have Y:H h1.objs.size=none:=I1.hok.fresh (aam _);refine aV (wpAny_newList ?_ (by simpa using U))
 have Z:(h1.push (seqObj "list" its.toArray.toList.toArray 0)).get? h1.objs.size=some (seqObj "list" its.toArray.toList.toArray 0):=aaN _ rfl;have e0:its.toArray.toList=its:=by simp
 rw[e0]at Z;have I2:Inv X pq σ (upd H h1.objs.size (.lst (ps.map λq=>V.ref q.1))) { s with heap:=h1.push (seqObj "list" its.toArray 0)}:=by
  refine I1.laid (t':=s.toks) (λb o hb=>?_) (aam _) ⟨?_,its,0,rv,Z⟩
  ·rw[acD _ _ _ (aaP (aax hb))];exact hb
  ·rw[aac,hl];exact U
 rw[e0];refine aV (abg (wpAny_call_entry slot_list_sort ⟨_,Z,rfl⟩ entry_list_sort (?_) (args_list_sort _)));have Xe:∀O : List (Addr×Int×Int×Int),O.Perm ps->(O.map λq=>V.ref q.1).length<=sizeLine:=λO Uv=>by
  rw[aac,Uv.length_eq,hl];exact U
 have kp:∀b u,h1.get? b=some u->(h1.push (seqObj "list" its.toArray 0)).get? b=some u:=λb u e=>by
  rw[acD _ _ _ (aaP (aax e))];exact e
 by_cases h2:2<=ps.length
 ·refine KI I2 Y Z rv hp h2 hn λh' c O out Jj ar aw ab ax Xf=>⟨_,rfl,aaq ⟨_,rfl,?_⟩⟩
  refine⟨.ref h1.objs.size,_,I1.WT (t':=s.toks) (o:=.lst (O.map λq=>V.ref q.1)) (λb u hb e=>Xf b u hb (aaP (aax e)) (kp b u e)) (λm hm=>ax m ?_) (aam _) ⟨Xe _ Jj,out,c,aw,ab⟩,rfl,q _ O Y Jj ar⟩
  obtain⟨o',es,ep,e,z⟩:=hm;exact⟨o',es,ep,kp _ _ e,z⟩
 ·have few:ps.Pairwise (λx y=>¬ gQ y.2 x.2):=by
   match ps,h2 with
   | [],_=>exact .nil
   | [x],_=>exact List.pairwise_singleton _ _
   | _::_::_,h2=>exact absurd (by simp:2<=_) h2
  refine Nu Z (by lia) ⟨_,rfl,aaq ⟨_,rfl,?_⟩⟩
  obtain⟨e,he⟩:=sortedHeap_at (out:=its.toArray) Z;refine⟨.ref h1.objs.size,_,I1.laid (t':=s.toks) (o:=.lst (ps.map λq=>V.ref q.1)) (λb o hb=>?_) (aam _) ⟨Xe ps (adj _),its,e,rv,he⟩,rfl,q _ ps Y (adj _) few⟩
  have ag:=aax hb;show(sortedHeap (h1.push (seqObj "list" its.toArray 0)) h1.objs.size its its.toArray).get? b=some o;rw[sortedHeap_old (aaP ag) (by rw[size_push'];exact abG ag)]
  exact kp b o hb
end
end L2
namespace RM
section
variable {N:Net}{L:Nat->Int}
def Em(q m m' : Nat):N.par q (m^^^m')=(N.par q m^^N.par q m'):=by
 have e:∀a b:Nat,N.par a b=N.par b a:=λa b=>bV λk _=>Bool.and_comm _ _
 rw[e,pU,e m,e m']
def tD{f:Nat->Bool}:∀{n i:Nat},i<n->(∀k,k<n->k≠i->f k=false)->bU f n=f i
 | 0,i,h,_=>absurd h (abI _)
 | n+1,i,h,hz=>by
   show(bU f n^^f n)=f i
   by_cases e:i=n
   ·subst e;rw[kq λk hk=>hz k (by lia) (by lia),aci]
   ·rw[tD (show i<n by lia) λk hk ne=>hz k (by lia) ne,hz n (by lia) (λz=>e z.symm),abD]
def Bc{f:Nat->Bool}:∀{n:Nat},bU f n=true->∃i,i<n/\f i=true
 | 0,h=>by cases h
 | n+1,h=>by
   have h:(bU f n^^f n)=true:=h;cases hf:f n with
   | true=>exact⟨n,by lia,hf⟩
   | false =>
     rw[hf,abD]at h;obtain⟨i,h1,h2⟩:=Bc h;exact⟨i,by lia,h2⟩
def yD(f:Nat->Bool):∀n,bU f (n+1)=(f 0^^bU (λi=>f (i+1)) n)
 | 0=>by
   show(false^^f 0)=(f 0^^false);rw[aci,abD]
 | n+1=>by
   show(bU f (n+1)^^f (n+1))=(f 0^^(bU (λi=>f (i+1)) n^^f (n+1)))
   rw[yD f n,Bool.xor_assoc]
def oW(m:Nat):∀(B:List Nat) (z:Nat),N.par (comb B z) m=bU (λi=>z.testBit i&&N.par (B.getD i 0) m) B.length
 | [],z=>mJ m
 | b::B,z=>by
   show N.par ((if z.testBit 0=true then b else 0)^^^comb B (z/2)) m=bU _ (B.length+1)
   rw[pU,oW m B (z/2),yD];have I:N.par (if z.testBit 0=true then b else 0) m=(z.testBit 0&&N.par b m):=by
    cases z.testBit 0 with
    | true=>simp
    | false=>simp[mJ]
   rw[I];have O:bU (λi=>(z/2).testBit i&&N.par (B.getD i 0) m) B.length=bU (λi=>z.testBit (i+1)&&N.par ((b::B).getD (i+1) 0) m) B.length:=bV λi _=>by
    rw[acI];rfl
   rw[O];rfl
def len(N:Net)(L:Nat->Int)(r:Nat):Int:=lsum L (λk=>r.testBit k) N.n
structure DP(N:Net)(L:Nat->Int)(bs us:List Nat):Prop where
 lens:bs.length=us.length
 ring:∀b∈bs,N.Ring b/\b<2^N.n
 own:∀(i b w:Nat),bs[i]?=some b->us[i]?=some w->N.par b w=true/\∀r,N.Ring r->r<2^N.n->N.par r w=true->len N L b<=len N L r
 R4:∀(i j b w:Nat),i<j->bs[i]?=some b->us[j]?=some w->N.par b w=false
def DP.start:DP N L [] []:=⟨rfl,λb h=>(acu h).elim,λi b w h=>(by simp at h),λi j b w _ h=>(by simp at h)⟩
def DP.snoc{bs us:List Nat}{b w:Nat}(h:DP N L bs us)(hr:N.Ring b)(Y:b<2^N.n)(ho:N.par b w=true)(hm:∀r,N.Ring r->r<2^N.n->N.par r w=true->len N L b<=len N L r)(he:∀I∈bs,N.par I w=false):DP N L (bs++[b]) (us++[w]):=by
 have at_:∀{l:List Nat} {x i y:Nat},(l++[x])[i]?=some y->(i<l.length/\l[i]?=some y)\/(i=l.length/\y=x):=λ{l x i y} e=>by
  by_cases hi:i<l.length
  ·rw[aba hi]at e;exact .inl ⟨hi,e⟩
  ·have h2:=(jo.mp e).1;rw[aaz,abt]at h2;have h3:i=l.length:=by lia
   rw[abf (by lia),h3,acX]at e
   exact .inr ⟨h3,(Option.some.inj e).symm⟩
 refine⟨by rw[aaz,aaz,h.lens];rfl,λI hb=>?_,λi I Z h1 h2=>?_,λi j I Z ab h1 h2=>?_⟩
 ·rcases aa9.mp hb with z|z
  ·exact h.ring I z
  ·rw[aaW.mp z];exact⟨hr,Y⟩
 ·have Y:=h.lens;rcases at_ h1 with⟨l1,O⟩|⟨l1,O⟩<;>rcases at_ h2 with⟨l2,U⟩|⟨l2,U⟩
  ·exact h.own i I Z O U
  ·lia
  ·lia
  ·rw[O,U];exact⟨ho,hm⟩
 ·have Y:=h.lens;rcases at_ h1 with⟨l1,O⟩|⟨l1,O⟩<;>rcases at_ h2 with⟨l2,U⟩|⟨l2,U⟩
  ·exact h.R4 i j I Z ab O U
  ·rw[U];exact he I (jV O)
  ·lia
  ·lia
section
variable {bs us:List Nat}
def DP.at(h:DP N L bs us){i:Nat}(hi:i<bs.length):∃w,us[i]?=some w/\bs[i]?=some (bs.getD i 0):=by
 have h1:i<us.length:=by rw[<-h.lens];exact hi
 exact⟨us[i],aag h1,by rw[aad,aag hi];rfl⟩
def Ci{f:Nat->Prop}:∀{n i:Nat},i<n->f i->∃l,l<n/\f l/\∀j,l<j->j<n->¬ f j
 | 0,i,h,_=>absurd h (abI _)
 | n+1,i,h,hf=>by
   by_cases hn:f n
   ·exact⟨n,by lia,hn,λj h1 h2=>by lia⟩
   ·have hi:i<n:=by
     rcases Nat.lt_or_ge i n with z|z
     ·exact z
     ·have e:i=n:=by lia
      rw[e]at hf;exact absurd hf hn
    obtain⟨l,h1,h2,I⟩:=Ci hi hf;refine⟨l,by lia,h2,λj O U=>?_⟩
    by_cases e:j=n
    ·rw[e];exact hn
    ·exact I j O (by lia)
def DP.parts(h:DP N L bs us){z:Nat}(hr:N.Ring (comb bs z))(hl:comb bs z<2^N.n):∀i,i<bs.length->z.testBit i=true->len N L (bs.getD i 0)<=len N L (comb bs z):=by
 intro i hi hz;apply abb;intro hc;obtain⟨l,h1,⟨h2,Z⟩,h4⟩:=Ci (f:=λi=>z.testBit i=true/\¬ len N L (bs.getD i 0)<=len N L (comb bs z)) hi ⟨hz,hc⟩
 obtain⟨w,hw,hb⟩:=h.at h1;obtain⟨o1,o2⟩:=h.own l _ w hb hw;have U:=oW (N:=N) w bs z
 by_cases hx:∃j,l<j/\j<bs.length/\z.testBit j=true/\N.par (bs.getD j 0) w=true
 ·obtain⟨j,j1,Y,j3,j4⟩:=hx;obtain⟨_,_,I⟩:=h.at Y;obtain⟨rj,lj⟩:=h.ring _ (jV I);have k1:=o2 _ rj lj j4;have k2:len N L (bs.getD j 0)<=len N L (comb bs z):=abb λhn=>h4 j j1 Y ⟨j3,hn⟩
  lia
 ·rw[tD (i:=l) h1 (λj hj ne=>?_),h2,o1]at U
  ·exact Z (o2 _ hr hl U)
  ·cases hzj:z.testBit j with
   | false=>rfl
   | true =>
     rcases Nat.lt_or_ge j l with O|ab
     ·obtain⟨_,_,I⟩:=h.at hj;rw[h.R4 j l _ w O I hw];rfl
     ·cases hpj:N.par (bs.getD j 0) w with
      | false=>rfl
      | true=>exact absurd ⟨j,by lia,hj,hzj,hpj⟩ hx
def DP.ind(h:DP N L bs us):zK bs:=by
 intro z hz hc;apply abb;intro I;obtain⟨i,hi⟩:=abL I;have O:=oO hz hi;obtain⟨l,h1,h2,h4⟩:=Ci (f:=λi=>z.testBit i=true) O hi
 obtain⟨w,hw,hb⟩:=h.at h1;obtain⟨o1,_⟩:=h.own l _ w hb hw;have Y:=oW (N:=N) w bs z;rw[hc,mJ,tD (i:=l) h1 (λj hj ne=>?_),h2,o1]at Y
 ·cases Y
 ·cases hzj:z.testBit j with
  | false=>rfl
  | true =>
    have U:j<l:=by
     rcases Nat.lt_or_ge j l with z|z
     ·exact z
     ·exact absurd hzj (h4 j (by lia) hj)
    obtain⟨_,_,Z⟩:=h.at hj;rw[h.R4 j l _ w U Z hw];rfl
end
def Base.span{rs:List Nat}(h:Base N rs){e:Nat}(he:N.fJ e)(hl:e<2^N.n):∃z,z<2^rs.length/\comb rs z=e:=by
 apply xm;apply abb;intro hn;have h1:zK (rs++[e]):=tu.mpr ⟨h.ind,hn⟩;have h2:=Uc (N:=N) h1 (λb hb=>by
  rcases aa9.mp hb with z|z
  ·exact⟨(h.ring b z).1.2.1,(h.ring b z).2⟩
  ·rw[aaW.mp z];exact⟨he,hl⟩)
 rw[aaz,abt,h.len]at h2
 lia
def LB(N:Net)(L:Nat->Int)(rs:List Nat):Prop:=Base N rs/\∀r m,N.Ring r->r<2^N.n->N.par r m=true->∃b∈rs,N.par b m=true/\len N L b<=len N L r
def LB.perm{rs rs' : List Nat}(h:LB N L rs)(p:rs'.Perm rs):LB N L rs':=⟨h.1.perm p,λr m h1 h2 I=>let⟨b,hb,q⟩:=h.2 r m h1 h2 I;⟨b,p.mem_iff.mpr hb,q⟩⟩
def DP.least{bs us:List Nat}(h:DP N L bs us)(hl:bs.length=N.bf.length):LB N L bs:=by
 have O:Base N bs:=⟨hl,h.ring,h.ind⟩;refine⟨O,λr m hr I U=>?_⟩
 obtain⟨z,hz,rfl⟩:=O.span hr.2.1 I;rw[oW]at U;obtain⟨i,hi,h1⟩:=Bc U;have h1:=ac4.mp h1;obtain⟨_,_,hb⟩:=h.at hi;exact⟨_,jV hb,h1.2,h.parts hr I i hi h1.1⟩
structure Wt(N:Net)(bs ws cs:List Nat):Prop where
 lens:ws.length=cs.length
 sum:bs.length+ws.length=N.bf.length
 ch:∀c∈cs,c<N.n/\N.oG c=false
 lt:∀w∈ws,w<2^N.n
 bits:∀w∈ws,∀k,w.testBit k=true->N.oG k=false
 own:∀(i j w c:Nat),ws[i]?=some w->cs[j]?=some c->w.testBit c=decide (i=j)
 iD:∀w∈ws,∀b∈bs,N.par b w=false
def Wt.odd{bs ws cs:List Nat}{w:Nat}(h:Wt N bs (w::ws) cs):∃r,N.Ring r/\r<2^N.n/\N.par r w=true:=by
 have U:=h.lens
 match cs,U,h with
 | c::cs,U,h =>
   obtain⟨I,O⟩:=h.ch c aaF;refine⟨N.ring c,A4 I O,wZ I,?_⟩;have e:N.par (N.ring c) w=((N.ring c).testBit c&&w.testBit c):=tD (f:=λk=>(N.ring c).testBit k&&w.testBit k) I λk hk ne=>by
    cases hw:w.testBit k with
    | false=>exact acs _
    | true =>
      have:=qT O (h.bits w aaF k hw);rw[this,gj (λz=>ne z.symm)]
      rfl
   rw[e,xP O,h.own 0 0 w c rfl rfl];rfl
def Wt.next{bs ws cs:List Nat}{w b:Nat}(h:Wt N bs (w::ws) cs)(ho:N.par b w=true):∃c I,cs=c::I/\Wt N (bs++[b]) (ws.map λv=>if N.par b v=true then v^^^w else v) I:=by
 have Y:=h.lens
 match cs,Y,h with
 | c::cs,Y,h =>
   refine⟨c,cs,rfl,?_⟩;have hw:=h.lt w aaF;have O:∀v∈ws,v∈w::ws:=λv z=>nU _ z
   refine⟨by rw[aac];simpa using Y,?_,λd hd=>h.ch d (nU _ hd),λZ U=>?_,λZ U k hk=>?_,λi j Z d h1 h2=>?_,λZ U b' ab=>?_⟩
   ·have:=h.sum;rw[abj]at this;rw[aaz,abt,aac]
    lia
   ·obtain⟨v,m,rfl⟩:=aaH.mp U
    split
    ·exact abu (h.lt v (O v m)) hw
    ·exact h.lt v (O v m)
   ·obtain⟨v,m,rfl⟩:=aaH.mp U
    split at hk
    ·rw[aaB]at hk;cases h1:v.testBit k with
     | true=>exact h.bits v (O v m) k h1
     | false =>
       rw[h1,aci]at hk;exact h.bits w aaF k hk
    ·exact h.bits v (O v m) k hk
   ·rw[aaw]at h1;obtain⟨v,RG,rfl⟩:=vY.mp h1;have e1:=h.own (i+1) (j+1) v d (by simpa using RG) (by simpa using h2)
    have e2:=h.own 0 (j+1) w d rfl (by simpa using h2)
    have e3:decide (i+1=j+1)=decide (i=j):=abv.mpr (by lia)
    rw[e3]at e1
    split
    ·rw[aaB,e1,e2];simp
    ·exact e1
   ·obtain⟨v,m,rfl⟩:=aaH.mp U;rcases aa9.mp ab with z|z
    ·have z1:=h.iD v (O v m) b' z;have z2:=h.iD w aaF b' z
     split
     ·rw[Em,z1,z2];rfl
     ·exact z1
    ·rw[aaW.mp z]
     split
     ·rename_i hp
      rw[Em,hp,ho];rfl
     ·rename_i hp
      cases hq:N.par b v with
      | false=>rfl
      | true=>exact absurd hq hp
def Wt.start(nd:N.bf.Nodup):Wt N [] (N.bf.map λc=>2^c) N.bf:=by
 refine⟨aac ..,by rw[aac];simp,λc hc=>eN.mp hc,λw hw=>?_,λw hw k hk=>?_,λi j w c h1 h2=>?_,λw _ b hb=>by cases hb⟩
 ·obtain⟨c,hc,rfl⟩:=aaH.mp hw;exact acm (by decide) (eN.mp hc).1
 ·obtain⟨c,hc,rfl⟩:=aaH.mp hw;rw[aaQ]at hk;rw[<-ko hk];exact(eN.mp hc).2
 ·rw[aaw]at h1;obtain⟨d,hd,rfl⟩:=vY.mp h1;rw[aaQ];refine abv.mpr ⟨λz=>?_,λz=>?_⟩
  ·subst z;obtain⟨a1,a2⟩:=jo.mp hd;obtain⟨b1,b2⟩:=jo.mp h2;exact(adv nd).mp (a2.trans b2.symm)
  ·subst z;rw[hd]at h2;exact Option.some.inj h2
inductive En(N:Net)(L:Nat->Int)(Uw:List Nat):List Nat->List Nat->Prop
 | start:En N L Uw [] Uw
 | step {bs ws:List Nat} {w e:Nat} {z:Int} (h:En N L Uw bs (w::ws)) (lo:Lo N L w z e):En N L Uw (bs++[e]) (ws.map λv=>if N.par e v=true then v^^^w else v)
def En.uniq(hL:∀k,k<N.n->0<L k){Uw bs ws:List Nat}(h:En N L Uw bs ws):∀{I U:List Nat},En N L Uw I U->bs.length=I.length->bs=I/\ws=U:=by
 induction h with
 | start =>
   intro I U h' O;cases h' with
   | start=>exact⟨rfl,rfl⟩
   | step h lo=>rw[aaz]at O;simp at O
 | step h lo ih =>
   intro I U h' O;cases h' with
   | start=>rw[aaz]at O;simp at O
   | step h2 lo2 =>
     rw[aaz,aaz]at O;obtain⟨Y,Z⟩:=ih h2 (by simpa using O)
     obtain⟨rfl,rfl⟩:=List.cons.inj Z;obtain⟨_,rfl⟩:=lo.uniq hL lo2;rw[Y];exact⟨rfl,rfl⟩
end
def iw(B:List Nat):Nat->List Row3
 | 0=>[]
 | i+1=>if(cX (iw B i) (B.getD i 0) 0).1=0 then iw B i else zL (iw B i) ((cX (iw B i) (B.getD i 0) 0).1.log2,(cX (iw B i) (B.getD i 0) 0).1,(cX (iw B i) (B.getD i 0) 0).2^^^2^i)
def GK{B:List Nat}{i b:Nat}{rows:List Row3}(e:rows=iw B i)(hb:B[i]?=some b)(h:(cX rows b 0).1≠0):zL rows ((cX rows b 0).1.log2,(cX rows b 0).1,(cX rows b 0).2^^^2^i)=iw B (i+1):=by
 subst e;have I:B.getD i 0=b:=by rw[aad,hb];rfl
 show _=if _ then _ else _
 rw[I,aaf h]
def Eo{B:List Nat}{i b:Nat}{rows:List Row3}(e:rows=iw B i)(hb:B[i]?=some b)(h:(cX rows b 0).1=0):rows=iw B (i+1):=by
 subst e;have I:B.getD i 0=b:=by rw[aad,hb];rfl
 show _=if _ then _ else _
 rw[I,aai h]
def Jk{A B:List Nat}(hi:zK B)(h:∀b∈B,Sp A b):B.length<=A.length:=by
 have hs:∀z,∃y,y<2^A.length/\comb A y=comb B z:=λz=>xm ((ng B z).mono h)
 refine Jg (f:=λz=>Classical.choose (hs z)) (λz _=>(adE (hs z)).1) λz y hz I e=>yn B hi hz I ?_
 have e:Classical.choose (hs z)=Classical.choose (hs y):=e;rw[<-(adE (hs z)).2,<-(adE (hs y)).2,e]
def Of{B:List Nat}(h:zK B)(i:Nat):zK (B.take i):=by
 have h:=(Jf B).mp h;refine(Jf _).mpr λj b hj=>?_
 rw[adV]at hj
 split at hj
 ·rename_i I
  have:=h j b hj
  rwa [List.take_take,acO (abq I)]
 ·cases hj
def Q6(B:List Nat):∃rows,Rw B rows:=by
 suffices h:∀i,∃rows,Rw (B.take i) rows by
  obtain⟨rows,hr⟩:=h B.length;rw[aa7]at hr;exact⟨rows,hr⟩
 intro i
 induction i with
 | zero=>exact⟨[],by rw[adS];exact .start⟩
 | succ i I =>
   obtain⟨rows,hr⟩:=I;cases hb:B[i]? with
   | none=>exact⟨rows,by rw[aa1,hb,Option.toList_none,ab5];exact hr⟩
   | some b =>
     rw[aa1,hb,Option.toList_some]
     by_cases h0:(cX rows b 0).1=0
     ·exact⟨_,hr.skip ((hr.pX b 0).mp h0)⟩
     ·exact⟨_,hr.put h0⟩
section
variable {N:Net}{L:Nat->Int}
def LB.parts{rs:List Nat}(h:LB N L rs){r:Nat}(hr:N.Ring r)(I:r<2^N.n):Sp (rs.filter λb=>decide (len N L b<=len N L r)) r:=by
 obtain⟨z,hz,rfl⟩:=h.1.span hr.2.1 I;obtain⟨rows,hw⟩:=Q6 rs;have key:∀i b,rs[i]?=some b->z.testBit i=true->len N L b<=len N L (comb rs z):=λi b hb hi=>by
  have mk:∀j c,rs[j]?=some c->N.par c (Ring.orM (cP rows i))=decide (i=j):=λj c hc=>(hw.marks h.1.ind (λb hb=>(h.1.ring b hb).2) hc).1
  have Y:=(jo.mp hb).1;have e:N.par (comb rs z) (Ring.orM (cP rows i))=true:=by
   rw[oW,tD Y λk hk O=>?_]
   ·rw[hi,abx,aad,hb];show N.par b _=true;rw[mk i b hb];exact dm rfl
   ·have hc:rs[k]?=some rs[k]:=aag hk;rw[aad,hc];show(_&&N.par rs[k] _)=false;rw[mk k _ hc,gj (λz=>O z.symm),acs]
  obtain⟨c,hc,h1,h2⟩:=h.2 _ _ hr I e;obtain⟨j,hj⟩:=aa5 hc;rw[mk j c hj]at h1;have h1:=ko h1;subst h1;rw[hb]at hj;rw[Option.some.inj hj];exact h2
 generalize hx:len N L (comb rs z)=x at key ⊢;clear hx hr I hw h
 suffices hh:∀i,Sp (rs.filter λb=>decide (len N L b<=x)) (comb (rs.take i) z) by
  have:=hh rs.length
  rwa [aa7]at this
 intro i
 induction i with
 | zero=>rw[adS];exact .zero
 | succ i U =>
   cases hb:rs[i]? with
   | none=>rw[aa1,hb,Option.toList_none,ab5];exact U
   | some b =>
     rw[aa1,hb,Option.toList_some,iP];have I:(rs.take i).length=i:=List.length_take_of_le (abq (jo.mp hb).1);rw[I]
     split
     ·rename_i hi
      exact U.xor (.mem (aaX.mpr ⟨jV hb,dm (key i b hb hi)⟩))
     ·rw[abJ];exact U
def Og{A B:List Nat}{f:Nat->Int}(ha:A.Pairwise λx y=>f x<=f y)(hb:B.Pairwise λx y=>f x<=f y)(hi:zK B)(h:∀b∈B,Sp (A.filter λc=>decide (f c<=f b)) b):
 ∀(i a b:Nat),A[i]?=some a->B[i]?=some b->f a<=f b:=by
 intro i a b Z U;apply abb;intro hn;have ab:f b<f a:=Int.not_le.mp hn;have mono:∀{C:List Nat} {i j x y:Nat},C.Pairwise (λx y=>f x<=f y)->C[i]?=some x->C[j]?=some y->i<=j->f x<=f y:=λ{C i j x y} hp h1 h2 I=>by
  obtain⟨l1,e1⟩:=jo.mp h1;obtain⟨l2,e2⟩:=jo.mp h2;rcases Nat.lt_or_eq_of_le I with z|z
  ·rw[<-e1,<-e2];exact ac7.mp hp i j l1 l2 z
  ·subst z;rw[h1]at h2;rw[Option.some.inj h2];exact ab1 _
 have LQ:=(jo.mp U).1;have e:=Jk (A:=A.take i) (Of hi (i+1)) λc hc=>by
  obtain⟨j,hj⟩:=aa5 hc;rw[adV]at hj
  split at hj
  ·rename_i ag
   refine(h c (jV hj)).mono λd hd=>?_
   obtain⟨hd,Y⟩:=aaX.mp hd;have Y:=ko Y;have ar:=mono hb hj U (by lia)
   obtain⟨k,hk⟩:=aa5 hd;refine .mem ?_;have O:k<i:=by
    apply abb;intro aw;have:=mono ha Z hk (by lia)
    lia
   exact jV (i:=k) (by rw[adV,aai O];exact hk)
  ·cases hj
 rw[abk,abk]at e
 lia
end
open Ring (maskOf mask_bit mask_lt)
def Ep{F:Nat->Bool}{n:Nat}{row:List Nat}(hp:row.Perm (List.range n)):bU F n=row.foldr (λk acc=>F k^^acc) false:=by
 rw[<-uC F n (hp.nodup_iff.mpr acr) λk hk=>aaI.mp (hp.mem_iff.mp hk)]
 exact bV λk hk=>by rw[dm (hp.mem_iff.mpr (aaI.mpr hk)),acM]
def Oh{F:Nat->Bool}{f:Nat->Nat}{n:Nat}(hp:((List.range n).map f).Perm (List.range n)):bU (λi=>F (f i)) n=bU F n:=by
 have I:bU F n=_:=Ep hp;have O:bU (λi=>F (f i)) n=_:=Ep (adj _)
 rw[I,O,List.foldr_map]
structure Fo(N N' : Net)(f g:Nat->Nat):Prop where
 n:N'.n=N.n
 p:N'.p=N.p
 fl:∀i,i<N.n->f i<N.n
 gl:∀i,i<N.n->g i<N.n
 fg:∀i,i<N.n->f (g i)=i
 gf:∀i,i<N.n->g (f i)=i
 inc:∀i x,i<N.n->N'.inc i x=N.inc (f i) x
section
variable {N N' : Net}{f g:Nat->Nat}
def Fo.symm(h:Fo N N' f g):Fo N' N g f:=⟨h.n.symm,h.p.symm,by rw[h.n];exact h.gl,by rw[h.n];exact h.fl,by rw[h.n];exact h.gf,by rw[h.n];exact h.fg,λi x hi=>by
 rw[h.n]at hi;rw[h.inc (g i) x (h.gl i hi),h.fg i hi]⟩
def Fo.perm(h:Fo N N' f g):((List.range N.n).map f).Perm (List.range N.n):=by
 refine(List.perm_ext_iff_of_nodup ?_ acr).mpr λk=>?_
 ·refine abH.mpr (ab0 (λ{i j} hi hj I e=>?_) acr)
  have:=aa4 g e;rw[h.gf i (aaI.mp hi),h.gf j (aaI.mp hj)]at this;exact I this
 ·rw[aaH,aaI]
  constructor
  ·rintro⟨i,hi,rfl⟩;exact h.fl i (aaI.mp hi)
  ·exact λhk=>⟨g k,aaI.mpr (h.gl k hk),h.fg k hk⟩
def dG(n:Nat)(f:Nat->Nat)(m:Nat):Nat:=maskOf (λi=>m.testBit (f i)) n
def fL(n:Nat)(f:Nat->Nat)(m i:Nat):(dG n f m).testBit i=(decide (i<n)&&m.testBit (f i)):=mask_bit _ _ _
def xq(n:Nat)(f:Nat->Nat)(m:Nat):dG n f m<2^n:=mask_lt _ _
def Oi(n:Nat)(f:Nat->Nat)(a b:Nat):dG n f (a^^^b)=dG n f a^^^dG n f b:=abh λi=>by
 rw[aaB,fL,fL,fL,aaB];cases decide (i<n)<;>simp
def mS(n:Nat)(f:Nat->Nat):dG n f 0=0:=abh λi=>by
 rw[fL,abR,acs,abR]
def Fo.back(h:Fo N N' f g){m:Nat}(hm:m<2^N.n):dG N.n g (dG N.n f m)=m:=abh λk=>by
 rw[fL,fL]
 by_cases hk:k<N.n
 ·rw[dm hk,dm (h.gl k hk),h.fg k hk];rfl
 ·rw[gj hk,adg];cases hb:m.testBit k with
  | false=>rfl
  | true=>exact absurd (dc hm hb) hk
def Fo.iD(h:Fo N N' f g){m:Nat}(ev:N.fJ m):N'.fJ (dG N.n f m):=λx hx=>by
 rw[h.p]at hx;rw[<-ev x hx];unfold Net.bd;rw[h.n,<-Oh (F:=λk=>m.testBit k&&N.inc k x) h.perm]
 exact bV λi hi=>by rw[fL,dm hi,abx,h.inc i x hi]
def Fo.ring(h:Fo N N' f g){m:Nat}(hm:m<2^N.n)(r:N.Ring m):N'.Ring (dG N.n f m):=by
 refine⟨λe=>r.1 ?_,h.iD r.2.1,λq O ev=>?_⟩
 ·have:=h.back hm;rw[e,mS]at this;exact this.symm
 ·have U:q<2^N.n:=c6 λk hk=>by
   have:=O k hk;rw[fL]at this;exact ko (ac4.mp this).1
  have I:N.fJ (dG N.n g q):=by
   have:=h.symm.iD ev
   rwa [h.n]at this
  have bk:dG N.n f (dG N.n g q)=q:=by
   have:=h.symm.back (m:=q) (by rw[h.n];exact U)
   rwa [h.n]at this
  rcases r.2.2 (dG N.n g q) (λk hk=>by
   rw[fL]at hk;obtain⟨h1,h2⟩:=ac4.mp hk;have:=O _ h2;rw[fL,h.fg k (ko h1)]at this;exact(ac4.mp this).2) I with e | e
  ·rw[e,mS]at bk;exact .inl bk.symm
  ·rw[e]at bk;exact .inr bk.symm
def Bd(n:Nat)(f:Nat->Nat):∀(B:List Nat) (z:Nat),comb (B.map (dG n f)) z=dG n f (comb B z)
 | [],_=>(mS n f).symm
 | b::B,z=>by
   show(if z.testBit 0=true then dG n f b else 0)^^^comb (B.map (dG n f)) (z/2)=dG n f ((if z.testBit 0=true then b else 0)^^^comb B (z/2))
   rw[Oi,Bd n f B]
   split
   ·rfl
   ·rw[mS]
def Fo.ind(h:Fo N N' f g){B:List Nat}(hl:∀b∈B,b<2^N.n)(hi:zK B):zK (B.map (dG N.n f)):=λz hz e=>by
 rw[aac]at hz;rw[Bd]at e;refine hi z hz ?_;have:=h.back (m:=comb B z) ((ng B z).lt hl);rw[e,mS]at this;exact this.symm
def Fo.place(h:Fo N N' f g){L L' : Nat->Int}{rs I : List Nat}{l l' : Nat->Int}(lb:LB N L rs)(lb' : LB N' L' I)(e' : ∀r,r<2^N.n->len N' L' r=l' r)(el:∀r,r<2^N.n->l' (dG N.n f r)=l r)
 (pw:rs.Pairwise λx y=>l x<=l y) (Q7:I.Pairwise λx y=>l' x<=l' y):rs.length<=I.length/\∀(i a b:Nat),I[i]?=some a->rs[i]?=some b->l' a<=l b:=by
 have lt:∀b∈rs,b<2^N.n:=λb hb=>(lb.1.ring b hb).2
 have lt' : ∀b∈I,b<2^N.n:=λb hb=>by have:=(lb'.1.ring b hb).2;rwa [h.n]at this
 have O:=h.ind lt lb.1.ind;have sp:∀b∈rs.map (dG N.n f),Sp (I.filter λc=>decide (l' c<=l' b)) b:=λb hb=>by
  obtain⟨r,hr,rfl⟩:=aaH.mp hb;refine(lb'.parts (h.ring (lt r hr) (lb.1.ring r hr).1) (by rw[h.n];exact xq _ _ _)).mono λc hc=>.mem ?_
  obtain⟨U,Y⟩:=aaX.mp hc;refine aaX.mpr ⟨U,?_⟩
  rwa [e' c (lt' c U),e' _ (xq _ _ _)]at Y
 constructor
 ·have:=Jk O λb hb=>(sp b hb).mono λc hc=>.mem (aaX.mp hc).1
  rwa [aac]at this
 ·intro i a b ha hb;have:=Og (f:=l') Q7 (abH.mpr (ab0 (λ{x y} hx Z h=>by rw[el x (lt x hx),el y (lt y Z)];exact h) pw)) O sp i a (dG N.n f b) ha (by rw[aaw,hb];rfl)
  rwa [el b (lt b (jV hb))]at this
end
end RM
namespace Ring
open PySem L2
def cC(ts:List bZ)(row:List Nat):List bZ:=row.map (bj ts)
def KJ{a b:List Int}(h:a.Perm b):a.sum=b.sum:=by
 induction h with
 | nil=>rfl
 | cons x _ I=>rw[acn,acn,I]
 | swap x y l=>rw[acn,acn,acn,acn];lia
 | trans _ _ h1 h2=>exact h1.trans h2
section
variable {p:Nat}{ts:List bZ}{row:List Nat}
def KL(g:aA p ts)(hr:row.Perm (List.range ts.length)):aA p (cC ts row):=by
 refine⟨g.p1,g.p2,?_,λt ht=>?_⟩
 ·unfold cC;rw[aac,hr.length_eq,aaK];exact g.len
 ·obtain⟨k,hk,rfl⟩:=aaH.mp ht;exact g.rS _ (ff (aaI.mp (hr.mem_iff.mp hk)))
def Jl{i:Nat}(hi:i<row.length):bj (cC ts row) i=bj ts (row.getD i 0):=by
 have e:row.getD i 0=row[i]:=by rw[aad,aag hi];rfl
 rw[e];show(row.map (bj ts)).getD i _=_;rw[aad,aaw,aag hi];rfl
def Oj(g:aA p ts)(hr:row.Perm (List.range ts.length))(g' : aA p (cC ts row)):RM.Fo g.N g'.N (λi=>row.getD i 0) (λk=>row.idxOf k):=by
 have I:row.length=ts.length:=by rw[hr.length_eq,aaK]
 have al:(cC ts row).length=ts.length:=by unfold cC;rw[aac,I]
 have nd:row.Nodup:=hr.nodup_iff.mpr acr;have get:∀i,i<ts.length->row.getD i 0∈row:=λi hi=>by
  rw[aad,aag (by lia)]
  exact abZ _
 have mem:∀k,k<ts.length->k∈row:=λk hk=>hr.mem_iff.mpr (aaI.mpr hk)
 refine⟨al,rfl,λi hi=>aaI.mp (hr.mem_iff.mp (get i hi)),λk hk=>?_,λk hk=>?_,λi hi=>?_,λi x hi=>?_⟩
 ·have:=List.idxOf_lt_length_of_mem (mem k hk);show row.idxOf k<ts.length
  lia
 ·have:=List.idxOf_lt_length_of_mem (mem k hk);show row.getD (row.idxOf k) 0=k;rw[aad,aag this];exact List.getElem_idxOf this
 ·show row.idxOf (row.getD i 0)=i;have hi:i<row.length:=by have:i<ts.length:=hi;lia
  rw[aad,aag hi];exact List.Nodup.idxOf_getElem nd i hi
 ·have hi:i<row.length:=by have:i<ts.length:=hi;lia
  have e:=Jl (ts:=ts) hi;show(decide ((bj (cC ts row) i).1.toNat=x)^^decide ((bj (cC ts row) i).2.1.toNat=x))=(decide ((bj ts (row.getD i 0)).1.toNat=x)^^decide ((bj ts (row.getD i 0)).2.1.toNat=x));rw[e]
def KN(hr:row.Perm (List.range ts.length)){m:Nat}(hm:m<2^ts.length):lenOf (cC ts row) (RM.dG ts.length (λi=>row.getD i 0) m)=lenOf ts m:=by
 have O:row.length=ts.length:=by rw[hr.length_eq,aaK]
 have al:(cC ts row).length=ts.length:=by unfold cC;rw[aac,O]
 have U:lenOf ts m=(((List.range ts.length).filter λk=>m.testBit k).map λk=>(bj ts k).2.2).sum:=by
  unfold lenOf;rw[ju hm]
 have I : RM.dG ts.length (λi=>row.getD i 0) m<2^ts.length:=RM.xq _ _ _
 have Y:lenOf (cC ts row) (RM.dG ts.length (λi=>row.getD i 0) m)=(((List.range ts.length).filter λi=>m.testBit (row.getD i 0)).map λi=>(bj ts (row.getD i 0)).2.2).sum:=by
  unfold lenOf;rw[ju I];have f1:((List.range ts.length).filter λk=>(RM.dG ts.length (λi=>row.getD i 0) m).testBit k)=(List.range ts.length).filter λi=>m.testBit (row.getD i 0):=adn λi hi=>by
   rw[RM.fL,dm (aaI.mp hi),abx]
  rw[f1]
  congr 1
  refine adQ λi hi=>?_
  have hi:=aaI.mp (aaX.mp hi).1;rw[Jl (by lia)]
 have Z:row=(List.range ts.length).map λi=>row.getD i 0:=by
  refine ac3 (by rw[aac,aaK,O]) λi a b=>?_
  rw[adz,ade,aad,aag a];rfl
 have e4:(row.filter λk=>m.testBit k).map (λk=>(bj ts k).2.2)=((List.range ts.length).filter λi=>m.testBit (row.getD i 0)).map λi=>(bj ts (row.getD i 0)).2.2:=by
  conv=>lhs;rw[Z]
  rw[List.filter_map,abz];rfl
 rw[U,Y,<-e4];exact KJ ((hr.filter _).map _)
end
end Ring
namespace L2
open PySem
def kU{lo:Int}{n:Nat}{g:TG}{tb:TS}{D:Ends}{σ:St}{H:Hp}(Pv:Nat->St->Hp->Prop)(h0:Pv 0 σ H)
 (hs:∀i,let I : Ends:={ D with nx:=Pv (i+1),ct:=Pv (i+1),bk:=D.nx};∀σ H,i<n->Pv i σ H->g (.int (lo+i)) σ H λσ2 H2=>tb I σ2 H2) (hd:∀σ H,Pv n σ H->D.nx σ H) :
 ∃W:Nat->Nat->St->Hp->Prop,(∃m,W 0 m σ H)/\∀i m σ H,W i m σ H->
   ((Pk lo n).stop i H/\D.nx σ H)\/((Pk lo n).go i H/\∃N:St->Hp->Prop,(∀σ' H',N σ' H'->∃m',m'<m/\W (i+1) m' σ' H')/\∀x H',(Pk lo n).Ma i H x H'->g x σ H' λσ2 H2=>tb { D with nx:=N,ct:=N,bk:=D.nx} σ2 H2) :=
 An Pv h0 (λi σ H hi p=>hs i σ H hi p) hd
def gX{K:bJ}{a:Addr}{xs:List V}{g:TG}{tb:TS}{D:Ends}{σ:St}{H:Hp}(Pv:Nat->St->Hp->Prop)(h0:Pv 0 σ H)(hl:∀i σ H,i<=xs.length->Pv i σ H->aR K H a xs)
 (hs:∀i x,let I : Ends:={ D with nx:=Pv (i+1),ct:=Pv (i+1),bk:=D.nx};∀σ H,xs[i]?=some x->Pv i σ H->g x σ H λσ2 H2=>tb I σ2 H2) (hd:∀σ H,Pv xs.length σ H->D.nx σ H) :
 ∃W:Nat->Nat->St->Hp->Prop,(∃m,W 0 m σ H)/\∀i m σ H,W i m σ H->
   ((PR K a).stop i H/\D.nx σ H)\/((PR K a).go i H/\∃N:St->Hp->Prop,(∀σ' H',N σ' H'->∃m',m'<m/\W (i+1) m' σ' H')/\∀x H',(PR K a).Ma i H x H'->g x σ H' λσ2 H2=>tb { D with nx:=N,ct:=N,bk:=D.nx} σ2 H2) :=
 rJ Pv h0 hl (λi x σ H hi p=>hs i x σ H hi p) hd
def Jm{X:Cx}{e:Expr}{T:String}{r:V->List V->Hp->VK->Prop}{to:TE}{t:TA}(K:bJ)(p:PE X e (ZR X.K T r to t))(h:X.K=K:=by rfl):PE X e (ZR K T r to t):=by subst h;exact p
def aay{X:Cx}{e:Expr}{T:String}{r:V->List V->Hp->VK->Prop}{to:TE}(K:bJ)(p:PE X e (Ti X.K T r to))(h:X.K=K:=by rfl):PE X e (Ti K T r to):=by subst h;exact p
def cU{K:bJ}{H:Hp}{a:Addr}{xs:List V}{k:Int}{v:V}{R:V->Prop}(hs:aU K H a xs)(ha:Fi xs k=some v)(q:R v):∃p ys I w,V.ref a = .ref p/\V.int k = .int I/\aU K H p ys/\Fi ys I = some w/\R w:=⟨a,xs,k,v,rfl,rfl,hs,ha,q⟩
def p8{K:bJ}{H:Hp}{a:Addr}{xs:List V}{k:Int}{v:V}{R:V->Prop}(hs:aR K H a xs)(ha:Fi xs k=some v)(q:R v):∃p ys I w,V.ref a = .ref p/\V.int k = .int I/\aR K H p ys/\Fi ys I = some w/\R w:=⟨a,xs,k,v,rfl,rfl,hs,ha,q⟩
def dz{i j:Int}{R:Int->Int->Prop}(h:R i j):∃I O,V.int i = .int I/\V.int j = .int O/\R I O:=⟨i,j,rfl,rfl,h⟩
def vS{K:bJ}{H:Hp}{a:Addr}{xs:List V}{E:Addr->Prop}{R:List V->Prop}(e:E a)(h:aR K H a xs\/aU K H a xs)(q:R xs):∃p ys,E p/\(aR K H p ys\/aU K H p ys)/\R ys:=⟨a,xs,e,h,q⟩
def au{α:Type}{A R:α->Prop}{x:α}(h:A x)(r:R x):∃x,A x/\R x:=⟨x,h,r⟩
open PySem PySem.Spec PyProof.Rows
section
variable {K:bJ}{mg:nY}{x:Str}{st:Stmt}{f c0 p0:Addr}{fd:FuncData}{ps:List Str}{h:Heap}
structure Dc(K:bJ)(mg:nY)(x:Str)(f:Addr)(fd:FuncData)(ps:List Str):Prop where
 m:mg x=some (.ref f)
 k:PySem.W.keepIn K (.ref f)=true
 b:Binds K fd ps []
structure Dk(K:bJ)(x:Str)(st:Stmt)(f:Addr)(fd:FuncData):Prop where
 F:rM K x x st f fd
 n:PySem.W.nsIn K mainGlobals x=some (some (.ref f))
structure Ux(K:bJ)(x:Str)(st:Stmt)(f:Addr)(fd:FuncData)(c0 p0:Addr):Prop where
 F:GC K x x st f fd c0 p0
 n:PySem.W.nsIn K mainGlobals x=some (some (.ref f))
structure Dn(K:bJ)(mg:nY)(x:Str)(st:Stmt)(f:Addr)(fd:FuncData)(ps:List Str):Prop where
 F:rM K x x st f fd
 c:Dc K mg x f fd ps
structure Sd(K:bJ)(mg:nY)(x:Str)(st:Stmt)(f:Addr)(fd:FuncData)(ps:List Str)(c0 p0:Addr):Prop where
 F:GC K x x st f fd c0 p0
 c:Dc K mg x f fd ps
def dk{oc:Value}{od an:Option Addr}{osl:Array (Option Value)}{kV doc pm cdv ct:Value}(a:PySem.W.nsIn K mainGlobals x=some (some (.ref f)))
 (l:K.lookup f=some ⟨oc,od,.func (PySem.W.fnOf x x (fE st) (cI st) (aj st) .none kV doc pm an cdv ct),osl⟩) (c:PySem.W.codeIn K cdv x=true) (k:PySem.W.keepIn K (.ref f)=true) :
 Dk K x st f (PySem.W.fnOf x x (fE st) (cI st) (aj st) .none kV doc pm an cdv ct):=⟨kI l c k,a⟩
def dkL{oc:Value}{od an:Option Addr}{osl:Array (Option Value)}{kV doc pm ct:Value}(a:PySem.W.nsIn K mainGlobals x=some (some (.ref f)))
 (l:K.lookup f=some ⟨oc,od,.func (PySem.W.fnOf x x (fE st) (cI st) (aj st) .none kV doc pm an (.ref c0) ct),osl⟩) (c:PySem.W.codeIn K (.ref c0) x=true) (k:PySem.W.keepIn K (.ref f)=true) (d:PySem.W.codeHdIn K c0 p0=true) :
 Ux K x st f (PySem.W.fnOf x x (fE st) (cI st) (aj st) .none kV doc pm an (.ref c0) ct) c0 p0:=⟨Q3 l c k d,a⟩
structure Ng(K:bJ)(x:Str):Prop where
 n:PySem.W.nsIn K mainGlobals x=some none
def Bn(x:Str)(st:Stmt)(ps:List Str)(us:List Value):Prop:=∀(kV doc pm:Value) (an:Option Addr) (cdv ct:Value),bindArgs (PySem.W.fnOf x x (fE st) (cI st) (aj st) .none kV doc pm an cdv ct) ⟨us,[]⟩=pure (ps.zip us)
def Se(h:∀us:List Value,us.length=ps.length->Bn x st ps us)(kV doc pm:Value)(an:Option Addr)(cdv ct:Value)(us:List Value)(hl:us.length=ps.length):
 bindArgs (PySem.W.fnOf x x (fE st) (cI st) (aj st) .none kV doc pm an cdv ct) ⟨us,[]⟩=pure (ps.zip us):=h us hl kV doc pm an cdv ct
def Dk.dn(X:K.In h)(G:h.Ns mainGlobals mg)(D:Dk K x st f fd)(hb:∀us:List Value,us.length=ps.length->Bn x st ps us):Dn K mg x st f fd ps:=⟨D.F,PySem.W.mg_of X G D.n,D.F.kp,D.F.binds (Se hb)⟩
def Ux.dn(X:K.In h)(G:h.Ns mainGlobals mg)(D:Ux K x st f fd c0 p0)(hb:∀us:List Value,us.length=ps.length->Bn x st ps us):Sd K mg x st f fd ps c0 p0:=⟨D.F,PySem.W.mg_of X G D.n,D.F.kp,D.F.binds (Se hb)⟩
def bn1{y:Str}(h:∀a,Bn x st [y] [a])(us:List Value)(hl:us.length=[y].length):Bn x st [y] us:=by obtain⟨_,rfl⟩:=Dq us hl;exact h _
def bn2{y z:Str}(h:∀a b,Bn x st [y,z] [a,b])(us:List Value)(hl:us.length=[y,z].length):Bn x st [y,z] us:=by obtain⟨_,_,rfl⟩:=TH us hl;exact h _ _
def bn3{y z u:Str}(h:∀a b c,Bn x st [y,z,u] [a,b,c])(us:List Value)(hl:us.length=[y,z,u].length):Bn x st [y,z,u] us:=by obtain⟨_,_,_,rfl⟩:=Z7 us hl;exact h _ _ _
def bn4{y z u v:Str}(h:∀a b c d,Bn x st [y,z,u,v] [a,b,c,d])(us:List Value)(hl:us.length=[y,z,u,v].length):Bn x st [y,z,u,v] us:=by obtain⟨_,_,_,_,rfl⟩:=WG us hl;exact h _ _ _ _
def GL{y:Str}(X:K.In h)(G:h.Ns mainGlobals mg)(D:Dk K x st f fd)(e:∀a,Bn x st [y] [a]:=by intros;exact λ_ _ _ _ _ _=>rfl):Dn K mg x st f fd [y]:=D.dn X G (bn1 e)
def oX{y z:Str}(X:K.In h)(G:h.Ns mainGlobals mg)(D:Dk K x st f fd)(e:∀a b,Bn x st [y,z] [a,b]:=by intros;exact λ_ _ _ _ _ _=>rfl):Dn K mg x st f fd [y,z]:=D.dn X G (bn2 e)
def Vk{y z u:Str}(X:K.In h)(G:h.Ns mainGlobals mg)(D:Dk K x st f fd)(e:∀a b c,Bn x st [y,z,u] [a,b,c]:=by intros;exact λ_ _ _ _ _ _=>rfl):Dn K mg x st f fd [y,z,u]:=D.dn X G (bn3 e)
def dn4{y z u v:Str}(X:K.In h)(G:h.Ns mainGlobals mg)(D:Dk K x st f fd)(e:∀a b c d,Bn x st [y,z,u,v] [a,b,c,d]:=by intros;exact λ_ _ _ _ _ _=>rfl):Dn K mg x st f fd [y,z,u,v]:=D.dn X G (bn4 e)
def dl2{y z:Str}(X:K.In h)(G:h.Ns mainGlobals mg)(D:Ux K x st f fd c0 p0)(e:∀a b,Bn x st [y,z] [a,b]:=by intros;exact λ_ _ _ _ _ _=>rfl):Sd K mg x st f fd [y,z] c0 p0:=D.dn X G (bn2 e)
def dl3{y z u:Str}(X:K.In h)(G:h.Ns mainGlobals mg)(D:Ux K x st f fd c0 p0)(e:∀a b c,Bn x st [y,z,u] [a,b,c]:=by intros;exact λ_ _ _ _ _ _=>rfl):Sd K mg x st f fd [y,z,u] c0 p0:=D.dn X G (bn3 e)
def Dn.ok{P:Program}{w:World}{base:Heap}{N:List Str}{k:Nat}{sp:Sp}(D:Dn K mg x st f fd ps)(S:aC N ps (aj st))
 (hbody:∀(cdv:Value) (A:Around) (outer:List Env) (s:Shared) (H:Hp) (vs:List V) (Q:VK) (E:XK),eJ k (A.deeper (envOfC x (aj st) s.heap.objs.size f cdv))->sp vs H Q E->
  ∃t,zA (vZ wW P w K mg base N x (aj st) f cdv A outer s H E).Fg (cI st) t/\t { nx:=λ_ H'=>Q .eX H',rt:=Q} (start N vs) H)
 (len:∀vs H Q E,sp vs H Q E->vs.length=ps.length:=by
  intro vs H Q E h
  first
  | (obtain⟨_,rfl,_⟩:=h;rfl)
  | (obtain⟨_,_,rfl,_⟩:=h;rfl)
  | (obtain⟨_,_,_,rfl,_⟩:=h;rfl)
  | (obtain⟨_,_,_,_,rfl,_⟩:=h;rfl)
  | (obtain⟨_,_,_,_,_,rfl,_⟩:=h;rfl)
  | (obtain⟨_,_,_,_,_,_,rfl,_⟩:=h;rfl)
  | (obtain⟨_,_,_,_,_,_,_,rfl,_⟩:=h;rfl)
  | (obtain⟨_,_,_,_,_,_,_,_,rfl,_⟩:=h;rfl)
  | (obtain⟨_,_,_,_,_,_,_,_,_,rfl,_⟩:=h;rfl)):gH P w K mg base wW (k+1) f fd ps sp:=D.F.ok S len hbody
def Sd.ok{P:Program}{w:World}{base:Heap}{N:List Str}{k:Nat}{sp:Sp}(D:Sd K mg x st f fd ps c0 p0)(S:aC N ps (aj st))
 (hbody:∀(A:Around) (outer:List Env) (s:Shared) (H:Hp) (vs:List V) (Q:VK) (E:XK),eJ k (A.deeper (envOfC x (aj st) s.heap.objs.size f (.ref c0)))->sp vs H Q E->
  ∃t,zA (vZ wW P w K mg base N x (aj st) f (.ref c0) A outer s H E).Fg (cI st) t/\t { nx:=λ_ H'=>Q .eX H',rt:=Q} (start N vs) H)
 (len:∀vs H Q E,sp vs H Q E->vs.length=ps.length:=by
  intro vs H Q E h
  first
  | (obtain⟨_,rfl,_⟩:=h;rfl)
  | (obtain⟨_,_,rfl,_⟩:=h;rfl)
  | (obtain⟨_,_,_,rfl,_⟩:=h;rfl)
  | (obtain⟨_,_,_,_,rfl,_⟩:=h;rfl)
  | (obtain⟨_,_,_,_,_,rfl,_⟩:=h;rfl)
  | (obtain⟨_,_,_,_,_,_,rfl,_⟩:=h;rfl)
  | (obtain⟨_,_,_,_,_,_,_,rfl,_⟩:=h;rfl)
  | (obtain⟨_,_,_,_,_,_,_,_,rfl,_⟩:=h;rfl)
  | (obtain⟨_,_,_,_,_,_,_,_,_,rfl,_⟩:=h;rfl)):gH P w K mg base wW (k+1) f fd ps sp:=D.F.ok S len hbody
def Dn.IG{P:Program}{w:World}{base:Heap}{N:List Str}{k:Nat}{sp:Sp}(D:Dn K mg x st f fd ps)(S:aC N ps (aj st))
 (hbody:∀(cdv:Value) (A:Around) (outer:List Env) (s:Shared) (H:Hp) (vs:List V) (Q:VK) (E:XK),eJ k (A.deeper (envOfC x (aj st) s.heap.objs.size f cdv))->sp vs H Q E->
  ∃t,zA (vZ (MI P w) P w K mg base N x (aj st) f cdv A outer s H E) (cI st) t/\t { nx:=λ_ H'=>Q .eX H',rt:=Q} (start N vs) H)
 (len:∀vs H Q E,sp vs H Q E->vs.length=ps.length:=by
  intro vs H Q E h
  first
  | (obtain⟨_,rfl,_⟩:=h;rfl)
  | (obtain⟨_,_,rfl,_⟩:=h;rfl)
  | (obtain⟨_,_,_,rfl,_⟩:=h;rfl)
  | (obtain⟨_,_,_,_,rfl,_⟩:=h;rfl)
  | (obtain⟨_,_,_,_,_,rfl,_⟩:=h;rfl)
  | (obtain⟨_,_,_,_,_,_,rfl,_⟩:=h;rfl)
  | (obtain⟨_,_,_,_,_,_,_,rfl,_⟩:=h;rfl)
  | (obtain⟨_,_,_,_,_,_,_,_,rfl,_⟩:=h;rfl)
  | (obtain⟨_,_,_,_,_,_,_,_,_,rfl,_⟩:=h;rfl)):gH P w K mg base (MI P w) (k+1) f fd ps sp:=D.F.IG S len hbody
def Uy{y:Str}(D:Dk K x st f fd)(e:∀a,Bn x st [y] [a]:=by intros;exact λ_ _ _ _ _ _=>rfl)(s:Shared)(v:Value):BindsTo s fd ⟨[v],[]⟩ [(y,v)]:=by
 obtain⟨oc,od,kV,doc,pm,an,cdv,ct,osl,rfl,O,I⟩:=D.F.ex;exact .of_eq (e v kV doc pm an cdv ct)
end
section
variable {X:Cx}
def aH{CX:LN}{k r:Nat}{f:Addr}{fd:FuncData}{ps:List Str}{sp:Sp}{x:Str}{E:XK}{e:Expr}{es:List Expr}{t:TA}{p pos:Pos}
 (F:gH X.prog X.w X.K X.mg X.base CX k f fd ps sp) (hr:eJ r X.A) (D:Dc X.K X.mg x f fd ps) (hx:Passes CX X E) (ha:PA X (e::es) t) (hk:k<=r:=by decide) (hg:Gl X x:=by rfl)
 (hdb:(x==("__debug__":Str))=false:=by decide) (he:starEach (e::es) X.env=(false,eval e X.env)::starEach es X.env:=by rfl) (hpl:(backTo pos (starEach es X.env)).any (·.1)=false:=by rfl) :
 PE X (.Call (.Name x p) (e::es) [] pos) (RD sp [] E t):=P1 F (hr.mono hk) hg D.m D.k D.b .nil hx ha hdb he hpl
def lG(l:List Str)(h:l.Nodup:=by decide +kernel):l.Nodup:=h
def cG{p pos:Pos}{e:Expr}{es:List Expr}{t:TA}(K:bJ)(hm:X.mg "len"=none)(ha:PA X (e::es) t)(hK:X.K=K:=by rfl)(hg:Gl X "len":=by rfl)
 (he:starEach (e::es) X.env=(false,eval e X.env)::starEach es X.env:=by rfl) (hpl:(backTo pos (starEach es X.env)).any (·.1)=false:=by rfl):PE X (.Call (.Name "len" p) (e::es) [] pos) (ZM (Wq K) t) :=
 cF (ZX K hK) hg hm PySem.boot_len ha (by decide) (by decide) he hpl
def aK{a b:Expr}{ta tb:TE}{pos:Pos}{r:R2}(hr:JI X r)(ha:PE X a ta)(hb:PE X b tb)(hs:Iz b:=by exact λ_ _=>rfl):PE X (.Subscript a b pos) (VU r ta tb):=V7 hr ha hb hs
def bq{x:Str}{pos:Pos}(i:Nat)(hN:X.N.Nodup)(hi:X.N[i]?=some x:=by exact rfl)(hx:Loc X.env.scope x:=by exact Or.inl rfl)(hf:X.fn x=true\/X.env.scope.names.lookup x=some .local:=by first | exact .inl rfl | exact .inr rfl | assumption):PG X (.Name x pos) (L7 i):=wR hN hi hx hf
end
end L2
set_option maxHeartbeats 4000000
namespace K57
open PySem L2 Ring
local macro_rules | `(tactic| trivial)=>`(tactic| exact⟨rfl,rfl,rfl,by decide +kernel,rfl,by decide +kernel,by decide +kernel⟩)
def top(i:Nat):Stmt:=PySem.Challenge.pw_ringbase_k57_whole_any_way_there.main.body.getD i (.Pass ⟨0,0,0,0⟩)
section
variable {gY h9 je lH qF Fp LU Sf Sg Vl Xh Xi:TS}{kC CZ Vd sc3:TT}{qG Vm:TI}{qH Vn:TG}{D:Ends}{σ:St}{H:Hp}
abbrev ni:Stmt:=top 12
def Er:aC ["points","ties"] ["points","ties"] (aj ni):=by trivial
def Es(h:let I:=gY;let O:=h9;let U:=(ay (bF kC O bg) I);let Y:=je;(ay (bF CZ Y bg) U) D σ H):(ay (bF CZ je bg) (ay (bF kC h9 bg) gY)) D σ H:=h
abbrev qW:Stmt:=top 13
def vU:aC ["points","tie","end"] ["points","tie"] (aj qW):=by trivial
def Et(h:let I:=gY;let O:=h9;let U:=(ay (bF kC O bg) I);let Y:=je;let Z:=(ay (bF CZ Y bg) U);let mj:=lH;let yE:=(bF Vd mj bg);let Jo:=(ay (eI qG qH yE) Z);let Jp:=qF;(ay (bF sc3 Jp bg) Jo) D σ H):(ay (bF sc3 qF bg) (ay (eI qG qH (bF Vd lH bg)) (ay (bF CZ je bg) (ay (bF kC h9 bg) gY)))) D σ H:=h
abbrev uF:Stmt:=top 14
def GN:aC ["tie_set","tie"] ["tie_set","tie"] (aj uF):=by trivial
abbrev qa:Stmt:=top 15
def GO:aC ["tie_set"] ["tie_set"] (aj qa):=by trivial
abbrev yF:Stmt:=top 16
def qb:aC ["web","ties","found","tie"] ["web","ties"] (aj yF):=by trivial
def Be(h:let I:=gY;let O:=h9;let U:=je;let Y:=(ay (bF kC U bg) O);let Z:=(ay (eI qG qH Y) I);(ay lH Z) D σ H):(ay lH (ay (eI qG qH (ay (bF kC je bg) h9)) gY)) D σ H:=h
abbrev qX:Stmt:=top 17
def Eu:aC ["web"] ["web"] (aj qX):=by trivial
abbrev yG:Stmt:=top 18
def KO:aC ["web","number"] ["web","number"] (aj yG):=by trivial
abbrev oY:Stmt:=top 19
def Cj:aC ["web","tie_set"] ["web","tie_set"] (aj oY):=by trivial
def Ck(h:let I:=gY;(bF kC I bg) D σ H):(bF kC gY bg) D σ H:=h
abbrev kc:Stmt:=top 20
def zM:aC ["web","tie_set"] ["web","tie_set"] (aj kc):=by trivial
def jf(h:let I:=gY;(ay h9 I) D σ H):(ay h9 gY) D σ H:=h
abbrev lJ:Stmt:=top 21
def Cm:aC ["web","tie_set"] ["web","tie_set"] (aj lJ):=by trivial
abbrev kg:Stmt:=top 22
def gy:aC ["web","tie_set","ends","one","other","length"] ["web","tie_set"] (aj kg):=by trivial
def zN(h:let I:=gY;let O:=h9;let U:=(ay je O);let Y:=(ay (eI qG qH U) I);(ay lH Y) D σ H):(ay lH (ay (eI qG qH (ay je h9)) gY)) D σ H:=h
abbrev fR:Stmt:=top 23
def iy:aC ["leasts","one","other","low","high"] ["leasts","one","other"] (aj fR):=by trivial
def iz(h:let I:=gY;let O:=(ay h9 I);(ay je O) D σ H):(ay je (ay h9 gY)) D σ H:=h
abbrev tE:Stmt:=top 24
def gZ:aC ["web","tie_set","leasts","one","other","length","found","start"] ["web","tie_set"] (aj tE):=by trivial
def KP(h:let I:=gY;let O:=h9;let U:=(bF kC O bg);let Y:=(ay (eI qG qH U) I);let Z:=(ay je Y);let mj:=lH;let yE:=(ay (eI Vm Vn mj) Z);(ay qF yE) D σ H):(ay qF (ay (eI Vm Vn lH) (ay je (ay (eI qG qH (bF kC h9 bg)) gY)))) D σ H:=h
abbrev GP:Stmt:=top 25
def Q8:aC ["web"] ["web"] (aj GP):=by trivial
abbrev uG:Stmt:=top 27
def GQ:aC ["web","tie_set"] ["web","tie_set"] (aj uG):=by trivial
abbrev gA:Stmt:=top 28
def br:aC ["web","leasts","trails","tie","one","other","bridge","moved"] ["web"] (aj gA):=by trivial
def uH(h:let I:=gY;let O:=h9;let U:=(ay je O);let Y:=(ay lH U);let Z:=(ay qF Y);let mj:=(bF kC Z bg);let yE:=(ay Fp mj);let Jo:=(ay LU yE);let Jp:=(ay (eI qG qH Jo) I);let Ol:=(ay Sf Jp);(ay Sg Ol) D σ H):(ay Sg (ay Sf (ay (eI qG qH (ay LU (ay Fp (bF kC (ay qF (ay lH (ay je h9))) bg)))) gY))) D σ H:=h
abbrev yH:Stmt:=top 29
def qf:aC ["web","found","trail"] ["web"] (aj yH):=by trivial
def uI(h:let I:=gY;let O:=h9;let U:=(ay (eI qG qH O) I);(ay je U) D σ H):(ay je (ay (eI qG qH h9) gY)) D σ H:=h
abbrev yI:Stmt:=top 30
def KQ:aC ["web"] ["web"] (aj yI):=by trivial
abbrev lT:Stmt:=top 31
def oZ:aC ["web","trails","chord","tie"] ["web","trails","chord"] (aj lT):=by trivial
abbrev nj:Stmt:=top 32
def zO:aC ["web","tie"] ["web","tie"] (aj nj):=by trivial
def dO(h:let I:=gY;let O:=h9;(ay (bF kC O bg) I) D σ H):(ay (bF kC h9 bg) gY) D σ H:=h
abbrev qg:Stmt:=top 34
def yJ:aC ["web","tie_set","touched"] ["web","tie_set"] (aj qg):=by trivial
def GR(h:let I:=gY;let O:=(ay h9 I);let U:=je;(ay (bF kC U bg) O) D σ H):(ay (bF kC je bg) (ay h9 gY)) D σ H:=h
abbrev iQ:Stmt:=top 35
def tF:aC ["web","number"] ["web","number"] (aj iQ):=by trivial
abbrev lK:Stmt:=top 36
def Cn:aC ["web","rings"] ["web","rings"] (aj lK):=by trivial
def cE:Pos:=⟨119,29,119,70⟩
abbrev yK:Stmt:=top 38
def KR:aC ["one","other"] ["one","other"] (aj yK):=by trivial
abbrev lU:Stmt:=top 39
def yL:aC ["tie_set","marks"] ["tie_set","marks"] (aj lU):=by trivial
abbrev uJ:Stmt:=top 40
def nk:aC ["web","side","ahead","point"] ["web","side"] (aj uJ):=by trivial
abbrev tG:Stmt:=top 41
def KS:aC ["web","side"] ["web","side"] (aj tG):=by trivial
abbrev qh:Stmt:=top 42
def nq:aC ["web","tie_set","trails","side","amiss"] ["web","tie_set"] (aj qh):=by trivial
def GS(h:let I:=gY;let O:=h9;let U:=(ay (bF kC O bg) I);let Y:=(ay je U);let Z:=(ay lH Y);let mj:=(ay qF Z);(ay Fp mj) D σ H):(ay Fp (ay qF (ay lH (ay je (ay (bF kC h9 bg) gY))))) D σ H:=h
abbrev fT:Stmt:=top 44
def dH:aC ["web","marks","steps","tie","ends","turn"] ["web","marks"] (aj fT):=by trivial
def tH(h:let I:=gY;let O:=h9;let U:=(ay je O);let Y:=(ay lH U);let Z:=(ay (eI qG qH Y) I);(ay qF Z) D σ H):(ay qF (ay (eI qG qH (ay lH (ay je h9))) gY)) D σ H:=h
abbrev iA:Stmt:=top 45
def bQ:aC ["web","marks","start","steps","found","waiting","nearest","way","tie","point","turn","part","further"] ["web","marks","start"] (aj iA):=by trivial
def zP(h:let I:=gY;let O:=h9;let U:=(bF CZ O bg);let Y:=(ay je U);let Z:=(ay lH Y);let mj:=(eI qG qH Z);let yE:=(ay qF mj);let Jo:=(ay Fp yE);let Jp:=(ay LU Jo);let Ol:=(ay (xA kC Jp) I);let Ew:=(ay Sf Ol);let Ex:=(ay Sg Ew);(ay Vl Ex) D σ H):(ay Vl (ay Sg (ay Sf (ay (xA kC (ay LU (ay Fp (ay qF (eI qG qH (ay lH (ay je (bF CZ h9 bg)))))))) gY)))) D σ H:=h
def bB:Pos:=⟨157,35,157,63⟩
abbrev jH:Stmt:=top 46
def uK:aC ["way"] ["way"] (aj jH):=by trivial
abbrev fU:Stmt:=top 47
def tI:aC ["ways"] ["ways"] (aj fU):=by trivial
abbrev fV:Stmt:=top 49
def tJ:aC ["web","marks"] ["web","marks"] (aj fV):=by trivial
abbrev gB:Stmt:=top 50
def uL:aC ["ways"] ["ways"] (aj gB):=by trivial
abbrev nu:Stmt:=top 51
def zQ:aC ["web","marks"] ["web","marks"] (aj nu):=by trivial
abbrev lM:Stmt:=top 52
def nv:aC ["web","marks","ways","rounds"] ["web","marks"] (aj lM):=by trivial
def Co(h:let I:=gY;let O:=h9;let U:=(ay (bF kC O bg) I);let Y:=(ay je U);let Z:=(ay lH Y);(ay qF Z) D σ H):(ay qF (ay lH (ay je (ay (bF kC h9 bg) gY)))) D σ H:=h
abbrev lV:Stmt:=top 53
def yM:aC ["one","other","length"] ["one","other","length"] (aj lV):=by trivial
abbrev ny:Stmt:=top 54
def lW:aC ["tie","turn","worths","here","there"] ["tie","turn","worths"] (aj ny):=by trivial
abbrev kW:Stmt:=top 55
def gC:aC ["web","marks","worths","point","place","tie"] ["web","marks","worths"] (aj kW):=by trivial
def wk(h:let I:=gY;let O:=h9;let U:=(bF kC O bg);let Y:=(eI Vm Vn U);let Z:=je;let mj:=(ay (bF CZ Z bg) Y);let yE:=(ay (eI qG qH mj) I);(ay lH yE) D σ H):(ay lH (ay (eI qG qH (ay (bF CZ je bg) (eI Vm Vn (bF kC h9 bg)))) gY)) D σ H:=h
abbrev fM:Stmt:=top 56
def nW:aC ["worths","length","rounds"] ["worths","length"] (aj fM):=by trivial
abbrev lX:Stmt:=top 57
def yN:aC ["web","marks","ring","worths"] ["web","marks","ring","worths"] (aj lX):=by trivial
abbrev uM:Stmt:=top 59
def fN:aC ["rows","tie_set","left","used","lead","row","places"] ["rows","tie_set"] (aj uM):=by trivial
def GU(h:let I:=gY;let O:=h9;let U:=(ay je O);let Y:=(bF kC U bg);let Z:=(ay (eI qG qH Y) I);let mj:=(ay lH Z);(ay qF mj) D σ H):(ay qF (ay lH (ay (eI qG qH (bF kC (ay je h9) bg)) gY))) D σ H:=h
abbrev qY:Stmt:=top 60
def o4:aC ["rows","added","found","old"] ["rows","added"] (aj qY):=by trivial
def Ey(h:let I:=gY;let O:=h9;let U:=je;let Y:=(bF kC O U);let Z:=(ay (eI qG qH Y) I);(ay lH Z) D σ H):(ay lH (ay (eI qG qH (bF kC h9 je)) gY)) D σ H:=h
abbrev uN:Stmt:=top 61
def iR:aC ["sets","rows","place","tie_set","rest"] ["sets"] (aj uN):=by trivial
def GV(h:let I:=gY;let O:=h9;let U:=(bF kC O bg);let Y:=(ay je U);let Z:=(ay (eI qG qH Y) I);(ay lH Z) D σ H):(ay lH (ay (eI qG qH (ay je (bF kC h9 bg))) gY)) D σ H:=h
abbrev qi:Stmt:=top 62
def GW:aC ["web","rings"] ["web","rings"] (aj qi):=by trivial
abbrev lN:Stmt:=top 63
def kh:aC ["web","rings","rows","found","place"] ["web","rings"] (aj lN):=by trivial
def Cp(h:let I:=gY;let O:=h9;let U:=(ay (eI qG qH O) I);let Y:=(ay je U);let Z:=(ay lH Y);let mj:=qF;(ay (bF kC mj bg) Z) D σ H):(ay (bF kC qF bg) (ay lH (ay je (ay (eI qG qH h9) gY)))) D σ H:=h
abbrev gz:Stmt:=top 64
def eF:aC ["web","waiting","found","marks","ring"] ["web"] (aj gz):=by trivial
def yO(h:let I:=gY;let O:=h9;let U:=(ay je O);let Y:=(ay lH U);let Z:=(ay qF Y);let mj:=(ay (xA kC Z) I);let yE:=(ay Fp mj);(ay LU yE) D σ H):(ay LU (ay Fp (ay (xA kC (ay qF (ay lH (ay je h9)))) gY))) D σ H:=h
abbrev ki:Stmt:=top 65
def lY:aC ["web","rings","marks"] ["web"] (aj ki):=by trivial
abbrev qj:Stmt:=top 66
def GX:aC ["web"] ["web"] (aj qj):=by trivial
abbrev jA:Stmt:=top 70
def nA:aC ["web","rings","marks","place","ring"] ["web","rings","marks"] (aj jA):=by trivial
def Cq(h:let I:=gY;let O:=h9;let U:=(bF kC O bg);let Y:=(ay (eI qG qH U) I);let Z:=je;(ay (bF CZ Z bg) Y) D σ H):(ay (bF CZ je bg) (ay (eI qG qH (bF kC h9 bg)) gY)) D σ H:=h
abbrev fj:Stmt:=top 71
def o5:aC ["web","base","rings"] ["web","base"] (aj fj):=by trivial
def yP(h:let I:=gY;let O:=h9;let U:=(ay (bF kC O bg) I);let Y:=je;let Z:=(ay (bF CZ Y bg) U);(ay lH Z) D σ H):(ay lH (ay (bF CZ je bg) (ay (bF kC h9 bg) gY))) D σ H:=h
abbrev qZ:Stmt:=top 73
def Ez:aC ["script","k"] ["script","k"] (aj qZ):=by trivial
abbrev q9:Stmt:=top 74
def vV:aC ["cell","stir"] ["cell"] (aj q9):=by trivial
abbrev rf:Stmt:=top 75
def g7:aC ["cell","points","number","one","other"] ["cell","points"] (aj rf):=by trivial
def EA(h:let I:=gY;let O:=(ay h9 I);let U:=(ay je O);let Y:=(ay lH U);let Z:=qF;let mj:=(ay (bF kC Z bg) Y);(ay Fp mj) D σ H):(ay Fp (ay (bF kC qF bg) (ay lH (ay je (ay h9 gY))))) D σ H:=h
abbrev o6:Stmt:=top 76
def dI:aC ["script","most","points","deeds","held","fresh","cell","turn"] ["script","most"] (aj o6):=by trivial
def Cr(h:let I:=gY;let O:=je;let U:=(ay lH O);let Y:=(ay qF U);let Z:=h9;let mj:=(bF CZ Y bg);let yE:=(bF kC Z mj);let Jo:=(ay Fp yE);let Jp:=(ay (eI qG qH Jo) I);let Ol:=(ay LU Jp);let Ew:=(ay Sf Ol);let Ex:=(ay Sg Ew);(ay Vl Ex) D σ H):(ay Vl (ay Sg (ay Sf (ay LU (ay (eI qG qH (ay Fp (bF kC h9 (bF CZ (ay qF (ay lH je)) bg)))) gY))))) D σ H:=h
abbrev yQ:Stmt:=top 77
def KU:aC ["standing","deed"] ["standing","deed"] (aj yQ):=by trivial
def KW(h:let I:=gY;let O:=h9;(bF kC I O) D σ H):(bF kC gY h9) D σ H:=h
abbrev lZ:Stmt:=top 78
def kX:aC ["points","ties","standing","tie"] ["points","ties"] (aj lZ):=by trivial
abbrev o7:Stmt:=top 79
def nB:aC ["ties","cell","made","k"] ["ties","cell"] (aj o7):=by trivial
abbrev Om:Stmt:=top 80
def nC:aC ["script","points","deeds","standing","deed","web","other","third","again"] ["script"] (aj Om):=by trivial
def Uz(h:let I:=gY;let O:=(ay h9 I);let U:=je;let Y:=(ay (eI qG qH U) O);let Z:=lH;let mj:=(ay (bF kC Z bg) Y);let yE:=qF;let Jo:=(ay (bF CZ yE bg) mj);let Jp:=Fp;let Ol:=(ay (bF Vd Jp bg) Jo);let Ew:=(ay LU Ol);let Ex:=(ay Sf Ew);let Xj:=(ay Sg Ex);let Xk:=Vl;let Xl:=(ay (eI Vm Vn Xk) Xj);let Xm:=(ay Xh Xl);(ay Xi Xm) D σ H):(ay Xi (ay Xh (ay (eI Vm Vn Vl) (ay Sg (ay Sf (ay LU (ay (bF Vd Fp bg) (ay (bF CZ qF bg) (ay (bF kC lH bg) (ay (eI qG qH je) (ay h9 gY))))))))))) D σ H:=h
abbrev jI:Stmt:=inClass (top 68) 0
def uO:aC ["self","points"] ["self","points"] (aj jI):=by trivial
def uP(h:let I:=gY;let O:=(ay h9 I);let U:=(ay je O);let Y:=(ay lH U);(ay qF Y) D σ H):(ay qF (ay lH (ay je (ay h9 gY)))) D σ H:=h
abbrev kY:Stmt:=inClass (top 68) 1
def jJ:aC ["self","one","other","length","tie","name"] ["self","one","other","length"] (aj kY):=by trivial
def wm(h:let I:=gY;let O:=(ay h9 I);let U:=(ay je O);let Y:=(ay lH U);let Z:=(ay qF Y);let mj:=(ay Fp Z);(ay LU mj) D σ H):(ay LU (ay Fp (ay qF (ay lH (ay je (ay h9 gY)))))) D σ H:=h
abbrev jK:Stmt:=inClass (top 68) 2
def uQ:aC ["self","name"] ["self","name"] (aj jK):=by trivial
abbrev jL:Stmt:=inClass (top 68) 3
def mT:aC ["self","deed"] ["self"] (aj jL):=by trivial
def uR(h:let I:=gY;let O:=(ay h9 I);let U:=je;let Y:=(bF kC O U);let Z:=(ay lH Y);let mj:=qF;(ay (bF CZ mj bg) Z) D σ H):(ay (bF CZ qF bg) (ay lH (bF kC (ay h9 gY) je))) D σ H:=h
abbrev iS:Stmt:=inClass (top 68) 4
def tK:aC ["self"] ["self"] (aj iS):=by trivial
abbrev dX:Stmt:=inClass (top 68) 5
def o8:aC ["self"] ["self"] (aj dX):=by trivial
abbrev gU:Stmt:=inClass (top 68) 6
def qw:aC ["self"] ["self"] (aj gU):=by trivial
abbrev gn:Stmt:=inClass (top 68) 7
def o9:aC ["self"] ["self"] (aj gn):=by trivial
abbrev eR:Stmt:=inClass (top 68) 8
def mU:aC ["self"] ["self"] (aj eR):=by trivial
abbrev iT:Stmt:=inClass (top 68) 9
def tM:aC ["self"] ["self"] (aj iT):=by trivial
end
set_option genInjectivity false
set_option genSizeOf false
structure Adr where
 GY:Addr
 GZ:FuncData
 G0:Addr
 G3:FuncData
 KY:Addr
 KZ:FuncData
 K0:Addr
 K1:FuncData
 Oo:Addr
 Oq:FuncData
 G4:Addr
 G5:FuncData
 Ot:Addr
 Ou:FuncData
 EB:Addr
 EC:FuncData
 Cs:Addr
 Ct:FuncData
 ED:Addr
 EF:FuncData
 Cu:Addr
 Cv:FuncData
 uS:Addr
 uT:FuncData
 Ov:Addr
 Ow:FuncData
 UA:Addr
 UB:FuncData
 K2:Addr
 K3:FuncData
 wq:Addr
 wu:FuncData
 Ox:Addr
 Oz:FuncData
 OA:Addr
 OB:FuncData
 zR:Addr
 zS:FuncData
 Cw:Addr
 Cy:FuncData
 K4:Addr
 K5:FuncData
 uU:Addr
 uV:FuncData
 EG:Addr
 EH:FuncData
 OD:Addr
 OE:FuncData
 zT:Addr
 zU:FuncData
 K6:Addr
 K7:FuncData
 OF:Addr
 OG:FuncData
 K8:Addr
 K9:FuncData
 uW:Addr
 uX:FuncData
 Cz:Addr
 CA:FuncData
 wA:Addr
 wB:FuncData
 uY:Addr
 uZ:FuncData
 u4:Addr
 u6:FuncData
 wC:Addr
 wF:FuncData
 CB:Addr
 CC:FuncData
 EI:Addr
 EJ:FuncData
 zV:Addr
 zW:FuncData
 CD:Addr
 CF:FuncData
 yR:Addr
 yS:FuncData
 yT:Addr
 yU:FuncData
 zX:Addr
 zY:FuncData
 La:Addr
 Lb:FuncData
 G6:Addr
 G7:FuncData
 Lc:Addr
 Ld:FuncData
 Le:Addr
 Lf:FuncData
 EK:Addr
 EL:FuncData
 zZ:Addr
 z5:FuncData
 CG:Addr
 CH:FuncData
 Lg:Addr
 Lh:FuncData
 EM:Addr
 EN:FuncData
 z6:Addr
 z7:FuncData
 G8:Addr
 G9:FuncData
 Hf:Addr
 Hg:FuncData
 Hh:Addr
 Hi:FuncData
 EO:Addr
 ER:FuncData
 OH:Addr
 OI:FuncData
 z8:Addr
 z9:FuncData
 ES:Addr
 ET:FuncData
 Xn:Addr
 Xo:FuncData
 jM:Addr
 jN:FuncData
 kZ:Addr
 k6:FuncData
 jO:Addr
 jP:FuncData
 jQ:Addr
 jR:FuncData
 iU:Addr
 iV:FuncData
 gp:Addr
 gq:FuncData
 gV:Addr
 gW:FuncData
 gr:Addr
 gv:FuncData
 eT:Addr
 eU:FuncData
 iW:Addr
 iX:FuncData
 OJ:Addr
 eZ:Addr
 Hj:Addr
 u9:Addr
 yV:Addr
 OL:Addr
 az:Addr
 EU:Addr
 cV:Addr
 CI:Addr
 bS:Addr
structure Txt(P:Program)(w:World)(base:Heap)(K:bJ)(mg:nY)(a:Adr):Prop where
 k7:Dn K mg "made_web" ni a.GY a.GZ ["points","ties"]
 rh:Dn K mg "made_tie" qW a.G0 a.G3 ["points","tie"]
 g8:Dn K mg "has_tie" uF a.KY a.KZ ["tie_set","tie"]
 iY:Dn K mg "ties_in" qa a.K0 a.K1 ["tie_set"]
 tN:Dn K mg "set_of" yF a.Oo a.Oq ["web","ties"]
 k8:Dn K mg "all_ties" qX a.G4 a.G5 ["web"]
 pe:Dn K mg "is_set" yG a.Ot a.Ou ["web","number"]
 g9:Dn K mg "check_set" oY a.EB a.EC ["web","tie_set"]
 iB:Dn K mg "triples_in" kc a.Cs a.Ct ["web","tie_set"]
 jB:Dn K mg "length_of" lJ a.ED a.EF ["web","tie_set"]
 nE:Dn K mg "odd_points" kg a.Cu a.Cv ["web","tie_set"]
 fW:Dn K mg "drawn_together" fR a.uS a.uT ["leasts","one","other"]
 tO:Dn K mg "pieces" tE a.Ov a.Ow ["web","tie_set"]
 Hl:Dn K mg "rank" GP a.UA a.UB ["web"]
 vc:Dn K mg "is_even" uG a.K2 a.K3 ["web","tie_set"]
 e8:Dn K mg "forest_trails" gA a.wq a.wu ["web"]
 yW:Dn K mg "forest" yH a.Ox a.Oz ["web"]
 tP:Dn K mg "chords" yI a.OA a.OB ["web"]
 l6:Dn K mg "ring_closed" lT a.zR a.zS ["web","trails","chord"]
 nF:Dn K mg "chord_ring" nj a.Cw a.Cy ["web","tie"]
 vd:Dn K mg "is_ring" qg a.K4 a.K5 ["web","tie_set"]
 fX:Dn K mg "is_ring_number" iQ a.uU a.uV ["web","number"]
 jC:Sd K mg "by_length" lK a.EG a.EH ["web","rings"] a.EU a.cV
 yX:Dn K mg "common" yK a.OD a.OE ["one","other"]
 fk:Dn K mg "bears_oddly" lU a.zT a.zU ["tie_set","marks"]
 ve:Dn K mg "is_side" uJ a.K6 a.K7 ["web","side"]
 yY:Dn K mg "cut_of" tG a.OF a.OG ["web","side"]
 vf:Dn K mg "side_of" qh a.K8 a.K9 ["web","tie_set"]
 iZ:Dn K mg "steps_by_point" fT a.uW a.uX ["web","marks"]
 kj:Sd K mg "least_ways" iA a.Cz a.CA ["web","marks","start"] a.CI a.bS
 gD:Dn K mg "length_of_way" jH a.wA a.wB ["way"]
 i0:Dn K mg "worths_of_ways" fU a.uY a.uZ ["ways"]
 fY:Dn K mg "all_least_ways" fV a.u4 a.u6 ["web","marks"]
 gE:Dn K mg "worths_of_all" gB a.wC a.wF ["ways"]
 nG:Dn K mg "worths_for" nu a.CB a.CC ["web","marks"]
 pA:Dn K mg "least_odd" lM a.EI a.EJ ["web","marks"]
 jg:Dn K mg "near_enough" lV a.zV a.zW ["one","other","length"]
 nH:Dn K mg "tie_stands" ny a.CD a.CF ["tie","turn","worths"]
 k9:Dn K mg "worths_stand" kW a.yR a.yS ["web","marks","worths"]
 lg:Dn K mg "none_shorter" fM a.yT a.yU ["worths","length"]
 l7:Dn K mg "ring_stands" lX a.zX a.zY ["web","marks","ring","worths"]
 vg:Dn K mg "reduced" uM a.La a.Lb ["rows","tie_set"]
 rm:Dn K mg "with_row" qY a.G6 a.G7 ["rows","added"]
 qk:Dn K mg "rows_of" uN a.Lc a.Ld ["sets"]
 qm:Dn K mg "is_base" qi a.Le a.Lf ["web","rings"]
 pB:Dn K mg "marks_for" lN a.EK a.EL ["web","rings"]
 jh:Dn K mg "least_rings" gz a.zZ a.z5 ["web"]
 nJ:Dn K mg "least_base" ki a.CG a.CH ["web"]
 vh:Dn K mg "lengths" qj a.Lg a.Lh ["web"]
 pC:Dn K mg "marks_fit" jA a.EM a.EN ["web","rings","marks"]
 ji:Dn K mg "base_judged" fj a.z6 a.z7 ["web","base"]
 nK:Dn K mg "_law_cell" qZ a.G8 a.G9 ["script","k"]
 i7:Dn K mg "_law_turn" q9 a.Hf a.Hg ["cell"]
 rq:Dn K mg "_law_near" rf a.Hh a.Hi ["cell","points"]
 pD:Dn K mg "_law_deeds" o6 a.EO a.ER ["script","most"]
 yZ:Dn K mg "_law_do" yQ a.OH a.OI ["standing","deed"]
 jj:Dn K mg "_law_put_all" lZ a.z8 a.z9 ["points","ties"]
 pF:Dn K mg "_law_mixed" o7 a.ES a.ET ["ties","cell"]
 Sh:Dn K mg "law" Om a.Xn a.Xo ["script"]
 wG:rM K "__init__" "Standing.__init__" jI a.jM a.jN
 mk_Standing:Mk K a.az a.jM
 nX:Binds K a.jN ["self","points"] []
 y9:rM K "put" "Standing.put" kY a.kZ a.k6
 jS:Meth K a.az "put" a.kZ
 lq:Binds K a.k6 ["self","one","other","length"] []
 wH:rM K "drop" "Standing.drop" jK a.jO a.jP
 vj:Meth K a.az "drop" a.jO
 wI:Binds K a.jP ["self","name"] []
 wJ:rM K "back" "Standing.back" jL a.jQ a.jR
 vm:Meth K a.az "back" a.jQ
 wK:Binds K a.jR ["self"] []
 vn:rM K "names" "Standing.names" iS a.iU a.iV
 tQ:Meth K a.az "names" a.iU
 vo:Binds K a.iV ["self"] []
 qx:rM K "ties_now" "Standing.ties_now" dX a.gp a.gq
 jD:Meth K a.az "ties_now" a.gp
 jW:Binds K a.gq ["self"] []
 rA:rM K "web_now" "Standing.web_now" gU a.gV a.gW
 bx:Meth K a.az "web_now" a.gV
 bA:Binds K a.gW ["self"] []
 qy:rM K "base_now" "Standing.base_now" gn a.gr a.gv
 jE:Meth K a.az "base_now" a.gr
 jX:Binds K a.gv ["self"] []
 nL:rM K "lengths_now" "Standing.lengths_now" eR a.eT a.eU
 cK:Meth K a.az "lengths_now" a.eT
 cR:Binds K a.eU ["self"] []
 vp:rM K "deeds" "Standing.deeds" iT a.iW a.iX
 lO:Meth K a.az "deeds" a.iW
 mV:Binds K a.iX ["self"] []
 Q9:mg "ValueError"=none
 Xp:mg "abs"=none
 Jq:mg "all"=none
 hU:mg "enumerate"=none
 eG:mg "len"=none
 Ho:mg "list"=none
 Jr:mg "max"=none
 OM:mg "min"=none
 dJ:mg "range"=none
 tR:mg "sorted"=none
 Xq:mg "sum"=none
 tS:mg "tuple"=none
 Si:mg "zip"=none
 Aa:∃t,mg "MOST_POINTS"=some (.int 10 t)
 EV:∃t,mg "MOST_TIES"=some (.int 24 t)
 Li:∃t,mg "LONGEST"=some (.int 1000000000000000000000000000000 t)
 Xr:mg "BadWeb"=some (.ref a.OJ)
 Xs:mg "BadSet"=some (.ref a.eZ)
 UC:mg "BadPoint"=some (.ref a.Hj)
 Vo:mg "NoChord"=some (.ref a.u9)
 Xu:mg "NoBase"=some (.ref a.yV)
 Xv:mg "NoDeed"=some (.ref a.OL)
 za:mg "Standing"=some (.ref a.az)
 aB:Pn K a.az
 na_points:lP K a.az "points"
 na_standing_ties:lP K a.az "standing_ties"
 na_next_name:lP K a.az "next_name"
 na_done:lP K a.az "done"
 ON:∀h:Heap,K.In h->h.Ns mainGlobals mg->PyProof.Rows.OwnCls "BadSet" a.eZ [.type "ValueError",.type "Exception",.type "BaseException",.type "object"] "ValueError.__new__" mg h
 Lj:∀h:Heap,K.In h->h.Ns mainGlobals mg->PyProof.Rows.OwnCls "NoChord" a.u9 [.type "ValueError",.type "Exception",.type "BaseException",.type "object"] "ValueError.__new__" mg h
 OO:∀h:Heap,K.In h->h.Ns mainGlobals mg->PyProof.Rows.OwnCls "NoBase" a.yV [.type "ValueError",.type "Exception",.type "BaseException",.type "object"] "ValueError.__new__" mg h
section
variable {P:Program}{w:World}{K:bJ}{mg:nY}{base:Heap}{a:Adr}{x:Str}{st:Stmt}{f c0 p0:Addr}{fd:FuncData}{ps:List Str}
abbrev Ok(_:Txt P w base K mg a)(_:Dn K mg x st f fd ps)(k:Nat)(sp:Sp):=gH P w K mg base wW k f fd ps sp
abbrev LV(_:Txt P w base K mg a)(_:Dn K mg x st f fd ps)(k:Nat)(sp:Sp):=gH P w K mg base (MI P w) k f fd ps sp
abbrev OkL(_:Txt P w base K mg a)(_:Sd K mg x st f fd ps c0 p0)(k:Nat)(sp:Sp):=gH P w K mg base wW k f fd ps sp
end
def Hq:Sp:=λvs H Q _=>∃(S:Int) (k:Nat),vs=[.int S,.int (k:Int)]/\Q (.bl (bit S k)) H
def Hr:Sp:=λvs H Q _=>∃m:Nat,vs=[.int (m:Int)]/\Builtin.Int.intBits (m:Int)<=1000/\∀D H',H D=none->aq H H'->H' D=some (.lst (aD (bz (m:Int))))->Q (.ref D) H'
def EW:Sp:=λvs H Q _=>∃w p ts,vs=[.ref w]/\bE H w p ts/\Pu p ts/\Q (.int (2^ts.length-1)) H
def Ll:Sp:=λvs H Q _=>∃w p ts S,vs=[.ref w,.int S]/\bE H w p ts/\Pu p ts/\Q (.bl (decide (0<=S/\S<2^ts.length))) H
def qI(ts:List bZ)(S:Int)(bad:Prop)(R:Nat->Prop):Prop:=(∃m:Nat,S=(m:Int)/\m<2^ts.length/\R m)\/((S<0\/2^ts.length<=S)/\bad)
def CJ(C:Addr):Sp:=λvs H Q E=>∃w p ts S,vs=[.ref w,.int S]/\bE H w p ts/\Pu p ts/\qI ts S (E (.ref C) none H) λ_=>Q .eX H
def Ab(C:Addr):Sp:=λvs H Q E=>∃w p ts S,vs=[.ref w,.int S]/\bE H w p ts/\Pu p ts/\qI ts S (E (.ref C) none H) λm =>
 ∀D ys H',H D=none->aq H H'->H' D=some (.lst ys)->Paired (TupAt H') ys ((bz (m:Int)).map (bj ts))->Q (.ref D) H'
def Ac(C:Addr):Sp:=λvs H Q E=>∃w p ts S,vs=[.ref w,.int S]/\bE H w p ts/\Pu p ts/\qI ts S (∀H',aq H H'->E (.ref C) none H') λm =>
 ∀D H',aq H H'->H' D=some (.lst (aD (xK p ts (m:Int))))->Q (.ref D) H'
def Hs(C:Addr):Sp:=λvs H Q E=>∃w p ts S,vs=[.ref w,.int S]/\bE H w p ts/\Pu p ts/\qI ts S (∀H',aq H H'->E (.ref C) none H') λm=>∀H',aq H H'->Q (.bl (decide (xK p ts (m:Int)=[]))) H'
section
variable {P:Program}{w:World}{K:bJ}{mg:nY}{base:Heap}{a:Adr}(T:Txt P w base K mg a)
def bM:Ok T T.g8 1 Hq:=by
 refine T.g8.ok GN λ_ A _ s H vs Q E hr h=>?_
 ·obtain⟨S,k,rfl,q⟩:=h;refine⟨_,(av (aF (c9 jq (aS Mh (aS SW (pv 0) (pv 1)) ak) ak (aM _)))),?_⟩;refine(au rfl (au rfl (dz ⟨(by lia),dz ⟨rfl,?_⟩⟩)))
  rw[aaE,TM];exact q
def cB:Ok T T.iY 2 Hr:=by
 have bM:=bM T;refine T.iY.ok GO λ_ A _ s H vs Q E hr h=>?_
 ·obtain⟨m,rfl,hm,k⟩:=h;refine⟨_,(av (aF (cD (own:=["tie"]) (fq:=["tie_set"]) (js:=[0]) (aI (aj qa) ["tie_set"]) rfl (cu (by rfl) T.dJ (aa (F6 PySem.F.plainAttrs_int adA adB IE (pv 0)) af)) (λ_ _ _ _=>(bq 0 (lG ["tie","tie_set"]))) (λ_ _ _ _=>(jZ (dZ (aH bM hr T.g8.c aE (aa (pv 1) (aa (pv 0) af)))))) (λ_ _ _ _=>(pv 0))))),?_⟩
  refine(au rfl ⟨rfl,au rfl ⟨rfl,au rfl ⟨(by lia),(by lia),λD I=>eM (lo:=0) (m:=Builtin.Int.intBits (m:Int)) (qu (bit (m:Int)) H D) (.start I) (λi acc H2 _ p=>p.len) (dl (abM.mpr hm)) ?_ ?_⟩⟩⟩)
  ·intro i acc H2 hi p;rw[abS];refine⟨rfl,au rfl (au rfl ⟨(m:Int),i,rfl,au rfl (?_)⟩)⟩;cases hb:bit (m:Int) i with
   | true=>exact(au rfl (p.yes I (aq.refl _) hb))
   | false=>exact p.no (aq.refl _) hb
  ·intro acc H2 p;exact k D H2 I p.1 (by rw[p.2.1,p.2.2];rfl)
def eV:Ok T T.k8 1 EW:=by
 refine T.k8.ok Eu λ_ A _ s H vs Q E hr h=>?_
 ·obtain⟨O,p,ts,rfl,hw,W,q⟩:=h;refine⟨_,(av (aF (aS qM (aS qN ak (cG K T.eG (aa (aK (cT K) (pv 0) ak) af))) ak))),?_⟩;obtain⟨b,xs,h1,h2,h3⟩:=hw.ex;have I:=h3.length;have wl:=W.len;refine(au rfl (cU (aU.of h1) (ao (j:=1) rfl) (vS rfl (.inr (aU.of h2)) (dz ⟨⟨by lia,by lia,by decide⟩,dz (?_)⟩))))
  rw[aaE,I,Int.one_mul];exact q
def iC:Ok T T.pe 2 Ll:=by
 have eV:=eV T;refine T.pe.ok KO λ_ A _ s H vs Q E hr h=>?_
 ·obtain⟨O,p,ts,S,rfl,hw,W,q⟩:=h;refine⟨_,(av (aF (ou (c9 C8 (pv 1) ak (aM _)) (oq (c9 Ml (pv 1) (aH eV hr T.k8.c aE (aa (pv 0) af)) (aM _)))))),?_⟩;refine(au rfl (dz (au rfl (xD (λI=>?_) (λI=>?_)))))
  ·have I:0<=S:=ko I;refine(au rfl (au rfl ⟨O,p,ts,rfl,hw,W,_,_,rfl,rfl,?_⟩));have e:decide (S<=2^ts.length-1)=decide (0<=S/\S<2^ts.length):=abv.mpr ⟨λz=>⟨I,by lia⟩,λz=>by lia⟩
   rw[<-e]at q;exact q
  ·have I : ¬ 0<=S:=λz=>I (dm z)
   rw[gj (λz=>I z.1)]at q
   exact q
def cf:LV T T.g9 3 (CJ a.eZ):=by
 have iC:=iC T;refine T.g9.IG Cj λ_ A _ s H vs Q E hr h=>?_
 ·obtain⟨I,p,ts,S,rfl,hw,W,q⟩:=h;refine⟨_,(av (bW (kF (dZ (aH iC hr T.pe.c aE (aa (pv 0) (aa (pv 1) af))))) (av (xJ gJ.Z5 rfl (by rfl) T.ON ac5 (aa m4 af))) aY)),?_⟩
  refine Ck ?_;intro O;refine(au rfl (au rfl ⟨I,p,ts,S,rfl,hw,W,?_⟩));have h2:((2:Int)^ts.length)=((2^ts.length:Nat):Int):=by simp
  rcases q with⟨m,rfl,hm,q⟩|⟨U,q⟩
  ·rw[dm ⟨by lia,by lia⟩]
   exact(au rfl (dN q))
  ·rw[gj (by lia)]
   exact(au rfl (fC ⟨dl rfl,q⟩))
def cS:LV T T.iB 4 (Ab a.eZ):=by
 have cf:=cf T;have cB:=cB T;refine T.iB.IG zM λ_ A _ s H vs Q E hr h=>?_
 ·obtain⟨wb,p,ts,S,rfl,hw,W,q⟩:=h;refine⟨_,(ai (bL (aH cf hr T.g9.c gJ.passes (aa (pv 0) (aa (pv 1) af))))
   (av (aF (cD (own:=["tie"]) (fq:=["web"]) (js:=[0]) (aI (aj kc) ["web","tie_set"]) rfl (wX K (aH cB hr T.iY.c aE (aa (pv 1) af))) (λ_ _ _ _=>(bq 0 (lG ["tie","web"]))) (λ_ _ _ _=>cg) (λ_ _ _ _=>(aK (cT K) (aK (cT K) (pv 1) ak) (pv 0))))))),?_⟩
  refine jf ?_;intro cH;refine(au rfl (au rfl ⟨wb,p,ts,S,rfl,hw,W,?_⟩));rcases q with⟨m,rfl,hm,q⟩|⟨hS,q⟩
  ·refine .inl ⟨m,rfl,hm,?_⟩;have wl:=W.len;have hb:Builtin.Int.intBits (m:Int)<=ts.length:=bits_le hm;refine(au rfl ⟨m,rfl,by lia,λL H1 _ s1 Z=>⟨L,rfl,⟨_,aR.of Z⟩,λD U=>?_⟩⟩)
   obtain⟨b,xs,h1,h2,h3⟩:=(hw.same s1).ex;have Lm:=h3.length;refine cA (xs:=aD (bz (m:Int))) (λi acc H2=>aq H1 H2/\H2 D=some (.lst acc)/\Paired (TupAt H2) acc (((bz (m:Int)).take i).map (bj ts))/\acc.length=i) ⟨aq.new U,ae,.nil,rfl⟩ ?_ ?_ ?_ ?_
   ·rintro i acc H2 _ ⟨s2,hd,pr,I⟩;exact⟨aR.of (s2 _ _ Z),hd,acV I⟩
   ·rw[aG];refine dl (abM.mpr (aa0 (abc _ _) ?_));rw[aaK]
    lia
   ·rintro i x acc H2 hx ⟨s2,hd,pr,I⟩;obtain⟨k,hk,rfl⟩:=iK hx;have xG:k<ts.length:=wY hm (jV hk);have O:k<xs.length:=by lia
    obtain⟨t,ht,c,hc,Y⟩:=Paired.lR h3 (i:=k) (x:=xs[k]) (by simp[O])
    have Pw:bj ts k=t:=by
     unfold bj;rw[aad,ht];rfl
    refine⟨rfl,au rfl (cU (aU.of (s2 _ _ h1)) (ao (j:=1) rfl) (au rfl (cU (v:=xs[k]) (aU.of (s2 _ _ h2)) (ao (j:=k) (by simp[O])) (?_))))⟩
    rw[hc];refine⟨hd,s2.put U,ae,?_,by rw[aaz,abt,I]⟩
    rw[aa1,hk,aaJ];refine Paired.snoc (Paired.imp' (λ_ _ z=>z.tups (bG.put hd)) pr) ?_
    rw[Pw];exact⟨c,rfl,bG.put hd _ _ (s2 _ _ Y)⟩
   ·rintro acc H2 ⟨s2,hd,pr,I⟩;rw[aG,aa7]at pr;exact q D acc H2 (s1.free U) (s1.trans s2) hd pr
  ·exact .inr ⟨hS,q⟩
def nM:LV T T.nE 5 (Ac a.eZ):=by
 have cS:=cS T;refine T.nE.IG gy λ_ A _ s H vs Q E hr h=>?_
 ·obtain⟨wb,p,ts,S,rfl,hw,W,q⟩:=h;refine⟨_,(ai (aN (i:=2) gy.nd rfl (Or.inr rfl) (aS MB (eg (aa ak af)) (aK (cT K) (pv 0) ak)))
   (ai (rQ rfl (wX K (aH cS hr T.iB.c gJ.passes (aa (pv 0) (aa (pv 1) af)))) (Dp K (n:=3) rfl (aL (bq 3 gy.nd) (aL (bq 4 gy.nd) (aL (bq 5 gy.nd) c8))))
   (ai (Ij (pv 2) (pv 3) (getL K) ak Io set_list)
   (av (Ij (pv 2) (pv 4) (getL K) ak Io set_list))))
   (av (aF (cD (own:=["point"]) (fq:=["ends"]) (js:=[2]) (aI (aj kg) ["web","tie_set","ends","one","other","length"]) rfl (cu (by rfl) T.dJ (aa (aK (cT K) (pv 0) ak) af)) (λ_ _ _ _=>(bq 0 (lG ["point","ends"]))) (λ_ _ _ _=>(jZ (aO jq (aS gG (aK (oB K) (pv 1) (pv 0)) ak) ak (aM _)))) (λ_ _ _ _=>(pv 0))))))),?_⟩
  refine zN ?_;intro cH cQ eK fG;obtain⟨b,xs,h1,h2,h3⟩:=id hw.ex;have wp:=W.pts;refine⟨dl rfl,λl0 IC=>?_⟩
  have s0:aq H (upd H l0 (.lst [.int 0])):=aq.new IC;refine(au rfl (cU (aU.of (s0 _ _ h1)) (ao (j:=0) rfl) ⟨l0,(p:Int),au rfl ⟨rfl,ae,by lia,by lia,(by rw[aaE];show 1*p<=sizeLine;exact dl (abM.mpr (by lia))),λe he=>?_⟩⟩))
  have s1:=s0.trans (aq.new (o:=.lst (List.replicate (p:Int).toNat [V.int 0]).flatten) he);have YW:upd (upd H l0 (.lst [.int 0])) e (.lst (List.replicate (p:Int).toNat [V.int 0]).flatten) e=some (.lst (oE (List.replicate p 0))):=by
   rw[ae,aaE,MR]
  generalize upd (upd H l0 (.lst [.int 0])) e (.lst (List.replicate (p:Int).toNat [V.int 0]).flatten)=H1 at s1 YW;have O:H e=none:=s0.free he;refine(au rfl (au rfl ⟨wb,p,ts,S,rfl,hw.same s1,W,?_⟩));rcases q with⟨m,rfl,hm,q⟩|⟨hS,q⟩
  ·refine .inl ⟨m,rfl,hm,λL ys H2 ab s2 hL pr=>⟨L,rfl,⟨_,aR.of hL⟩,?_⟩⟩
   have ag:=s1.trans s2;have ar:e≠L:=aJ YW ab;have Vp:ys.length<=24:=by
    rw[pr.length,aac];have hb:Builtin.Int.intBits (m:Int)<=ts.length:=bits_le hm;have wl:=W.len;have:=abc (bit (m:Int)) (List.range (Builtin.Int.intBits (m:Int)));rw[aaK]at this;exact aa0 this (by lia)
   refine gX (K:=K) (a:=L) (xs:=ys) (λi σ H3=>∃v1 v2 v3,σ=[some (.ref wb),some (.int (m:Int)),some (.ref e),v1,v2,v3]/\(∀x o,H2 x=some o->x≠e->H3 x=some o)/\H3 e=some (.lst (oE ((((bz (m:Int)).map (bj ts)).take i).foldl stepT (List.replicate p 0)))))
    ⟨none,none,none,rfl,λ_ _ z _=>z,s2 _ _ YW⟩ (λi σ H3 _ ⟨_,_,_,_,z,_⟩=>aR.of (z _ _ hL (aa6 ar))) ?_ ?_
   ·rintro i y D' σ H3 hi ⟨v1,v2,v3,rfl,z3,U⟩;obtain⟨t,ht,c,rfl,hc⟩:=Paired.lR pr hi;have aw:c≠e:=aQ hc (s2 _ _ YW) (by intro z;cases z)
    have ax:=z3 _ _ hc aw;have aT:t∈ts:=by
     obtain⟨k,hk,rfl⟩:=aaH.mp (jV ht);unfold bj;have xG:=wY hm hk;rw[aad];simp[xG]
    obtain⟨a0,a1,b0,b1⟩:=W.inw.ends t aT;obtain⟨t1,t2,t3⟩:=t;dsimp only at a0 a1 b0 b1;obtain⟨j1,rfl⟩:=acL a0;obtain⟨j2,rfl⟩:=acL b0;generalize hE:(((bz (m:Int)).map (bj ts)).take i).foldl stepT (List.replicate p 0)=EE at U;have Y:EE.length=p:=by rw[<-hE,ug,abW]
    have Z:j1<EE.length:=by lia
    have N1:j2<(bump EE (j1:Int)).length:=by rw[mz];lia
    refine⟨c,_,rfl,aU.of ax,rfl,_,_,rfl,_,_,rfl,_,_,rfl,rfl,?_⟩;refine(au rfl (au rfl ⟨e,_,j1,_,rfl,rfl,aR.of U,uh Z,_,_,rfl,rfl,e,_,_,j1,rfl,rfl,U,BI (by rw[oE,aac];exact Z),?_⟩))
    rw[xN];refine(au rfl (au rfl ⟨e,_,j2,_,rfl,rfl,aR.of ae,uh N1,_,_,rfl,rfl,e,_,_,j2,rfl,rfl,ae,BI (by rw[oE,aac];exact N1),?_⟩))
    rw[xN];refine⟨_,_,_,rfl,λx o z hx=>by rw[ah hx,ah hx];exact z3 x o z hx,?_⟩
    rw[ae,aa1,ht,acC,hE];rfl
   ·rintro σ H3 ⟨v1,v2,v3,rfl,z3,U⟩;have a3:wb≠e:=aJ h1 O;have tX:aq H H3:=λx o z=>z3 x o (ag x o z) (aJ z O)
    have hE:H3 e=some (.lst (oE (lS p ts (m:Int)))):=by
     rw[U,acR (by rw[<-pr.length];exact aam _),AA hm]
    have Y:(lS p ts (m:Int)).length=p:=by rw[AA hm,ug,abW]
    refine(au rfl (cU (aU.of (tX _ _ h1)) (ao (j:=0) rfl) (au rfl ⟨(by lia),(by lia),λD hD=>eM (lo:=0) (m:=p) (qu (λi=>decide ((lS p ts (m:Int)).getD i 0%2=1)) H3 D) (.start hD) (λi acc H4 _ p=>p.len) (dl (abM.mpr (by lia))) ?_ ?_⟩)))
    ·intro i acc H4 hi I;rw[abS];refine⟨rfl,au rfl (au rfl (p8 (aR.of (I.1 _ _ hE)) (ao (j:=i) (uh (by rw[Y];exact hi))) (dz ⟨(BC rfl),rfl,au rfl (?_)⟩)))⟩
     rw[Qm];cases hb:decide ((lS p ts (m:Int)).getD i 0%2=1) with
     | true=>exact(au rfl (I.yes hD (aq.refl _) hb))
     | false=>exact I.no (aq.refl _) hb
    ·intro acc H4 I;exact q D H4 (tX.trans I.1) (by rw[I.2.1,I.2.2];rfl)
  ·exact .inr ⟨hS,q _ s1⟩
def vq:LV T T.vc 6 (Hs a.eZ):=by
 have nM:=nM T;refine T.vc.IG GQ λ_ A _ s H vs Q E hr h=>?_
 ·obtain⟨I,p,ts,S,rfl,hw,W,q⟩:=h;refine⟨_,(av (aF (c9 (BD K hr.units) (aH nM hr T.nE.c gJ.passes (aa (pv 0) (aa (pv 1) af))) (eg af) (aM _)))),?_⟩;refine(au rfl (au rfl ⟨I,p,ts,S,rfl,hw,W,?_⟩));rcases q with⟨m,rfl,hm,q⟩|⟨hS,q⟩
  ·refine .inl ⟨m,rfl,hm,λD H1 s1 O=>⟨dl rfl,λl U=>?_⟩⟩
   have s2:aq H1 (upd H1 l (.lst [])):=aq.new U;refine⟨_,_,.lst (aR.of (s2 _ _ O)) (mD _),.lst (aR.of ae) .nil,jv _,rfl,?_⟩;rw[Ql];exact q _ (s1.trans s2)
  ·exact .inr ⟨hS,q⟩
def OP:Sp:=λvs H Q _=>∃(l:Addr) (L:Nat->Nat) (p u v:Nat),vs=[.ref l,.int (u:Int),.int (v:Int)]/\H l=some (.lst (jw L p))/\p<=10/\u<p/\v<p/\
 ∀D H',H D=none->aq H H'->H' D=some (.lst (jw (RM.join L u v) p))->Q (.ref D) H'
def Ln(C:Addr):Sp:=λvs H Q E=>∃w p ts,∃g:aA p ts,∃S,vs=[.ref w,.int S]/\bE H w p ts/\qI ts S (∀H',aq H H'->E (.ref C) none H') λm =>
 ∀D ys H',H D=none->aq H H'->H' D=some (.lst ys)->Paired (RO D H H') ys ((fP (bY p ts g m) p).map (pieceOf (bY p ts g m) p))->Q (.ref D) H'
def Ra:Sp:=λvs H Q _=>∃w p ts,∃g:aA p ts,vs=[.ref w]/\bE H w p ts/\∀H',aq H H'->Q (.int (g.N.bf.length:Int)) H'
def cY:Ok T T.fW 1 OP:=by
 refine T.fW.ok iy λ_ A _ s H vs Q E hr h=>?_
 ·obtain⟨l,L,p,u,v,rfl,O,hp,Y,Z,q⟩:=h;refine⟨_,(ai (aN (i:=3) iy.nd rfl (Or.inr rfl) (cF (JD rfl) (by rfl) T.OM PyProof.Rows.boot_min (aa (aK (oB K) (pv 0) (pv 1)) (aa (aK (oB K) (pv 0) (pv 2)) af))))
   (ai (aN (i:=4) iy.nd rfl (Or.inr rfl) (cF (pO rfl) (by rfl) T.Jr ac0 (aa (aK (oB K) (pv 0) (pv 1)) (aa (aK (oB K) (pv 0) (pv 2)) af))))
   (av (aF (cD (own:=["least"]) (fq:=["low","high"]) (js:=[3,4]) (aI (aj fR) ["leasts","one","other","low","high"]) rfl (wX K (pv 0)) (λ_ _ _ _=>(bq 0 (lG ["least","low","high"]))) (λ_ _ _ _=>cg) (λ_ _ _ _=>(mw (aO jq (pv 0) (pv 2) (aM _)) (pv 1) (pv 0)))))))),?_⟩
  refine iz ?_;intro cH cQ;refine(au rfl (au rfl (p8 (aR.of O) (ao (j:=u) (cM Y)) (au rfl (au rfl (p8 (aR.of O) (ao (j:=v) (cM Z)) ⟨_,_,rfl,?_⟩))))));refine(au rfl (au rfl (p8 (aR.of O) (ao (j:=u) (cM Y)) (au rfl (au rfl (p8 (aR.of O) (ao (j:=v) (cM Z)) ⟨_,_,rfl,?_⟩))))));refine(au rfl ⟨l,rfl,⟨_,aR.of O⟩,λD U=>cA (xs:=jw L p) (BQ (RM.join L u v) H D) (.start U) (λi acc H2 _ I=>⟨aR.of (I.1 _ _ O),I.len⟩) (by rw[ir];exact dl (abM.mpr (by lia))) ?_ ?_⟩)
  ·intro i x acc H2 hx I;obtain⟨hi,rfl⟩:=w4 hx;refine⟨rfl,au rfl (au rfl ⟨rfl,au rfl (?_)⟩)⟩;rw[IP,pR]
   by_cases hm:L i=max (L u) (L v)
   ·rw[dm hm];refine fC (au rfl (I.next U (aq.refl _) ?_));rw[Qs];unfold RM.join;rw[aai hm]
   ·rw[gj hm];refine dN (au rfl (I.next U (aq.refl _) ?_));unfold RM.join;rw[aaf hm]
  ·intro acc H2 I;rw[ir]at I;exact q D H2 U I.1 (by rw[I.2.1,I.2.2])
def mW:LV T T.tO 5 (Ln a.eZ):=by
 have cS:=cS T;have cY:=cY T;refine T.tO.IG gZ λ_ A _ s H vs Q E hr h=>?_
 ·obtain⟨wb,p,ts,g,S,rfl,hw,q⟩:=h;refine⟨_,(ai (aN (i:=2) gZ.nd rfl (Or.inr rfl) (fc (RN rfl) (by rfl) T.Ho adt (aa (fc Du (by rfl) T.dJ PyProof.Rows.boot_range (aa (aK (cT K) (pv 0) ak) af)) af)))
   (ai (rQ rfl (wX K (aH cS hr T.iB.c gJ.passes (aa (pv 0) (aa (pv 1) af)))) (Dp K (n:=3) rfl (aL (bq 3 gZ.nd) (aL (bq 4 gZ.nd) (aL (bq 5 gZ.nd) c8))))
   (av (aN (i:=2) gZ.nd rfl (Or.inr rfl) (aH cY hr T.fW.c aE (aa (pv 2) (aa (pv 3) (aa (pv 4) af)))))))
   (ai (aN (i:=6) gZ.nd rfl (Or.inl rfl) (eg af))
   (ai (rQ rfl (cu (by rfl) T.dJ (aa (aK (cT K) (pv 0) ak) af)) (wR (i:=7) gZ.nd rfl (Or.inr rfl))
   (av (bW (aO jq (aK (oB K) (pv 2) (pv 7)) (pv 7) (aM _)) (av (bL (Jm K (lB abe abl abm cW (pv 6) (aa (cD (own:=["point"]) (fq:=["leasts","start"]) (js:=[2,7]) (aI (aj tE) ["web","tie_set","leasts","one","other","length","found","start"]) rfl (cu (by rfl) T.dJ (aa (aK (cT K) (pv 0) ak) af)) (λ_ _ _ _=>(bq 0 (lG ["point","leasts","start"]))) (λ_ _ _ _=>(jZ (aO jq (aK (oB K) (pv 1) (pv 0)) (pv 2) (aM _)))) (λ_ _ _ _=>(pv 0))) af))))) aY)))
   (av (aF (pv 6))))))),?_⟩
  refine KP ?_;intro cH cQ eK fG gR mj yE;obtain⟨b,xs,h1,h2,h3⟩:=id hw.ex;have W:=g.BL;have wp:=W.pts;have wl:=W.len;refine(au rfl (cU (aU.of h1) (ao (j:=0) rfl) (au rfl (λr hr=>⟨r,p,rfl,ae,by lia,λl hl=>?_⟩))))
  have s1:aq H (upd (upd H r (.Jw 0 (p:Int))) l (.lst (zH p))):=(aq.new hr).trans (aq.new hl);have Y:upd (upd H r (.Jw 0 (p:Int))) l (.lst (zH p)) l=some (.lst (jw (λx=>x) p)):=ae
  generalize upd (upd H r (.Jw 0 (p:Int))) l (.lst (zH p))=H1 at s1 Y;refine(au rfl (au rfl ⟨wb,p,ts,S,rfl,hw.same s1,W,?_⟩));rcases q with⟨m,rfl,hm,q⟩|⟨hS,q⟩
  ·refine .inl ⟨m,rfl,hm,λT0 ys H2 a4 s2 hT pr=>⟨T0,rfl,⟨_,aR.of hT⟩,?_⟩⟩
   have Vp:ys.length<=24:=by
    rw[pr.length,aac];have hb:Builtin.Int.intBits (m:Int)<=ts.length:=bits_le hm;have:=abc (bit (m:Int)) (List.range (Builtin.Int.intBits (m:Int)));rw[aaK]at this;exact aa0 this (by lia)
   refine gX (K:=K) (a:=T0) (xs:=ys) (λi σ H3=>∃Z v3 v4 v5,σ=[some (.ref wb),some (.int (m:Int)),some (.ref Z),v3,v4,v5,none,none]/\aq H2 H3/\H3 Z=some (.lst (jw (vJ p ts g ((bz (m:Int)).take i)) p)))
    ⟨l,none,none,none,rfl,aq.refl _,s2 _ _ Y⟩ (λi σ H3 _ ⟨_,_,_,_,_,z,_⟩=>aR.of (z _ _ hT)) ?_ ?_
   ·rintro i y D' σ H3 hi ⟨Z,v3,v4,v5,rfl,s3,I⟩;obtain⟨t,ht,c,rfl,hc⟩:=Paired.lR pr hi;have ab:=s3 _ _ hc;rw[aaw]at ht;obtain⟨k,hk,hkt⟩:=vY.mp ht;have xG:=wY hm (jV hk);have ea:=IK (g:=g) xG;have eb:=IL (g:=g) xG;rw[hkt]at ea eb;have ag:=g.N.al k xG;have ar:=g.N.bl k xG;refine⟨c,_,rfl,aU.of ab,rfl,_,_,rfl,_,_,rfl,_,_,rfl,rfl,?_⟩;refine(au rfl (au rfl (au rfl ⟨Z,vJ p ts g ((bz (m:Int)).take i),p,g.N.a k,g.N.b k,?_,I,wp,ag,ar,λD H4 Rb s4 hD=>?_⟩)))
    ·rw[<-ea,<-eb];rfl
    ·refine⟨D,_,_,_,rfl,s3.trans s4,?_⟩;rw[hD,aa1,hk];show _=some (HO.lst (jw (vJ p ts g ((bz (m:Int)).take i++[k])) p));rw[Gd]
   ·rintro σ H3 ⟨Z,v3,v4,v5,rfl,s3,I⟩;have aw:ys.length=(bz (m:Int)).length:=by rw[pr.length,aac]
    rw[aw,aa7,Ge hm]at I;have tX:aq H H3:=(s1.trans s2).trans s3;refine⟨dl rfl,λD hD=>?_⟩
    have t0:xT (bY p ts g m) p H3 D 0 (upd H3 D (.lst [])):=xT.start hD;generalize upd H3 D (.lst [])=H4 at t0;refine(au rfl (cU (aU.of (t0.1 _ _ (tX _ _ h1))) (ao (j:=0) rfl) (au rfl ⟨(by lia),(by lia),?_⟩)))
    refine kU (lo:=0) (n:=(p:Int).toNat) (λi σ H5=>∃v7,σ=[some (.ref wb),some (.int (m:Int)),some (.ref Z),v3,v4,v5,some (.ref D),v7]/\xT (bY p ts g m) p H3 D i H5) ⟨none,rfl,t0⟩ ?_ ?_
    ·rintro i D' σ H5 hi ⟨v7,rfl,U⟩;rw[aaE]at hi;rw[abS];have Xx:=U.1 _ _ I;refine(au rfl (au rfl (p8 (aR.of Xx) (ao (j:=i) (cM hi)) (au rfl ⟨rfl,au rfl (?_)⟩))));rw[pR]
     by_cases hr:bY p ts g m i=i
     ·rw[dm hr];obtain⟨a5,zz⟩:∃ys,H5 D=some (.lst ys):=let⟨_,ys,z,_⟩:=U;⟨ys,z⟩;refine fC (au rfl ⟨.inl ⟨rfl,_,aR.of zz⟩,au rfl (cU (aU.of (U.1 _ _ (tX _ _ h1))) (ao (j:=0) rfl) (au rfl ⟨(by lia),(by lia),λB hB=>eM (lo:=0) (m:=(p:Int).toNat) (qu (λx=>decide (bY p ts g m x=i)) H5 B) (.start hB) (λi acc H6 _ O=>O.len) (dl (abM.mpr (by lia))) ?_ ?_⟩))⟩)
      ·intro x acc H6 hx O;rw[aaE]at hx;rw[abS];refine⟨rfl,au rfl (au rfl (p8 (aR.of (O.1 _ _ Xx)) (ao (j:=x) (cM hx)) (au rfl ⟨rfl,au rfl (?_)⟩)))⟩;rw[pR];cases hb:decide (bY p ts g m x=i) with
       | true=>exact(au rfl (O.yes hB (aq.refl _) hb))
       | false=>exact O.no (aq.refl _) hb
      ·intro acc H6 O;have ax:H6 B=some (.lst (aD (pieceOf (bY p ts g m) p i))):=by rw[O.2.1,O.2.2,aaE];rfl
       obtain⟨aT,Vq,Y,t7⟩:=U.push hD hr O.1 hB ax;exact⟨D,aT,_,rfl,rfl,Vq,m8 (by lia),au rfl (t7)⟩
     ·rw[gj hr];exact dN (au rfl (U.skip hr))
    ·rintro σ H5 ⟨v7,rfl,U⟩;rw[aaE]at U;obtain⟨s5,a3,zz,OQ,a6⟩:=U;exact(au rfl (q D a3 H5 (tX.free hD) (tX.trans s5) zz (Paired.imp' (λ_ _ ⟨e,he,hn,h0,z⟩=>⟨e,he,hn,tX.free h0,z⟩) OQ)))
  ·exact .inr ⟨hS,q _ s1⟩
def Ht:Ok T T.Hl 6 Ra:=by
 have mW:=mW T;have eV:=eV T;refine T.Hl.ok Q8 λ_ A _ s H vs Q E hr h=>?_
 ·obtain⟨O,p,ts,g,rfl,hw,q⟩:=h;refine⟨_,(av (aF (aS ie (aS qM (cG K T.eG (aa (aK (cT K) (pv 0) ak) af)) (aK (cT K) (pv 0) ak)) (cG K T.eG (aa (aH mW hr T.tO.c vI (aa (pv 0) (aa (aH eV hr T.k8.c aE (aa (pv 0) af)) af))) af))))),?_⟩;obtain⟨b,xs,h1,h2,h3⟩:=id hw.ex;have U:=h3.length;have Y:((2:Int)^ts.length-1)=((2^ts.length-1:Nat):Int):=by
   have h:((2:Int)^ts.length)=((2^ts.length:Nat):Int):=by simp
   have:=abV ts.length
   lia
  have I:2^ts.length-1<2^ts.length:=by have:=abV ts.length;lia
  refine(au rfl (cU (aU.of h1) (ao (j:=1) rfl) (vS rfl (.inr (aU.of h2)) (au rfl (cU (aU.of h1) (ao (j:=0) rfl) (dz (?_)))))));refine(au rfl (au rfl ⟨O,p,ts,rfl,hw,g.BL,O,p,ts,g,_,rfl,hw,.inl ⟨2^ts.length-1,Y,I,λD ys H' Rb s' Z pr=>(vS rfl (.inl (aR.of Z)) (dz (?_)))⟩⟩))
  have hv:=Qq (g:=g);have hy:ys.length=(fP (bY p ts g (2^ts.length-1)) p).length:=by rw[pr.length,aac]
  show Q (.int ((xs.length:Int)-(p:Int)+(ys.length:Int))) H';rw[U,hy,hv];exact q H' s'
def Hu(C:Addr):Sp:=λvs H Q E=>∃w p ts,∃g:aA p ts,∃S,vs=[.ref w,.int S]/\bE H w p ts/\qI ts S (∀H',aq H H'->E (.ref C) none H') λm=>∀H',aq H H'->Q (.bl (vL p ts g m)) H'
def vt:LV T T.vd 7 (Hu a.eZ):=by
 have vq:=vq T;have mW:=mW T;have cB:=cB T;refine T.vd.IG yJ λ_ A _ s H vs Q E hr h=>?_
 ·obtain⟨Z,p,ts,g,S,rfl,hw,q⟩:=h;refine⟨_,(ai (bW (kF (dZ (aH vq hr T.vc.c gJ.passes (aa (pv 0) (aa (pv 1) af))))) (av (aF iE)) aY)
   (ai (jc (i:=2) yJ.nd rfl rfl (own:=["piece"]) (fq:=[]) (js:=[]) (aI (aj qg) ["web","tie_set","touched"]) rfl (wX K (aH mW hr T.tO.c gJ.passes (aa (pv 0) (aa (pv 1) af)))) (λ_ _ _ _=>(bq 0 (lG ["piece"]))) (λ_ _ _ _=>(jZ (aO vH (cG K T.eG (aa (pv 0) af)) ak (aM _)))) (λ_ _ _ _=>(pv 0)))
   (av (aF (ou (c9 jq (cG K T.eG (aa (pv 2) af)) ak (aM _)) (oq (c9 jq (cG K T.eG (aa (aK (oB K) (pv 2) ak) af)) (cG K T.eG (aa (aH cB hr T.iY.c aE (aa (pv 1) af)) af)) (aM _)))))))),?_⟩
  refine GR ?_;intro cH cQ eK;have W:=g.BL;have wp:=g.p2;have wl:=g.len;refine(au rfl (au rfl ⟨Z,p,ts,S,rfl,hw,W,?_⟩));rcases q with⟨m,rfl,hm,q⟩|⟨hS,q⟩
  ·refine .inl ⟨m,rfl,hm,λH1 s1=>(au rfl (?_))⟩
   by_cases ev:xK p ts (m:Int)=[]
   ·rw[dm ev];rw[Gj ev]at q;refine dN (au rfl (au rfl ⟨Z,p,ts,g,_,rfl,hw.same s1,.inl ⟨m,rfl,hm,λD ys H2 Rb s2 hD pr=>⟨D,rfl,⟨_,aR.of hD⟩,λC hC=>?_⟩⟩⟩))
    have Vp:ys.length<=10:=by
     rw[pr.length,aac];unfold fP;have:=abc (λx=>decide (bY p ts g m x=x)) (List.range p)
     rw[aaK]at this;exact aa0 this wp
    refine cA (xs:=ys) (x6 (λl=>decide (1<l.length)) ((fP (bY p ts g m) p).map (pieceOf (bY p ts g m) p)) H2 C) (.start hC) (λi acc H3 _ O=>⟨aR.of (O.1 _ _ hD),O.len⟩) (dW (by lia)) ?_ ?_
    ·intro i x acc H3 hx O;obtain⟨l,hl,b,rfl,ab,ag,hb⟩:=Paired.lR pr hx;refine⟨rfl,au rfl (vS rfl (.inl (aR.of (O.1 _ _ hb))) (dz (au rfl (?_))))⟩;cases CK:decide (1<l.length) with
     | true =>
       have e:decide ((1:Int)<((aD l).length:Int))=true:=dm (by have:=ko CK;rw[aG];lia)
       show if decide ((1:Int)<((aD l).length:Int))=true then _ else _
       rw[e];exact fC (au rfl (O.yes hC hl CK ⟨b,rfl,hb⟩))
     | false =>
       have e:decide ((1:Int)<((aD l).length:Int))=false:=gj (by have:=of_decide_eq_false CK;rw[aG];lia)
       show if decide ((1:Int)<((aD l).length:Int))=true then _ else _
       rw[e];exact dN (O.no hl CK)
    ·intro acc H3 O;have U:Paired (TX H2) acc ((fh (bY p ts g m) p).map (pieceOf (bY p ts g m) p)):=by
      have h:=O.2.2;rw[pr.length,aa7,List.filter_map]at h;exact h
     have I:=U.length;rw[aac]at I;refine(au rfl (vS rfl (.inl (aR.of O.2.1)) ⟨rfl,au rfl (?_)⟩));have Y:=(s1.trans s2).trans O.1;have ar:Builtin.Int.intBits (m:Int)<=ts.length:=bits_le hm;generalize fh (bY p ts g m) p=tl at q U I;cases tl with
     | nil =>
       have I:acc.length=0:=I;rw[I];exact dN (q H3 Y)
     | cons s r =>
       cases r with
       | nil =>
         cases U with
         | cons hy pn =>
           cases pn;obtain⟨b,rfl,hb⟩:=hy;refine fC (au rfl (p8 (aR.of O.2.1) (ao (j:=0) rfl) (vS rfl (.inl (aR.of (O.1 _ _ hb))) (au rfl ⟨m,rfl,by lia,λD4 H4 aw s4 Fq=>(vS rfl (.inl (aR.of Fq)) ⟨rfl,?_⟩)⟩))))
           rw[aG,aG,pR];exact q H4 (Y.trans s4)
       | cons t r =>
         have I:acc.length=r.length+2:=I;have e:decide (V.int ((acc.length:Nat):Int)=V.int 1)=false:=gj λz=>by
          have:=V.int.inj z
          lia
         rw[e];exact dN (q H3 Y)
   ·rw[gj ev];have er:vL p ts g m=false:=by
     unfold vL;rw[gj ev,adg]
    rw[er]at q;exact fC (q H1 s1)
  ·exact .inr ⟨hS,q⟩
def tT:Sp:=λvs H Q _=>∃w p ts,∃g:aA p ts,∃S:Int,vs=[.ref w,.int S]/\bE H w p ts/\∀H' (d:Bool),aq H H'->(d=true↔∃m:Nat,S=(m:Int)/\m<2^ts.length/\g.N.Ring m)->Q (.bl d) H'
def cZ:Ok T T.fX 8 tT:=by
 have iC:=iC T;have vt:=vt T;refine T.fX.ok tF λ_ A _ s H vs Q E hr h=>?_
 ·obtain⟨I,p,ts,g,S,rfl,hw,q⟩:=h;refine⟨_,(av (aF (ou (aH iC hr T.pe.c aE (aa (pv 0) (aa (pv 1) af))) (oq (aH vt hr T.vd.c vI (aa (pv 0) (aa (pv 1) af))))))),?_⟩;have O:((2:Int)^ts.length)=((2^ts.length:Nat):Int):=by simp
  refine(au rfl (au rfl ⟨I,p,ts,S,rfl,hw,g.BL,_,rfl,?_⟩))
  by_cases hs:0<=S/\S<2^ts.length
  ·rw[dm hs];obtain⟨m,rfl⟩:=acL hs.1;have hm:m<2^ts.length:=by lia
   refine fC (au rfl (au rfl ⟨I,p,ts,g,_,rfl,hw,.inl ⟨m,rfl,hm,λH1 s1=>q H1 _ s1 ?_⟩⟩))
   rw[JZ g hm];exact⟨λr=>⟨m,rfl,hm,r⟩,λ⟨m',e,_,r⟩=>by
    have:m=m':=by lia
    rw[this];exact r⟩
  ·rw[gj hs];refine dN (q H false (aq.refl _) ⟨λz=>(aav z).elim,λ⟨m',e,hm,_⟩=>absurd ⟨by lia,by lia⟩ hs⟩)
def Lp:Sp:=λvs H Q _=>∃w p ts,∃g:aA p ts,vs=[.ref w]/\bE H w p ts/\∀D H',H D=none->aq H H'->H' D=some (.lst (jw (g.N.trail ts.length) p))->Q (.ref D) H'
def Lq:Sp:=λvs H Q _=>∃w p ts,∃g:aA p ts,vs=[.ref w]/\bE H w p ts/\∀H',aq H H'->Q (.int ((lD p ts g:Nat):Int)) H'
def Lr:Sp:=λvs H Q _=>∃w p ts,∃g:aA p ts,vs=[.ref w]/\bE H w p ts/\∀D H',H D=none->aq H H'->H' D=some (.lst (aD g.N.bf))->Q (.ref D) H'
def zb:Sp:=λvs H Q _=>∃w p ts,∃g:aA p ts,∃(D:Addr) (c:Nat),vs=[.ref w,.ref D,.int (c:Int)]/\bE H w p ts/\H D=some (.lst (jw (g.N.trail ts.length) p))/\c<ts.length/\Q (.int ((g.N.ring c:Nat):Int)) H
def Hv{H:Hp}{xs:List V}{p:Nat}{ts:List bZ}{g:aA p ts}{k:Nat}(h3:Paired (TupAt H) xs ts)(hk:k<ts.length):∃c,xs[k]?=some (.ref c)/\H c=some (.tup [.int ((g.N.a k:Nat):Int),.int ((g.N.b k:Nat):Int),.int (bj ts k).2.2]):=by
 have I:k<xs.length:=by rw[h3.length];exact hk
 obtain⟨t,ht,c,hc,O⟩:=Paired.lR h3 (i:=k) (x:=xs[k]) (by simp[I])
 have U:t=bj ts k:=by
  have z:=um hk;rw[ht]at z;exact Option.some.inj z
 refine⟨c,by rw[<-hc];simp[I],?_⟩
 rw[O,<-IK hk,<-IL hk,U];rfl
def bT:Ok T T.e8 2 Lp:=by
 have cY:=cY T;refine T.e8.ok br λ_ A _ s H vs Q E hr h=>?_
 ·obtain⟨wb,p,ts,g,rfl,hw,q⟩:=h;refine⟨_,(ai (aN (i:=1) br.nd rfl (Or.inl rfl) (fc (RN rfl) (by rfl) T.Ho adt (aa (fc Du (by rfl) T.dJ PyProof.Rows.boot_range (aa (aK (cT K) (pv 0) ak) af)) af)))
   (ai (aN (i:=2) br.nd rfl (Or.inl rfl) (aS MB (eg (aa ak af)) (aK (cT K) (pv 0) ak)))
   (ai (fH PassesOwn.never rfl (cu (by rfl) T.dJ (aa (cG K T.eG (aa (aK (cT K) (pv 0) ak) af)) af)) (bq 3 br.nd)
   (ai (aN (i:=4) br.nd rfl (Or.inl rfl) (aK (cT K) (aK (cT K) (aK (cT K) (pv 0) ak) (pv 3)) ak))
   (ai (aN (i:=5) br.nd rfl (Or.inl rfl) (aK (cT K) (aK (cT K) (aK (cT K) (pv 0) ak) (pv 3)) ak))
   (av (bW (aO C7 (aK (oB K) (pv 1) (pv 4)) (aK (oB K) (pv 1) (pv 5)) (aM _)) (ai (aN (i:=6) br.nd rfl (Or.inr rfl) (aS iH (aS iH (aK (oB K) (pv 2) (pv 4)) (aK (oB K) (pv 2) (pv 5))) (aS qN ak (pv 3))))
   (ai (aN (i:=7) br.nd rfl (Or.inr rfl) (cF (pO rfl) (by rfl) T.Jr ac0 (aa (aK (oB K) (pv 1) (pv 4)) (aa (aK (oB K) (pv 1) (pv 5)) af))))
   (ai (jc (i:=2) br.nd rfl rfl (own:=["trail","least"]) (fq:=["bridge","moved"]) (js:=[6,7]) (aI (aj gA) ["web","leasts","trails","tie","one","other","bridge","moved"]) rfl (MN K (by rfl) T.Si (aa (pv 2) (aa (pv 1) af))) (λ_ _ _ _=>(Dp K (n:=2) rfl (aL (bq 0 (lG ["trail","least","bridge","moved"])) (aL (bq 1 (lG ["trail","least","bridge","moved"])) c8)))) (λ_ _ _ _=>cg) (λ_ _ _ _=>(mw (aO jq (pv 1) (pv 3) (aM _)) (aS iH (pv 0) (pv 2)) (pv 0))))
   (av (aN (i:=1) br.nd rfl (Or.inl rfl) (aH cY hr T.fW.c aE (aa (pv 1) (aa (pv 4) (aa (pv 5) af))))))))) aY)))))
   (av (aF (pv 2)))))),?_⟩
  refine uH ?_;intro cH cQ eK fG gR mj yE Jo Jp Ol;obtain⟨bt,xs,h1,h2,h3⟩:=id hw.ex;have wp:=g.p2;have wl:=g.len;have Lm:=h3.length;refine(au rfl (cU (aU.of h1) (ao (j:=0) rfl) (au rfl (λr hr=>⟨r,p,rfl,ae,by lia,λl hl=>?_⟩))))
  have s1:aq H (upd (upd H r (.Jw 0 (p:Int))) l (.lst (zH p))):=(aq.new hr).trans (aq.new hl);have ab:upd (upd H r (.Jw 0 (p:Int))) l (.lst (zH p)) l=some (.lst (jw (g.N.gw 0) p)):=ae;generalize upd (upd H r (.Jw 0 (p:Int))) l (.lst (zH p))=H1 at s1 ab;refine⟨dl rfl,λl0 IC=>?_⟩
  have s0:aq H1 (upd H1 l0 (.lst [.int 0])):=aq.new IC;refine(au rfl (cU (aU.of (s0 _ _ (s1 _ _ h1))) (ao (j:=0) rfl) ⟨l0,(p:Int),au rfl ⟨rfl,ae,by lia,by lia,(by rw[aaE];show 1*p<=sizeLine;exact dl (abM.mpr (by lia))),λe he=>?_⟩⟩))
  have s2:=s0.trans (aq.new (o:=.lst (List.replicate (p:Int).toNat [V.int 0]).flatten) he);have Vf:upd (upd H1 l0 (.lst [.int 0])) e (.lst (List.replicate (p:Int).toNat [V.int 0]).flatten) e=some (.lst (jw (g.N.trail 0) p)):=by
   rw[ae,aaE,MY];rfl
  generalize upd (upd H1 l0 (.lst [.int 0])) e (.lst (List.replicate (p:Int).toNat [V.int 0]).flatten)=H2 at s2 Vf;refine(au rfl (cU (aU.of ((s1.trans s2) _ _ h1)) (ao (j:=1) rfl) (vS rfl (.inr (aU.of ((s1.trans s2) _ _ h2))) (au rfl ⟨(by lia),(by lia),?_⟩))))
  refine kU (lo:=0) (n:=(xs.length:Int).toNat) (λk σ H3=>∃la ta v3 v4 v5 v6 v7,σ=[some (.ref wb),some (.ref la),some (.ref ta),v3,v4,v5,v6,v7]/\aq H H3/\H3 la=some (.lst (jw (g.N.gw k) p))/\H3 ta=some (.lst (jw (g.N.trail k) p))/\H ta=none)
   ⟨l,e,none,none,none,none,none,rfl,s1.trans s2,s2 _ _ ab,Vf,s1.free (s0.free he)⟩ ?_ ?_
  ·rintro k D' σ H3 hk ⟨la,ta,v3,v4,v5,v6,v7,rfl,s3,I,Z,Vh⟩;rw[aaE,Lm]at hk;rw[abS];obtain⟨c,ag,ar⟩:=Hv (g:=g) h3 hk;have hA:=g.N.al k hk;have hB:=g.N.bl k hk;have Y:=RM.DB (N:=g.N) k;have Rc:g.N.oG k = !decide (g.N.gw k (g.N.a k)=g.N.gw k (g.N.b k)):=rfl;have U:g.N.trail (k+1)=if g.N.oG k=true then λv=>if g.N.gw k v=max (g.N.gw k (g.N.a k)) (g.N.gw k (g.N.b k)) then g.N.trail k v^^^(g.N.trail k (g.N.a k)^^^g.N.trail k (g.N.b k)^^^2^k) else g.N.trail k v else g.N.trail k:=rfl
   generalize g.N.a k=A0 at *;generalize g.N.b k=B0 at *;refine(au rfl (cU (aU.of (s3 _ _ h1)) (ao (j:=1) rfl) (au rfl (cU (aU.of (s3 _ _ h2)) (ao (j:=k) ag) (cU (aU.of (s3 _ _ ar)) (ao (j:=0) rfl) (?_))))));refine(au rfl (cU (aU.of (s3 _ _ h1)) (ao (j:=1) rfl) (au rfl (cU (aU.of (s3 _ _ h2)) (ao (j:=k) ag) (cU (aU.of (s3 _ _ ar)) (ao (j:=1) rfl) (?_))))));refine(au rfl (au rfl (p8 (aR.of I) (ao (j:=A0) (cM hA)) (au rfl (au rfl (p8 (aR.of I) (ao (j:=B0) (cM hB)) ⟨rfl,au rfl (?_)⟩))))));rw[pR]
   by_cases he:g.N.gw k A0=g.N.gw k B0
   ·rw[dm he]at Rc;rw[Rc,aaf (by decide)]at Y U
    rw[dm he];exact dN ⟨la,ta,_,_,_,_,_,rfl,s3,by rw[Y];exact I,by rw[U];exact Z,Vh⟩
   ·rw[gj he]at Rc;rw[Rc,aai (by rfl)]at Y U
    rw[gj he];have aw:Builtin.bitXor (Builtin.bitXor ((g.N.trail k A0:Nat):Int) ((g.N.trail k B0:Nat):Int)) (1*2^(k:Int).toNat)=((g.N.trail k A0^^^g.N.trail k B0^^^2^k:Nat):Int):=by
     rw[rY,xor_int,xor_int]
    refine fC (au rfl (au rfl (p8 (aR.of Z) (ao (j:=A0) (cM hA)) (au rfl (au rfl (p8 (aR.of Z) (ao (j:=B0) (cM hB)) (dz (au rfl (dz ⟨⟨by lia,by lia,by decide⟩,dz (?_)⟩)))))))))
    refine(au rfl (au rfl (p8 (aR.of I) (ao (j:=A0) (cM hA)) (au rfl (au rfl (p8 (aR.of I) (ao (j:=B0) (cM hB)) ⟨_,_,rfl,?_⟩))))));refine(au rfl (au rfl ⟨ta,la,rfl,⟨_,aR.of Z⟩,⟨_,aR.of I⟩,λD hD=>Dt (xs:=jw (g.N.trail k) p) (ys:=jw (g.N.gw k) p) (by rw[ir,ir]) (BQ (g.N.trail (k+1)) H3 D) (.start hD) (λi acc H4 _ O=>⟨aR.of (O.1 _ _ Z),aR.of (O.1 _ _ I),O.len⟩) (by rw[ir];exact dl (abM.mpr (by lia))) ?_ ?_⟩))
    ·intro i x y T0 acc H4 hx hy O hT;obtain⟨hi,rfl⟩:=w4 hx;obtain⟨_,rfl⟩:=w4 hy;refine⟨T0,_,rfl,aU.of ae,rfl,_,_,rfl,_,_,rfl,rfl,rfl,au rfl (au rfl ⟨rfl,au rfl (?_)⟩)⟩;rw[IP,pR]
     by_cases hm:g.N.gw k i=max (g.N.gw k A0) (g.N.gw k B0)
     ·rw[dm hm];refine fC (au rfl (au rfl (dz (O.next hD (aq.new hT) ?_))));show V.int (Builtin.bitXor _ (Builtin.bitXor (Builtin.bitXor _ _) _))=_;rw[aw,xor_int,U];show _=V.int (((if _ then _ else _:Nat)):Int)
      rw[aai hm]
     ·rw[gj hm];refine dN (au rfl (O.next hD (aq.new hT) ?_));rw[U];show _=V.int (((if _ then _ else _:Nat)):Int)
      rw[aaf hm]
    ·intro acc H4 O;rw[ir]at O;have Fq:H4 D=some (.lst (jw (g.N.trail (k+1)) p)):=by rw[O.2.1,O.2.2]
     refine(au rfl (au rfl (au rfl ⟨la,g.N.gw k,p,A0,B0,rfl,O.1 _ _ I,wp,hA,hB,λD2 H5 ax s5 j9=>?_⟩)))
     exact⟨D2,D,_,_,_,_,_,rfl,(s3.trans O.1).trans s5,by rw[Y];exact j9,s5 _ _ Fq,s3.free hD⟩
  ·rintro σ H3 ⟨la,ta,v3,v4,v5,v6,v7,rfl,s3,I,Z,Vh⟩;rw[aaE,Lm]at Z;exact(au rfl (q ta H3 Vh s3 Z))
def zc:Ok T T.yW 3 Lq:=by
 have bT:=bT T;refine T.yW.ok qf λ_ A _ s H vs Q E hr h=>?_
 ·obtain⟨I,p,ts,g,rfl,hw,q⟩:=h;refine⟨_,(ai (aN (i:=1) qf.nd rfl (Or.inl rfl) ak)
   (ai (fH PassesOwn.never rfl (wX K (aH bT hr T.e8.c aE (aa (pv 0) af))) (bq 2 qf.nd)
   (av (Bo (i:=1) qf.nd rfl (Or.inl rfl) (pv 2) Mi)))
   (av (aF (pv 1))))),?_⟩
  refine uI ?_;intro U Y Z;refine(au rfl ⟨I,p,ts,g,rfl,hw,λD H1 Rb s1 O=>⟨D,rfl,⟨_,aR.of O⟩,?_⟩⟩)
  refine gX (K:=K) (a:=D) (xs:=jw (g.N.trail ts.length) p) (λi σ H2=>∃v2,σ=[some (.ref I),some (.int ((Vg (g.N.trail ts.length) i:Nat):Int)),v2]/\H2=H1) ⟨none,rfl,rfl⟩ (λi σ H2 _ ⟨_,_,z⟩=>by rw[z];exact aR.of O) ?_ ?_
  ·rintro i x D' σ H2 hx ⟨v2,rfl,rfl⟩;obtain⟨hi,rfl⟩:=w4 hx;refine(au rfl (au rfl (dz ⟨some (.int ((g.N.trail ts.length i:Nat):Int)),?_,rfl⟩)));show[_,some (V.int (Builtin.bitOr _ _)),_]=_;rw[or_int];rfl
  ·rintro σ H2 ⟨v2,rfl,rfl⟩;rw[ir,Gg];exact(au rfl (q _ s1))
def mX:Ok T T.tP 4 Lr:=by
 have zc:=zc T;have eV:=eV T;have cB:=cB T;refine T.tP.ok KQ λ_ A _ s H vs Q E hr h=>?_
 ·obtain⟨I,p,ts,g,rfl,hw,q⟩:=h;refine⟨_,(av (aF (aH cB hr T.iY.c aE (aa (aS iH (aH eV hr T.k8.c aE (aa (pv 0) af)) (aH zc hr T.yW.c aE (aa (pv 0) af))) af)))),?_⟩;have wl:=g.len;refine(au rfl ⟨I,p,ts,rfl,hw,g.BL,_,rfl,I,p,ts,g,rfl,hw,λH1 s1=>(dz ⟨(2^ts.length-1)^^^lD p ts g,?_,?_,λD H2 U s2 O=>?_⟩)⟩)
  ·show[V.int (Builtin.bitXor _ _)]=_;rw[Qt,xor_int]
  ·exact aa0 (bits_le AI) (by lia)
  ·rw[DF]at O;exact q D H2 (s1.free U) (s1.trans s2) O
def l8:Ok T T.l6 1 zb:=by
 refine T.l6.ok oZ λ_ A _ s H vs Q E hr h=>?_
 ·obtain⟨Z,p,ts,g,D,c,rfl,hw,I,hc,q⟩:=h;refine⟨_,(ai (aN (i:=3) oZ.nd rfl (Or.inl rfl) (aK (cT K) (aK (cT K) (pv 0) ak) (pv 2)))
   (av (aF (aS iH (aS iH (aK (oB K) (pv 1) (aK (cT K) (pv 3) ak)) (aK (oB K) (pv 1) (aK (cT K) (pv 3) ak))) (aS qN ak (pv 2)))))),?_⟩
  refine jf ?_;intro cH;obtain⟨bt,xs,h1,h2,O⟩:=id hw.ex;have wl:=g.len;obtain⟨b,hxc,hct⟩:=Hv (g:=g) O hc;have U:=g.N.al c hc;have Y:=g.N.bl c hc;refine(au rfl (cU (aU.of h1) (ao (j:=1) rfl) (au rfl (cU (aU.of h2) (ao (j:=c) hxc) (?_)))));refine(au rfl (au rfl (cU (aU.of hct) (ao (j:=0) rfl) (p8 (aR.of I) (ao (j:=g.N.a c) (cM U)) (au rfl (au rfl (cU (aU.of hct) (ao (j:=1) rfl) (p8 (aR.of I) (ao (j:=g.N.b c) (cM Y)) (dz (au rfl (dz ⟨⟨by lia,by lia,by decide⟩,dz (?_)⟩)))))))))))
  show Q (V.int (Builtin.bitXor (Builtin.bitXor _ _) _)) H;rw[rY,xor_int,xor_int];exact q
def Ad(C:Addr):Sp:=λvs H Q E=>∃w p ts,∃g:aA p ts,∃S,vs=[.ref w,.int S]/\bE H w p ts/\
 ((∃c:Nat,S=(c:Int)/\c∈g.N.bf/\∀H',aq H H'->Q (.int ((g.N.ring c:Nat):Int)) H')\/((∀c∈g.N.bf,S≠((c:Nat):Int))/\∀H',aq H H'->E (.ref C) none H'))
def nN:LV T T.nF 5 (Ad a.u9):=by
 have mX:=mX T;have bT:=bT T;have l8:=l8 T;refine T.nF.IG zO λ_ A _ s H vs Q E hr h=>?_
 ·obtain⟨I,p,ts,g,S,rfl,hw,q⟩:=h;refine⟨_,(ai (bW (aO (Tu K) (pv 1) (aH mX hr T.tP.c aE (aa (pv 0) af)) (by with_unfolding_all rfl)) (av (xJ gJ.Z5 rfl (by rfl) T.Lj ac5 (aa m4 af))) aY)
   (av (aF (aH l8 hr T.l6.c aE (aa (pv 0) (aa (aH bT hr T.e8.c aE (aa (pv 0) af)) (aa (pv 1) af))))))),?_⟩
  refine dO ?_;intro cH cQ;refine(au rfl (au rfl ⟨I,p,ts,g,rfl,hw,λD H1 Rb s1 O=>(vS rfl (.inl (aR.of O)) ⟨rfl,uo _,_,rfl,?_⟩)⟩))
  rcases q with⟨c,rfl,hc,q⟩|⟨U,q⟩
  ·rw[xV,dm hc];refine dN (au rfl (au rfl ⟨I,p,ts,g,rfl,hw.same s1,λY H2 Z s2 j9=>(au rfl ⟨I,p,ts,g,Y,c,rfl,hw.same (s1.trans s2),j9,(RM.eN.mp hc).1,q _ (s1.trans s2)⟩)⟩))
  ·rw[TU U];exact fC ⟨dl rfl,q _ s1⟩
def Ls:Sp:=λvs H Q _=>∃I O,∃a b:Nat,vs=[.int I,.int O]/\I=(a:Int)/\O=(b:Int)/\Builtin.Int.intBits ((a&&&b:Nat):Int)<=1000/\∀H',aq H H'->Q (.int (((bz ((a&&&b:Nat):Int)).length:Nat):Int)) H'
def OR:Sp:=λvs H Q _=>∃I O,∃a b:Nat,vs=[.int I,.int O]/\I=(a:Int)/\O=(b:Int)/\Builtin.Int.intBits ((a&&&b:Nat):Int)<=1000/\∀H',aq H H'->Q (.bl (decide ((bz ((a&&&b:Nat):Int)).length%2=1))) H'
structure UD(p:Nat)(xs:List Nat):Prop where
 up:xs.Pairwise (· < ·)
 lt:∀x∈xs,x<p
def Hw:Sp:=λvs H Q _=>∃w p ts,∃(l:Addr) (xs:List Nat),vs=[.ref w,.ref l]/\bE H w p ts/\H l=some (.lst (aD xs))/\UD p xs/\Q (.bl true) H
def Lu:Sp:=λvs H Q _=>∃w p ts,∃(l:Addr) (ks:List Nat),vs=[.ref w,.ref l]/\bE H w p ts/\Pu p ts/\H l=some (.lst (aD ks))/\(∀k∈ks,k<ts.length)/\Q (.int ((orM ks:Nat):Int)) H
def Lv:Sp:=λvs H Q _=>∃w p ts,∃g:aA p ts,∃(l:Addr) (xs:List Nat),vs=[.ref w,.ref l]/\bE H w p ts/\H l=some (.lst (aD xs))/\UD p xs/\
 ∀H',aq H H'->Q (.int ((g.N.cut (λx=>decide (x∈xs)):Nat):Int)) H'
def EX(p:Nat)(f:Nat->Bool):UD p ((List.range p).filter f):=⟨Gf,λx hx=>aaI.mp (aaX.mp hx).1⟩
def Rf(n:Nat):decide (V.int (((n:Nat):Int)%2)=V.int 1)=decide (n%2=1):=abv.mpr ⟨λz=>by have:=V.int.inj z;lia,λz=>aa4 V.int (by lia)⟩
def zd:Ok T T.yX 3 Ls:=by
 have cB:=cB T;refine T.yX.ok KR λ_ A _ s H vs Q E hr h=>?_
 ·obtain⟨O,U,u,v,rfl,rfl,rfl,hb,q⟩:=h;refine⟨_,(av (aF (cG K T.eG (aa (aH cB hr T.iY.c aE (aa (aS Mh (pv 0) (pv 1)) af)) af)))),?_⟩;refine(au rfl (au rfl (dz ⟨u&&&v,?_,hb,λD H1 hn s1 I=>(vS rfl (.inl (aR.of I)) (?_))⟩)))
  ·show[V.int (Builtin.bitAnd _ _)]=_;rw[and_int]
  ·rw[aG];exact q H1 s1
def bC:Ok T T.fk 4 OR:=by
 have zd:=zd T;refine T.fk.ok yL λ_ A _ s H vs Q E hr h=>?_
 ·obtain⟨I,O,u,v,rfl,rfl,rfl,hb,q⟩:=h;refine⟨_,(av (aF (c9 jq (aS gG (aH zd hr T.yX.c aE (aa (pv 0) (aa (pv 1) af))) ak) ak (aM _)))),?_⟩;refine(au rfl (au rfl ⟨_,_,u,v,rfl,rfl,rfl,hb,λH1 s1=>(dz ⟨(BC rfl),rfl,?_⟩)⟩))
  rw[Rf];exact q H1 s1
def vy:Ok T T.ve 1 Hw:=by
 refine T.ve.ok nk λ_ A _ s H vs Q E hr h=>?_
 ·obtain⟨wb,p,ts,l,zs,rfl,hw,Y,Z,q⟩:=h;refine⟨_,(ai (aN (i:=2) nk.nd rfl (Or.inl rfl) (VV SY ak))
   (ai (fH PassesOwn.never rfl (wX K (pv 1)) (bq 3 nk.nd)
   (ai (bW (PW.pt (nV (aO Ml (pv 3) (pv 2) (aM _)) (jG (aO C8 (pv 3) (aK (cT K) (pv 0) ak) (aM _))))) (av (aF iE)) aY)
   (av (aN (i:=2) nk.nd rfl (Or.inl rfl) (pv 3)))))
   (av (aF iE)))),?_⟩
  refine Be ?_;intro cH cQ eK fG gR;obtain⟨bt,xs,h1,h2,h3⟩:=id hw.ex;refine(au rfl (au rfl ⟨l,rfl,⟨_,aR.of Y⟩,rJ (K:=K) (a:=l) (xs:=aD zs) (λi σ H2=>∃z O,σ=[some (.ref wb),some (.ref l),some (.int z),O]/\H2=H/\∀x∈zs.drop i,z<(x:Int)) ⟨_,none,rfl,rfl,λx _=>by show(-1:Int)<_;lia⟩ (λi σ H2 _ ⟨_,_,_,z,_⟩=>by rw[z];exact aR.of Y) ?_ ?_⟩))
  ·rintro i y σ H2 U ⟨z,O,rfl,rfl,hz⟩;obtain⟨x,hx,rfl⟩:=iK U;have I:zs.drop i=x::zs.drop (i+1):=by
    obtain⟨hi,e⟩:=jo.mp hx;rw[List.drop_eq_getElem_cons hi,e]
   have ab:=hz x (by rw[I];exact aaF)
   have ag:=Z.lt x (jV hx);refine(au rfl (au rfl (dz (au rfl (lQ (by lia) (au rfl (au rfl (cU (aU.of h1) (ao (j:=0) rfl) (dz (au rfl (lQ (by lia) ?_)))))))))))
   refine(au rfl ⟨(x:Int),au rfl ⟨rfl,λy U=>?_⟩⟩)
   have pw:(zs.drop i).Pairwise (· < ·):=Z.up.sublist (List.drop_sublist _ _);rw[I]at pw;have:=(adb.mp pw).1 y U
   lia
  ·rintro σ H2 ⟨z,O,rfl,rfl,_⟩;exact q
def mY:Ok T T.tN 1 Lu:=by
 refine T.tN.ok qb λ_ A _ s H vs Q E hr h=>?_
 ·obtain⟨Y,p,ts,l,ks,rfl,hw,W,U,hk,q⟩:=h;refine⟨_,(ai (aN (i:=2) qb.nd rfl (Or.inl rfl) ak)
   (ai (fH PassesOwn.never rfl (wX K (pv 1)) (bq 3 qb.nd)
   (ai (bW (PW.pt (nV (aO Ao (pv 3) ak (aM _)) (jG (aO C8 (pv 3) (cG K T.eG (aa (aK (cT K) (pv 0) ak) af)) (aM _))))) fb aY)
   (av (Bo (i:=2) qb.nd rfl (Or.inl rfl) (aS qN ak (pv 3)) Mi))))
   (av (aF (pv 2))))),?_⟩
  refine Be ?_;intro cH cQ eK fG gR;obtain⟨bt,xs,h1,h2,Z⟩:=id hw.ex;have Lm:=Z.length;have wl:=W.len;refine(au rfl ⟨l,rfl,⟨_,aR.of U⟩,rJ (K:=K) (a:=l) (xs:=aD ks) (λi σ H2=>∃O,σ=[some (.ref Y),some (.ref l),some (.int ((orM (ks.take i):Nat):Int)),O]/\H2=H) ⟨none,rfl,rfl⟩ (λi σ H2 _ ⟨_,_,z⟩=>by rw[z];exact aR.of U) ?_ ?_⟩)
  ·rintro i x σ H2 hx ⟨O,rfl,rfl⟩;obtain⟨k,I,rfl⟩:=iK hx;have ab:=hk k (jV I);refine(au rfl (dz (au rfl (lQ (by lia) (au rfl (au rfl (cU (aU.of h1) (ao (j:=1) rfl) (vS rfl (.inr (aU.of h2)) (dz (au rfl (lQ (by lia) ?_)))))))))))
   refine(au rfl (au rfl (dz ⟨⟨by lia,by lia,by decide⟩,dz ⟨some (.int (k:Int)),?_,rfl⟩⟩)))
   show[_,_,some (V.int (Builtin.bitOr _ (1*2^(k:Int).toNat))),_]=_;rw[rY,or_int,aa1,I];unfold Ring.orM;rw[acC];rfl
  ·rintro σ H2 ⟨O,rfl,rfl⟩;rw[aG,aa7];exact(au rfl (q))
def ze:Ok T T.yY 2 Lv:=by
 have vy:=vy T;have mY:=mY T;refine T.yY.ok KS λ_ A _ s H vs Q E hr h=>?_
 ·obtain⟨wb,p,ts,g,l,zs,rfl,hw,hl,sd,q⟩:=h;refine⟨_,(ai (bW (kF (dZ (aH vy hr T.ve.c aE (aa (pv 0) (aa (pv 1) af))))) fb aY)
   (av (aF (aH mY hr T.tN.c aE (aa (pv 0) (aa (cD (own:=["k","tie"]) (fq:=["side"]) (js:=[1]) (aI (aj tG) ["web","side"]) rfl (x8 K (by rfl) T.hU (aa (aK (cT K) (pv 0) ak) af)) (λ_ _ _ _=>(Dp K (n:=2) rfl (aL (bq 0 (lG ["k","tie","side"])) (aL (bq 1 (lG ["k","tie","side"])) c8)))) (λ_ _ _ _=>(jZ (aO C7 (c9 (inK K) (aK (cT K) (pv 1) ak) (pv 2) (by with_unfolding_all rfl)) (c9 (inK K) (aK (cT K) (pv 1) ak) (pv 2) (by with_unfolding_all rfl)) (aM _)))) (λ_ _ _ _=>(pv 0))) af)))))),?_⟩
  refine dO ?_;intro cH cQ;obtain⟨bt,xs,h1,h2,h3⟩:=id hw.ex;have Lm:=h3.length;have wl:=g.len;refine(au rfl (au rfl ⟨wb,p,ts,l,zs,rfl,hw,hl,sd,_,rfl,dN ?_⟩));refine(au rfl (au rfl (cU (aU.of h1) (ao (j:=1) rfl) ⟨bt,rfl,⟨_,aU.of h2⟩,λD Z=>Gp (xs:=xs) (qu (λk=>decide (g.N.a k∈zs)^^decide (g.N.b k∈zs)) H D) (.start Z) (λi acc H2 _ I=>⟨aU.of (I.1 _ _ h2),I.len⟩) (dW (by lia)) ?_ ?_⟩)))
  ·intro i x T0 acc H2 hx I O;have hi:i<ts.length:=by have:=(jo.mp hx).1;lia
   obtain⟨b,U,ab⟩:=Hv (g:=g) h3 hi;rw[hx]at U;cases U;have Xy:upd H2 T0 (.tup [.int (i:Int),.ref b]) b=some _:=aq.new O _ _ (I.1 _ _ ab);have Y:upd H2 T0 (.tup [.int (i:Int),.ref b]) l=some _:=aq.new O _ _ (I.1 _ _ hl);refine⟨T0,_,rfl,aU.of ae,rfl,_,_,rfl,_,_,rfl,rfl,rfl,?_⟩;refine(au rfl (cU (aU.of Xy) (ao (j:=0) rfl) (au rfl (vS rfl (.inl (aR.of Y)) ⟨rfl,uo _,_,rfl,cU (aU.of Xy) (ao (j:=1) rfl) (au rfl (vS rfl (.inl (aR.of Y)) ⟨rfl,uo _,rfl,au rfl (?_)⟩))⟩))));rw[xV,xV];cases e1:decide (g.N.a i∈zs)<;>cases e2:decide (g.N.b i∈zs)
   ·exact I.no (aq.new O) (by rw[e1,e2];rfl)
   ·exact(au rfl (I.yes Z (aq.new O) (by rw[e1,e2];rfl)))
   ·exact(au rfl (I.yes Z (aq.new O) (by rw[e1,e2];rfl)))
   ·exact I.no (aq.new O) (by rw[e1,e2];rfl)
  ·intro acc H2 I;refine⟨wb,p,ts,D,_,rfl,hw.same I.1,g.BL,by rw[I.2.1,I.2.2],λk hk=>?_,?_⟩
   ·have:=aaI.mp (aaX.mp hk).1
    lia
   ·rw[Gq,Lm];exact q H2 I.1
def vW(p:Nat)(ts:List bZ)(g:aA p ts)(m:Nat):List Nat:=(List.range p).filter λx=>g.N.par (g.N.trail ts.length x) m
def Told(p:Nat)(ts:List bZ)(g:aA p ts)(m:Nat)(H H' : Hp)(t:Addr):Prop :=
 (m=g.N.cut (λx=>decide (x∈vW p ts g m))/\∃l,H l=none/\H' t=some (.tup [.str "side",.ref l])/\H' l=some (.lst (aD (vW p ts g m))))\/
 (∃c,c∈g.N.bf/\g.N.par (g.N.ring c) m=true/\H' t=some (.tup [.str "ring",.int ((g.N.ring c:Nat):Int)]))
def Hx(C:Addr):Sp:=λvs H Q E=>∃w p ts,∃g:aA p ts,∃S,vs=[.ref w,.int S]/\bE H w p ts/\qI ts S (E (.ref C) none H) λm=>∀t H',H t=none->aq H H'->Told p ts g m H H' t->Q (.ref t) H'
def EY{p:Nat}{ts:List bZ}{g:aA p ts}{m:Nat}:g.N.cut (λx=>decide (x∈vW p ts g m))=g.N.cut λx=>g.N.par (g.N.trail g.N.n x) m:=RM.J8 λx hx=>by
 unfold vW;rw[abw,decide_eq_true_eq,aaX,aaI];exact⟨λz=>z.2,λz=>⟨hx,z⟩⟩
def Hy{m:Nat}(h:m≠0):∃c,(bz (m:Int))[0]?=some c/\m.testBit c=true:=by
 obtain⟨k,hk⟩:=abL h;have hm:k∈bz (m:Int):=by
  unfold bz;refine aaX.mpr ⟨aaI.mpr (Nat.lt_of_not_le λz=>?_),by rw[jd];exact hk⟩
  have:=Dz z;rw[jd,hk]at this;cases this
 cases e:bz (m:Int) with
 | nil =>
   rw[e]at hm;cases hm
 | cons c r =>
   have hc:c∈bz (m:Int):=by rw[e];exact aaF
   unfold bz at hc;have:=(aaX.mp hc).2;rw[jd]at this;exact⟨c,rfl,this⟩
def jz{u v:Nat}(h:u^^^v=0):u=v:=by
 have:=aa4 (λx=>x^^^v) h
 simpa[abB]using this
def OS(n:Nat):decide (V.int ((n:Nat):Int)=V.int 0)=decide (n=0):=abv.mpr ⟨λz=>by have:=V.int.inj z;lia,λz=>by rw[z];rfl⟩
def vz:LV T T.vf 6 (Hx a.eZ):=by
 have cf:=cf T;have bT:=bT T;have bC:=bC T;have ze:=ze T;have cB:=cB T;have nN:=nN T;refine T.vf.IG nq λ_ A _ s H vs Q E hr h=>?_
 ·obtain⟨O,p,ts,g,S,rfl,hw,q⟩:=h;refine⟨_,(ai (bL (aH cf hr T.g9.c gJ.passes (aa (pv 0) (aa (pv 1) af))))
   (ai (aN (i:=2) nq.nd rfl (Or.inr rfl) (aH bT hr T.e8.c aE (aa (pv 0) af)))
   (ai (jc (i:=3) nq.nd rfl rfl (own:=["point"]) (fq:=["tie_set","trails"]) (js:=[1,2]) (aI (aj qh) ["web","tie_set","trails","side","amiss"]) rfl (cu (by rfl) T.dJ (aa (aK (cT K) (pv 0) ak) af)) (λ_ _ _ _=>(bq 0 (lG ["point","tie_set","trails"]))) (λ_ _ _ _=>(jZ (dZ (aH bC hr T.fk.c aE (aa (aK (oB K) (pv 2) (pv 0)) (aa (pv 1) af)))))) (λ_ _ _ _=>(pv 0)))
   (ai (aN (i:=4) nq.nd rfl (Or.inl rfl) (aS iH (pv 1) (aH ze hr T.yY.c aE (aa (pv 0) (aa (pv 3) af)))))
   (ai (bW (aO jq (pv 4) ak (aM _)) (av (aF (cy (aa m4 (aa (pv 3) af))))) aY)
   (av (aF (cy (aa m4 (aa (aH nN hr T.nF.c gJ.passes (aa (pv 0) (aa (aK (oB K) (aH cB hr T.iY.c aE (aa (pv 4) af)) ak) af))) af)))))))))),?_⟩
  refine GS ?_;intro cH cQ eK fG gR mj;obtain⟨bt,xs,h1,h2,h3⟩:=id hw.ex;have wl:=g.len;have wp:=g.p2;have W:=g.BL;rcases q with⟨m,rfl,hm,q⟩|⟨hS,q⟩
  case inr=>exact(au rfl (au rfl ⟨O,p,ts,_,rfl,hw,W,.inr ⟨hS,q⟩⟩))
  refine(au rfl (au rfl ⟨O,p,ts,_,rfl,hw,W,.inl ⟨m,rfl,hm,?_⟩⟩));refine(au rfl ⟨O,p,ts,g,rfl,hw,λD H1 ar s1 hD=>?_⟩)
  refine(au rfl (cU (aU.of (s1 _ _ h1)) (ao (j:=0) rfl) (au rfl ⟨(by lia),(by lia),λC hC=>eM (lo:=0) (m:=(p:Int).toNat) (qu (λx=>g.N.par (g.N.trail ts.length x) m) H1 C) (.start hC) (λi acc H2 _ I=>I.len) (dW (by lia)) ?_ ?_⟩)))
  ·intro i acc H2 hi I;rw[aaE]at hi;rw[abS];have zf:Builtin.Int.intBits ((g.N.trail ts.length i&&&m:Nat):Int)<=1000:=aa0 (bits_le (acP _ hm)) (by lia)
   refine⟨rfl,au rfl (au rfl (p8 (aR.of (I.1 _ _ hD)) (ao (j:=i) (cM hi)) (au rfl ⟨_,_,g.N.trail ts.length i,m,rfl,rfl,rfl,zf,λH3 s3=>(au rfl (?_))⟩)))⟩
   rw[BZ (g:=g) hm];cases hb:g.N.par (g.N.trail ts.length i) m with
   | true=>exact(au rfl (I.yes hC s3 hb))
   | false=>exact I.no s3 hb
  ·intro acc H2 I;have U:H2 C=some (.lst (aD (vW p ts g m))):=by rw[I.2.1,I.2.2,aaE];rfl
   have Y:=s1.trans I.1;refine(au rfl (au rfl (au rfl ⟨O,p,ts,g,C,_,rfl,hw.same Y,U,EX p _,λH3 s3=>(dz (?_))⟩)))
   have tX:=Y.trans s3;dsimp only;rw[xor_int,EY];have ac:=λk=>RM.DJ (N:=g.N) (m:=m) (k:=k) hm
   have Z:(m^^^g.N.cut λx=>g.N.par (g.N.trail g.N.n x) m)<2^ts.length:=abu hm (RM.TZ _)
   have hz:(m^^^g.N.cut λx=>g.N.par (g.N.trail g.N.n x) m)=0->m=g.N.cut (λx=>decide (x∈vW p ts g m)):=λz=>by rw[EY];exact jz z
   generalize (m^^^g.N.cut λx=>g.N.par (g.N.trail g.N.n x) m)=A at ac Z hz
   refine(au rfl ⟨rfl,au rfl (?_)⟩);rw[OS]
   by_cases hA:A=0
   ·rw[dm hA];refine fC (au rfl ⟨dl rfl,λt ht=>q t _ (tX.free ht) (tX.trans (aq.new ht)) (.inl ⟨hz hA,C,s1.free hC,ae,aq.new ht _ _ (s3 _ _ U)⟩)⟩)
   ·rw[gj hA];obtain⟨c,ab,ag⟩:=Hy hA;obtain⟨hcn,hcf,hcp⟩:=ac c ag;refine dN (au rfl (au rfl ⟨A,rfl,aa0 (bits_le Z) (by lia),λD4 H4 aw s4 Fq=>(p8 (aR.of Fq) (ao (j:=0) (Qu ab)) ⟨O,p,ts,g,_,rfl,hw.same (tX.trans s4),.inl ⟨c,rfl,RM.eN.mpr ⟨hcn,hcf⟩,λH5 s5=>⟨dl rfl,λt ht=>?_⟩⟩⟩)⟩))
    have Xz:=(tX.trans s4).trans s5;exact q t _ (Xz.free ht) (Xz.trans (aq.new ht)) (.inr ⟨c,RM.eN.mpr ⟨hcn,hcf⟩,hcp,ae⟩)
def CL(C:Addr):Sp:=λvs H Q E=>∃w p ts S,vs=[.ref w,.int S]/\bE H w p ts/\Pu p ts/\qI ts S (∀H',aq H H'->E (.ref C) none H') λm=>∀H',aq H H'->Q (.int (lenOf ts m)) H'
def dM:LV T T.jB 5 (CL a.eZ):=by
 have cS:=cS T;refine T.jB.IG Cm λ_ A _ s H vs Q E hr h=>?_
 ·obtain⟨Z,p,ts,S,rfl,hw,W,q⟩:=h;refine⟨_,(av (aF (cF (sumK K rfl) (by rfl) T.Xq PyProof.Rows.boot_sum (aa (cD (own:=["tie"]) (fq:=[]) (js:=[]) (aI (aj lJ) ["web","tie_set"]) rfl (wX K (aH cS hr T.iB.c gJ.passes (aa (pv 0) (aa (pv 1) af)))) (λ_ _ _ _=>(bq 0 (lG ["tie"]))) (λ_ _ _ _=>cg) (λ_ _ _ _=>(aK (cT K) (pv 0) ak))) af)))),?_⟩
  refine(au rfl (au rfl ⟨Z,p,ts,S,rfl,hw,W,?_⟩));rcases q with⟨m,rfl,hm,q⟩|⟨hS,q⟩
  ·refine .inl ⟨m,rfl,hm,λL ys H1 ab s1 O pr=>⟨L,rfl,⟨_,aR.of O⟩,λD U=>?_⟩⟩
   have wl:=W.len;have Y:ys.length=(bz (m:Int)).length:=by rw[pr.length,aac]
   have I:ys.length<=24:=by
    rw[Y];have hb:Builtin.Int.intBits (m:Int)<=ts.length:=bits_le hm;have:=abc (bit (m:Int)) (List.range (Builtin.Int.intBits (m:Int)));rw[aaK]at this;exact aa0 this (by lia)
   refine cA (xs:=ys) (zI (λk=>(bj ts k).2.2) (bz (m:Int)) H1 D) (.start U) (λi acc H2 _ pm=>⟨aR.of (pm.1 _ _ O),pm.len⟩) (dW I) ?_ ?_
   ·intro i x acc H2 hx pm;obtain⟨t,ht,c,rfl,hc⟩:=Paired.lR pr hx;rw[aaw]at ht;obtain⟨k,hk,rfl⟩:=vY.mp ht;exact⟨rfl,au rfl (cU (aU.of (pm.1 _ _ hc)) (ao (j:=2) rfl) (pm.next U (aq.refl _) hk rfl))⟩
   ·intro acc H2 pm;rw[Y]at pm;exact⟨D,_,rfl,aR.of pm.fin,q H2 (s1.trans pm.1)⟩
  ·exact .inr ⟨hS,q _ (aq.refl _)⟩
def gi(ts:List bZ)(x y:Nat):Prop:=lenOf ts x<lenOf ts y\/(lenOf ts x=lenOf ts y/\x<=y)
def OT(t:Addr)(lp:Pos):Sp:=λvs H Q _=>∃w p ts,∃g:aA p ts,∃(l:Addr) (ms:List Nat),vs=[.ref w,.ref l]/\bE H w p ts/\H l=some (.lst (aD ms))/\ms.length<64/\(∀m∈ms,m<2^ts.length)/\H t=some (.jF (dU (lA "by_length") lp))/\
 ∀D I H',H D=none->aq H H'->H' D=some (.lst (aD I))->I.Perm ms->I.Pairwise (gi ts)->Q (.ref D) H'
def OU:∀{l:List Int},(∀x∈l,0<=x)->∃ms:List Nat,l=ms.map (λx=>((x:Nat):Int))
 | [],_=>⟨[],rfl⟩
 | x::r,h=>by
   obtain⟨ms,e⟩:=OU (l:=r) λy I=>h y (nU _ I)
   have hx:=h x aaF;refine⟨x.toNat::ms,?_⟩;rw[aaR,<-e]
   congr 1
   lia
def h8:OkL T T.jC 9 (OT a.cV cE):=by
 have dM:=dM T;refine T.jC.ok Cn λA _ s H vs Q E hr h=>?_
 ·obtain⟨wb,p,ts,g,l,ms,rfl,hw,hl,U,I,Y,q⟩:=h;refine⟨_,(av (aF (Oa (x:="ring") (fq:=["web"]) (js:=[0]) hr (aI (aj lK) ["web","rings"]) rfl (by rfl) T.tR rfl T.jC.F.hd (aa (pv 1) af) (λ_ _ _ _ hr=>(cy (aa (aH dM hr T.jB.c vI (aa (pv 1) (aa (pv 0) af))) (aa (pv 0) af))))))),?_⟩
  have W:=g.BL;have wl:=g.len;have big:(2:Nat)^ts.length<=2^24:=ack (by decide) wl
  have Z:∀n,n∈ms.map (λx=>((x:Nat):Int))->∃m:Nat,n=(m:Int)/\m∈ms:=λn hn=>by
   obtain⟨m,hm,rfl⟩:=aaH.mp hn;exact⟨m,rfl,hm⟩
  refine(au rfl ⟨l,ms.map (λx=>((x:Nat):Int)),λz=>(lenOf ts z.toNat,z),rfl,by rw[<-gO];exact hl,by rw[aac];exact U,λn hn=>?_,Y,λH3 hk n hn=>?_,λD ab H4 hD s4 Fq hp hs=>?_⟩)
  ·obtain⟨m,rfl,hm⟩:=Z n hn;have:=I m hm;exact⟨by show(0:Int)<=(m:Int);lia,by show(m:Int)<1073741824;lia⟩
  ·obtain⟨m,rfl,hm⟩:=Z n hn;have tp:bG H H3:=λb xs e=>hk b _ e (λy z=>nomatch z) (λy z=>nomatch z)
   refine(au rfl (au rfl ⟨wb,p,ts,_,rfl,hw.tups tp,W,.inl ⟨m,rfl,I m hm,λH4 s4=>(au rfl ⟨dl rfl,λd hd=>?_⟩)⟩⟩))
   exact⟨s4.trans (aq.new hd),d,rfl,ae⟩
  ·obtain⟨O,rfl⟩:∃O : List Nat,ab = O.map (λx=>((x:Nat):Int)):=by
    refine OU λx hx=>?_
    obtain⟨m,rfl,_⟩:=Z x (hp.mem_iff.mp hx)
    lia
   have XA:O.Perm ms:=by
    have:=hp.map Int.toNat;rw[abz,abz]at this;have e:∀l:List Nat,l.map (Int.toNat∘λx=>((x:Nat):Int))=l:=λl=>by
     induction l with
     | nil=>rfl
     | cons x r ih=>rw[aaR,ih];rfl
    rw[e,e]at this;exact this
   refine q D O H4 hD s4 (by rw[gO];exact Fq) XA ?_
   rw[abH]at hs;refine ab0 (λ{x y} hx hy h=>?_) hs
   have hx:=I x (XA.mem_iff.mp hx);have hy:=I y (XA.mem_iff.mp hy);have h:lenOf ts x*1073741824+(x:Int)<=lenOf ts y*1073741824+(y:Int):=h;unfold gi
   lia
def OV:Sp:=λvs H Q _=>∃w p ts,∃g:aA p ts,∃m:Nat,vs=[.ref w,.int (m:Int)]/\bE H w p ts/\m<2^ts.length/\
 ∀D es S H',es.length=p->KA m H D es S H'->R8 g.N ts.length S->Q (.ref D) H'
def UG{b:Bool}{σ:St}{f:VK}{H:Hp}(h:f (.int (b.toNat:Int)) H):if b=true then tC (.int 1) σ H f else tC (.int 0) σ H f:=by
 cases b<;>exact h
def i8:Ok T T.iZ 2 OV:=by
 have bM:=bM T;refine T.iZ.ok dH λ_ A _ s H vs Q E hr h=>?_
 ·obtain⟨wb,p,ts,g,m,rfl,hw,hm,q⟩:=h;refine⟨_,(ai (jc (i:=2) dH.nd rfl rfl (own:=["point"]) (fq:=[]) (js:=[]) (aI (aj fT) ["web","marks","steps","tie","ends","turn"]) rfl (cu (by rfl) T.dJ (aa (aK (cT K) (pv 0) ak) af)) (λ_ _ _ _=>(bq 0 (lG ["point"]))) (λ_ _ _ _=>cg) (λ_ _ _ _=>(eg af)))
   (ai (fH PassesOwn.never rfl (x8 K (by rfl) T.hU (aa (aK (cT K) (pv 0) ak) af)) (Dp K (n:=2) rfl (aL (bq 3 dH.nd) (aL (bq 4 dH.nd) c8)))
   (ai (aN (i:=5) dH.nd rfl (Or.inl rfl) (mw (dZ (aH bM hr T.g8.c aE (aa (pv 1) (aa (pv 3) af)))) ak ak))
   (ai (bL (Jm K (lB abe abl abm cW (aK (oB K) (pv 2) (aK (cT K) (pv 4) ak)) (aa (cy (aa (pv 3) (aa (aK (cT K) (pv 4) ak) (aa (pv 5) af)))) af))))
   (av (bL (Jm K (lB abe abl abm cW (aK (oB K) (pv 2) (aK (cT K) (pv 4) ak)) (aa (cy (aa (pv 3) (aa (aK (cT K) (pv 4) ak) (aa (pv 5) af)))) af))))))))
   (av (aF (pv 2))))),?_⟩
  refine tH ?_;intro cH cQ eK fG gR;obtain⟨bt,xs,h1,h2,h3⟩:=id hw.ex;have Lm:=h3.length;have wp:=g.p2;have wl:=g.len;refine(au rfl (cU (aU.of h1) (ao (j:=0) rfl) (au rfl ⟨(by lia),(by lia),λD hD=>eM (lo:=0) (m:=p) (R7 m H D) (.start hD) (λi acc H2 _ z=>z.len) (dl (abM.mpr (by lia))) ?_ ?_⟩)))
  ·rintro i acc H2 hi f2;exact⟨rfl,dl rfl,λl hl=>f2.next hl⟩
  rintro acc H2 ⟨es,rfl,U,f2⟩;refine(au rfl (cU (aU.of (f2.same _ _ h1)) (ao (j:=1) rfl) ⟨bt,rfl,⟨_,aU.of (f2.same _ _ h2)⟩,?_⟩));refine A1 (K:=K) (a:=bt) (xs:=xs) (λk σ H3=>∃Y v4 Z,σ=[some (.ref wb),some (.int (m:Int)),some (.ref D),Y,v4,Z]/\∃S,KA m H D es S H3/\R8 g.N k S) ⟨none,none,none,rfl,_,f2,R8.start⟩ (λk σ H3 _ ⟨_,_,_,_,_,z,_⟩=>aU.of (z.same _ _ h2)) ?_ ?_
  ·rintro k x T0 σ H3 hk ⟨Y,v4,Z,rfl,S,f3,I⟩ hT;have ar:k<xs.length:=(jo.mp hk).1;have xG:k<ts.length:=by lia
   obtain⟨ct,ex,O⟩:=Np (g:=g) h3 xG;rw[hk]at ex;cases ex;have s4:aq H3 (upd H3 T0 (.tup [.int (k:Int),.ref ct])):=aq.new hT;have Pp:upd H3 T0 (.tup [.int (k:Int),.ref ct]) T0=some (.tup [.int (k:Int),.ref ct]):=ae;have f4:=f3.go s4;generalize upd H3 T0 (.tup [.int (k:Int),.ref ct])=H4 at f4 Pp;refine⟨T0,_,rfl,aU.of Pp,rfl,_,_,rfl,_,_,rfl,rfl,?_⟩;refine(au rfl (au rfl ⟨(m:Int),k,rfl,au rfl (?_)⟩));rw[jd];have ha:g.N.a k<p:=g.N.al k xG;have hb:g.N.b k<p:=g.N.bl k xG;have UH:=f4.same _ _ O;refine UG ?_;obtain⟨b1,cs1,e1,e1',hb1,q1⟩:=f4.get (i:=g.N.a k) (by lia)
   refine(au rfl (au rfl (cU (aU.of UH) (ao (j:=0) rfl) (p8 (aR.of f4.lst) (ao e1) (?_)))));have l1:cs1.length<=2*k:=by rw[q1.length];exact I.len _
   refine⟨.inl ⟨rfl,_,aR.of hb1⟩,au rfl (au rfl (cU (aU.of UH) (ao (j:=1) rfl) (au rfl ⟨dl rfl,λt1 Ft=>?_⟩)))⟩
   have s5:aq H4 (upd H4 t1 (.tup [.int (k:Int),.int (g.N.b k:Int),.int ((m.testBit k).toNat:Int)])):=aq.new Ft;have u5:kT m (upd H4 t1 (.tup [.int (k:Int),.int (g.N.b k:Int),.int ((m.testBit k).toNat:Int)])) t1 (k,g.N.b k):=ae;have f5:=f4.go s5;have Vr:=s5 _ _ hb1;have aw:=s5 _ _ UH;have q5:Paired (kT m (upd H4 t1 (.tup [.int (k:Int),.int (g.N.b k:Int),.int ((m.testBit k).toNat:Int)]))) cs1 (S (g.N.a k)):=Paired.Bl q1 λ_ _ z=>s5 _ _ z
   refine⟨b1,_,_,rfl,rfl,Vr,m8 (by rw[aac];lia),?_⟩
   have f6:=f5.put e1' Vr q5 u5;have UI:=f6.same _ _ O;generalize upd (upd H4 t1 (.tup [.int (k:Int),.int (g.N.b k:Int),.int ((m.testBit k).toNat:Int)])) b1 (.lst (cs1.map V.ref++[.ref t1]))=H6 at f6 UI;obtain⟨b2,ab,e2,ag,CK,q2⟩:=f6.get (i:=g.N.b k) (by lia)
   refine(au rfl (au rfl (cU (aU.of UI) (ao (j:=1) rfl) (p8 (aR.of f6.lst) (ao e2) (?_)))));have l2:ab.length<=2*k+1:=by
    rw[q2.length];unfold yx;have:=I.len (g.N.b k)
    split
    ·rw[aaz,abt];lia
    ·lia
   refine⟨.inl ⟨rfl,_,aR.of CK⟩,au rfl (au rfl (cU (aU.of UI) (ao (j:=0) rfl) (au rfl ⟨dl rfl,λt2 Hz=>?_⟩)))⟩
   have s7:aq H6 (upd H6 t2 (.tup [.int (k:Int),.int (g.N.a k:Int),.int ((m.testBit k).toNat:Int)])):=aq.new Hz;have u7:kT m (upd H6 t2 (.tup [.int (k:Int),.int (g.N.a k:Int),.int ((m.testBit k).toNat:Int)])) t2 (k,g.N.a k):=ae;have f7:=f6.go s7;have Sk:=s7 _ _ CK;refine⟨b2,_,_,rfl,rfl,Sk,m8 (by rw[aac];lia),?_⟩
   exact⟨_,_,_,rfl,_,f7.put ag Sk (Paired.Bl q2 λ_ _ z=>s7 _ _ z) u7,I.next⟩
  ·rintro σ H3 ⟨Y,v4,Z,rfl,S,f3,I⟩;refine(au rfl (q D es S H3 U f3 ?_));rw[<-Lm];exact I
def l9(p:Nat)(N:RM.Net)(L:Nat->Int)(m u:Nat)(D:Addr)(F:RM.OW)(H0 H:Hp):Prop:=∃es:List Addr,es.length=p/\H D=some (.lst (es.map V.ref))/\
 (∀(i:Nat) b,es[i]?=some b->∃v0 v1,H b=some (.lst [v0,v1])/\wV H (F i false) v0/\wV H (F i true) v1)/\(∀x s,RM.we N L m u x s ((F x s).map (·.1)))/\(∀x s d,F x s=some d->RM.Wz N L m u x s d.1 d.2)/\(∀b∈es,H0 b=none)/\RM.Fx N L m u F
def Rg(a b:Bool):Builtin.bitXor ((a.toNat:Nat):Int) ((b.toNat:Nat):Int)=(((a^^b).toNat:Nat):Int):=by
 cases a<;>cases b<;>decide
def Ae(t:Addr)(lp:Pos):Sp:=λvs H Q _=>∃w p ts,∃g:aA p ts,∃(m u:Nat),vs=[.ref w,.int (m:Int),.int (u:Int)]/\bE H w p ts/\m<2^ts.length/\u<p/\H t=some (.jF (dU (lA "least_ways") lp))/\
 ∀D F H',H D=none->aq H H'->l9 p g.N (aW ts) m u D F H H'->Q (.ref D) H'
def nO:OkL T T.kj 5 (Ae a.bS bB):=by
 have i8:=i8 T;refine T.kj.ok bQ λA _ s H vs Q E hr h=>?_
 ·obtain⟨wb,p,ts,g,m,u,rfl,hw,hm,hu,c1,q⟩:=h;refine⟨_,(ai (aN (i:=3) bQ.nd rfl (Or.inl rfl) (aH i8 hr T.iZ.c aE (aa (pv 0) (aa (pv 1) af))))
   (ai (jc (i:=4) bQ.nd rfl rfl (own:=["point"]) (fq:=[]) (js:=[]) (aI (aj iA) ["web","marks","start","steps","found","waiting","nearest","way","tie","point","turn","part","further"]) rfl (cu (by rfl) T.dJ (aa (aK (cT K) (pv 0) ak) af)) (λ_ _ _ _=>(bq 0 (lG ["point"]))) (λ_ _ _ _=>cg) (λ_ _ _ _=>(eg (aa iF (aa iF af)))))
   (ai (aN (i:=5) bQ.nd rfl (Or.inr rfl) (NW (by exact rN hr) (cy (aa (pv 2) (aa ak af))) (cy (aa ak (aa ak af)))))
   (ai (C6 PassesOwn.never (aO vH (cF aan (by rfl) T.eG PySem.boot_len (aa (pv 5) af)) ak (aM _)) (ai (aN (i:=6) bQ.nd rfl (Or.inl rfl) (QY (x:="place") (fq:=["waiting"]) (js:=[5]) hr (aI (aj iA) ["web","marks","start","steps","found","waiting","nearest","way","tie","point","turn","part","further"]) rfl (by rfl) T.OM rfl T.kj.F.hd (aa (pv 5) af) (λ_ _ _ _ hr=>(IW (by exact rN hr) (pv 1) (pv 0) (λ_ _=>rfl)))))
   (ai (aN (i:=7) bQ.nd rfl (Or.inl rfl) (NV (by exact rN hr) (pv 5) (pv 6) ⟨rfl,rfl,rfl,rfl⟩))
   (ai (L8 (pv 7) (SQ (aK (oB K) (pv 4) (aK (cT K) (pv 6) ak)) (aK (cT K) (pv 6) ak) set_list))
   (av (fH PassesOwn.never rfl (wX K (aK (oB K) (pv 3) (aK (cT K) (pv 6) ak))) (Dp K (n:=3) rfl (aL (bq 8 bQ.nd) (aL (bq 9 bQ.nd) (aL (bq 10 bQ.nd) c8))))
   (ai (aN (i:=11) bQ.nd rfl (Or.inl rfl) (aS iH (aK (cT K) (pv 6) ak) (pv 10)))
   (ai (aN (i:=12) bQ.nd rfl (Or.inl rfl) (cy (aa (aS ie (aK (cT K) (pv 7) ak) (aK (cT K) (aK (cT K) (aK (cT K) (pv 0) ak) (pv 8)) ak)) (aa (aS iH (aK (cT K) (pv 7) ak) (aS qN ak (pv 8))) af))))
   (av (bW (PW.pt (L5 (aO oz (aK (oB K) (aK (oB K) (pv 4) (pv 9)) (pv 11)) iF (aM _)) (Ii (aO (Ut hr.F0) (pv 12) (Nf (by exact rN hr) (pv 5) (cy (aa (pv 9) (aa (pv 11) af))) (pv 12) ⟨rfl,rfl,rfl,rfl⟩) (aM _))))) (av (B4 (by exact rN hr) (pv 5) (cy (aa (pv 9) (aa (pv 11) af))) (pv 12) rfl)) aY))))))))))
   (av (aF (pv 4))))))),?_⟩
  refine zP ?_;intro cH cQ eK fG gR mj yE Jo Jp Ol Ew Ex;obtain⟨bt,xs,h1,h2,h3⟩:=id hw.ex;have Lm:=h3.length;have wp:=g.p2;have wl:=g.len;refine(au rfl (au rfl ⟨wb,p,ts,g,m,rfl,hw,hm,λDs eP S H1 eL f1 k1=>?_⟩))
  have s1:=f1.same;refine(au rfl (cU (aU.of (s1 _ _ h1)) (ao (j:=0) rfl) (au rfl ⟨(by lia),(by lia),λD hD=>eM (lo:=0) (m:=p) (DZ H1 D) (.start hD) (λi acc H2 _ z=>z.len) (dl (abM.mpr (by lia))) ?_ ?_⟩)))
  ·rintro i acc H2 hi f2;exact⟨rfl,dl rfl,λl Y=>f2.next Y⟩
  rintro acc H2 ⟨es,rfl,c3,f2⟩;refine λwd bc=>(au rfl ⟨dl rfl,λt1 Ft=>⟨dl rfl,λt2 Hz=>?_⟩⟩)
  have bo:aq (upd H2 wd (.dT [])) (upd (upd H2 wd (.dT [])) t1 (.tup [.int (u:Int),.int 0])):=aq.new Ft;have ag:aq (upd (upd H2 wd (.dT [])) t1 (.tup [.int (u:Int),.int 0])) (upd (upd (upd H2 wd (.dT [])) t1 (.tup [.int (u:Int),.int 0])) t2 (.tup [.int 0,.int 0])):=aq.new Hz;have f3:=((f2.go (aq.new bc (o:=.dT []))).go bo).go ag;have w3:=ag _ _ (bo _ _ (ae (H:=H2) (a:=wd) (o:=.dT [])));have u3:=ag _ _ (ae (H:=upd H2 wd (.dT [])) (a:=t1) (o:=.tup [.int (u:Int),.int 0]));have v3:(upd (upd (upd H2 wd (.dT [])) t1 (.tup [.int (u:Int),.int 0])) t2 (.tup [.int 0,.int 0])) t2=some (.tup [.int 0,.int 0]):=ae;generalize upd (upd (upd H2 wd (.dT [])) t1 (.tup [.int (u:Int),.int 0])) t2 (.tup [.int 0,.int 0])=H3 at f3 w3 u3 v3;refine⟨t1,ky u false,rfl,u3,w3,?_⟩;have c4:=yw.start f3 hu w3 (f2.same.free bc) v3;have da:=s1 _ _ c1;have hL:∀k,k<g.N.n->0<=aW ts k:=mO g;have Rh:∀k,k<g.N.n->0<aW ts k:=λk hk=>by
   have:=(g.rS _ (ff hk)).l0;unfold aW
   lia
  refine⟨λn σ H4=>∃v6 v7 v8 v9 v10 v11 Sl,σ=[some (.ref wb),some (.int (m:Int)),some (.int (u:Int)),some (.ref Ds),some (.ref D),some (.ref wd),v6,v7,v8,v9,v10,v11,Sl]/\∃kvs F W,yw p H1 D wd es kvs F W H4/\RM.Dx g.N (aW ts) m u F W none (λ_ _=>False)/\n=RM.left F p,⟨_,none,none,none,none,none,none,none,rfl,_,_,_,c4,RM.Dx.start,rfl⟩,?_⟩
  rintro n σ H4 ⟨v6,v7,v8,v9,v10,v11,Sl,rfl,kvs,F,W,lw,dj,rfl⟩;refine(au rfl ⟨wd,kvs,rfl,.inl lw.dt,_,_,rfl,rfl,au rfl (xD (λhlen=>?_) (λhlen=>?_))⟩)
  case refine_2 =>
   have Y : ¬(0:Int)<(kvs.length:Int):=λz=>hlen (dm z)
   have e:kvs=[]:=acS (by lia)
   subst e;have hW:∀x s,W x s=none:=λx s=>by
    rcases lw.val x s with⟨z,_⟩|⟨_,_,_,z,_⟩
    ·exact z
    ·rw[x9]at z;cases z
   exact(au rfl (q D F H4 (s1.free lw.Dn) (s1.trans lw.same) ⟨es,c3,lw.lst,lw.at_,dj.dj.best hW,dj.dj.fw,λb hb=>s1.free (lw.fr b hb),dj.fin Rh hu hW⟩))
  have hlen:(0:Int)<(kvs.length:Int):=ko hlen;refine⟨λσ' H'=>∃v6 v7 v8 v9 v10 v11 Sl,σ' = [some (.ref wb),some (.int (m:Int)),some (.int (u:Int)),some (.ref Ds),some (.ref D),some (.ref wd),v6,v7,v8,v9,v10,v11,Sl]/\∃O F' W',yw p H1 D wd es O F' W' H'/\RM.Dx g.N (aW ts) m u F' W' none (λ_ _=>False)/\RM.left F' p<RM.left F p,λσ' H' ⟨a6,a7,a8,a9,dd,de,df,e,O,F',W',b1,b2,b3⟩=>⟨_,b3,a6,a7,a8,a9,dd,de,df,e,O,F',W',b1,b2,rfl⟩,?_⟩
  refine(au rfl ⟨wd,kvs,N3 W kvs,rfl,lw.dt,(by lia),lw.same _ _ da,λob H5 Kv dq i kv b ar hb=>?_,λi kv b H5 ar bp s5 hb=>?_⟩)
  ·obtain⟨x,t,d,c,hx,ek,XC,aw,_,hc,ax⟩:=lw.entry ar;have dr:c≠wd:=aQ hc lw.dt (by intro z;cases z)
   refine(au rfl (au rfl ⟨wd,.ref c,rfl,.inr ⟨kvs,ky x t,b,.inr ⟨ob,dq⟩,rfl,by rw[<-ek];exact hb,aw.symm⟩,aq.refl _,c,rfl,?_⟩))
   rw[ax];exact aU.of (Kv c _ hc dr (by intro y z;cases z) (by intro y z;cases z))
  obtain⟨x,t,d,c,hx,ek,XC,aw,_,hc,ax⟩:=lw.entry ar;rw[ek]at hb;have du:∀y t' d',W y t' = some d'->d.1<=d'.1:=λy t' d' dv=>by
   obtain⟨j,eQ,hj,_,ej⟩:=lw.find dv;have:=bp j (jo.mp hj).1;rw[ej,ax]at this;exact Cd this
  have Z:=lw.go s5;have bD:=s5 _ _ hc;have hF:F x t=none:=dj.dj.dj x t d XC;refine(au rfl ⟨wd,rfl,.inr ⟨kvs,.inl Z.dt⟩,au rfl ⟨kvs,ky x t,b,.ref c,Z.dt,rfl,hb,aw,?_⟩⟩);obtain⟨rb,r0,r1,er,dy,ab,e0,e1⟩:=Z.row (i:=x) (by lia)
  have bw:b≠wd:=aQ hb Z.dt (by intro z;cases z)
  have dA:rb≠wd:=aQ ab Z.dt (by intro z;cases z)
  have bP:upd H5 wd (.dT (bO kvs (ky x t))) b=some (.tup [.int (x:Int),.int (t.toNat:Int)]):=by rw[ah bw];exact hb
  have Vq:upd H5 wd (.dT (bO kvs (ky x t))) D=some (.lst (es.map V.ref)):=by rw[ah (aa6 Z.wD)];exact Z.lst
  have dC:upd H5 wd (.dT (bO kvs (ky x t))) rb=some (.lst [r0,r1]):=by rw[ah dA];exact ab
  refine(au rfl (au rfl (au rfl (cU (aU.of bP) (ao (j:=0) rfl) (p8 (aR.of Vq) (ao er) (au rfl (cU (aU.of bP) (ao (j:=1) rfl) ⟨rb,_,_,t.toNat,rfl,rfl,dC,BI (n:=2) (j:=t.toNat) (by cases t<;>decide),?_⟩)))))))
  have Vs:=Z.take XC bD dy ab;have aT:=dj.pop XC du;have dE:0<=d.1:=by
   obtain⟨pre,w0⟩:=dj.dj.ww x t d XC;exact(RM.mL hL hu w0).2.2.2.2.2
  have bR:RM.left (RM.kR F x t d) p<RM.left F p:=RM.Ei hF hx;have b4:bG H5 (upd (upd H5 wd (.dT (bO kvs (ky x t)))) rb (.lst (([r0,r1]:List V).set t.toNat (.ref c)))):=λz ys e=>by
   rw[ah (aQ e ab (by intro z;cases z)),ah (aQ e Z.dt (by intro z;cases z))]
   exact e
  have Sk:=b4 _ _ hb;have Rj:=b4 _ _ bD;generalize upd (upd H5 wd (.dT (bO kvs (ky x t)))) rb (.lst (([r0,r1]:List V).set t.toNat (.ref c)))=H7 at Vs Sk Rj;generalize RM.Cc W x t=W7 at Vs aT;have YX:RM.kR F x t d x t=some d:=RM.cj _ _ _ _;generalize RM.kR F x t d=F7 at Vs aT bR YX;obtain⟨sb,cs,dQ,e2,WV,a3⟩:=f1.get (i:=x) (by lia)
  have e3:=k1.len x;refine(au rfl (au rfl (cU (aU.of Sk) (ao (j:=0) rfl) (p8 (aR.of (Vs.same _ _ f1.lst)) (ao dQ) ⟨sb,rfl,⟨_,aR.of (Vs.same _ _ WV)⟩,?_⟩))));refine gX (K:=K) (a:=sb) (xs:=cs.map V.ref) (λj σ U=>∃v8 v9 v10 v11 Sl,σ=[some (.ref wb),some (.int (m:Int)),some (.int (u:Int)),some (.ref Ds),some (.ref D),some (.ref wd),some (.ref b),some (.ref c),v8,v9,v10,v11,Sl]/\bG H7 U/\∃CM W8,yw p H1 D wd es CM F7 W8 U/\RM.Dx g.N (aW ts) m u F7 W8 (some (x,t)) (λk y=>∃I,I<j/\(S x)[I]?=some (k,y)))
   ⟨_,_,_,_,_,rfl,(aq.refl _).tups,_,_,Vs,?_⟩ (λj σ U _ ⟨_,_,_,_,_,_,_,_,_,z,_⟩=>aR.of (z.same _ _ WV)) ?_ ?_
  ·exact aT.less λk y ⟨I,h0,_⟩=>absurd h0 (abI _)
  ·rintro j y dV σ U hj ⟨v8,v9,v10,v11,Sl,rfl,YY,CM,W8,UJ,XD⟩;obtain⟨cc,b5,rfl⟩:∃cc,cs[j]?=some cc/\y = .ref cc:=by
    rw[aaw]at hj;obtain⟨cc,h1,h2⟩:=vY.mp hj;exact⟨cc,h1,h2.symm⟩
   have NJ:j<(S x).length:=by rw[<-a3.length];exact(jo.mp b5).1
   have eS:(S x)[j]?=some (S x)[j]:=aag NJ;have b6:=L2.iO a3 b5 eS;generalize e4:(S x)[j]=kw at eS b6;obtain⟨k,y⟩:=kw;have b7:=(k1.mem x (k,y)).mp (jV eS);obtain⟨hk,Fj⟩:=b7;have hk:k<ts.length:=hk;have Fj:RM.Jn g.N k x y:=Fj;have hy:y<p:=Fj.lt hk;have a4:=UJ.same _ _ b6;have a4:U cc=some (.tup [.int (k:Int),.int (y:Int),.int ((m.testBit k).toNat:Int)]):=a4;refine⟨cc,_,rfl,aU.of a4,rfl,_,_,rfl,_,_,rfl,_,_,rfl,rfl,?_⟩;have ea:=YY _ _ Sk;have cb:=YY _ _ Rj;refine(au rfl (cU (aU.of ea) (ao (j:=1) rfl) (au rfl (dz (?_)))));dsimp only;rw[Rg];obtain⟨ct,ex,hct⟩:=Np (g:=g) h3 hk;have YZ:=UJ.same _ _ (s1 _ _ h1);have eb:=UJ.same _ _ (s1 _ _ h2);have ec:=UJ.same _ _ (s1 _ _ hct);refine(au rfl (cU (aU.of cb) (ao (j:=0) rfl) (au rfl (cU (aU.of YZ) (ao (j:=1) rfl) (au rfl (cU (aU.of eb) (ao (j:=k) ex) (cU (aU.of ec) (ao (j:=2) rfl) (?_))))))));refine(dz (au rfl (cU (aU.of cb) (ao (j:=1) rfl) (au rfl (dz ⟨⟨by lia,by lia,by decide⟩,dz ⟨dl rfl,λf hf=>?_⟩⟩)))))
   have ef:Builtin.bitXor ((d.2:Nat):Int) (1*2^((k:Nat):Int).toNat)=((d.2^^^2^k:Nat):Int):=by
    rw[aaE,Int.one_mul,show((2:Int)^k)=((2^k:Nat):Int) by simp]
    exact xor_int _ _
   dsimp only;rw[ef];have s9:aq U (upd U f (.tup [.int (d.1+(bj ts k).2.2),.int ((d.2^^^2^k:Nat):Int)])):=aq.new hf;have cn:upd U f (.tup [.int (d.1+(bj ts k).2.2),.int ((d.2^^^2^k:Nat):Int)]) f=some (.tup [.int (d.1+aW ts k),.int ((d.2^^^2^k:Nat):Int)]):=ae;have Vt:=UJ.go s9;have a5:bG H7 (upd U f (.tup [.int (d.1+(bj ts k).2.2),.int ((d.2^^^2^k:Nat):Int)])):=λz ys e=>s9 _ _ (YY _ _ e)
   generalize upd U f (.tup [.int (d.1+(bj ts k).2.2),.int ((d.2^^^2^k:Nat):Int)])=H9 at Vt cn a5;obtain⟨e5,q0,q1,ed,e6,ee,uq,eh⟩:=Vt.row (i:=y) (by lia)
   obtain⟨vv,ei,Vu⟩:∃vv,([q0,q1]:List V)[(t^^m.testBit k).toNat]?=some vv/\wV H9 (F7 y (t^^m.testBit k)) vv:=by
    cases(t^^m.testBit k) with
    | false=>exact⟨q0,rfl,uq⟩
    | true=>exact⟨q1,rfl,eh⟩
   have Lk:=hL k hk;refine(au rfl (au rfl (p8 (aR.of Vt.lst) (ao ed) (au rfl (p8 (aR.of ee) (ao ei) (?_))))));refine⟨rfl,au rfl (?_)⟩;have dn:∀{Js:Nat->Nat->Prop} {Wx:RM.OW},RM.Dx g.N (aW ts) m u F7 Wx (some (x,t)) (λk' y'=>(∃I,I<j/\(S x)[I]?=some (k',y'))\/(k' = k/\y' = y))->
    RM.Dx g.N (aW ts) m u F7 Wx (some (x,t)) (λk' y'=>∃I,I<j+1/\(S x)[I]?=some (k',y')):=λ{Js Wx} h =>
    h.less λk' y' ⟨I,h0,h5⟩=>by
     by_cases ej:I = j
     ·subst ej;rw[eS]at h5;cases h5;exact .inr ⟨rfl,rfl⟩
     ·exact .inl ⟨I,by lia,h5⟩
   cases Y0:F7 y (t^^m.testBit k) with
   | some d2 =>
     rw[Y0]at Vu;obtain⟨c2,rfl,cp⟩:=Vu;refine lQ (λz=>nomatch z) ?_
     exact⟨_,_,_,_,_,rfl,a5,CM,W8,Vt,dn (Js:=λ_ _=>False) (XD.skip YX (Rh k hk) (.inl Y0))⟩
   | none =>
     rw[Y0]at Vu;have Vu:vv = .eX:=Vu;subst Vu;refine JM rfl ?_;refine(au rfl (au rfl ⟨wd,rfl,.inr ⟨CM,.inl Vt.dt⟩,au rfl (au rfl ⟨dl rfl,λt3 el=>?_⟩)⟩))
     have ba:aq H9 (upd H9 t3 (.tup [.int (y:Int),.int ((t^^m.testBit k).toNat:Int)])):=aq.new el;have XE:upd H9 t3 (.tup [.int (y:Int),.int ((t^^m.testBit k).toNat:Int)]) t3=some (.tup ((ky y (t^^m.testBit k)).map kV)):=ae;have Lw:=Vt.go ba;have OX:=ba _ _ cn;have UK:bG H7 (upd H9 t3 (.tup [.int (y:Int),.int ((t^^m.testBit k).toNat:Int)])):=λz ys e=>ba _ _ (a5 _ _ e)
     generalize upd H9 t3 (.tup [.int (y:Int),.int ((t^^m.testBit k).toNat:Int)])=H10 at Lw OX XE UK;refine(au rfl ⟨dS CM (ky y (t^^m.testBit k)),.inr ⟨CM,ky y (t^^m.testBit k),t3,.inl Lw.dt,rfl,XE,rfl⟩,?_⟩);have e7:=Lw.len;have put:(∀d',W8 y (t^^m.testBit k)=some d'->RM.lx (RM.stp (aW ts) d k) d')->cQ dV [some (.ref wb),some (.int (m:Int)),some (.int (u:Int)),some (.ref Ds),some (.ref D),some (.ref wd),some (.ref b),some (.ref c),some (.int (k:Int)),some (.int (y:Int)),some (.int ((m.testBit k).toNat:Int)),some (.int ((t^^m.testBit k).toNat:Int)),some (.ref f)] H10:=λhle=>by
      refine(au rfl (au rfl (au rfl (au rfl ⟨dl rfl,λt4 en=>?_⟩))))
      have bb:aq H10 (upd H10 t4 (.tup [.int (y:Int),.int ((t^^m.testBit k).toNat:Int)])):=aq.new en;have eo:upd H10 t4 (.tup [.int (y:Int),.int ((t^^m.testBit k).toNat:Int)]) t4=some (.tup ((ky y (t^^m.testBit k)).map kV)):=ae;have UL:=Lw.go bb;have et:=bb _ _ OX;refine⟨wd,_,rfl,B3.t UL.dt eo (cz (by lia)),?_⟩
      have eu:=UL.wait (x:=y) (s:=(t^^m.testBit k)) (d:=(d.1+aW ts k,d.2^^^2^k)) hy et;refine⟨_,_,_,_,_,rfl,λz ys e=>?_,_,_,eu,dn (Js:=λ_ _=>False) (XD.put YX dE hk (Rh k hk) Fj Y0 hle)⟩
      have cq:=bb _ _ (UK _ _ e);rw[ah (aQ cq UL.dt (by intro z;cases z))]
      exact cq
     rcases Lw.val y (t^^m.testBit k) with⟨ew,ey⟩|⟨d2,c2,cv,eC,cp⟩
     ·rw[ey];refine⟨f,f,_,_,_,_,rfl,rfl,aU.of OX,aU.of OX,_,rfl,xD (λ_=>put λd' e=>by rw[ew]at e;cases e) λz=>absurd ((HT.Ca _ _ _ _).mpr (.inr ⟨rfl,ab1 _⟩)) z⟩
     ·rw[eC];refine⟨f,c2,_,_,_,_,rfl,rfl,aU.of OX,aU.of cp,_,rfl,xD (λY=>?_) (λY=>?_)⟩
      ·have Y:=(HT.Ca _ _ _ _).mp Y;refine put λd' e=>?_
       rw[cv]at e;cases e;unfold RM.lx RM.stp;simp only
       lia
      ·have Y:=λz=>Y ((HT.Ca _ _ _ _).mpr z)
       refine⟨_,_,_,_,_,rfl,UK,CM,W8,Lw,dn (Js:=λ_ _=>False) (XD.skip YX (Rh k hk) (.inr ⟨cv,?_⟩))⟩
       have h6 : ¬ d.1+aW ts k<d2.1:=λz=>Y (.inl z)
       have h7 : ¬(d.1+aW ts k=d2.1/\((d.2^^^2^k:Nat):Int)<=(d2.2:Int)):=λz=>Y (.inr z)
       unfold RM.lx RM.stp;simp only
       lia
  ·rintro σ U ⟨v8,v9,v10,v11,Sl,rfl,YY,CM,W8,UJ,XD⟩;refine⟨_,_,_,_,_,_,_,rfl,CM,F7,W8,UJ,XD.all λk y hk Fj=>?_,bR⟩
   have eD:=(k1.mem x (k,y)).mpr ⟨hk,Fj⟩;obtain⟨I,cw⟩:=aa5 eD;have eH:=(jo.mp cw).1;exact⟨I,by rw[aac,a3.length];exact eH,cw⟩
def Lx:Sp:=λvs H Q _=>∃v o,vs=[v]/\wV H o v/\Q (oV (o.map (·.1))) H
abbrev Af(F:RM.OW):Nat->Bool->Option Int:=λx s=>(F x s).map (·.1)
def EZ:Sp:=λvs H Q _=>∃(D:Addr) (es:List Addr) (F:RM.OW),vs=[.ref D]/\H D=some (.lst (es.map V.ref))/\es.length<=900/\(∀(i:Nat) b,es[i]?=some b->∃v0 v1,H b=some (.lst [v0,v1])/\wV H (F i false) v0/\wV H (F i true) v1)/\
 ∀b ys H',aq H H'->H' b=some (.tup ys)->Paired (iN H') ys (mP (Af F) es.length)->Q (.ref b) H'
def gF:Ok T T.gD 1 Lx:=by
 refine T.gD.ok uK λ_ A _ s H vs Q E hr h=>?_
 ·obtain⟨v,o,rfl,I,q⟩:=h;refine⟨_,(av (aF (mw (aO oz (pv 0) iF (aM _)) iF (aK (cT K) (pv 0) ak)))),?_⟩;cases o with
  | none =>
    have I:v = .eX:=I;subst I;exact(au rfl ⟨rfl,au rfl (JM rfl q)⟩)
  | some d =>
    obtain⟨c,rfl,hc⟩:=I;exact(au rfl ⟨rfl,au rfl (lQ (λz=>nomatch z) (au rfl (cU (aU.of hc) (ao (j:=0) rfl) (q))))⟩)
def i9:Ok T T.i0 2 EZ:=by
 have gF:=gF T;refine T.i0.ok tI λ_ A _ s H vs Q E hr h=>?_
 ·obtain⟨D,es,F,rfl,U,O,Z,q⟩:=h;refine⟨_,(av (aF (fc (Dm K) (by rfl) T.tS acp (aa (cD (own:=["even","odd"]) (fq:=[]) (js:=[]) (aI (aj fU) ["ways"]) rfl (wX K (pv 0)) (λ_ _ _ _=>(aas K rfl (aL (bq 0 (lG ["even","odd"])) (aL (bq 1 (lG ["even","odd"])) c8)))) (λ_ _ _ _=>cg) (λ_ _ _ _=>(cy (aa (aH gF hr T.gD.c aE (aa (pv 0) af)) (aa (aH gF hr T.gD.c aE (aa (pv 1) af)) af))))) af)))),?_⟩
  refine(au rfl ⟨D,rfl,⟨_,aR.of U⟩,λL Y=>cA (K:=K) (a:=D) (xs:=es.map V.ref) (λi acc H2=>aq H H2/\H2 L=some (.lst acc)/\Paired (iN H2) acc (mP (Af F) i)) ⟨aq.new Y,ae,.nil⟩ (λi acc H2 _ z=>⟨aR.of (z.1 _ _ U),z.2.1,by rw[z.2.2.length,B8];exact aam _⟩) (dl (abM.mpr (by rw[aac];lia))) ?_ ?_⟩)
  ·rintro i x acc H2 hx ⟨s2,I,pr⟩;obtain⟨b,hb,rfl⟩:∃b,es[i]?=some b/\x = .ref b:=by
    rw[aaw]at hx;obtain⟨b,h1,h2⟩:=vY.mp hx;exact⟨b,h1,h2.symm⟩
   obtain⟨v0,v1,hv,w0,w1⟩:=Z i b hb;refine⟨b,v0,v1,rfl,aR.of (s2 _ _ hv),_,_,rfl,_,_,rfl,rfl,rfl,au rfl ⟨v0,_,rfl,w0.tups s2.tups,_,rfl,v1,_,rfl,w1.tups s2.tups,dl rfl,λt ht=>?_⟩⟩
   have s3:aq H2 (upd H2 t (.tup [oV (Af F i false),oV (Af F i true)])):=aq.new ht;have tL:t≠L:=λz=>by rw[z,I]at ht;cases ht
   have R9:H L=none:=Y;refine⟨s3 _ _ I,(s2.trans s3).put R9,ae,?_⟩;rw[NB];have keep:∀z pr,iN H2 z pr->iN (upd (upd H2 t (.tup [oV (Af F i false),oV (Af F i true)])) L (.lst (acc++[.ref t]))) z pr:=λz pr ⟨b,e,hb⟩=>⟨b,e,by rw[ah (aQ hb I (by intro z;cases z))];exact s3 _ _ hb⟩
   exact Paired.snoc (Paired.imp' (λ_ _ z=>keep _ _ z) pr) ⟨t,rfl,by rw[ah tL,ae]⟩
  ·rintro acc H2 ⟨s2,I,pr⟩;rw[aac]at pr;refine⟨L,_,rfl,.inl ⟨aR.of I,λl O=>?_⟩⟩
   exact q l acc _ (s2.trans (aq.new O)) ae (Paired.imp' (λ_ _ ⟨b,e,hb⟩=>⟨b,e,aq.new O _ _ hb⟩) pr)
def l9.same{p:Nat}{N:RM.Net}{L:Nat->Int}{m u:Nat}{D:Addr}{F:RM.OW}{H0 H H' : Hp}(h:l9 p N L m u D F H0 H)(s:aq H H'):l9 p N L m u D F H0 H':=by
 obtain⟨es,I,O,U,Y,Z,e6⟩:=h;exact⟨es,I,s _ _ O,λi b hb=>let⟨v0,v1,q1,q2,q3⟩:=U i b hb;⟨v0,v1,s _ _ q1,q2.tups s.tups,q3.tups s.tups⟩,Y,Z,e6⟩
def l9.put{p:Nat}{N:RM.Net}{L:Nat->Int}{m u:Nat}{D X:Addr}{F:RM.OW}{H0 H:Hp}{xs ys:List V}(h:l9 p N L m u D F H0 H)(hD:H0 D=none)(hX:H X=some (.lst xs))(hX0:∃o,H0 X=some o):l9 p N L m u D F H0 (upd H X (.lst ys)):=by
 obtain⟨es,O,U,Y,Z,e5,I⟩:=h;obtain⟨o,ho⟩:=hX0;have ne:∀b,H0 b=none->b≠X:=λb hb z=>by rw[z,ho]at hb;cases hb
 have tp:bG H (upd H X (.lst ys)):=bG.put hX;refine⟨es,O,by rw[ah (ne D hD)];exact U,λi b hb=>?_,Z,e5,I⟩
 obtain⟨v0,v1,q1,q2,q3⟩:=Y i b hb;exact⟨v0,v1,by rw[ah (ne b (I.1 b (jV hb)))];exact q1,q2.tups tp,q3.tups tp⟩
def Jt(p:Nat)(N:RM.Net)(L:Nat->Int)(m i:Nat)(ds:List Addr)(Fs:Nat->RM.OW)(H:Hp):Prop:=ds.length=i/\∀(j:Nat) d,ds[j]?=some d->∃H0,l9 p N L m j d (Fs j) H0 H
def E1(t:Addr)(lp:Pos):Sp:=λvs H Q _=>∃w p ts,∃g:aA p ts,∃m:Nat,vs=[.ref w,.int (m:Int)]/\bE H w p ts/\m<2^ts.length/\H t=some (.jF (dU (lA "least_ways") lp))/\
 ∀D ds I H',H D=none->aq H H'->H' D=some (.lst (ds.map V.ref))->Jt p g.N (aW ts) m p ds I H'->Q (.ref D) H'
def c5:Ok T T.fY 6 (E1 a.bS bB):=by
 have nO:=nO T;refine T.fY.ok tJ λ_ A _ s H vs Q E hr h=>?_
 ·obtain⟨wb,p,ts,g,m,rfl,hw,hm,Y,q⟩:=h;refine⟨_,(av (aF (cD (own:=["start"]) (fq:=["web","marks"]) (js:=[0,1]) (aI (aj fV) ["web","marks"]) rfl (cu (by rfl) T.dJ (aa (aK (cT K) (pv 0) ak) af)) (λ_ _ _ _=>(bq 0 (lG ["start","web","marks"]))) (λ_ _ _ _=>cg) (λ_ _ _ _=>(aH nO hr T.kj.c aE (aa (pv 1) (aa (pv 2) (aa (pv 0) af)))))))),?_⟩
  obtain⟨bt,xs,h1,h2,h3⟩:=id hw.ex;have wp:=g.p2;refine(au rfl (cU (aU.of h1) (ao (j:=0) rfl) (au rfl ⟨(by lia),(by lia),λD Z=>eM (lo:=0) (m:=(p:Int).toNat) (λi acc H2=>aq H H2/\H2 D=some (.lst acc)/\∃ds I,acc=ds.map V.ref/\ds.length=i/\∀(j:Nat) d,ds[j]?=some d->∃H0,l9 p g.N (aW ts) m j d (I j) H0 H2/\H0 d=none/\∃o,H0 D=some o) ⟨aq.new Z,ae,[],λ_ _ _=>none,rfl,rfl,λj d e=>by cases e⟩ (λi acc H2 _ ⟨_,z,ds,_,e,l,_⟩=>⟨z,by rw[e,aac];lia⟩) (dl (abM.mpr (by lia))) ?_ ?_⟩)))
  ·rintro i acc H2 hi ⟨s2,O,ds,I,rfl,U,all⟩;rw[aaE]at hi;rw[abS];refine⟨rfl,au rfl (au rfl (au rfl ⟨wb,p,ts,g,m,i,rfl,hw.same s2,hm,hi,s2 _ _ Y,λd F H3 hd s3 wa=>?_⟩))⟩
   have zy:=s3 _ _ O;refine⟨zy,(s2.trans s3).put Z,ae,ds++[d],λj=>if j=i then F else I j,by simp,by simp[U],λj d' e=>?_⟩
   by_cases ej:j<ds.length
   ·rw[aba ej]at e;obtain⟨H0,w0,n0,o0⟩:=all j d' e;dsimp only;rw[aaf (show ¬ j=i by lia)]
    exact⟨H0,(w0.same s3).put n0 zy o0,n0,o0⟩
   ·rw[abf (by lia)]at e
    have hj:j=i:=by
     have:=(jo.mp e).1;simp at this
     lia
    subst hj;rw[U,acX]at e;have e:d=d':=by simpa using e
    subst e;dsimp only;rw[aai rfl];exact⟨H2,wa.put hd zy ⟨_,O⟩,hd,_,O⟩
  ·rintro acc H2 ⟨s2,O,ds,I,rfl,U,all⟩;rw[aaE]at U;exact q D ds I H2 Z s2 O ⟨U,λj d e=>let⟨H0,w0,_⟩:=all j d e;⟨H0,w0⟩⟩
def CN:Sp:=λvs H Q _=>∃(D:Addr) (ds:List Addr) (I:Nat->RM.OW),∃p N L m,vs=[.ref D]/\H D=some (.lst (ds.map V.ref))/\p<=900/\Jt p N L m p ds I H/\
 ∀b H',aq H H'->fK H' b ((List.range p).map λi=>mP (Af (I i)) p)->Q (.ref b) H'
def dB:Ok T T.gE 3 CN:=by
 have i9:=i9 T;refine T.gE.ok uL λ_ A _ s H vs Q E hr h=>?_
 ·obtain⟨D,ds,Y,p,N,L,m,rfl,Z,hp,⟨O,all⟩,q⟩:=h;refine⟨_,(av (aF (fc (Dm K) (by rfl) T.tS acp (aa (cD (own:=["from_point"]) (fq:=[]) (js:=[]) (aI (aj gB) ["ways"]) rfl (wX K (pv 0)) (λ_ _ _ _=>(bq 0 (lG ["from_point"]))) (λ_ _ _ _=>cg) (λ_ _ _ _=>(aH i9 hr T.i0.c aE (aa (pv 0) af)))) af)))),?_⟩
  refine(au rfl ⟨D,rfl,⟨_,aR.of Z⟩,λX hX=>cA (K:=K) (a:=D) (xs:=ds.map V.ref) (λi acc H2=>aq H H2/\H2 X=some (.lst acc)/\Paired (RowW H2) acc ((List.range i).map λi=>mP (Af (Y i)) p)) ⟨aq.new hX,ae,.nil⟩ (λi acc H2 _ z=>⟨aR.of (z.1 _ _ Z),z.2.1,by rw[z.2.2.length,aac,aaK];exact aam _⟩) (dl (abM.mpr (by rw[aac];lia))) ?_ ?_⟩)
  ·rintro i x acc H2 hx ⟨s2,I,pr⟩;obtain⟨d,hd,rfl⟩:∃d,ds[i]?=some d/\x = .ref d:=by
    rw[aaw]at hx;obtain⟨b,h1,h2⟩:=vY.mp hx;exact⟨b,h1,h2.symm⟩
   obtain⟨H0,wa⟩:=all i d hd;obtain⟨es,e1,e2,e3,_⟩:=wa.same s2;refine⟨rfl,au rfl ⟨d,es,Y i,rfl,e2,(by lia),e3,λb ys H3 s3 hb Vv=>?_⟩⟩
   have U:=s3 _ _ I;refine⟨U,(s2.trans s3).put hX,ae,?_⟩;rw[abE,aaJ,e1]at *;exact Paired.snoc (Paired.imp' (λ_ _ z=>z.tups (s3.tups.trans (bG.put U))) pr) (RowW.tups (bG.put U) ⟨b,ys,rfl,hb,Vv⟩)
  ·rintro acc H2 ⟨s2,I,pr⟩;rw[aac,O]at pr;refine⟨X,_,rfl,.inl ⟨aR.of I,λl O=>?_⟩⟩
   exact q l _ (s2.trans (aq.new O)) ⟨acc,ae,Paired.imp' (λ_ _ z=>z.same (aq.new O)) pr⟩
def Rk:Sp:=λvs H Q _=>∃(x y:Option Int) (l:Int),vs=[oV x,oV y,.int l]/\Q (.bl (yg x y l)) H
def Ag:Sp:=λvs H Q _=>∃(b c:Addr) (t:bZ) (u:Bool) (ys:List V) (R:List Pr),vs=[.ref b,.int (u.toNat:Int),.ref c]/\H b=some (.tup (mC t))/\H c=some (.tup ys)/\Paired (iN H) ys R/\0<=t.1/\t.1<(R.length:Int)/\0<=t.2.1/\t.2.1<(R.length:Int)/\Q (.bl (DT R t u)) H
def wL(C:Addr):Sp:=λvs H Q E=>∃(w b:Addr) (p:Nat) (ts:List bZ) (W:List (List Pr)) (S:Int),vs=[.ref w,.int S,.ref b]/\bE H w p ts/\Pu p ts/\fK H b W/\LR p W/\qI ts S (∀H',aq H H'->E (.ref C) none H') λm =>
 (B6 p ts m W->∀H',aq H H'->Q (.bl true) H')/\(¬ B6 p ts m W->∀H',aq H H'->Q (.bl false) H')
def Rl(a:Option Int):S0 (oV a) (V.int 0)=true:=by cases a<;>rfl
def Sm{x y:V}{A B:Prop}(h:x≠y)(ha:A):if(!decide (x=y))=true then A else B:=by
 rw[gj h];exact fC ha
def jk:Ok T T.jg 1 Rk:=by
 refine T.jg.ok yM λ_ A _ s H vs Q E hr h=>?_
 ·obtain⟨x,y,l,rfl,q⟩:=h;refine⟨_,(ai (bW (PW.pt (nV (aO oz (pv 0) iF (aM _)) (jG (aO oz (pv 1) iF (aM _))))) (av (aF (ou (c9 oz (pv 0) iF (aM _)) (oq (c9 oz (pv 1) iF (aM _)))))) aY)
   (av (aF (c9 Ml (cF Mm (by rfl) T.Xp PyProof.Rows.boot_abs (aa (aS qM (pv 0) (pv 1)) af)) (pv 2) (aM _))))),?_⟩
  refine dO ?_;intro I O;cases x with
  | none =>
    refine(au rfl ⟨rfl,au rfl (JM rfl (au rfl ⟨rfl,au rfl (JM rfl (au rfl ⟨rfl,?_⟩))⟩))⟩);cases y with
    | none=>exact q
    | some y=>exact q
  | some x =>
    cases y with
    | none=>exact(au rfl ⟨rfl,au rfl (lQ (λz=>nomatch z) (au rfl ⟨rfl,au rfl (JM rfl (au rfl ⟨rfl,au rfl (lQ (λz=>nomatch z) q)⟩))⟩))⟩)
    | some y=>exact(au rfl ⟨rfl,au rfl (lQ (λz=>nomatch z) (au rfl ⟨rfl,au rfl (lQ (λz=>nomatch z) (au rfl (au rfl (dz (au rfl (au rfl (dz (q))))))))⟩))⟩)
def nQ:Ok T T.nH 2 Ag:=by
 have jk:=jk T;refine T.nH.ok lW λ_ A _ s H vs Q E hr h=>?_
 ·obtain⟨b,c,t,u,ys,R,rfl,hb,hc,pr,a0,a1,b0,b1,q⟩:=h;refine⟨_,(ai (aN (i:=3) lW.nd rfl (Or.inl rfl) (aK (cT K) (pv 2) (aK (cT K) (pv 0) ak)))
   (ai (aN (i:=4) lW.nd rfl (Or.inl rfl) (aK (cT K) (pv 2) (aK (cT K) (pv 0) ak)))
   (av (aF (ou (aH jk hr T.jg.c aE (aa (aK (cT K) (pv 3) ak) (aa (aK (cT K) (pv 4) (pv 1)) (aa (aK (cT K) (pv 0) ak) af)))) (oq (aH jk hr T.jg.c aE (aa (aK (cT K) (pv 3) ak) (aa (aK (cT K) (pv 4) (aS qM ak (pv 1))) (aa (aK (cT K) (pv 0) ak) af)))))))))),?_⟩
  refine iz ?_;intro cH cQ;obtain⟨I,O,h1⟩:=RowW.at pr (i:=t.1.toNat) (by lia)
  obtain⟨U,Y,h2⟩:=RowW.at pr (i:=t.2.1.toNat) (by lia)
  have Z:Fi ys t.1=some (.ref I):=by
   have:=ao O
   rwa [Int.toNat_of_nonneg a0]at this
  have i2:Fi ys t.2.1=some (.ref U):=by
   have:=ao Y
   rwa [Int.toNat_of_nonneg b0]at this
  have eu:(1:Int)-(u.toNat:Int)=((!u).toNat:Int):=by cases u<;>rfl
  refine(au rfl (au rfl (cU (aU.of hb) (ao (j:=0) rfl) (cU (aU.of hc) (Z) (?_)))));refine(au rfl (au rfl (cU (aU.of hb) (ao (j:=1) rfl) (cU (aU.of hc) (i2) (?_)))));refine(au rfl (cU (aU.of h1) (ao (j:=0) rfl) (au rfl (au rfl (cU (aU.of h2) (ao (Nl _ u)) (au rfl (cU (aU.of hb) (ao (j:=2) rfl) ⟨_,_,_,rfl,_,rfl,?_⟩)))))));unfold DT at q;cases hB:yg (fQ R t.1.toNat).1 (sel (fQ R t.2.1.toNat) u) t.2.2 with
  | false =>
    rw[hB]at q;exact dN q
  | true =>
    rw[hB]at q;refine fC (au rfl (cU (aU.of h1) (ao (j:=1) rfl) (au rfl (au rfl (dz (cU (aU.of h2) (?_) (au rfl (cU (aU.of hb) (ao (j:=2) rfl) ⟨_,_,_,rfl,q⟩))))))));rw[eu];exact ao (Nl _ (!u))
def ly:LV T T.k9 4 (wL a.eZ):=by
 have cf:=cf T;have bM:=bM T;have nQ:=nQ T;refine T.k9.IG gC λ_ A _ s H vs Q E hr h=>?_
 ·obtain⟨wb,b,p,ts,W,S,rfl,hw,Z,hW,sq,q⟩:=h;refine⟨_,(ai (bL (aH cf hr T.g9.c gJ.passes (aa (pv 0) (aa (pv 1) af))))
   (ai (rQ rfl (cu (by rfl) T.dJ (aa (aK (cT K) (pv 0) ak) af)) (bq 3 gC.nd)
   (ai (bW (aO C7 (aK (cT K) (aK (cT K) (aK (cT K) (pv 2) (pv 3)) (pv 3)) ak) ak (aM _)) (av (aF iE)) aY)
   (av (fH PassesOwn.never rfl (x8 K (by rfl) T.hU (aa (aK (cT K) (pv 0) ak) af)) (Dp K (n:=2) rfl (aL (bq 4 gC.nd) (aL (bq 5 gC.nd) c8)))
   (av (bW (kF (dZ (aH nQ hr T.nH.c aE (aa (pv 5) (aa (mw (dZ (aH bM hr T.g8.c aE (aa (pv 1) (aa (pv 4) af)))) ak ak) (aa (aK (cT K) (pv 2) (pv 3)) af)))))) (av (aF iE)) aY))))))
   (av (aF iE)))),?_⟩
  refine wk ?_;intro cH cQ eK fG gR mj yE;refine(au rfl (au rfl ⟨wb,p,ts,S,rfl,hw,Z,?_⟩));rcases q with⟨m,rfl,hm,q1,q2⟩|⟨hS,q⟩
  ·refine .inl ⟨m,rfl,hm,?_⟩;obtain⟨bt,xs,h1,h2,h3⟩:=id hw.ex;obtain⟨ws,hws,Y3⟩:=id hW;have Lm:=h3.length;have wp:=Z.pts;have wl:=Z.len;refine(au rfl (cU (aU.of h1) (ao (j:=0) rfl) (au rfl ⟨(by lia),(by lia),?_⟩)))
   refine An (lo:=0) (n:=(p:Int).toNat) (λi σ H2=>∃v3 v4 O,σ=[some (.ref wb),some (.int (m:Int)),some (.ref b),v3,v4,O]/\aq H H2/\∀j,j<i->RZ ts m j (W.getD j [])) ⟨none,none,none,rfl,aq.refl _,λj hj=>by lia⟩ ?_ ?_
   ·rintro i σ H2 hi ⟨v3,v4,O,rfl,s2,ok⟩;rw[aaE]at hi;rw[abS];obtain⟨x,hx,bR,ys,rfl,XG,XH⟩:=iO Y3 (i:=i) (by rw[sq.1];exact hi) []
    have rl:=sq.row hi;obtain⟨bP,eP,Ea⟩:=RowW.at XH (i:=i) (by lia)
    refine(au rfl (au rfl (cU (aU.of (s2 _ _ hws)) (ao (j:=i) hx) (au rfl (cU (aU.of (s2 _ _ XG)) (ao (j:=i) eP) (cU (aU.of (s2 _ _ Ea)) (ao (j:=0) rfl) (?_)))))));refine⟨Rl _,_,rfl,?_⟩
    by_cases h0:(fQ (W.getD i []) i).1=some 0
    case neg =>
     refine Sm (λz=>h0 ?_) (q2 (λz=>h0 (z i hi).1) _ s2)
     have e:=QL (fQ (W.getD i []) i).1;rw[dm z]at e;exact ko e.symm
    refine IB (by rw[h0];rfl) ?_
    refine(au rfl (cU (aU.of (s2 _ _ h1)) (ao (j:=1) rfl) ⟨bt,rfl,⟨_,aU.of (s2 _ _ h2)⟩,?_⟩));refine A1 (K:=K) (a:=bt) (xs:=xs) (λk σ H3=>∃v4 O,σ=[some (.ref wb),some (.int (m:Int)),some (.ref b),some (.int (i:Int)),v4,O]/\aq H H3/\∀j,j<k->DT (W.getD i []) (bj ts j) (m.testBit j)=true) ⟨v4,O,rfl,s2,λj hj=>by lia⟩ (λk σ H3 _ ⟨_,_,_,z,_⟩=>aU.of (z _ _ h2)) ?_ ?_
    ·rintro k x T0 σ H3 hk ⟨v4,O,rfl,s3,U⟩ hT;have ab:k<xs.length:=(jo.mp hk).1;obtain⟨t,ht,ct,rfl,Y⟩:=Paired.lR h3 hk;have Pw:bj ts k=t:=by
      unfold bj;rw[aad,ht];rfl
     obtain⟨g0,g1,g2,g3⟩:=Z.inw.ends t (jV ht);have s4:aq H3 (upd H3 T0 (.tup [.int (k:Int),.ref ct])):=aq.new hT;have Pp:upd H3 T0 (.tup [.int (k:Int),.ref ct]) T0=some (.tup [.int (k:Int),.ref ct]):=ae;generalize upd H3 T0 (.tup [.int (k:Int),.ref ct])=H4 at s4 Pp;have I:=s3.trans s4;refine⟨T0,_,rfl,aU.of Pp,rfl,_,_,rfl,_,_,rfl,rfl,?_⟩;refine(au rfl (au rfl (au rfl ⟨(m:Int),k,rfl,au rfl (?_)⟩)));rw[jd];cases hb:m.testBit k with
     | true =>
       refine fC (au rfl (au rfl (cU (aU.of (I _ _ hws)) (ao (j:=i) hx) ⟨ct,bR,t,true,ys,_,rfl,I _ _ Y,I _ _ XG,Paired.imp' (λ_ _ z=>z.same I) XH,g0,by lia,g2,by lia,_,rfl,?_⟩)))
       cases hB:DT (W.getD i []) t true with
       | false=>exact fC (q2 (λz=>by
        have:=(z i hi).2 k (by lia)
        rw[Pw,hb,hB]at this;cases this) _ I)
       | true =>
         refine dN ⟨_,_,rfl,I,λj hj=>?_⟩
         by_cases e:j=k
         ·rw[e,Pw,hb];exact hB
         ·exact U j (by lia)
     | false =>
       refine dN (au rfl (au rfl (cU (aU.of (I _ _ hws)) (ao (j:=i) hx) ⟨ct,bR,t,false,ys,_,rfl,I _ _ Y,I _ _ XG,Paired.imp' (λ_ _ z=>z.same I) XH,g0,by lia,g2,by lia,_,rfl,?_⟩)))
       cases hB:DT (W.getD i []) t false with
       | false=>exact fC (q2 (λz=>by
        have:=(z i hi).2 k (by lia)
        rw[Pw,hb,hB]at this;cases this) _ I)
       | true =>
         refine dN ⟨_,_,rfl,I,λj hj=>?_⟩
         by_cases e:j=k
         ·rw[e,Pw,hb];exact hB
         ·exact U j (by lia)
    ·rintro σ H3 ⟨v4,O,rfl,s3,U⟩;rw[Lm]at U;refine⟨_,_,_,rfl,s3,λj hj=>?_⟩
     by_cases e:j=i
     ·rw[e];exact⟨h0,U⟩
     ·exact ok j (by lia)
   ·rintro σ H2 ⟨v3,v4,O,rfl,s2,ok⟩;rw[aaE]at ok;exact q1 ok _ s2
  ·exact .inr ⟨hS,q _ (aq.refl _)⟩
def Rm(p:Nat)(ts:List bZ)(g:aA p ts)(m:Nat)(H H' : Hp)(t:Addr):Prop :=
 ((∀x z,x<p->¬ RM.Wy g.N (aW ts) m x x true z)/\m=g.N.cut (λx=>decide (x∈vW p ts g m))/\∃l,H l=none/\H' t=some (.tup [.str "side",.ref l])/\H' l=some (.lst (aD (vW p ts g m))))\/
 ∃(z:Int) (e:Nat) (b:Addr) (W:List (List Pr)),RM.Lo g.N (aW ts) m z e/\RM.yy g.N (aW ts) m z e/\H' t=some (.tup [.str "ring",.int (e:Int),.ref b])/\fK H' b W/\W.length=p/\(∀R∈W,R.length=p)/\sW p ts g m W
def CO(C t:Addr)(lp:Pos):Sp:=λvs H Q E=>∃w p ts,∃g:aA p ts,∃S,vs=[.ref w,.int S]/\bE H w p ts/\H t=some (.jF (dU (lA "least_ways") lp))/\qI ts S (E (.ref C) none H) λm=>∀r H',H r=none->aq H H'->Rm p ts g m H H' r->Q (.ref r) H'
def zg(H:Hp)(v:V)(d:Int×Nat):Prop:=∃c,v = .ref c/\H c=some (.tup [.int d.1,.int (d.2:Int)])
def zg.tups{H H' : Hp}{v:V}{d:Int×Nat}(h:zg H v d)(s:bG H H'):zg H' v d:=let⟨c,e,q⟩:=h;⟨c,e,s _ _ q⟩
def rB(d:Int×Nat):PyData:=.tuple [.int d.1,.int (d.2:Int)]
def E2{K:bJ}{H:Hp}:∀{ys:List V} {R:List (Int×Nat)},Paired (zg H) ys R->DatVs K H ys (R.map rB)
 | _,_,.nil=>.nil
 | _,_,.cons h r=>by
   obtain⟨b,rfl,hb⟩:=h;exact .cons (.tup (aU.of hb) (.cons (.int _) (.cons (.int _) .nil))) (E2 r)
def OY:∀l:List (Int×Nat),PyData.eqv (.list (l.map rB)) (.list [])=decide (l=[])
 | []=>rfl
 | _::_=>rfl
def E3:∀R:List (Int×Nat),PyData.canLayAll0 (R.map rB)=true
 | []=>rfl
 | q::r=>by
   have I:=E3 r;have e:(rB q).canLay0=true:=by simp[rB,PyData.canLay0,PyData.canLayAll0]
   simp only[aaR,PyData.canLayAll0,I,acM,e]
def Bf:∀R:List (Int×Nat),PyData.depthAll (R.map rB)<=1
 | []=>aa3 _
 | q::r=>by
   have I:=Bf r;show max (PyData.depth (rB q)) (PyData.depthAll (r.map rB))<=1;have e:PyData.depth (rB q)=1:=by simp[rB,PyData.depth,PyData.depthAll]
   lia
def Bg{H:Hp}:∀{ys:List V} {R:List (Int×Nat)},Paired (zg H) ys R->∃cs:List Addr,ys=cs.map V.ref/\Paired (λ(c:Addr) (d:Int×Nat)=>H c=some (.tup [.int d.1,.int (d.2:Int)])) cs R
 | _,_,.nil=>⟨[],rfl,.nil⟩
 | _,_,.cons h r=>by
   obtain⟨b,rfl,hb⟩:=h;obtain⟨cs,rfl,pr⟩:=Bg r;exact⟨b::cs,rfl,.cons hb pr⟩
def E4(R:List (Int×Nat)):SeqAt.shaped (.list (R.map rB))=true:=by
 unfold SeqAt.shaped;have e:(PyData.list (R.map rB)).canLay0=PyData.canLayAll0 (R.map rB):=by simp[PyData.canLay0]
 rw[e,E3,abx];refine dm ?_;have h:=Bf R;have I:PyData.depth (PyData.list (R.map rB))=PyData.depthAll (R.map rB)+1:=by simp[PyData.depth]
 rw[I]
 lia
def Cd{a b:Int×Nat}(h:HT.lexLt [a.1,(a.2:Int)] [b.1,(b.2:Int)]=false):RM.lx b a:=by
 rw[HT.iI]at h;unfold RM.lx
 by_cases e:a.1=b.1
 ·rw[aai e,HT.iI]at h;refine .inr ⟨e.symm,?_⟩
  by_cases I:(a.2:Int)=(b.2:Int)
  ·lia
  ·rw[aaf I]at h;have:=of_decide_eq_false h
   lia
 ·rw[aaf e]at h;have:=of_decide_eq_false h;exact .inl (by lia)
def pG:LV T T.pA 7 (CO a.eZ a.bS bB):=by
 have cf:=cf T;have c5:=c5 T;have dB:=dB T;have vz:=vz T;refine T.pA.IG nv λ_ A _ s H vs Q E hr h=>?_
 ·obtain⟨wb,p,ts,g,S,rfl,hw,a9,q⟩:=h;refine⟨_,(ai (bL (aH cf hr T.g9.c gJ.passes (aa (pv 0) (aa (pv 1) af))))
   (ai (aN (i:=2) nv.nd rfl (Or.inr rfl) (aH c5 hr T.fY.c aE (aa (pv 0) (aa (pv 1) af))))
   (ai (jc (i:=3) nv.nd rfl rfl (own:=["point"]) (fq:=["ways"]) (js:=[2]) (aI (aj lM) ["web","marks","ways","rounds"]) rfl (cu (by rfl) T.dJ (aa (aK (cT K) (pv 0) ak) af)) (λ_ _ _ _=>(bq 0 (lG ["point","ways"]))) (λ_ _ _ _=>(jZ (aO PX (aK (oB K) (aK (oB K) (aK (oB K) (pv 1) (pv 0)) (pv 0)) ak) iF (aM _)))) (λ_ _ _ _=>(aK (oB K) (aK (oB K) (aK (oB K) (pv 1) (pv 0)) (pv 0)) ak)))
   (ai (bW (aO (BD K hr.units) (pv 3) (eg af) (aM _)) (av (aF (aH vz hr T.vf.c gJ.passes (aa (pv 0) (aa (pv 1) af))))) aY)
   (av (aF (cy (aa m4 (aa (aK (cT K) (cF (aat hr.hd hr.in1.F0) (by rfl) T.OM PyProof.Rows.boot_min (aa (pv 3) af)) ak) (aa (aH dB hr T.gE.c aE (aa (pv 2) af)) af)))))))))),?_⟩
  refine Co ?_;intro cH cQ eK fG gR;obtain⟨bt,xs,h1,h2,h3⟩:=id hw.ex;have wp:=g.p2;have W:=g.BL;rcases q with⟨m,rfl,hm,q⟩|⟨hS,q⟩
  case inr=>exact(au rfl (au rfl ⟨wb,p,ts,_,rfl,hw,W,.inr ⟨hS,q⟩⟩))
  refine(au rfl (au rfl ⟨wb,p,ts,_,rfl,hw,W,.inl ⟨m,rfl,hm,?_⟩⟩));refine(au rfl (au rfl ⟨wb,p,ts,g,m,rfl,hw,hm,a9,λD ds I H1 hD s1 uE al=>?_⟩))
  obtain⟨hl,all⟩:=id al;have Ly:∀i,i<p->∃d H0,ds[i]?=some d/\l9 p g.N (aW ts) m i d (I i) H0 H1:=λi hi=>by
   have e:ds[i]?=some ds[i]:=aag (by lia)
   obtain⟨H0,h0⟩:=all i _ e;exact⟨_,H0,e,h0⟩
  refine(au rfl (cU (aU.of (s1 _ _ h1)) (ao (j:=0) rfl) (au rfl ⟨(by lia),(by lia),λX hX=>eM (lo:=0) (m:=(p:Int).toNat) (λi acc H2=>aq H1 H2/\H2 X=some (.lst acc)/\Paired (zg H2) acc ((List.range i).filterMap λj=>I j j true)) ⟨aq.new hX,ae,.nil⟩ (λi acc H2 _ z=>⟨z.2.1,by rw[z.2.2.length];exact aa0 (List.length_filterMap_le ..) (by simp)⟩) (dl (abM.mpr (by lia))) ?_ ?_⟩)))
  ·rintro i acc H2 hi ⟨s2,O,pr⟩;rw[aaE]at hi;rw[abS];obtain⟨d,H0,hd,es,e1,e2,e3,_⟩:=Ly i hi;have ag:es[i]?=some es[i]:=aag (by lia)
   obtain⟨v0,v1,hv,w0,w1⟩:=e3 i _ ag;have fm:(List.range (i+1)).filterMap (λj=>I j j true)=(List.range i).filterMap (λj=>I j j true)++(I i i true).toList:=by
    rw[abE,List.filterMap_append];cases U:I i i true<;>simp[U]
   rw[fm];have ar:(ds.map V.ref)[i]?=some (.ref d):=by rw[aaw,hd];rfl
   have aw:(es.map V.ref)[i]?=some (.ref es[i]):=by rw[aaw,ag];rfl
   refine⟨rfl,au rfl (au rfl (p8 (aR.of (s2 _ _ uE)) (ao (j:=i) ar) (au rfl (p8 (aR.of (s2 _ _ e2)) (ao (j:=i) aw) (p8 (aR.of (s2 _ _ hv)) (ao (j:=1) rfl) ⟨rfl,au rfl (?_)⟩)))))⟩;cases U:I i i true with
   | none =>
     rw[U]at w1;have w1:v1 = .eX:=w1;subst w1;refine IB rfl ⟨s2,O,?_⟩;rw[show(none:Option (Int×Nat)).toList=[] from rfl,ab5]
     exact pr
   | some dd =>
     rw[U]at w1;obtain⟨c,rfl,hc⟩:=w1;refine Sm (λz=>nomatch z) (au rfl (au rfl (p8 (aR.of (s2 _ _ uE)) (ao (j:=i) ar) (au rfl (p8 (aR.of (s2 _ _ e2)) (ao (j:=i) aw) (p8 (aR.of (s2 _ _ hv)) (ao (j:=1) rfl) ⟨O,s2.put hX,ae,?_⟩))))))
     have tp:bG H2 (upd H2 X (.lst (acc++[.ref c]))):=bG.put O;exact Paired.snoc (Paired.imp' (λ_ _ z=>z.tups tp) pr) ⟨c,rfl,tp _ _ (s2 _ _ hc)⟩
  ·rintro acc H2 ⟨s2,O,pr⟩;rw[aaE]at pr;generalize hR:(List.range p).filterMap (λj=>I j j true)=R at pr
   have ba:=s1.trans s2;have Rh:∀k,k<g.N.n->0<aW ts k:=λk hk=>by
    have:=(g.rS _ (ff hk)).l0;unfold aW
    lia
   have inR:∀j d,j<p->I j j true=some d->d∈R:=λj d hj hd=>by
    rw[<-hR];exact acf.mpr ⟨j,aaI.mpr hj,hd⟩
   have bb:∀d,d∈R->∃j,j<p/\I j j true=some d:=λd hd=>by
    rw[<-hR]at hd;obtain⟨j,hj,e⟩:=acf.mp hd;exact⟨j,aaI.mp hj,e⟩
   have best:∀i,i<p->∀x s,RM.we g.N (aW ts) m i x s ((I i x s).map (·.1)):=λi hi=>by
    obtain⟨d,H0,hd,es,e1,e2,e3,e4,_⟩:=Ly i hi;exact e4
   refine(au rfl ⟨dl rfl,λl0 IC=>⟨_,_,.lst (aR.of (aq.new IC _ _ O)) (E2 (Paired.imp' (λ_ _ z=>z.tups (aq.new IC).tups) pr)),.lst (aR.of ae) .nil,E4 _,rfl,au rfl (?_)⟩⟩)
   rw[OY];have s3:=ba.trans (aq.new (o:=.lst []) IC);have Z:=s2.trans (aq.new (o:=.lst []) IC);have Fv:=aq.new (o:=.lst []) IC _ _ O;have Vv:=Paired.imp' (λ_ _ z=>zg.tups z (aq.new (o:=.lst []) IC).tups) pr
   clear O pr;generalize upd H2 l0 (.lst [])=H3 at s3 Z Fv Vv
   by_cases Y:R=[]
   ·rw[dm Y];have no:∀x z,x<p->¬ RM.Wy g.N (aW ts) m x x true z:=λx z hx hw=>by
     have b:=best x hx x true;cases U:I x x true with
     | none=>rw[U]at b;exact b z hw
     | some d=>have:=inR x d hx U;rw[Y]at this;cases this
    refine fC (au rfl (au rfl ⟨wb,p,ts,g,_,rfl,hw.same s3,.inl ⟨m,rfl,hm,λt H4 ht s4 told=>?_⟩⟩))
    refine q t H4 (s3.free ht) (s3.trans s4) (.inl ⟨no,?_⟩);rcases told with⟨h0,l,hl,bc,bo⟩|⟨c,hc,hp,_⟩
    ·exact⟨h0,l,s3.free hl,bc,bo⟩
    ·obtain⟨c1,c2⟩:=RM.eN.mp hc;rw[RM.N6 (λk hk=>acZ (Rh k hk)) no (RM.A4 c1 c2) (RM.wZ c1)]at hp
     cases hp
   ·rw[gj Y];obtain⟨cs,rfl,ax⟩:=Bg Vv;have bD:=ax.length;have aT:0<cs.length:=by
     have:=List.length_pos_iff.mpr Y
     lia
    have a3:∀(i:Nat) c,cs[i]?=some c->∃d,R[i]?=some d/\H3 c=some (.tup [.int d.1,.int (d.2:Int)]):=λi c hc=>Paired.lR ax hc
    refine dN (au rfl ⟨X,cs,λi=>[(R.getD i (0,0)).1,((R.getD i (0,0)).2:Int)],rfl,aR.of Fv,aT,λi c hc=>?_,λi c hc a4=>?_⟩)
    ·obtain⟨d,hd,h⟩:=a3 i c hc;have e:R.getD i (0,0)=d:=by rw[aad,hd];rfl
     dsimp only;rw[e];exact aU.of h
    obtain⟨d,hd,bp⟩:=a3 i c hc;obtain⟨u,hu,hFu⟩:=bb d (jV hd);have a5:∀j d',j<p->I j j true=some d'->RM.lx d d':=λj d' hj U=>by
     obtain⟨i',a6⟩:=aa5 (inR j d' hj U);have bw:i'<cs.length:=by
      have:=(jo.mp a6).1
      lia
     have ab:=a4 i' bw;have e:R.getD i (0,0)=d:=by rw[aad,hd];rfl
     have e' : R.getD i' (0,0)=d':=by rw[aad,a6];rfl
     dsimp only at ab;rw[e,e']at ab;exact Cd ab
    have a7:∀x z',x<p->RM.Wy g.N (aW ts) m x x true z'->d.1<=z':=λx z' hx hw=>by
     have b:=best x hx x true;cases U:I x x true with
     | none=>rw[U]at b;exact absurd hw (b z')
     | some d' =>
       rw[U]at b;have h1:d'.1<=z':=b.2 z' hw;have h2:=a5 x d' hx U;unfold RM.lx at h2
       lia
    obtain⟨_,_,_,es,_,_,_,_,wz,_,_⟩:=Ly u hu;have a8:=wz u true d hFu;obtain⟨r1,r2,r3,r4⟩:=RM.GF Rh (show u<g.N.p from hu) a8 a7
    refine(cU (aU.of bp) (ao (j:=1) rfl) (au rfl ⟨D,ds,I,p,g.N,aW ts,m,rfl,Z _ _ uE,(by lia),⟨hl,λj d e=>let⟨H0,w0⟩:=all j d e;⟨H0,w0.same Z⟩⟩,λb H4 s4 hW=>⟨dl rfl,λt ht=>?_⟩⟩))
    have s5:aq H4 (upd H4 t (.tup [.str "ring",.int (d.2:Int),.ref b])):=aq.new ht;refine q t _ ((s3.trans s4).free ht) ((s3.trans s4).trans s5) (.inr ⟨d.1,d.2,b,_,⟨I,λi hi=>?_,⟨u,hu,hFu⟩,a5⟩,⟨r1,r2,r3,r4,⟨u,hu,?_⟩,a7⟩,ae,hW.same s5,by rw[aac,aaK],λR hR=>?_,λi hi x s hx=>?_⟩)
    ·obtain⟨_,_,_,_,_,_,_,_,_,_,fx⟩:=Ly i hi;exact fx
    ·obtain⟨pre,w0⟩:=a8;exact⟨pre,_,w0⟩
    ·obtain⟨i,_,rfl⟩:=aaH.mp hR;exact B8 _ _
    ·rw[aad,aaw,ac6 hi];show RM.we _ _ m i x s (sel (fQ (mP (Af (I i)) p) x) s);rw[Nz hx];exact best i hi x s
def HH:Sp:=λvs H Q _=>∃(l:Addr) (rows:List RM.Row3) (x:Nat),vs=[.ref l,.int (x:Int)]/\j8 H l rows/\∀c H',aq H H'->H' c=some (.tup [.int (((RM.cX rows x 0).1:Nat):Int),.int (((RM.cX rows x 0).2:Nat):Int)])->Q (.ref c) H'
def E5:Sp:=λvs H Q _=>∃(l b:Addr) (rows:List RM.Row3) (a:RM.Row3),vs=[.ref l,.ref b]/\j8 H l rows/\H b=some (.tup (vP a))/\rows.length<=200/\∀I H',aq H H'->j8 H' I (RM.zL rows a)->Q (.ref I) H'
def HU:Sp:=λvs H Q _=>∃(l:Addr) (B:List Nat),vs=[.ref l]/\H l=some (.lst (aD B))/\B.length<=200/\∀I rows H',aq H H'->j8 H' I rows->RM.Rw B rows->rows=RM.iw B B.length->Q (.ref I) H'
def Sn(p:Nat)(ts:List bZ)(g:aA p ts)(zs:List Int):Prop:=∃rs:List Nat,zs=rs.map (λx=>((x:Nat):Int))/\RM.Base g.N rs
def HV:Sp:=λvs H Q _=>∃w p ts,∃g:aA p ts,∃(l:Addr) (zs:List Int),vs=[.ref w,.ref l]/\bE H w p ts/\H l=some (.lst (zs.map V.int))/\zs.length<=200/\∀H' (d:Bool),aq H H'->(d=true↔Sn p ts g zs)->Q (.bl d) H'
def cast_inj{xs ys:List Nat}(e:xs.map (λx=>((x:Nat):Int))=ys.map λx=>((x:Nat):Int)):xs=ys:=by
 have:=aa4 (List.map Int.toNat) e;rw[abz,abz]at this;have h1:(Int.toNat∘λx=>((x:Nat):Int))=id:=funext λx=>rfl
 rw[h1,List.map_id,List.map_id]at this;exact this
def XI{x y:V}{A B:Prop}(h:x≠y)(ha:A):if(!decide (x=y))=true then A else B:=by
 rw[gj h];exact fC ha
def vA:Ok T T.vg 2 HH:=by
 have bM:=bM T;refine T.vg.ok fN λ_ A _ s H vs Q E hr h=>?_
 ·obtain⟨l,rows,x,rfl,Z,q⟩:=h;refine⟨_,(ai (aN (i:=2) fN.nd rfl (Or.inl rfl) (pv 1))
   (ai (aN (i:=3) fN.nd rfl (Or.inl rfl) ak)
   (ai (fH PassesOwn.never rfl (wX K (pv 0)) (Dp K (n:=3) rfl (aL (bq 4 fN.nd) (aL (bq 5 fN.nd) (aL (bq 6 fN.nd) c8))))
   (av (bW (dZ (aH bM hr T.g8.c aE (aa (pv 2) (aa (pv 4) af)))) (ai (Bo (i:=2) fN.nd rfl (Or.inl rfl) (pv 5) Ip)
   (av (Bo (i:=3) fN.nd rfl (Or.inl rfl) (pv 6) Ip))) aY)))
   (av (aF (cy (aa (pv 2) (aa (pv 3) af)))))))),?_⟩
  refine GU ?_;intro cH cQ eK fG gR mj;obtain⟨xs,Y,pr⟩:=id Z;refine(au rfl (au rfl ⟨l,rfl,⟨_,aR.of Y⟩,gX (K:=K) (a:=l) (xs:=xs) (λi σ H2=>∃v4 U v6,σ=[some (.ref l),some (.int (x:Int)),some (.int (((RM.cX (rows.take i) x 0).1:Nat):Int)),some (.int (((RM.cX (rows.take i) x 0).2:Nat):Int)),v4,U,v6]/\H2=H) ⟨none,none,none,rfl,rfl⟩ (λi σ H2 _ ⟨_,_,_,_,z⟩=>by rw[z];exact aR.of Y) ?_ ?_⟩))
  ·rintro i y D' σ H2 hi ⟨v4,U,v6,rfl,rfl⟩;obtain⟨I,hq,b,rfl,hb⟩:=Paired.lR pr hi;refine⟨b,_,rfl,aU.of hb,rfl,_,_,rfl,_,_,rfl,_,_,rfl,rfl,?_⟩;refine(au rfl (au rfl ⟨_,I.1,rfl,au rfl (?_)⟩));rw[jd];have O:=Kw (rows.take i) I x 0;rw[<-take3 hq]at O;cases DL:(RM.cX (rows.take i) x 0).1.testBit I.1 with
   | true =>
     rw[DL,aai rfl]at O;refine fC (au rfl (au rfl (dz (au rfl (au rfl (dz ⟨some (.int (I.1:Int)),some (.int (I.2.1:Int)),some (.int (I.2.2:Int)),?_,rfl⟩))))));rw[O];show[_,_,some (V.int (Builtin.bitXor _ _)),some (V.int (Builtin.bitXor _ _)),_,_,_]=_;rw[xor_int,xor_int]
   | false =>
     rw[DL,aaf (by decide)]at O
     refine dN ⟨some (.int (I.1:Int)),some (.int (I.2.1:Int)),some (.int (I.2.2:Int)),?_,rfl⟩;rw[O];rfl
  ·rintro σ H2 ⟨v4,U,v6,rfl,rfl⟩;rw[pr.length,aa7];exact(au rfl (au rfl ⟨dl rfl,λc hc=>q c _ (aq.new hc) ae⟩))
def rC:Ok T T.rm 2 E5:=by
 have bM:=bM T;refine T.rm.ok o4 λ_ A _ s H vs Q E hr h=>?_
 ·obtain⟨l,b,rows,ad,rfl,hR,hb,hlen,q⟩:=h;refine⟨_,(ai (aN (i:=2) o4.nd rfl (Or.inl rfl) (eg (aa (pv 1) af)))
   (ai (fH PassesOwn.never rfl (wX K (pv 0)) (bq 3 o4.nd)
   (av (bW (dZ (aH bM hr T.g8.c aE (aa (aK (cT K) (pv 3) ak) (aa (aK (cT K) (pv 1) ak) af)))) (av (bL (Jm K (lB abe abl abm cW (pv 2) (aa (cy (aa (aK (cT K) (pv 3) ak) (aa (aS iH (aK (cT K) (pv 3) ak) (aK (cT K) (pv 1) ak)) (aa (aS iH (aK (cT K) (pv 3) ak) (aK (cT K) (pv 1) ak)) af)))) af))))) (av (bL (Jm K (lB abe abl abm cW (pv 2) (aa (pv 3) af))))))))
   (av (aF (pv 2))))),?_⟩
  refine Ey ?_;intro cH cQ eK fG gR;obtain⟨xs,hl,pr⟩:=id hR;have Z:=pr.length;refine(au rfl ⟨dl rfl,λD hD=>?_⟩)
  have s1:aq H (upd H D (.lst [.ref b])):=aq.new hD;have uE:upd H D (.lst [.ref b]) D=some (.lst [.ref b]):=ae;generalize upd H D (.lst [.ref b])=H1 at s1 uE;refine(au rfl ⟨l,rfl,⟨_,aR.of (s1 _ _ hl)⟩,gX (K:=K) (a:=l) (xs:=xs) (λi σ H2=>∃v3 acc,σ=[some (.ref l),some (.ref b),some (.ref D),v3]/\aq H H2/\H2 D=some (.lst acc)/\acc.length=i+1/\Paired (yp H2) acc (RM.zL (rows.take i) ad)) ⟨none,_,rfl,s1,uE,rfl,.cons ⟨b,rfl,s1 _ _ hb⟩ .nil⟩ (λi σ H2 _ ⟨_,_,_,z,_⟩=>aR.of (z _ _ hl)) ?_ ?_⟩)
  ·rintro i y D' σ H2 hi ⟨v3,acc,rfl,s2,U,al,Y⟩;obtain⟨I,hq,c,rfl,hc⟩:=Paired.lR pr hi;have LQ:=(jo.mp hi).1;have O:=s2 _ _ hc;have CK:=s2 _ _ hb;have put:RM.zL (rows.take (i+1)) ad=RM.zL (rows.take i) ad++[if I.2.1.testBit ad.1=true then(I.1,I.2.1^^^ad.2.1,I.2.2^^^ad.2.2) else I]:=by
    unfold RM.zL;rw[take3 hq,aaJ];rfl
   refine(au rfl (cU (aU.of O) (ao (j:=1) rfl) (au rfl (cU (aU.of CK) (ao (j:=0) rfl) ⟨_,ad.1,rfl,au rfl (?_)⟩))));rw[jd];cases DL:I.2.1.testBit ad.1 with
   | true =>
     rw[DL,aai rfl]at put;refine fC (au rfl ⟨.inl ⟨rfl,_,aR.of U⟩,au rfl (cU (aU.of O) (ao (j:=0) rfl) (au rfl (cU (aU.of O) (ao (j:=1) rfl) (au rfl (cU (aU.of CK) (ao (j:=1) rfl) (dz (au rfl (cU (aU.of O) (ao (j:=2) rfl) (au rfl (cU (aU.of CK) (ao (j:=2) rfl) (dz ⟨dl rfl,λd hd=>?_⟩)))))))))))⟩)
     have s3:aq H2 (upd H2 d (.tup (vP (I.1,I.2.1^^^ad.2.1,I.2.2^^^ad.2.2)))):=aq.new hd;have YM:upd H2 d (.tup (vP (I.1,I.2.1^^^ad.2.1,I.2.2^^^ad.2.2))) d=some (.tup (vP (I.1,I.2.1^^^ad.2.1,I.2.2^^^ad.2.2))):=ae;have ev:[V.int (I.1:Int),V.int (Builtin.bitXor (I.2.1:Int) (ad.2.1:Int)),V.int (Builtin.bitXor (I.2.2:Int) (ad.2.2:Int))]=vP (I.1,I.2.1^^^ad.2.1,I.2.2^^^ad.2.2):=by
      rw[xor_int,xor_int];rfl
     dsimp only;rw[ev];generalize upd H2 d (.tup (vP (I.1,I.2.1^^^ad.2.1,I.2.2^^^ad.2.2)))=H3 at s3 YM;have zy:=s3 _ _ U;refine⟨D,_,_,rfl,rfl,zy,m8 (by lia),_,acc++[.ref d],rfl,(s2.trans s3).put hD,ae,by rw[aaz,al];rfl,?_⟩
     rw[put];exact Paired.snoc (Paired.imp' (λ_ _ z=>z.tups (s3.tups.trans (bG.put zy))) Y) ⟨d,rfl,bG.put zy _ _ YM⟩
   | false =>
     rw[DL,aaf (by decide)]at put
     refine dN (au rfl ⟨.inl ⟨rfl,_,aR.of U⟩,au rfl ⟨D,_,_,rfl,rfl,U,m8 (by lia),_,acc++[.ref c],rfl,s2.put hD,ae,by rw[aaz,al];rfl,?_⟩⟩)
     rw[put];exact Paired.snoc (Paired.imp' (λ_ _ z=>z.tups (bG.put U)) Y) ⟨c,rfl,bG.put U _ _ O⟩
  ·rintro σ H2 ⟨v3,acc,rfl,s2,U,al,Y⟩;rw[Z,aa7]at Y;exact(au rfl (q D H2 s2 ⟨acc,U,Y⟩))
def kD:Ok T T.qk 3 HU:=by
 have vA:=vA T;have rC:=rC T;refine T.qk.ok iR λ_ A _ s H vs Q E hr h=>?_
 ·obtain⟨l,B,rfl,hl,hB,q⟩:=h;refine⟨_,(ai (aN (i:=1) iR.nd rfl (Or.inl rfl) (eg af))
   (ai (fH PassesOwn.never rfl (BH K (by rfl) T.hU (aa (pv 0) af)) (Dp K (n:=2) rfl (aL (bq 2 iR.nd) (aL (bq 3 iR.nd) c8)))
   (ai (aN (i:=4) iR.nd rfl (Or.inl rfl) (aH vA hr T.vg.c aE (aa (pv 1) (aa (pv 3) af))))
   (av (bW (aO vH (aK (cT K) (pv 4) ak) ak (aM _)) (av (aN (i:=1) iR.nd rfl (Or.inl rfl) (aH rC hr T.rm.c aE (aa (pv 1) (aa (cy (aa (aS qM (F6 PySem.F.plainAttrs_int adA adB IE (aK (cT K) (pv 4) ak)) ak) (aa (aK (cT K) (pv 4) ak) (aa (aS iH (aK (cT K) (pv 4) ak) (aS qN ak (pv 2))) af)))) af))))) aY))))
   (av (aF (pv 1))))),?_⟩
  refine GV ?_;intro cH cQ eK fG gR;refine⟨dl rfl,λD hD=>?_⟩
  have s1:aq H (upd H D (.lst [])):=aq.new hD;have uE:upd H D (.lst []) D=some (.lst []):=ae;generalize upd H D (.lst [])=H1 at s1 uE;refine(au rfl ⟨l,rfl,⟨_,aR.of (s1 _ _ hl)⟩,Dr (K:=K) (a:=l) (xs:=aD B) (λi σ H2=>∃I rows v2 v3 v4,σ=[some (.ref l),some (.ref I),v2,v3,v4]/\aq H H2/\j8 H2 I rows/\RM.Rw (B.take i) rows/\rows=RM.iw B i) ⟨D,[],none,none,none,rfl,s1,⟨[],uE,.nil⟩,RM.Rw.start,rfl⟩ (λi σ H2 _ ⟨_,_,_,_,_,_,z,_⟩=>aR.of (z _ _ hl)) ?_ ?_⟩)
  ·rintro i x T0 σ H2 hx ⟨I,rows,v2,v3,v4,rfl,s2,Y,O,Z⟩ hT;obtain⟨b,hb,rfl⟩:=iK hx;have LQ:=(jo.mp hb).1;have s3:aq H2 (upd H2 T0 (.tup [.int (i:Int),.int (b:Int)])):=aq.new hT;have ab:upd H2 T0 (.tup [.int (i:Int),.int (b:Int)]) T0=some (.tup [.int (i:Int),.int (b:Int)]):=ae;generalize upd H2 T0 (.tup [.int (i:Int),.int (b:Int)])=H3 at s3 ab;refine⟨T0,_,rfl,aU.of ab,rfl,_,_,rfl,_,_,rfl,rfl,?_⟩;refine(au rfl (au rfl ⟨I,rows,b,rfl,Y.same s3,λc H4 s4 hc=>?_⟩))
   have ar:(B.take i).length=i:=by rw[abk];lia
   refine(au rfl (cU (aU.of hc) (ao (j:=0) rfl) (dz (au rfl (xD (λh0=>?_) (λh0=>?_))))))
   ·have h0:(0:Int)<_:=ko h0;have U:(RM.cX rows b 0).1≠0:=by lia
    have XM:=O.put U;rw[ar,<-take3 hb]at XM;have XN:=(Y.same s3).same s4;have Y4:rows.length<=200:=by have:=O.le;lia
    refine(au rfl (au rfl (cU (aU.of hc) (ao (j:=0) rfl) ⟨rfl,au rfl ⟨rfl,dz (au rfl (cU (aU.of hc) (ao (j:=0) rfl) (au rfl (cU (aU.of hc) (ao (j:=1) rfl) (au rfl (dz ⟨⟨by lia,by lia,by decide⟩,dz ⟨dl rfl,λd hd=>?_⟩⟩))))))⟩⟩)))
    have ev:[V.int (((Builtin.Int.intBits (((RM.cX rows b 0).1:Nat):Int):Nat):Int)-1),V.int (((RM.cX rows b 0).1:Nat):Int),V.int (Builtin.bitXor (((RM.cX rows b 0).2:Nat):Int) (1*2^((i:Nat):Int).toNat))]=vP ((RM.cX rows b 0).1.log2,(RM.cX rows b 0).1,(RM.cX rows b 0).2^^^2^i):=by
     rw[NK U,rY,xor_int];rfl
    dsimp only;rw[ev];refine⟨I,d,rows,_,rfl,XN.same (aq.new hd),ae,Y4,λl5 H5 s5 aw=>?_⟩
    exact⟨l5,_,_,_,_,rfl,((s2.trans (s3.trans s4)).trans (aq.new hd)).trans s5,aw,XM,RM.GK Z hb U⟩
   ·have U:(RM.cX rows b 0).1=0:=by
     have : ¬(0:Int)<_:=λz=>h0 (dm z)
     lia
    have ag:=O.skip ((O.pX b 0).mp U);rw[<-take3 hb]at ag;exact⟨I,rows,_,_,_,rfl,s2.trans (s3.trans s4),(Y.same s3).same s4,ag,RM.Eo Z hb U⟩
  ·rintro σ H2 ⟨I,rows,v2,v3,v4,rfl,s2,Y,O,Z⟩;rw[aG]at Z;rw[aG,aa7]at O;exact(au rfl (q I rows H2 s2 Y O Z))
def kE:Ok T T.qm 9 HV:=by
 have Ht:=Ht T;have cZ:=cZ T;have kD:=kD T;refine T.qm.ok GW λ_ A _ s H vs Q E hr h=>?_
 ·obtain⟨wb,p,ts,g,l,zs,rfl,hw,hl,hz,q⟩:=h;refine⟨_,(ai (bW (PW.pt (nV (aO C7 (cG K T.eG (aa (pv 1) af)) (aH Ht hr T.Hl.c aE (aa (pv 0) af)) (aM _)) (jG (kF (dZ (cF (QS K rfl) (by rfl) T.Jq ac1 (aa (cD (own:=["ring"]) (fq:=["web"]) (js:=[0]) (aI (aj qi) ["web","rings"]) rfl (wX K (pv 1)) (λ_ _ _ _=>(bq 0 (lG ["ring","web"]))) (λ_ _ _ _=>cg) (λ_ _ _ _=>(aH cZ hr T.fX.c aE (aa (pv 1) (aa (pv 0) af))))) af))))))) (av (aF iE)) aY)
   (av (aF (c9 jq (cG K T.eG (aa (aH kD hr T.qk.c aE (aa (pv 1) af)) af)) (cG K T.eG (aa (pv 1) af)) (aM _))))),?_⟩
  refine dO ?_;intro cH cQ;refine(au rfl (vS rfl (.inl (aR.of hl)) (au rfl ⟨wb,p,ts,g,rfl,hw,λH1 s1=>⟨rfl,au rfl (?_)⟩⟩)))
  by_cases hn:zs.length=g.N.bf.length
  case neg =>
   refine XI (λz=>hn ?_) (q H1 false s1 ⟨(λz=>nomatch z),λ⟨rs,e,b⟩=>absurd b.len (λz=>hn ?_)⟩)
   ·have z:=V.int.inj z;rw[aac]at z
    lia
   ·rw[e,aac];exact z
  refine IB (by rw[aac,hn]) ?_
  have O:=s1 _ _ hl;refine(au rfl ⟨l,rfl,⟨_,aR.of O⟩,λD hD=>cA (xs:=zs.map V.int) (λi acc H2=>aq H1 H2/\H2 D=some (.lst acc)/\∃bs:List Bool,acc=bs.map V.bl/\bs.length=i/\∀(j:Nat) z d,j<i->zs[j]?=some z->bs[j]?=some d->(d=true↔∃m:Nat,z=(m:Int)/\m<2^ts.length/\g.N.Ring m)) ⟨aq.new hD,ae,[],rfl,rfl,(λj z d h=>by lia)⟩ (λi acc H2 _ z=>⟨aR.of (z.1 _ _ O),z.2.1,by obtain⟨bs,e,e2,_⟩:=z.2.2;rw[e,aac,e2];exact aam _⟩) (abq (m8 (by rw[aac];lia))) ?_ ?_⟩)
  ·rintro i x acc H2 hx ⟨s2,j9,bs,rfl,bl,all⟩;rw[aaw]at hx;obtain⟨z,hz,rfl⟩:=vY.mp hx;refine⟨rfl,au rfl (au rfl ⟨wb,p,ts,g,z,rfl,hw.same (s1.trans s2),λH3 d s3 hd=>?_⟩)⟩
   refine⟨s3 _ _ j9,(s2.trans s3).put hD,ae,bs++[d],by rw[aaJ];rfl,by rw[aaz,bl];rfl,λj z' d' hj I U=>?_⟩
   by_cases e:j=i
   ·subst e;rw[hz]at I;cases I;rw[abf (by lia),bl,acX]at U
    cases U;exact hd
   ·rw[aba (by lia)]at U
    exact all j z' d' (by lia) I U
  ·rintro acc H2 ⟨s2,j9,bs,rfl,bl,all⟩;rw[aac]at bl all;refine⟨D,_,rfl,aR.of j9,_,rfl,?_⟩;have ok:bs.all id=true↔∃rs:List Nat,zs=rs.map (λx=>((x:Nat):Int))/\∀r∈rs,g.N.Ring r/\r<2^ts.length:=by
    rw[abQ]
    constructor
    ·intro h;have each:∀z∈zs,∃m:Nat,z=(m:Int)/\m<2^ts.length/\g.N.Ring m:=λz I=>by
      obtain⟨j,hj⟩:=aa5 I;have NJ:=(jo.mp hj).1;have hb:bs[j]?=some (bs[j]'(by lia)):=aag _
      exact(all j z _ NJ hj hb).mp (h _ (jV hb))
     refine⟨zs.map Int.toNat,?_,λr hr=>?_⟩
     ·rw[abz];refine(List.map_id zs).symm.trans (adQ λz I=>?_)
      obtain⟨m,rfl,_⟩:=each z I;rfl
     ·obtain⟨z,I,rfl⟩:=aaH.mp hr;obtain⟨m,rfl,h1,h2⟩:=each z I;exact⟨h2,h1⟩
    ·rintro⟨rs,rfl,Y⟩ d hd;obtain⟨j,hj⟩:=aa5 hd;have NJ:=(jo.mp hj).1;have hr:rs[j]?=some (rs[j]'(by rw[aac]at bl;lia)):=aag _
     have hm:=Y _ (jV hr);exact(all j _ d (by lia) (by rw[aaw,hr];rfl) hj).mpr (au rfl ⟨hm.2,hm.1⟩)
   cases hall:bs.all id with
   | false =>
     refine fC (q H2 false (s1.trans s2) ⟨(λz=>nomatch z),λ⟨rs,e,b⟩=>?_⟩)
     rw[ok.mpr ⟨rs,e,b.ring⟩]at hall;cases hall
   | true =>
     obtain⟨rs,rfl,Y⟩:=ok.mp hall;rw[aac]at hz hn;rw[<-gO]at O;have Z:=s2 _ _ O;refine dN (au rfl ⟨l,rs,rfl,Z,hz,λl3 rows H3 s3 Y5 ab _=>?_⟩)
     obtain⟨xs,UN,Vv⟩:=id Y5;refine(vS rfl (.inl (aR.of UN)) (au rfl (vS rfl (.inl (aR.of (s3 _ _ Z))) ⟨rfl,q H3 _ ((s1.trans s2).trans s3) ?_⟩)));rw[aG,Vv.length,adU]
     constructor
     ·intro e;have e:=V.int.inj e;exact⟨rs,rfl,hn,Y,ab.len.mp (by lia)⟩
     ·rintro⟨ag,e,b⟩;rw[<-cast_inj e]at b;have:=ab.len.mpr b.ind;rw[this]
def MarksOf(N:RM.Net)(rs ms:List Nat):Prop:=ms.length=rs.length/\∀(i m:Nat),ms[i]?=some m->m<2^N.n/\∀(j r:Nat),rs[j]?=some r->N.par r m=decide (i=j)
def CP(C:Addr):Sp:=λvs H Q E=>∃w p ts,∃g:aA p ts,∃(l:Addr) (zs:List Int),vs=[.ref w,.ref l]/\bE H w p ts/\H l=some (.lst (zs.map V.int))/\zs.length<=200/\
 ((∃rs:List Nat,zs=rs.map (λx=>((x:Nat):Int))/\RM.Base g.N rs/\∀(D:Addr) (ms:List Nat) (H' : Hp),H D=none->aq H H'->H' D=some (.lst (aD ms))->MarksOf g.N rs ms->ms=(List.range rs.length).map (λi=>orM (RM.cP (RM.iw rs rs.length) i))->Q (.ref D) H')\/(¬ Sn p ts g zs/\∀H',aq H H'->E (.ref C) none H'))
def pH:LV T T.pB 10 (CP a.yV):=by
 have kE:=kE T;have kD:=kD T;have bM:=bM T;have mY:=mY T;refine T.pB.IG kh λ_ A _ s H vs Q E hr h=>?_
 ·obtain⟨wb,p,ts,g,l,zs,rfl,hw,Y,hz,q⟩:=h;refine⟨_,(ai (bW (kF (dZ (aH kE hr T.qm.c aE (aa (pv 0) (aa (pv 1) af))))) (av (xJ gJ.Z5 rfl (by rfl) T.OO ac5 (aa m4 af))) aY)
   (ai (aN (i:=2) kh.nd rfl (Or.inl rfl) (aH kD hr T.qk.c aE (aa (pv 1) af)))
   (ai (aN (i:=3) kh.nd rfl (Or.inl rfl) (eg af))
   (ai (rQ rfl (cu (by rfl) T.dJ (aa (cG K T.eG (aa (pv 1) af)) af)) (wR (i:=4) kh.nd rfl (Or.inr rfl))
   (av (bL (Jm K (lB abe abl abm cW (pv 3) (aa (aH mY hr T.tN.c aE (aa (pv 0) (aa (cD (own:=["lead","row","places"]) (fq:=["place"]) (js:=[4]) (aI (aj lN) ["web","rings","rows","found","place"]) rfl (wX K (pv 2)) (λ_ _ _ _=>(Dp K (n:=3) rfl (aL (bq 0 (lG ["lead","row","places","place"])) (aL (bq 1 (lG ["lead","row","places","place"])) (aL (bq 2 (lG ["lead","row","places","place"])) c8))))) (λ_ _ _ _=>(jZ (dZ (aH bM hr T.g8.c aE (aa (pv 2) (aa (pv 3) af)))))) (λ_ _ _ _=>(pv 0))) af))) af))))))
   (av (aF (pv 3))))))),?_⟩
  refine Cp ?_;intro cH cQ eK fG gR mj;refine(au rfl (au rfl ⟨wb,p,ts,g,l,zs,rfl,hw,Y,hz,λH1 d s1 hd=>(au rfl (?_))⟩))
  rcases q with⟨rs,rfl,bs,q⟩|⟨hn,q⟩
  case inr =>
   cases d with
   | true=>exact absurd (hd.mp rfl) hn
   | false=>exact fC ⟨dl rfl,q H1 s1⟩
  rw[hd.mpr ⟨rs,rfl,bs⟩];refine dN ?_;rw[aac]at hz;rw[<-gO]at Y;have ab:=s1 _ _ Y;refine(au rfl ⟨l,rs,rfl,ab,hz,λZ rows H2 s2 So OZ UM=>?_⟩)
  refine⟨dl rfl,λD hD=>?_⟩
  have s3:aq H2 (upd H2 D (.lst [])):=aq.new hD;have zy:upd H2 D (.lst []) D=some (.lst (aD [])):=ae;generalize upd H2 D (.lst [])=H3 at s3 zy;have tX:=(s1.trans s2).trans s3;have Rb:H D=none:=(s1.trans s2).free hD;have UN:=tX _ _ Y;have Y5:=So.same s3;obtain⟨xs,a3,a4⟩:=id Y5;have a5:=OZ.le;refine(au rfl (vS rfl (.inl (aR.of UN)) (au rfl ⟨(by rw[aG];lia),(by rw[aG];lia),?_⟩)))
  refine kU (lo:=0) (n:=((aD rs).length:Int).toNat) (λi σ H4=>∃v4 ms,σ=[some (.ref wb),some (.ref l),some (.ref Z),some (.ref D),v4]/\aq H H4/\j8 H4 Z rows/\H4 D=some (.lst (aD ms))/\ms=(List.range i).map λj=>orM (RM.cP rows j)) ⟨none,[],rfl,tX,Y5,zy,rfl⟩ ?_ ?_
  ·rintro i D' σ H4 hi ⟨v4,ms,rfl,s4,XN,Fq,I⟩;rw[aG,aaE]at hi;rw[abS];obtain⟨ag,XO,UO⟩:=id XN;have a6:ms.length=i:=by rw[I,aac,aaK]
   have ar:D≠Z:=λe=>by
    obtain⟨ys,e1,_⟩:=So;rw[e,e1]at hD;cases hD
   refine(au rfl ⟨.inl ⟨rfl,_,aR.of Fq⟩,au rfl (au rfl ⟨Z,rfl,⟨_,aR.of XO⟩,λC hC=>cA (xs:=ag) (λj acc U=>aq H4 U/\U C=some (.lst acc)/\acc=aD (RM.cP (rows.take j) i)) ⟨aq.new hC,ae,rfl⟩ ?_ (abq (m8 (by rw[UO.length];lia))) ?_ ?_⟩)⟩)
   ·rintro j acc U hj ⟨s5,O,rfl⟩;refine⟨aR.of (s5 _ _ XO),O,?_⟩;rw[aG];unfold RM.cP;rw[aac];have h1:=abc (λq:RM.Row3=>q.2.2.testBit i) (rows.take j)
    rw[abk]at h1
    lia
   ·rintro j x acc U hx ⟨s5,O,rfl⟩;obtain⟨qq,hq,c,rfl,hc⟩:=Paired.lR UO hx;have aw:=s5 _ _ hc;have lead:RM.cP (rows.take (j+1)) i=RM.cP (rows.take j) i++(if qq.2.2.testBit i=true then[qq.1] else[]):=by
     unfold RM.cP;rw[take3 hq,abY,aaJ]
     congr 1
     rw[aa2];cases qq.2.2.testBit i<;>rfl
    refine⟨c,_,rfl,aU.of aw,rfl,_,_,rfl,_,_,rfl,_,_,rfl,rfl,rfl,au rfl (au rfl ⟨_,i,rfl,au rfl (?_)⟩)⟩;rw[jd];cases hb:qq.2.2.testBit i with
    | true =>
      rw[hb,aai rfl]at lead;refine(au rfl ⟨O,s5.put hC,ae,?_⟩);rw[lead,gM]
    | false =>
      rw[hb,aaf (by decide),ab5]at lead
      exact⟨s5,O,by rw[lead]⟩
   ·rintro acc U ⟨s5,O,rfl⟩;rw[UO.length,aa7]at O;have ax:rs[i]?=some rs[i]:=aag hi;have mk:=OZ.marks (N:=g.N) bs.ind (λb hb=>(bs.ring b hb).2) (i:=i) ax
    refine⟨wb,p,ts,C,_,rfl,hw.same (s4.trans s5),g.BL,O,mk.2,?_⟩;have zz:=s5 _ _ Fq;refine⟨D,_,_,rfl,rfl,zz,m8 (by rw[aG];lia),_,ms++[orM (RM.cP rows i)],rfl,(s4.trans s5).put Rb,?_,?_,?_⟩
    ·obtain⟨ys,e1,e2⟩:=XN.same s5;exact⟨ys,by rw[ah ar.symm];exact e1,Paired.imp' (λ_ _ z=>z.tups (bG.put zz)) e2⟩
    ·rw[ae,gM]
    ·rw[abE,aaJ,I];rfl
  ·rintro σ H4 ⟨v4,ms,rfl,s4,XN,Fq,I⟩;rw[aG,aaE]at I;refine(au rfl (q D ms H4 Rb s4 Fq ⟨by rw[I,aac,aaK],λi m hm=>?_⟩ (by rw[I,<-UM])))
   rw[I,aaw]at hm;obtain⟨j,hj,rfl⟩:=vY.mp hm;have ej:j=i/\i<rs.length:=by
    obtain⟨h1,h2⟩:=jo.mp hj;rw[ade]at h2;rw[aaK]at h1;exact⟨h2.symm,h1⟩
   obtain⟨rfl,NJ⟩:=ej;have mk:=λj' r (h:rs[j']?=some r)=>OZ.marks (N:=g.N) bs.ind (λb hb=>(bs.ring b hb).2) (i:=j) h
   have aT:rs[j]?=some rs[j]:=aag NJ;exact⟨T3 (mk j _ aT).2,λj' r hr=>(mk j' r hr).1⟩
def Lz(t1 t2:Addr)(Ro O0:Pos):Sp:=λvs H Q _=>∃w p ts,∃g:aA p ts,vs=[.ref w]/\bE H w p ts/\H t1=some (.jF (dU (lA "least_ways") Ro))/\H t2=some (.jF (dU (lA "by_length") O0))/\
 ∀D rs H',H D=none->aq H H'->H' D=some (.lst (aD rs))->RM.LB g.N (aW ts) rs->rs.Pairwise (gi ts)->(∃bs,RM.En g.N (aW ts) (g.N.bf.map λc=>2^c) bs []/\rs.Perm bs)->Q (.ref D) H'
def fu:Ok T T.jh 10 (Lz a.bS a.cV bB cE):=by
 have mX:=mX T;have pG:=pG T;have bC:=bC T;have h8:=h8 T;refine T.jh.ok eF λ_ A _ s H vs Q E hr h=>?_
 ·obtain⟨wb,p,ts,g,rfl,hw,Ft,Hz,q⟩:=h;refine⟨_,(ai (jc (i:=1) eF.nd rfl rfl (own:=["chord"]) (fq:=[]) (js:=[]) (aI (aj gz) ["web","waiting","found","marks","ring"]) rfl (wX K (aH mX hr T.tP.c aE (aa (pv 0) af))) (λ_ _ _ _=>(bq 0 (lG ["chord"]))) (λ_ _ _ _=>cg) (λ_ _ _ _=>(aS qN ak (pv 0))))
   (ai (aN (i:=2) eF.nd rfl (Or.inl rfl) (eg af))
   (ai (C6 PassesOwn.never (aO vH (cG K T.eG (aa (pv 1) af)) ak (aM _)) (ai (aN (i:=3) eF.nd rfl (Or.inr rfl) (aK (oB K) (pv 1) ak))
   (ai (aN (i:=4) eF.nd rfl (Or.inr rfl) (aK (cT K) (aH pG hr T.pA.c vI (aa (pv 0) (aa (pv 3) af))) ak))
   (ai (bL (Jm K (lB abe abl abm cW (pv 2) (aa (pv 4) af))))
   (av (jc (i:=1) eF.nd rfl rfl (own:=["later"]) (fq:=["marks","ring"]) (js:=[3,4]) (aI (aj gz) ["web","waiting","found","marks","ring"]) rfl (wX K (Dg (slL K) (pv 1) (Br ak) P8)) (λ_ _ _ _=>(bq 0 (lG ["later","marks","ring"]))) (λ_ _ _ _=>cg) (λ_ _ _ _=>(mw (dZ (aH bC hr T.fk.c aE (aa (pv 2) (aa (pv 0) af)))) (aS iH (pv 0) (pv 1)) (pv 0)))))))))
   (av (aF (aH h8 hr T.jC.c aE (aa (pv 0) (aa (pv 2) af)))))))),?_⟩
  refine yO ?_;intro cH cQ eK fG gR mj yE;have wl:=g.len;have cn:g.N.bf.length<=24:=by
   have:g.N.bf.length<=(List.range g.N.n).length:=abc ..;rw[aaK]at this;have h2:g.N.n=ts.length:=rfl
   lia
  have b7:(100:Nat)<sizeLine:=by decide
  refine(au rfl ⟨wb,p,ts,g,rfl,hw,λDc H1 cb s1 ag=>⟨Dc,rfl,⟨_,aR.of ag⟩,λX hX=>cA (K:=K) (a:=Dc) (xs:=aD g.N.bf) (λi acc H2=>aq H1 H2/\H2 X=some (.lst acc)/\acc=aD ((g.N.bf.take i).map λc=>2^c)) ⟨aq.new hX,ae,rfl⟩ (λi acc H2 _ z=>⟨aR.of (z.1 _ _ ag),z.2.1,by rw[z.2.2,aG,aac,abk];lia⟩) (dW (by rw[aG];lia)) ?_ ?_⟩⟩)
  ·rintro i x acc H2 hx ⟨s2,I,rfl⟩;obtain⟨c,ar,rfl⟩:∃c,g.N.bf[i]?=some c/\x = .int (c:Int):=by
    unfold aD at hx;rw[aaw]at hx;obtain⟨c,h1,h2⟩:=vY.mp hx;exact⟨c,h1,h2.symm⟩
   have aw:=(RM.eN.mp (jV ar)).1;have aw:c<ts.length:=aw;refine⟨rfl,au rfl (dz ⟨⟨by lia,by lia,by decide⟩,I,s2.put hX,ae,?_⟩)⟩
   rw[aa1,ar];show _=aD (List.map _ (List.take i g.N.bf++[c]));rw[aaJ,List.map_singleton,gM];dsimp only;rw[rY]
  rintro acc H2 ⟨s2,I,rfl⟩;rw[aG,aa7]at I;refine⟨dl rfl,λF hF=>?_⟩
  have s3:aq H2 (upd H2 F (.lst [])):=aq.new hF;have Fv:=s3 _ _ I;have ax:upd H2 F (.lst []) F=some (.lst (aD [])):=ae;have bw:H F=none:=(s1.trans s2).free hF;have bD:X≠F:=λz=>by rw[<-z,I]at hF;cases hF
  have Vx:=(s1.trans s2).trans s3;generalize upd H2 F (.lst [])=H3 at Fv ax Vx;have nd:g.N.bf.Nodup:=RM.Ko;have hL:=mO g;refine⟨λn σ H4=>∃X bs us ws cs v3 v4,σ=[some (.ref wb),some (.ref X),some (.ref F),v3,v4]/\aq H H4/\H4 X=some (.lst (aD ws))/\H4 F=some (.lst (aD bs))/\X≠F/\RM.DP g.N (aW ts) bs us/\RM.Wt g.N bs ws cs/\RM.En g.N (aW ts) (g.N.bf.map λc=>2^c) bs ws/\n=ws.length,⟨_,X,[],[],_,_,none,none,rfl,Vx,Fv,ax,bD,RM.DP.start,RM.Wt.start nd,.start,rfl⟩,?_⟩
  rintro n σ H4 ⟨X,bs,us,ws,cs,v3,v4,rfl,Y,Vy,aT,bP,dp,U,lr,rfl⟩;refine(au rfl (vS rfl (.inl (aR.of Vy)) (dz (au rfl (xD (λhlen=>?_) (λhlen=>?_))))))
  case refine_2 =>
   have hl : ¬(0:Int)<((aD ws).length:Int):=λz=>hlen (dm z)
   have e:ws=[]:=acS (by rw[aG]at hl;lia)
   subst e;have hb:bs.length=g.N.bf.length:=by
    have:=U.sum;rw[acz]at this
    lia
   refine(au rfl (au rfl ⟨wb,p,ts,g,F,bs,rfl,hw.same Y,aT,by lia,λm hm=>(dp.ring m hm).2,Y _ _ Hz,λD bR H5 hD s5 zz hp hs=>?_⟩))
   exact q D bR H5 (Y.free hD) (Y.trans s5) zz ((dp.least hb).perm hp) hs ⟨bs,lr,hp⟩
  have hlen:(0:Int)<((aD ws).length:Int):=ko hlen;rw[aG]at hlen;refine⟨λσ' H'=>∃X bs us O cs v3 v4,σ' = [some (.ref wb),some (.ref X),some (.ref F),v3,v4]/\aq H H'/\H' X=some (.lst (aD O))/\H' F=some (.lst (aD bs))/\X≠F/\RM.DP g.N (aW ts) bs us/\RM.Wt g.N bs O cs/\RM.En g.N (aW ts) (g.N.bf.map λc=>2^c) bs O/\O.length<ws.length,λσ' H' ⟨X,bs,us,O,cs,v3,v4,e,a1,a2,a3,a4,a5,a6,a8,a7⟩=>⟨_,a7,X,bs,us,O,cs,v3,v4,e,a1,a2,a3,a4,a5,a6,a8,rfl⟩,?_⟩
  obtain⟨m,ws,rfl⟩:∃m O,ws=m::O:=by
   cases ws with
   | nil=>simp at hlen
   | cons m O=>exact⟨m,O,rfl⟩
  have b3:m<2^ts.length:=U.lt m aaF;refine(au rfl (p8 (aR.of Vy) (ao (j:=0) rfl) (?_)));refine(au rfl (au rfl ⟨wb,p,ts,g,(m:Int),rfl,hw.same Y,Y _ _ Ft,.inl ⟨m,rfl,b3,λr H5 cp s5 told=>?_⟩⟩))
  obtain⟨r0,g1,g2,g3⟩:=U.odd;rcases told with⟨n1,_⟩|⟨z,e,b2,W,lo,le,a1,_⟩
  ·obtain⟨x,hx,a9⟩:=RM.sH hL m g1 g2;rw[g3]at a9;exact absurd a9 (n1 x _ hx)
  refine(cU (aU.of a1) (ao (j:=1) rfl) (?_));have ba:=s5 _ _ aT;have b4:=s5 _ _ Vy;have cq:bs.length<=24:=by have:=U.sum;lia
  refine(au rfl ⟨(.inl ⟨rfl,_,aR.of ba⟩),au rfl ⟨F,_,_,rfl,rfl,ba,(by rw[aG];lia),?_⟩⟩)
  have XQ:aq H (upd H5 F (.lst (aD bs++[.int (e:Int)]))):=(Y.trans s5).put bw;have bb:upd H5 F (.lst (aD bs++[.int (e:Int)])) F=some (.lst (aD (bs++[e]))):=by rw[ae,gM]
  have Vz:upd H5 F (.lst (aD bs++[.int (e:Int)])) X=some (.lst (aD (m::ws))):=by rw[ah bP];exact b4
  generalize upd H5 F (.lst (aD bs++[.int (e:Int)]))=H6 at XQ bb Vz;have UQ:zD (aD (m::ws)) (some (1:Int)) none=aD ws:=M5 (m::ws) (i:=1) (by simp)
  have Z:=U.next le.par;obtain⟨cc,b5,_,Z⟩:=Z;have b6:=dp.snoc le.ring le.lt le.par (λr h1 h2 h3=>by
   have:=le.least hL h1 h2 h3;have e1:RM.len g.N (aW ts) e=z:=le.len;rw[e1];exact this) (U.iD m aaF)
  have cv:ws.length<=24:=by have:=U.sum;rw[abj]at this;lia
  refine(au rfl (au rfl ⟨X,_,rfl,aR.of Vz,λc hc=>?_⟩))
  rw[UQ];have bc:aq H (upd H6 c (.lst (aD ws))):=XQ.trans (aq.new hc);have ab:=aq.new hc (o:=.lst (aD ws)) _ _ bb;have Rj:upd H6 c (.lst (aD ws)) c=some (.lst (aD ws)):=ae;generalize upd H6 c (.lst (aD ws))=H7 at bc ab Rj;refine⟨c,rfl,⟨_,aR.of Rj⟩,λX' XR=>cA (K:=K) (a:=c) (xs:=aD ws) (λi acc H8=>aq H7 H8/\H8 X' = some (.lst acc)/\acc=aD ((ws.take i).map λv=>if g.N.par e v=true then v^^^m else v)) ⟨aq.new XR,ae,rfl⟩ (λi acc H8 _ z=>⟨aR.of (z.1 _ _ Rj),z.2.1,by rw[z.2.2,aG,aac,abk];lia⟩) (dW (by rw[aG];lia)) ?_ ?_⟩
  ·rintro i x acc H8 hx ⟨s8,Y6,rfl⟩;obtain⟨v,RG,rfl⟩:∃v,ws[i]?=some v/\x = .int (v:Int):=by
    unfold aD at hx;rw[aaw]at hx;obtain⟨c,h1,h2⟩:=vY.mp hx;exact⟨c,h1,h2.symm⟩
   have bo:v<2^ts.length:=U.lt v (nU _ (jV RG));have zf:Builtin.Int.intBits ((e&&&v:Nat):Int)<=1000:=aa0 (bits_le (acP _ bo)) (by lia)
   have snoc:∀y,(if g.N.par e v=true then v^^^m else v)=y->aD ((ws.take i).map λv=>if g.N.par e v=true then v^^^m else v)++[.int (y:Int)]=aD ((ws.take (i+1)).map λv=>if g.N.par e v=true then v^^^m else v):=λy hy=>by
    rw[aa1,RG];show _=aD (List.map _ (List.take i ws++[v]));rw[aaJ,List.map_singleton,gM,hy]
   refine⟨rfl,au rfl (au rfl ⟨_,_,e,v,rfl,rfl,rfl,zf,λH9 s9=>(au rfl (?_))⟩)⟩
   rw[BZ (g:=g) bo];have bp:=s8.trans s9;have bt:=s9 _ _ Y6;cases hb:g.N.par e v with
   | true =>
     refine fC (au rfl (au rfl (dz ⟨bt,bp.put XR,ae,?_⟩)));dsimp only;rw[xor_int];exact snoc _ (aai hb)
   | false=>exact dN (au rfl ⟨bt,bp.put XR,ae,snoc _ (aaf (by rw[hb];decide))⟩)
  ·rintro acc H8 ⟨s8,Y6,rfl⟩;rw[aG,aa7]at Y6;refine⟨X',bs++[e],us++[m],_,b5,_,_,rfl,bc.trans s8,Y6,s8 _ _ ab,?_,b6,Z,lr.step lo,by rw[aac];simp⟩
   intro z;rw[z,ab]at XR;cases XR
def CQ(t:Addr)(lp:Pos):Sp:=λvs H Q _=>∃w p ts,∃g:aA p ts,∃m:Nat,vs=[.ref w,.int (m:Int)]/\bE H w p ts/\m<2^ts.length/\H t=some (.jF (dU (lA "least_ways") lp))/\∀b W H',aq H H'->fK H' b W->LR p W->sW p ts g m W->Q (.ref b) H'
abbrev Rp:=Nat×Nat×List (List Pr)
def Ah(H:Hp)(v:V)(t:Rp):Prop:=∃c b,v = .ref c/\H c=some (.tup [.int (t.1:Int),.int (t.2.1:Int),.ref b])/\fK H b t.2.2
def Ah.tups{H H' : Hp}{v:V}{t:Rp}(s:bG H H')(h:Ah H v t):Ah H' v t:=let⟨c,b,e,h1,ys,h2,h3⟩:=h;⟨c,b,e,s _ _ h1,ys,s _ _ h2,Paired.imp' (λ_ _ z=>z.tups s) h3⟩
def O1(t1 t2:Addr)(Ro O0:Pos):Sp:=λvs H Q _=>∃w p ts,∃g:aA p ts,vs=[.ref w]/\bE H w p ts/\H t1=some (.jF (dU (lA "least_ways") Ro))/\H t2=some (.jF (dU (lA "by_length") O0))/\
 ∀b ys (I:List Rp) H',H b=none->aq H H'->H' b=some (.tup ys)->Paired (Ah H') ys I->RM.LB g.N (aW ts) (I.map (·.1))->(I.map (·.1)).Pairwise (gi ts)->MarksOf g.N (I.map (·.1)) (I.map (·.2.1))->(∀t∈I,LR p t.2.2/\sW p ts g t.2.1 t.2.2)->(∃bs,RM.En g.N (aW ts) (g.N.bf.map λc=>2^c) bs []/\(I.map (·.1)).Perm bs)->I.map (·.2.1)=(List.range (I.map (·.1)).length).map (λi=>orM (RM.cP (RM.iw (I.map (·.1)) (I.map (·.1)).length) i))->Q (.ref b) H'
def nR:Ok T T.nG 7 (CQ a.bS bB):=by
 have c5:=c5 T;have dB:=dB T;refine T.nG.ok zQ λ_ A _ s H vs Q E hr h=>?_
 ·obtain⟨U,p,ts,g,m,rfl,hw,hm,I,q⟩:=h;refine⟨_,(av (aF (aH dB hr T.gE.c aE (aa (aH c5 hr T.fY.c aE (aa (pv 0) (aa (pv 1) af))) af)))),?_⟩;have wp:=g.p2;refine(au rfl (au rfl ⟨U,p,ts,g,m,rfl,hw,hm,I,λD ds O H1 hD s1 Y al=>?_⟩))
  obtain⟨hl,all⟩:=id al;refine⟨D,ds,O,p,g.N,aW ts,m,rfl,Y,(by lia),al,λb H2 s2 Z=>?_⟩
  refine q b _ H2 (s1.trans s2) Z ⟨by rw[aac,aaK],λR hR=>?_⟩ λi hi x s hx=>?_
  ·obtain⟨i,_,rfl⟩:=aaH.mp hR;exact B8 _ _
  ·have e:ds[i]?=some ds[i]:=aag (by lia)
   obtain⟨H0,es,e1,e2,e3,e4,_⟩:=all i _ e;rw[aad,aaw,ac6 hi];show RM.we _ _ m i x s (sel (fQ (mP (Af (O i)) p) x) s);rw[Nz hx];exact e4 x s
def nS:Ok T T.nJ 11 (O1 a.bS a.cV bB cE):=by
 have fu:=fu T;have pH:=pH T;have nR:=nR T;refine T.nJ.ok lY λ_ A _ s H vs Q E hr h=>?_
 ·obtain⟨wb,p,ts,g,rfl,hw,Ft,Hz,q⟩:=h;refine⟨_,(ai (aN (i:=1) lY.nd rfl (Or.inl rfl) (aH fu hr T.jh.c aE (aa (pv 0) af)))
   (ai (aN (i:=2) lY.nd rfl (Or.inl rfl) (aH pH hr T.pB.c vI (aa (pv 0) (aa (pv 1) af))))
   (av (aF (fc (Dm K) (by rfl) T.tS acp (aa (cD (own:=["ring","own"]) (fq:=["web"]) (js:=[0]) (aI (aj ki) ["web","rings","marks"]) rfl (MN K (by rfl) T.Si (aa (pv 1) (aa (pv 2) af))) (λ_ _ _ _=>(Dp K (n:=2) rfl (aL (bq 0 (lG ["ring","own","web"])) (aL (bq 1 (lG ["ring","own","web"])) c8)))) (λ_ _ _ _=>cg) (λ_ _ _ _=>(cy (aa (pv 0) (aa (pv 1) (aa (aH nR hr T.nG.c aE (aa (pv 2) (aa (pv 1) af))) af)))))) af)))))),?_⟩
  refine iz ?_;intro cH cQ;have wl:=g.len;refine(au rfl ⟨wb,p,ts,g,rfl,hw,Ft,Hz,λD rs H1 hD s1 uE lb pw lr=>?_⟩)
  have ax:rs.length<=24:=by
   have h1:g.N.bf.length<=(List.range g.N.n).length:=abc ..;rw[aaK,<-lb.1.len]at h1;exact aa0 h1 wl
  refine(au rfl (au rfl ⟨wb,p,ts,g,D,rs.map (λx=>((x:Nat):Int)),rfl,hw.same s1,by rw[<-gO];exact uE,by rw[aac];lia,.inl ⟨rs,rfl,lb.1,λD2 ms H2 j9 s2 XS mo ab=>?_⟩⟩))
  have XT:=s2 _ _ uE;have U:=s1.trans s2;have ag:=mo.1;refine(au rfl (au rfl ⟨D,D2,rfl,⟨_,aR.of XT⟩,⟨_,aR.of XS⟩,λX hX=>Dt (xs:=aD rs) (ys:=aD ms) (by rw[aG,aG];lia) (λi acc H3=>aq H2 H3/\H3 X=some (.lst acc)/\∃I:List Rp,Paired (Ah H3) acc I/\I.map (·.1)=rs.take i/\I.map (·.2.1)=ms.take i/\∀t∈I,LR p t.2.2/\sW p ts g t.2.1 t.2.2) ⟨aq.new hX,ae,[],.nil,rfl,rfl,λt ht=>by cases ht⟩ (λi acc H3 _ ⟨z1,z2,I,z3,z4,_⟩=>⟨aR.of (z1 _ _ XT),aR.of (z1 _ _ XS),z2,?_⟩) (dW (by rw[aG];lia)) ?_ ?_⟩))
  ·have h1:=z3.length;have h2:=aa4 List.length z4;rw[aac,abk]at h2
   lia
  ·rintro i x y T0 acc H3 hx hy ⟨s3,Fv,I,pr,O,Z,al⟩ ar;have item:∀{l:List Nat} {v:V},(aD l)[i]?=some v->∃c,l[i]?=some c/\v = .int (c:Int):=λ{l v} h=>by
    unfold aD at h;rw[aaw]at h;obtain⟨c,h1,h2⟩:=vY.mp h;exact⟨c,h1,h2.symm⟩
   obtain⟨r,Df,rfl⟩:=item hx;obtain⟨m,hmi,rfl⟩:=item hy;have aw:=(mo.2 i m hmi).1;have s4:aq H3 (upd H3 T0 (.tup [.int (r:Int),.int (m:Int)])):=aq.new ar;have O2:=(U.trans s3).trans s4;refine⟨T0,_,rfl,aU.of ae,rfl,_,_,rfl,_,_,rfl,rfl,rfl,au rfl (au rfl (au rfl (au rfl ⟨wb,p,ts,g,m,rfl,hw.same O2,aw,O2 _ _ Ft,λb W H5 s5 hW sq bw=>⟨dl rfl,λc hc=>?_⟩⟩)))⟩
   have s6:aq H5 (upd H5 c (.tup [.int (r:Int),.int (m:Int),.ref b])):=aq.new hc;have Y:=(s4.trans s5).trans s6;have Vz:=Y _ _ Fv;refine⟨Vz,(s3.trans Y).put hX,ae,I++[(r,m,W)],?_,?_,?_,λt ht=>?_⟩
   ·exact Paired.snoc (Paired.imp' (λ_ _ z=>Ah.tups (Y.tups.trans (bG.put Vz)) z) pr) (Ah.tups (bG.put Vz) ⟨c,b,rfl,ae,hW.same s6⟩)
   ·rw[aaJ,O,aa1,Df];rfl
   ·rw[aaJ,Z,aa1,hmi];rfl
   ·rcases aa9.mp ht with z|z
    ·exact al t z
    ·rw[aaW.mp z];exact⟨sq,bw⟩
  ·rintro acc H3 ⟨s3,Fv,I,pr,O,Z,al⟩;rw[aG,aa7]at O;rw[aG,<-ag,aa7]at Z;refine⟨X,_,rfl,.inl ⟨aR.of Fv,λl hl=>?_⟩⟩
   have s4:aq H3 (upd H3 l (.tup acc)):=aq.new hl;exact q l acc I _ ((U.trans s3).free hl) ((U.trans s3).trans s4) ae (Paired.imp' (λ_ _ z=>Ah.tups s4.tups z) pr) (by rw[O];exact lb) (by rw[O];exact pw) (by rw[O,Z];exact mo) al (by rw[O];exact lr) (by rw[O,Z];exact ab)
def Ia(t1 t2:Addr)(Ro O0:Pos):Sp:=λvs H Q _=>∃w p ts,∃g:aA p ts,vs=[.ref w]/\bE H w p ts/\H t1=some (.jF (dU (lA "least_ways") Ro))/\H t2=some (.jF (dU (lA "by_length") O0))/\
 ∀D rs H',H D=none->aq H H'->H' D=some (.lst ((rs.map (lenOf ts)).map V.int))->RM.LB g.N (aW ts) rs->rs.Pairwise (gi ts)->(∃bs,RM.En g.N (aW ts) (g.N.bf.map λc=>2^c) bs []/\rs.Perm bs)->Q (.ref D) H'
def vB:Ok T T.vh 11 (Ia a.bS a.cV bB cE):=by
 have fu:=fu T;have dM:=dM T;refine T.vh.ok GX λ_ A _ s H vs Q E hr h=>?_
 ·obtain⟨Y,p,ts,g,rfl,hw,Ft,Hz,q⟩:=h;refine⟨_,(av (aF (cD (own:=["ring"]) (fq:=["web"]) (js:=[0]) (aI (aj qj) ["web"]) rfl (wX K (aH fu hr T.jh.c aE (aa (pv 0) af))) (λ_ _ _ _=>(bq 0 (lG ["ring","web"]))) (λ_ _ _ _=>cg) (λ_ _ _ _=>(aH dM hr T.jB.c vI (aa (pv 1) (aa (pv 0) af))))))),?_⟩
  have wl:=g.len;have W:=g.BL;refine(au rfl ⟨Y,p,ts,g,rfl,hw,Ft,Hz,λD rs H1 hD s1 Z O pw lr=>?_⟩)
  have ab:rs.length<=24:=by
   have h1:g.N.bf.length<=(List.range g.N.n).length:=abc ..;rw[aaK,<-O.1.len]at h1;exact aa0 h1 wl
  refine⟨D,rfl,⟨_,aR.of Z⟩,λX U=>cA (K:=K) (a:=D) (xs:=aD rs) (λi acc H2=>aq H1 H2/\H2 X=some (.lst acc)/\acc=((rs.take i).map (lenOf ts)).map V.int) ⟨aq.new U,ae,rfl⟩ (λi acc H2 _ z=>⟨aR.of (z.1 _ _ Z),z.2.1,by rw[z.2.2,aac,aac,abk];lia⟩) (dW (by rw[aG];lia)) ?_ ?_⟩
  ·rintro i x acc H2 hx ⟨s2,I,rfl⟩;obtain⟨r,Df,rfl⟩:∃r,rs[i]?=some r/\x = .int (r:Int):=by
    unfold aD at hx;rw[aaw]at hx;obtain⟨c,h1,h2⟩:=vY.mp hx;exact⟨c,h1,h2.symm⟩
   have Y4:=(O.1.ring r (jV Df)).2;refine⟨rfl,au rfl (au rfl ⟨Y,p,ts,_,rfl,hw.same (s1.trans s2),W,.inl ⟨r,rfl,Y4,λH3 s3=>⟨s3 _ _ I,(s2.trans s3).put U,ae,?_⟩⟩⟩)⟩
   rw[aa1,Df];show _=List.map V.int (List.map (lenOf ts) (List.take i rs++[r]));rw[aaJ,aaJ];rfl
  ·rintro acc H2 ⟨s2,I,rfl⟩;rw[aG,aa7]at I;exact q X rs H2 (s1.free U) (s1.trans s2) I O pw lr
def O3(p:Nat)(W:List (List Pr))(l:Int):Prop:=∀i,i<p->∀d,(fQ (W.getD i []) i).2=some d->l<=d
def PD(o:Option Int)(l:Int):Bool:=match o with
 | none=>true
 | some d=>decide (l<=d)
def Ai(W:List (List Pr))(i:Nat):List V:=(List.range i).map λj=>oV (fQ (W.getD j []) j).2
def LA(W:List (List Pr))(i:Nat):Ai W (i+1)=Ai W i++[oV (fQ (W.getD i []) i).2]:=by
 unfold Ai;rw[abE,aaJ];rfl
def wM:Sp:=λvs H Q _=>∃(b:Addr) (p:Nat) (W:List (List Pr)) (l:Int),vs=[.ref b,.int l]/\fK H b W/\LR p W/\p<=10/\∀H' (d:Bool),aq H H'->(d=true↔O3 p W l)->Q (.bl d) H'
def RSt(p:Nat)(ts:List bZ)(g:aA p ts)(m:Nat)(z:Int)(W:List (List Pr)):Prop:=∃r:Nat,z=(r:Int)/\r<2^ts.length/\g.N.Ring r/\(bz ((r&&&m:Nat):Int)).length%2=1/\B6 p ts m W/\O3 p W (lenOf ts r)
def zh:Sp:=λvs H Q _=>∃(w b:Addr) (p:Nat) (ts:List bZ),∃g:aA p ts,∃(W:List (List Pr)) (m:Nat) (z:Int),vs=[.ref w,.int (m:Int),.int z,.ref b]/\bE H w p ts/\fK H b W/\LR p W/\m<2^ts.length/\
 ∀H' (d:Bool),aq H H'->(d=true↔RSt p ts g m z W)->Q (.bl d) H'
def lz:Ok T T.lg 1 wM:=by
 refine T.lg.ok nW λ_ A _ s H vs Q E hr h=>?_
 ·obtain⟨b,p,W,l,rfl,hW,Z,hp,q⟩:=h;refine⟨_,(ai (jc (i:=2) nW.nd rfl rfl (own:=["point"]) (fq:=["worths"]) (js:=[0]) (aI (aj fM) ["worths","length","rounds"]) rfl (cu (by rfl) T.dJ (aa (cG K T.eG (aa (pv 0) af)) af)) (λ_ _ _ _=>(bq 0 (lG ["point","worths"]))) (λ_ _ _ _=>cg) (λ_ _ _ _=>(aK (cT K) (aK (cT K) (aK (cT K) (pv 1) (pv 0)) (pv 0)) ak)))
   (av (aF (cF (QS K rfl) (by rfl) T.Jq ac1 (aa (cD (own:=["worth"]) (fq:=["length"]) (js:=[1]) (aI (aj fM) ["worths","length","rounds"]) rfl (wX K (pv 2)) (λ_ _ _ _=>(bq 0 (lG ["worth","length"]))) (λ_ _ _ _=>cg) (λ_ _ _ _=>(VI (c9 oz (pv 0) iF (aM _)) (oq (c9 C8 (pv 0) (pv 1) (aM _)))))) af))))),?_⟩
  refine jf ?_;intro cH;obtain⟨ws,U,Y3⟩:=id hW;have ab:ws.length=p:=by rw[Y3.length,Z.1]
  refine(au rfl (vS rfl (.inr (aU.of U)) (au rfl ⟨(by lia),(by lia),λD hD=>eM (lo:=0) (m:=ws.length) (λi acc H2=>aq H H2/\H2 D=some (.lst acc)/\acc=Ai W i) ⟨aq.new hD,ae,rfl⟩ (λi acc H2 _ z=>⟨z.2.1,by rw[z.2.2];unfold Ai;rw[aac,aaK];exact aam _⟩) (dW (by lia)) ?_ ?_⟩)))
  ·rintro i acc H2 hi ⟨s2,Y,e2⟩;rw[abS];have hi:i<p:=by lia
   obtain⟨x,hx,bR,ys,rfl,XG,XH⟩:=iO Y3 (i:=i) (by rw[Z.1];exact hi) []
   have rl:=Z.row hi;obtain⟨bP,eP,Ea⟩:=RowW.at XH (i:=i) (by lia)
   refine⟨rfl,au rfl (au rfl (cU (aU.of (s2 _ _ U)) (ao (j:=i) hx) (au rfl (cU (aU.of (s2 _ _ XG)) (ao (j:=i) eP) (cU (aU.of (s2 _ _ Ea)) (ao (j:=1) rfl) ⟨Y,s2.put hD,ae,?_⟩)))))⟩;rw[LA,e2]
  ·rintro acc H2 ⟨s2,Y,rfl⟩;refine(au rfl ⟨D,rfl,⟨_,aR.of Y⟩,λO XU=>cA (xs:=Ai W ws.length) (λi acc H3=>aq H2 H3/\H3 O=some (.lst acc)/\acc=((List.range i).map λj=>PD (fQ (W.getD j []) j).2 l).map V.bl) ⟨aq.new XU,ae,rfl⟩ (λi acc H3 _ z=>⟨aR.of (z.1 _ _ Y),z.2.1,by rw[z.2.2];rw[aac,aac,aaK];exact aam _⟩) (dW (by unfold Ai;rw[aac,aaK];lia)) ?_ ?_⟩)
   ·rintro i x acc H3 hx ⟨s3,zy,rfl⟩;unfold Ai at hx;rw[aaw]at hx;obtain⟨j,hj,rfl⟩:=vY.mp hx;have ej:j=i:=by
     obtain⟨h1,h2⟩:=jo.mp hj;rw[ade]at h2;exact h2.symm
    subst ej;have I:∀bl,PD (fQ (W.getD j []) j).2 l=bl->H3 O=some (.lst (((List.range j).map λj=>PD (fQ (W.getD j []) j).2 l).map V.bl))/\aq H2 (upd H3 O (.lst ((((List.range j).map λj=>PD (fQ (W.getD j []) j).2 l).map V.bl)++[.bl bl])))/\upd H3 O (.lst ((((List.range j).map λj=>PD (fQ (W.getD j []) j).2 l).map V.bl)++[.bl bl])) O=some (.lst ((((List.range j).map λj=>PD (fQ (W.getD j []) j).2 l).map V.bl)++[.bl bl]))/\(((List.range j).map λj=>PD (fQ (W.getD j []) j).2 l).map V.bl)++[.bl bl]=((List.range (j+1)).map λj=>PD (fQ (W.getD j []) j).2 l).map V.bl:=by
     intro bl hb;refine⟨zy,s3.put XU,ae,?_⟩;rw[abE,aaJ,aaJ];show _=_++[V.bl (PD (fQ (W.getD j []) j).2 l)];rw[hb]
    generalize hv:(fQ (W.getD j []) j).2=o at I;cases o with
    | none=>exact⟨rfl,au rfl ⟨rfl,au rfl (JM rfl (I true rfl))⟩⟩
    | some d=>exact⟨rfl,au rfl ⟨rfl,au rfl (lQ (λz=>nomatch z) (au rfl (au rfl (dz (I _ rfl)))))⟩⟩
   ·rintro acc H3 ⟨s3,zy,rfl⟩;refine⟨O,_,rfl,aR.of zy,q H3 _ (s2.trans s3) ?_⟩;rw[abQ];have hl:(Ai W ws.length).length=p:=by unfold Ai;rw[aac,aaK,ab]
    rw[hl]
    constructor
    ·intro h i hi d hd;have:=h _ (aaH.mpr ⟨i,aaI.mpr hi,rfl⟩);rw[hd]at this;exact ko this
    ·intro h x hx;obtain⟨j,hj,rfl⟩:=aaH.mp hx;have hj:=aaI.mp hj;show PD _ l=true;cases hd:(fQ (W.getD j []) j).2 with
     | none=>rfl
     | some d=>exact dm (h j hj d hd)
def mh:Ok T T.l7 9 zh:=by
 have cZ:=cZ T;have bC:=bC T;have ly:=ly T;have lz:=lz T;have dM:=dM T;refine T.l7.ok yN λ_ A _ s H vs Q E hr h=>?_
 ·obtain⟨Z,b,p,ts,g,W,m,z,rfl,hw,hW,sq,hm,q⟩:=h;refine⟨_,(ai (bW (PW.pt (nV (kF (dZ (aH cZ hr T.fX.c aE (aa (pv 0) (aa (pv 2) af))))) (jG (kF (dZ (aH bC hr T.fk.c aE (aa (pv 2) (aa (pv 1) af)))))))) (av (aF iE)) aY)
   (av (aF (ou (aH ly hr T.k9.c vI (aa (pv 0) (aa (pv 1) (aa (pv 3) af)))) (oq (aH lz hr T.lg.c aE (aa (pv 3) (aa (aH dM hr T.jB.c vI (aa (pv 0) (aa (pv 2) af))) af)))))))),?_⟩
  refine dO ?_;intro cH cQ;have wl:=g.len;have wp:=g.p2;refine(au rfl (au rfl ⟨Z,p,ts,g,z,rfl,hw,λH1 d s1 hd=>(au rfl (?_))⟩))
  cases d with
  | false=>exact fC (q H1 false s1 ⟨λz=>(aav z).elim,λ⟨r,e,hr,rg,_⟩=>hd.mpr ⟨r,e,hr,rg⟩⟩)
  | true =>
    obtain⟨r,rfl,U,rg⟩:=hd.mp rfl;have zf:Builtin.Int.intBits ((r&&&m:Nat):Int)<=1000:=by
     have h1:r&&&m<2^ts.length:=acP _ hm;have h2:=bits_le h1
     lia
    have one:∀O:Nat,(r:Int)=(O:Int)->O=r:=λO e=>by lia
    refine dN (au rfl (au rfl ⟨_,_,r,m,rfl,rfl,rfl,zf,λH2 s2=>(au rfl (?_))⟩))
    by_cases Y:(bz ((r&&&m:Nat):Int)).length%2=1
    case neg =>
     rw[gj Y];refine fC (q H2 false (s1.trans s2) ⟨λz=>(aav z).elim,λ⟨O,e,_,_,h,_⟩=>absurd h ?_⟩)
     rw[one O e];exact Y
    rw[dm Y];have I:=s1.trans s2;refine dN (au rfl (au rfl (au rfl ⟨Z,b,p,ts,W,_,rfl,hw.same I,g.BL,hW.same I,sq,.inl ⟨m,rfl,hm,λst H3 s3=>?_,λab H3 s3=>?_⟩⟩)))
    ·have tX:=I.trans s3;refine(au rfl (fC (au rfl (au rfl (au rfl ⟨Z,p,ts,_,rfl,hw.same tX,g.BL,.inl ⟨r,rfl,U,λH4 s4=>?_⟩⟩)))))
     have O2:=tX.trans s4;refine⟨b,p,W,_,rfl,hW.same O2,sq,wp,λH5 d5 s5 Y7=>q H5 d5 (O2.trans s5) ?_⟩
     rw[Y7];exact⟨λh=>⟨r,rfl,U,rg,Y,st,h⟩,λ⟨O,e,_,_,_,_,h⟩=>by rw[one O e]at h;exact h⟩
    ·refine(au rfl (dN (q H3 false (I.trans s3) ⟨λz=>(aav z).elim,λ⟨O,e,_,_,_,st,_⟩=>absurd st ab⟩)))
abbrev XW:=Int×Int×List (List Pr)
def XX(p:Nat)(H:Hp)(v:V)(t:XW):Prop:=∃c b,v = .ref c/\H c=some (.tup [.int t.1,.int t.2.1,.ref b])/\fK H b t.2.2/\LR p t.2.2
def Sq(n:Nat)(N:RM.Net)(rs:List Nat)(zs:List Int):Prop:=∃ms:List Nat,zs=ms.map (λx=>((x:Nat):Int))/\MarksOf N rs ms
def O4(p:Nat)(ts:List bZ)(g:aA p ts)(I:List XW):Prop:=∃rs:List Nat,I.map (·.1)=rs.map (λx=>((x:Nat):Int))/\RM.Base g.N rs/\rs.Pairwise (gi ts)/\Sq ts.length g.N rs (I.map (·.2.1))/\∀t∈I,RSt p ts g t.2.1.toNat t.1 t.2.2
def CS:Sp:=λvs H Q _=>∃w p ts,∃g:aA p ts,∃(l I:Addr) (rs:List Nat) (zs:List Int),vs=[.ref w,.ref l,.ref I]/\bE H w p ts/\H l=some (.lst (aD rs))/\(∀r∈rs,r<2^ts.length)/\H I=some (.lst (zs.map V.int))/\zs.length=rs.length/\rs.length<=24/\
 ∀H' (d:Bool),aq H H'->(d=true↔Sq ts.length g.N rs zs)->Q (.bl d) H'
def zj(t2:Addr)(O0:Pos):Sp:=λvs H Q _=>∃w p ts,∃g:aA p ts,∃(b:Addr) (ys:List V) (I:List XW),vs=[.ref w,.ref b]/\bE H w p ts/\H t2=some (.jF (dU (lA "by_length") O0))/\H b=some (.tup ys)/\Paired (XX p H) ys I/\I.length<=60/\
 ∀H' (d:Bool),aq H H'->(d=true↔O4 p ts g I)->Q (.bl d) H'
def Bh{ts:List bZ}{x y:Nat}(h1:gi ts x y)(h2:gi ts y x):x=y:=by
 unfold gi at h1 h2
 lia
def zk{f:Nat->Bool}{n j:Nat}(hj:j<n):(List.range n).filter f=[j]↔∀k,k<n->f k=decide (k=j):=by
 constructor
 ·intro e k hk;have hm:k∈(List.range n).filter f↔k=j:=by rw[e,aaW]
  rw[aaX,aaI]at hm;cases h:f k with
  | true=>exact(dm (hm.mp ⟨hk,h⟩)).symm
  | false=>exact(gj λz=>by have:=(hm.mpr z).2;rw[h]at this;cases this).symm
 ·intro h;rw[adn (q:=λk=>decide (k=j)) λk hk=>h k (aaI.mp hk)]
  clear h
  induction n with
  | zero=>lia
  | succ n I =>
    rw[abE,abY]
    by_cases e:j=n
    ·subst e;rw[ads.mpr λx hx=>by have:=aaI.mp hx;simp;lia]
     simp
    ·rw[I (by lia)]
     have:n≠j:=aa6 e;simp[this]
def O5{n:Nat}{zs:List Int}(h:∀z∈zs,0<=z/\z<2^n):∃ms:List Nat,zs=ms.map (λx=>((x:Nat):Int))/\∀m∈ms,m<2^n:=by
 obtain⟨ms,e⟩:=OU (l:=zs) λx hx=>(h x hx).1
 refine⟨ms,e,λm hm=>?_⟩
 have h1:=(h (m:Int) (by rw[e];exact aaH.mpr ⟨m,hm,rfl⟩)).2
 have I:((2^n:Nat):Int)=2^n:=by rw[Int.natCast_pow];rfl
 lia
def pJ:Ok T T.pC 5 CS:=by
 have iC:=iC T;have bC:=bC T;refine T.pC.ok nA λ_ A _ s H vs Q E hr h=>?_
 ·obtain⟨wb,p,ts,g,l,l2,rs,zs,rfl,hw,hl,aw,O,YH,a3,q⟩:=h;refine⟨_,(ai (bW (kF (dZ (cF (QS K rfl) (by rfl) T.Jq ac1 (aa (cD (own:=["own"]) (fq:=["web"]) (js:=[0]) (aI (aj jA) ["web","rings","marks","place","ring"]) rfl (wX K (pv 2)) (λ_ _ _ _=>(bq 0 (lG ["own","web"]))) (λ_ _ _ _=>cg) (λ_ _ _ _=>(aH iC hr T.pe.c aE (aa (pv 1) (aa (pv 0) af))))) af)))) (av (aF iE)) aY)
   (ai (fH PassesOwn.never rfl (BH K (by rfl) T.hU (aa (pv 1) af)) (Dp K (n:=2) rfl (aL (bq 3 nA.nd) (aL (wR (i:=4) nA.nd rfl (Or.inr rfl)) c8)))
   (av (bW (aO (ud K hr.units) (cD (own:=["k","own"]) (fq:=["ring"]) (js:=[4]) (aI (aj jA) ["web","rings","marks","place","ring"]) rfl (BH K (by rfl) T.hU (aa (pv 2) af)) (λ_ _ _ _=>(Dp K (n:=2) rfl (aL (bq 0 (lG ["k","own","ring"])) (aL (bq 1 (lG ["k","own","ring"])) c8)))) (λ_ _ _ _=>(jZ (dZ (aH bC hr T.fk.c aE (aa (pv 2) (aa (pv 1) af)))))) (λ_ _ _ _=>(pv 0))) (eg (aa (pv 3) af)) (aM _)) (av (aF iE)) aY)))
   (av (aF iE)))),?_⟩
  refine Cq ?_;intro cH cQ eK fG gR;have wl:=g.len;have W:=g.BL;refine(au rfl ⟨l2,rfl,⟨_,aR.of O⟩,λD hD=>cA (K:=K) (a:=l2) (xs:=zs.map V.int) (λi acc H2=>aq H H2/\H2 D=some (.lst acc)/\acc=((zs.take i).map λz=>decide (0<=z/\z<2^ts.length)).map V.bl) ⟨aq.new hD,ae,rfl⟩ (λi acc H2 _ z=>⟨aR.of (z.1 _ _ O),z.2.1,by rw[z.2.2,aac,aac,abk];lia⟩) (dW (by rw[aac];lia)) ?_ ?_⟩)
  ·rintro i x acc H2 hx ⟨s2,U,rfl⟩;rw[aaw]at hx;obtain⟨z,hz,rfl⟩:=vY.mp hx;refine⟨rfl,au rfl (au rfl ⟨wb,p,ts,z,rfl,hw.same s2,W,U,s2.put hD,ae,?_⟩)⟩;rw[aa1,hz];show _=List.map V.bl (List.map _ (List.take i zs++[z]));rw[aaJ,aaJ];rfl
  rintro acc H2 ⟨s2,U,rfl⟩;rw[aac,aa7]at U;refine⟨D,_,rfl,aR.of U,_,rfl,?_⟩
  by_cases I:∀z∈zs,0<=z/\z<2^ts.length
  case neg =>
   have e1:(List.map (λz=>decide (0<=z/\z<2^ts.length)) zs).all id=false:=by
    rw[acU];intro z;rw[abQ]at z;exact I λx hx=>ko (z _ (aaH.mpr ⟨x,hx,rfl⟩))
   rw[e1];refine fC (q H2 false s2 ⟨λz=>(aav z).elim,λ⟨ms,e,mo⟩=>(I λx hx=>?_).elim⟩)
   rw[e]at hx;obtain⟨m,hm,rfl⟩:=aaH.mp hx;obtain⟨j,hj⟩:=aa5 hm;have h1:m<2^ts.length:=(mo.2 j m hj).1;have e2:((2^ts.length:Nat):Int)=2^ts.length:=by rw[Int.natCast_pow];rfl
   lia
  have e1:(List.map (λz=>decide (0<=z/\z<2^ts.length)) zs).all id=true:=by
   rw[abQ];intro x hx;obtain⟨z,hz,rfl⟩:=aaH.mp hx;exact dm (I z hz)
  rw[e1];obtain⟨ms,rfl,ag⟩:=O5 I;rw[aac]at YH;rw[<-gO]at O;refine dN (au rfl ⟨l,rfl,⟨_,aR.of (s2 _ _ hl)⟩,Dr (K:=K) (a:=l) (xs:=aD rs) (λi σ H3=>∃v3 v4,σ=[some (.ref wb),some (.ref l),some (.ref l2),v3,v4]/\aq H H3/\∀j r,j<i->rs[j]?=some r->∀k,k<ms.length->g.N.par r (ms.getD k 0)=decide (k=j)) ⟨none,none,rfl,s2,λj r hj=>by lia⟩ (λi σ H3 _ ⟨_,_,_,z,_⟩=>aR.of (z _ _ hl)) ?_ ?_⟩)
  ·rintro i x T0 σ H3 hx ⟨v3,v4,rfl,s3,Pz⟩ hT;obtain⟨r,Df,rfl⟩:=iK hx;have LQ:=(jo.mp Df).1;have Y4:=aw r (jV Df);have s4:aq H3 (upd H3 T0 (.tup [.int (i:Int),.int (r:Int)])):=aq.new hT;have Pp:upd H3 T0 (.tup [.int (i:Int),.int (r:Int)]) T0=some (.tup [.int (i:Int),.int (r:Int)]):=ae;generalize upd H3 T0 (.tup [.int (i:Int),.int (r:Int)])=H4 at s4 Pp;have xr:=s3.trans s4;refine⟨T0,_,rfl,aU.of Pp,rfl,_,_,rfl,_,_,rfl,rfl,?_⟩;refine(au rfl ⟨l2,rfl,⟨_,aR.of (xr _ _ O)⟩,λD2 U=>Gz (K:=K) (a:=l2) (xs:=aD ms) (qu (λk=>g.N.par r (ms.getD k 0)) H4 D2) (.start U) (λi acc H5 _ Y=>⟨aR.of (Y.1 _ _ (xr _ _ O)),Y.len⟩) (dW (by rw[aG];lia)) ?_ ?_⟩)
   ·intro k y T1 acc H5 hy Y ax;obtain⟨m,ar,rfl⟩:=iK hy;have Z:=ag m (jV ar);have em:ms.getD k 0=m:=by rw[aad,ar];rfl
    have zf:Builtin.Int.intBits ((r&&&m:Nat):Int)<=1000:=aa0 (bits_le (acP _ Z)) (by lia)
    refine⟨T1,_,rfl,aU.of ae,rfl,_,_,rfl,_,_,rfl,rfl,rfl,au rfl (au rfl ⟨_,_,r,m,rfl,rfl,rfl,zf,λH6 s6=>(au rfl (?_))⟩)⟩
    have s7:=(aq.new ax).trans s6
    by_cases z:g.N.par r m=true
    ·rw[dm ((B9 Z).mpr z)];exact fC (au rfl (Y.yes U s7 (by rw[em];exact z)))
    ·rw[gj λy=>z ((B9 Z).mp y)]
     exact dN (Y.no s7 (by rw[em];exact acU.mpr z))
   ·intro acc H5 Y;obtain⟨s5,zz,e5⟩:=Y;rw[aG]at e5;rw[e5]at zz;refine(au rfl ⟨dl rfl,λL hL=>?_⟩)
    have s6:aq H5 (upd H5 L (.lst (aD [i]))):=aq.new hL;refine⟨_,_,.lst (aR.of (s6 _ _ zz)) (mD _),.lst (aR.of ae) (mD [i]),jv _,jv _,_,rfl,?_⟩;rw[AM];have XQ:=(xr.trans s5).trans s6
    by_cases z:(List.range ms.length).filter (λk=>g.N.par r (ms.getD k 0))=[i]
    ·rw[dm z];have z:=(zk (by lia)).mp z
     refine dN ⟨_,_,rfl,XQ,λj r' hj ab=>?_⟩
     by_cases e:j=i
     ·subst e;rw[Df]at ab;rw[<-Option.some.inj ab];exact z
     ·exact Pz j r' (by lia) ab
    ·rw[gj z];refine fC (q _ false XQ ⟨λz=>(aav z).elim,λ⟨a4,e,mo⟩=>(z ((zk (by lia)).mpr λk hk=>?_)).elim⟩)
     have e:=cast_inj e;subst e;have aT:ms[k]?=some (ms.getD k 0):=by rw[aad,aag hk];rfl
     exact(mo.2 k _ aT).2 i r Df
  ·rintro σ H3 ⟨v3,v4,rfl,s3,Pz⟩;rw[aG]at Pz;refine q H3 true s3 ⟨λ_=>⟨ms,rfl,YH,λk m hk=>⟨ag m (jV hk),λj r hj=>?_⟩⟩,λ_=>rfl⟩
   have:=Pz j r (jo.mp hj).1 hj k (jo.mp hk).1
   rwa [aad,hk]at this
def jm:Ok T T.ji 10 (zj a.cV cE):=by
 have kE:=kE T;have h8:=h8 T;have pJ:=pJ T;have mh:=mh T;refine T.ji.ok o5 λ_ A _ s H vs Q E hr h=>?_
 ·obtain⟨wb,p,ts,g,b,ys,tr,rfl,hw,a3,hb,Y8,tl,q⟩:=h;refine⟨_,(ai (jc (i:=2) o5.nd rfl rfl (own:=["ring","marks","worths"]) (fq:=[]) (js:=[]) (aI (aj fj) ["web","base","rings"]) rfl (YD K (pv 1)) (λ_ _ _ _=>(Dp K (n:=3) rfl (aL (bq 0 (lG ["ring","marks","worths"])) (aL (bq 1 (lG ["ring","marks","worths"])) (aL (bq 2 (lG ["ring","marks","worths"])) c8))))) (λ_ _ _ _=>cg) (λ_ _ _ _=>(pv 0)))
   (ai (bW (PW.pt (nV (kF (dZ (aH kE hr T.qm.c aE (aa (pv 0) (aa (pv 2) af))))) (jG (aO (ud K hr.units) (pv 2) (aH h8 hr T.jC.c aE (aa (pv 0) (aa (pv 2) af))) (aM _))))) (av (aF iE)) aY)
   (ai (bW (kF (dZ (aH pJ hr T.pC.c aE (aa (pv 0) (aa (pv 2) (aa (cD (own:=["ring","marks","worths"]) (fq:=[]) (js:=[]) (aI (aj fj) ["web","base","rings"]) rfl (YD K (pv 1)) (λ_ _ _ _=>(Dp K (n:=3) rfl (aL (bq 0 (lG ["ring","marks","worths"])) (aL (bq 1 (lG ["ring","marks","worths"])) (aL (bq 2 (lG ["ring","marks","worths"])) c8))))) (λ_ _ _ _=>cg) (λ_ _ _ _=>(pv 1))) af)))))) (av (aF iE)) aY)
   (av (aF (cF (QS K rfl) (by rfl) T.Jq ac1 (aa (cD (own:=["ring","marks","worths"]) (fq:=["web"]) (js:=[0]) (aI (aj fj) ["web","base","rings"]) rfl (YD K (pv 1)) (λ_ _ _ _=>(Dp K (n:=3) rfl (aL (bq 0 (lG ["ring","marks","worths","web"])) (aL (bq 1 (lG ["ring","marks","worths","web"])) (aL (bq 2 (lG ["ring","marks","worths","web"])) c8))))) (λ_ _ _ _=>cg) (λ_ _ _ _=>(aH mh hr T.l7.c aE (aa (pv 3) (aa (pv 1) (aa (pv 0) (aa (pv 2) af))))))) af))))))),?_⟩
  refine yP ?_;intro cH cQ eK fG gR;have wl:=g.len;have ag:=Y8.length;refine(au rfl ⟨b,rfl,⟨_,aU.of hb⟩,λX hX=>rP (K:=K) (a:=b) (xs:=ys) (λi acc H2=>aq H H2/\H2 X=some (.lst acc)/\acc=((tr.take i).map (·.1)).map V.int) ⟨aq.new hX,ae,rfl⟩ (λi acc H2 _ z=>⟨aU.of (z.1 _ _ hb),z.2.1,by rw[z.2.2,aac,aac,abk];lia⟩) (abq (cz (by lia))) ?_ ?_⟩)
  ·rintro i x acc H2 hx ⟨s2,U,rfl⟩;obtain⟨t,O,c,bw,rfl,hc,_⟩:=Paired.lR Y8 hx;refine⟨c,_,rfl,aU.of (s2 _ _ hc),rfl,_,_,rfl,_,_,rfl,_,_,rfl,rfl,rfl,au rfl ⟨U,s2.put hX,ae,?_⟩⟩;rw[aa1,O];show _=List.map V.int (List.map _ (List.take i tr++[t]));rw[aaJ,aaJ];rfl
  rintro acc H2 ⟨s2,U,rfl⟩;rw[ag,aa7]at U;refine(au rfl (au rfl ⟨wb,p,ts,g,X,_,rfl,hw.same s2,U,(by rw[aac];lia),λH3 d s3 hd=>(au rfl (?_))⟩))
  have tX:=s2.trans s3;cases d with
  | false =>
    refine fC (q H3 false tX ⟨λz=>(aav z).elim,λ⟨rs,e,ba,_⟩=>hd.mpr ⟨rs,e,ba⟩⟩)
  | true =>
    obtain⟨rs,Y9,ba⟩:=hd.mp rfl;have a8:rs.length=tr.length:=by have:=aa4 List.length Y9;rw[aac,aac]at this;exact this.symm
    have UR:rs.length<=24:=by
     have h1:g.N.bf.length<=(List.range g.N.n).length:=abc ..;rw[aaK,<-ba.len]at h1;exact aa0 h1 wl
    have W5:∀r∈rs,r<2^ts.length:=λr hr=>(ba.ring r hr).2
    have Fv:H3 X=some (.lst (aD rs)):=by rw[gO,<-Y9];exact s3 _ _ U
    have one:∀I,tr.map (·.1)=I.map (λx=>((x:Nat):Int))->I = rs:=λI e=>cast_inj (e.symm.trans Y9)
    refine dN (au rfl (au rfl (au rfl ⟨wb,p,ts,g,X,rs,rfl,hw.same tX,Fv,by lia,W5,tX _ _ a3,λD aT H4 hD s4 Fq pm pw=>?_⟩)))
    have O2:=tX.trans s4;have Vy:=s4 _ _ Fv;refine⟨_,_,.lst (aR.of Vy) (mD rs),.lst (aR.of Fq) (mD aT),jv _,jv _,_,rfl,?_⟩;rw[AM]
    by_cases ab:rs=aT
    case neg =>
     rw[gj ab];refine fC (q H4 false O2 ⟨λz=>(aav z).elim,λ⟨I,e,_,Q7,_⟩=>(ab ?_).elim⟩)
     rw[one I e]at Q7;exact(pm.eq_of_pairwise (λx y _ _ h1 h2=>Bh h1 h2) pw Q7).symm
    rw[dm ab];subst ab;refine dN ?_;refine(au rfl (au rfl (au rfl ⟨b,rfl,⟨_,aU.of (O2 _ _ hb)⟩,λY hY=>rP (K:=K) (a:=b) (xs:=ys) (λi acc H5=>aq H4 H5/\H5 Y=some (.lst acc)/\acc=((tr.take i).map (·.2.1)).map V.int) ⟨aq.new hY,ae,rfl⟩ (λi acc H5 _ z=>⟨aU.of (z.1 _ _ (O2 _ _ hb)),z.2.1,by rw[z.2.2,aac,aac,abk];lia⟩) (abq (cz (by lia))) ?_ ?_⟩)))
    ·rintro i x acc H5 hx ⟨s5,Za,rfl⟩;obtain⟨t,O,c,bw,rfl,hc,_⟩:=Paired.lR Y8 hx;refine⟨c,_,rfl,aU.of (s5 _ _ (O2 _ _ hc)),rfl,_,_,rfl,_,_,rfl,_,_,rfl,rfl,rfl,au rfl ⟨Za,s5.put hY,ae,?_⟩⟩;rw[aa1,O];show _=List.map V.int (List.map _ (List.take i tr++[t]));rw[aaJ,aaJ];rfl
    rintro acc H5 ⟨s5,Za,rfl⟩;rw[ag,aa7]at Za;have Xz:=O2.trans s5;refine⟨wb,p,ts,g,X,Y,rs,_,rfl,hw.same Xz,s5 _ _ Vy,W5,Za,(by rw[aac];lia),UR,λH6 d s6 Wj=>(au rfl (?_))⟩
    have XY:=Xz.trans s6;cases d with
    | false=>exact fC (q H6 false XY ⟨λz=>(aav z).elim,λ⟨I,e,_,_,mf,_⟩=>Wj.mpr (by rw[one I e]at mf;exact mf)⟩)
    | true =>
      obtain⟨ms,PB,mo⟩:=Wj.mp rfl;refine dN (au rfl ⟨b,rfl,⟨_,aU.of (XY _ _ hb)⟩,λZ hZ=>rP (K:=K) (a:=b) (xs:=ys) (λi acc H7=>aq H6 H7/\H7 Z=some (.lst acc)/\∃bs:List Bool,acc=bs.map V.bl/\bs.length=i/\∀(j:Nat) (t:XW),j<i->tr[j]?=some t->(bs.getD j false=true↔RSt p ts g t.2.1.toNat t.1 t.2.2)) ⟨aq.new hZ,ae,[],rfl,rfl,λj t hj=>by lia⟩ (λi acc H7 _ ⟨z1,z2,bs,z3,z4,_⟩=>⟨aU.of (z1 _ _ (XY _ _ hb)),z2,by rw[z3,aac,z4];exact aam _⟩) (abq (cz (by lia))) ?_ ?_⟩)
      ·rintro i x acc H7 hx ⟨s7,ar,bs,rfl,bl,ok⟩;obtain⟨t,O,c,bw,rfl,hc,hW,sq⟩:=Paired.lR Y8 hx;have aw:=XY.trans s7;obtain⟨m,hmi,em⟩:∃m:Nat,ms[i]?=some m/\t.2.1=(m:Int):=by
        have h1:(tr.map (·.2.1))[i]?=some t.2.1:=by rw[aaw,O];rfl
        rw[PB,aaw]at h1;obtain⟨m,h1,h2⟩:=vY.mp h1;exact⟨m,h1,h2.symm⟩
       have a4:=(mo.2 i m hmi).1;have Rj:=aw _ _ hc;rw[em]at Rj;refine⟨c,_,rfl,aU.of Rj,rfl,_,_,rfl,_,_,rfl,_,_,rfl,rfl,rfl,au rfl (au rfl (au rfl (au rfl ⟨wb,bw,p,ts,g,t.2.2,m,t.1,rfl,hw.same aw,hW.same aw,sq,a4,λH8 d s8 a5=>?_⟩)))⟩
       have a6:=s8 _ _ ar;refine⟨a6,(s7.trans s8).put hZ,ae,bs++[d],by rw[aaJ];rfl,by rw[aaz,bl];rfl,λj t' hj ax=>?_⟩
       by_cases e:j=i
       ·subst e;rw[O]at ax;rw[<-Option.some.inj ax,em,aaE,<-a5,aad,abf (by lia),bl,acX]
        rfl
       ·rw[aad,aba (by lia),<-aad]
        exact ok j t' (by lia) ax
      ·rintro acc H7 ⟨s7,ar,bs,rfl,bl,ok⟩;rw[ag]at bl ok;refine⟨Z,bs,rfl,aR.of ar,q H7 _ (XY.trans s7) ?_⟩;rw[abQ]
       constructor
       ·intro h;refine⟨rs,Y9,ba,pw,⟨ms,PB,mo⟩,λt ht=>?_⟩
        obtain⟨j,hj⟩:=aa5 ht;have NJ:=(jo.mp hj).1;refine(ok j t NJ hj).mp ?_;rw[aad,aag (by lia)]
        exact h _ (abZ _)
       ·rintro⟨_,_,_,_,_,al⟩ x hx;obtain⟨j,hj⟩:=aa5 hx;have NJ:=(jo.mp hj).1;have a7:tr[j]?=some (tr[j]'(by lia)):=aag _
        have:=(ok j _ (by lia) a7).mpr (al _ (abZ _))
        rwa [aad,hj]at this
def vX:Sp:=λvs H Q _=>∃(p:Nat) (x:V) (t:bZ),vs=[.int (p:Int),x]/\TupAt H x t/\ik (p:Int) t/\∀b H',aq H H'->H' b=some (.tup (mC t))->Q (.ref b) H'
def E6:Sp:=λvs H Q _=>∃(p:Nat) (l:Addr) (xs:List V) (ts:List bZ),vs=[.int (p:Int),.ref l]/\(H l=some (.lst xs)\/H l=some (.tup xs))/\Paired (TupAt H) xs ts/\aA p ts/\∀w H',aq H H'->bE H' w p ts->Q (.ref w) H'
def rD:Ok T T.rh 1 vX:=by
 refine T.rh.ok vU λ_ A _ s H vs Q E hr h=>?_
 ·obtain⟨p,x,t,rfl,⟨b,rfl,hb⟩,g,k⟩:=h;refine⟨_,(ai (bW (aO C7 (cG K T.eG (aa (pv 1) af)) ak (aM _)) fb aY)
   (ai (fH PassesOwn.never rfl (YD K (cy (aa (aK (Vc K) (pv 1) ak) (aa (aK (Vc K) (pv 1) ak) af)))) (bq 2 vU.nd)
   (av (bW (PW.pt (nV (aO Ao (pv 2) ak (aM _)) (jG (aO C8 (pv 2) (pv 0) (aM _))))) fb aY)))
   (ai (bW (aO jq (aK (Vc K) (pv 1) ak) (aK (Vc K) (pv 1) ak) (aM _)) fb aY)
   (ai (bW (PW.pt (nV (aO Ao (aK (Vc K) (pv 1) ak) ak (aM _)) (jG (aO vH (aK (Vc K) (pv 1) ak) (BB (by rfl) T.Li) (aM _))))) fb aY)
   (av (aF (fc (Dm K) (by rfl) T.tS acp (aa (pv 1) af)))))))),?_⟩
  refine Et ?_;intro Z cQ eK fG gR mj yE Jo Jp;have hs:aR K H b (mC t)\/aU K H b (mC t):=.inr (aU.of hb);refine(au rfl ⟨b,mC t,rfl,hs,rfl,au rfl (IB rfl ?_)⟩);refine(au rfl (uc hs (v:=.int t.1) (ao (j:=0) rfl) (au rfl (uc hs (v:=.int t.2.1) (ao (j:=1) rfl) ⟨(dl rfl),λq O=>⟨q,rfl,⟨_,aU.of ae⟩,?_⟩⟩))))
  have I:aq H (upd H q (.tup [.int t.1,.int t.2.1])):=aq.new O;have hs' : aR K (upd H q (.tup [.int t.1,.int t.2.1])) b (mC t)\/aU K (upd H q (.tup [.int t.1,.int t.2.1])) b (mC t):=hs.imp I.seq I.sqT;refine Im (K:=K) (a:=q) (xs:=[.int t.1,.int t.2.1]) (λi σ H2=>∃v,σ=[some (.int (p:Int)),some (.ref b),v]/\H2=upd H q (.tup [.int t.1,.int t.2.1])) ⟨none,rfl,rfl⟩ (λi σ H2 _ ⟨_,_,e⟩=>by rw[e];exact aU.of ae) ?_ ?_
  ·rintro i y σ H2 hi ⟨v,rfl,rfl⟩;obtain⟨z,rfl,U,Y⟩:∃z,y=V.int z/\0<=z/\z<(p:Int):=by
    match i,hi with
    | 0,hi=>exact⟨t.1,(Option.some.inj hi).symm,g.a0,g.a1⟩
    | 1,hi=>exact⟨t.2.1,(Option.some.inj hi).symm,g.b0,g.b1⟩
   refine(au rfl (dz (au rfl (lQ (by lia) (au rfl (au rfl (dz (au rfl (lQ (by lia) ?_)))))))))
   exact(au rfl (rfl))
  ·rintro σ H2 ⟨v,rfl,rfl⟩;refine(au rfl (uc hs' (v:=.int t.1) (ao (j:=0) rfl) (au rfl (uc hs' (v:=.int t.2.1) (ao (j:=1) rfl) ⟨rfl,au rfl (lQ (λz=>g.ne (V.int.inj z)) ?_)⟩))))
   refine(au rfl (uc hs' (v:=.int t.2.2) (ao (j:=2) rfl) (dz (au rfl (lQ (by have:=g.l0;lia) (au rfl (uc hs' (v:=.int t.2.2) (ao (j:=2) rfl) (dz (au rfl (lQ (by have:=g.l1;lia) ?_))))))))))
   exact(au rfl ⟨b,mC t,rfl,.inr ⟨aU.of (I _ _ hb),k b _ I (I _ _ hb)⟩⟩)
def eW:Ok T T.k7 2 E6:=by
 have rD:=rD T;refine T.k7.ok Er λ_ A _ s H vs Q E hr h=>?_
 ·obtain⟨p,l,xs,ts,rfl,Z,hp,g,k⟩:=h;refine⟨_,(ai (bW (PW.pt (nV (aO Ao (pv 0) ak (aM _)) (jG (aO vH (pv 0) (BB (by rfl) T.Aa) (aM _))))) fb aY)
   (ai (bW (aO vH (cG K T.eG (aa (pv 1) af)) (BB (by rfl) T.EV) (aM _)) fb aY)
   (av (aF (cy (aa (pv 0) (aa (fc (Dm K) (by rfl) T.tS acp (aa (cD (own:=["tie"]) (fq:=["points"]) (js:=[0]) (aI (aj ni) ["points","ties"]) rfl (piS K (pv 1)) (λ_ _ _ _=>(bq 0 (lG ["tie","points"]))) (λ_ _ _ _=>cg) (λ_ _ _ _=>(aH rD hr T.rh.c aE (aa (pv 1) (aa (pv 0) af))))) af)) af))))))),?_⟩
  refine Es ?_;intro cH cQ eK fG;have hs:aR K H l xs\/aU K H l xs:=Z.imp aR.of aU.of;have hlen:=hp.length;have gl:=g.len;have g1:=g.p1;have g2:=g.p2;refine(au rfl (dz (au rfl (lQ (by lia) (au rfl (dz (au rfl (lQ (by lia) ?_))))))))
  refine(au rfl ⟨l,xs,rfl,hs,_,_,rfl,rfl,au rfl (lQ (by lia) ?_)⟩)
  refine(au rfl (?_));have start:∀D,H D=none->((λ(i:Nat) (acc:List V) (H2:Hp)=>aq H H2/\H2 D=some (.lst acc)/\Paired (TupAt H2) acc (ts.take i)/\acc.length=i) 0 [] (upd H D (.lst []))):=λD O=>⟨aq.new O,ae,.nil,rfl⟩
  have turn:∀(D:Addr),H D=none->∀(i:Nat) (x:V) (acc:List V) (H2:Hp),xs[i]?=some x->(aq H H2/\H2 D=some (.lst acc)/\Paired (TupAt H2) acc (ts.take i)/\acc.length=i)->
   vX [.int (p:Int),x] H2 (λv H4=>H4 D=some (.lst acc)/\(aq H (upd H4 D (.lst (acc++[v])))/\upd H4 D (.lst (acc++[v])) D=some (.lst (acc++[v]))/\Paired (TupAt (upd H4 D (.lst (acc++[v])))) (acc++[v]) (ts.take (i+1))/\(acc++[v]).length=i+1)) E0:=by
   rintro D O i x acc H2 hx ⟨s2,hd,pr,I⟩;obtain⟨t,ht,ab⟩:=Paired.lR hp hx;refine⟨p,x,t,rfl,ab.tups s2.tups,g.rS t (jV ht),λb H4 s4 hb=>?_⟩
   have Xb:H4 D=some (.lst acc):=s4 _ _ hd;refine⟨Xb,(s2.trans s4).put O,ae,?_,by rw[aaz,abt,I]⟩
   rw[aa1,ht];refine Paired.snoc (Paired.imp' (λ_ _ z=>z.tups (s4.tups.trans (bG.put Xb))) pr) ?_
   exact⟨b,rfl,bG.put Xb _ _ hb⟩
  have fin:∀(D:Addr) (acc:List V) (H2:Hp),H D=none->(aq H H2/\H2 D=some (.lst acc)/\Paired (TupAt H2) acc (ts.take xs.length)/\acc.length=xs.length)->
   ∀U,H2 U = none->([V.int (p:Int),.ref U]:List V).length<=sizeLine/\∀w',upd H2 U (.tup acc) w' = none->Q (.ref w') (upd (upd H2 U (.tup acc)) w' (.tup [.int (p:Int),.ref U])):=by
   rintro D acc H2 O ⟨s2,hd,pr,I⟩ U ag;refine⟨dl rfl,λw' hw=>?_⟩
   have n1:aq H2 (upd H2 U (.tup acc)):=aq.new ag;have n2:=n1.trans (aq.new (o:=.tup [.int (p:Int),.ref U]) hw);rw[hlen,aa7]at pr;refine k w' _ (s2.trans n2) ⟨U,acc,ae,?_,Paired.imp' (λ_ _ z=>z.tups n2.tups) pr⟩
   rw[ah (aJ ae hw),ae]
  rcases Z with Z|Z
  ·refine .inl (au rfl ⟨l,rfl,⟨xs,aR.of Z⟩,λD O=>cA (xs:=xs) (λi acc H2=>aq H H2/\H2 D=some (.lst acc)/\Paired (TupAt H2) acc (ts.take i)/\acc.length=i) (start D O) ?_ (dW (by lia)) ?_ ?_⟩)
   ·rintro i acc H2 _ ⟨s2,hd,pr,I⟩;exact⟨aR.of (s2 _ _ Z),hd,acV I⟩
   ·intro i x acc H2 hx Y;exact⟨rfl,au rfl (au rfl (turn D O i x acc H2 hx Y))⟩
   ·intro acc H2 Y;exact⟨D,acc,rfl,.inl ⟨aR.of Y.2.1,fin D acc H2 O Y⟩⟩
  ·refine .inr (au rfl ⟨l,rfl,⟨xs,aU.of Z⟩,λD O=>rP (xs:=xs) (λi acc H2=>aq H H2/\H2 D=some (.lst acc)/\Paired (TupAt H2) acc (ts.take i)/\acc.length=i) (start D O) ?_ (dW (by lia)) ?_ ?_⟩)
   ·rintro i acc H2 _ ⟨s2,hd,pr,I⟩;exact⟨aU.of (s2 _ _ Z),hd,acV I⟩
   ·intro i x acc H2 hx Y;exact⟨rfl,au rfl (au rfl (turn D O i x acc H2 hx Y))⟩
   ·intro acc H2 Y;exact⟨D,acc,rfl,.inl ⟨aR.of Y.2.1,fin D acc H2 O Y⟩⟩
def O6(C:Addr):Sp:=λvs H Q _=>∃(p dx:Addr) (n:Nat),vs=[.ref p,.int (n:Int)]/\H p=some (.ins C dx [])/\1<=n/\n<=10/\
 ∀d q H',H d=none->H q=none->gx C H' p d q n [(0,[])] []->(∀b o,H b=some o->b≠p->H' b=some o)->Q .eX H'
def LC(C:Addr):Sp:=λvs H Q _=>∃(p d q:Addr) (n f:Nat) (m:cL) (hs:List (Nat×cL)) (ds:List kO),vs=[.ref p]/\gx C H p d q n ((f,m)::hs) ds/\
 ∀l,H l=none->Q (.ref l) (upd H l (.lst (aD (m.map (·.1)))))
def CT(C:Addr):Sp:=λvs H Q _=>∃(p d q:Addr) (n f:Nat) (m:cL) (hs:List (Nat×cL)) (ds:List kO),vs=[.ref p]/\gx C H p d q n ((f,m)::hs) ds/\
 ∀l xs H',H l=none->aq H H'->H' l=some (.lst xs)->Paired (TupAt H') xs (m.map (·.2))->Q (.ref l) H'
def E7(C:Addr):Sp:=λvs H Q _=>∃(p d q:Addr) (n f:Nat) (m:cL) (hs:List (Nat×cL)) (ds:List kO),vs=[.ref p]/\gx C H p d q n ((f,m)::hs) ds/\
 ∀w H',aq H H'->bE H' w n (m.map (·.2))->Q (.ref w) H'
def LD(C:Addr):Sp:=λvs H Q _=>∃(p d q:Addr) (n:Nat) (hs:List (Nat×cL)) (ds:List kO),vs=[.ref p]/\gx C H p d q n hs ds/\Q (.int (ds.length:Int)) H
def Rq(C:Addr):Sp:=λvs H Q _=>∃(p d q:Addr) (n f:Nat) (m:cL) (hs:List (Nat×cL)) (ds:List kO) (t:bZ),vs=[.ref p,.int t.1,.int t.2.1,.int t.2.2]/\gx C H p d q n ((f,m)::hs) ds/\
 ik (n:Int) t/\m.length<24/\ds.length<=900/\∀H',Kept H H' p d q->gx C H' p d q n ((f+1,m++[(f,t)])::(f,m)::hs) (.put f::ds)->Q (.int (f:Int)) H'
def O7(C:Addr):Sp:=λvs H Q _=>∃(p d q:Addr) (n f:Nat) (m:cL) (hs:List (Nat×cL)) (ds:List kO) (x:Nat) (t:bZ),vs=[.ref p,.int (x:Int)]/\gx C H p d q n ((f,m)::hs) ds/\
 (x,t)∈m/\ds.length<=900/\∀H',Kept H H' p d q->gx C H' p d q n ((f,without x m)::(f,m)::hs) (.drop x t::ds)->Q .eX H'
def O8(C:Addr):Sp:=λvs H Q _=>∃(p d q:Addr) (n:Nat) (s1 s2:Nat×cL) (hs:List (Nat×cL)) (e:kO) (ds:List kO),vs=[.ref p]/\gx C H p d q n (s1::s2::hs) (e::ds)/\
 ∀H',Kept H H' p d q->gx C H' p d q n (s2::hs) ds->Q .eX H'
def E8{n:Nat}(h:n<=24):n<sizeLine:=cz (by lia)
def dD(T:Txt P w base K mg a):gH P w K mg base wW 3 a.jM a.jN ["self","points"] (O6 a.az):=by
 have eW:=eW T;refine T.wG.ok uO (λvs H Q E h=>?_) (λ_ A _ s H vs Q E hr h=>?_)
 ·obtain⟨p,dx,n,rfl,_⟩:=h;rfl
 ·obtain⟨p,dx,n,rfl,hp,p1,p2,k⟩:=h;refine⟨_,(ai (bL (aH eW hr T.k7.c aE (aa (pv 1) (aa (eg af) af))))
   (ai (ua (pv 0) (pv 1) rfl)
   (ai (ua (pv 0) Nd rfl)
   (ai (ua (pv 0) ak rfl)
   (av (ua (pv 0) (eg af) rfl)))))),?_⟩
  refine uP ?_;intro cH cQ eK fG;refine(au rfl ⟨dl rfl,λl hl=>⟨n,l,[],[],rfl,.inl ae,.nil,⟨p1,p2,aa3 _,(λ_ h=>nomatch h)⟩,λw0 H2 s2 hw=>?_⟩⟩)
  have I:aq H H2:=(aq.new hl).trans s2;have LP:=I _ _ hp;refine(au rfl (au rfl ⟨p,_,dx,_,rfl,LP,T.aB,T.na_points,(by show 0<1000;decide),λd hd=>?_⟩))
  have O:p≠d:=aJ ae hd;refine(au rfl ⟨p,_,dx,_,rfl,(by rw[ah O];exact ae),T.aB,T.na_standing_ties,(by show 1<1000;decide),au rfl ⟨p,_,dx,_,rfl,ae,T.aB,T.na_next_name,(by show _<1000;exact acv (jr _ _ _) (by show 2<1000;decide)),?_⟩⟩)
  refine⟨dl rfl,λq U=>?_⟩
  have Y:p≠q:=aJ ae U;have Y7:∀o o',(upd (upd (upd (upd H2 p o) d (.dK [])) p o') p)=(upd (upd (upd (upd H2 p o) d (.dK [])) p o') p):=λ_ _=>rfl
  refine(au rfl ⟨p,_,dx,_,rfl,(by rw[ah Y];exact ae),T.aB,T.na_done,(by show _<1000;exact acv (jr _ _ _) (acv (Nat.add_le_add_right (jr _ _ _) 1) (by show 3<1000;decide))),?_⟩)
  have LW:d≠q:=λz=>by
   rw[<-z,ah (aa6 O),ah (aa6 O),ae]at U;cases U
  have kp:∀b o,H b=some o->b≠p->b≠d->b≠q->upd (upd (upd (upd (upd (upd H2 p (.ins a.az dx (di "points" (.int (n:Int)) []))) d (.dK [])) p (.ins a.az dx (di "standing_ties" (.ref d) (di "points" (.int (n:Int)) [])))) p (.ins a.az dx (di "next_name" (.int 0) (di "standing_ties" (.ref d) (di "points" (.int (n:Int)) []))))) q (.lst [])) p (.ins a.az dx (di "done" (.ref q) (di "next_name" (.int 0) (di "standing_ties" (.ref d) (di "points" (.int (n:Int)) []))))) b=some o:=λb o e h1 h2 h3=>by
   rw[ah h1,ah h3,ah h1,ah h1,ah h2,ah h1];exact I _ _ e
  have Z:H d=none:=none_of (λb o e h1=>by rw[ah h1];exact I _ _ e) hd (aa6 O)
  have uq:H q=none:=by
   rw[ah (aa6 Y),ah (aa6 Y),ah (aa6 LW),ah (aa6 Y)]at U;exact I.free U
  refine k d q _ Z uq ⟨.nil,p1,p2,⟨dx,0,[],[],rfl,Eq.trans ae (aa4 (λl=>some (HO.ins a.az dx l)) (kA n d 0 q)),[],?_,.refl _,(λ_ h=>nomatch h)⟩,[],?_,.nil⟩ λb o e h1=>?_
  ·rw[ah (aa6 O),ah LW,ah (aa6 O),ah (aa6 O),ae];rfl
  ·rw[ah (aa6 Y),ae]
  ·exact kp b o e h1 (aJ e Z) (aJ e uq)
def ja(T:Txt P w base K mg a):gH P w K mg base wW 1 a.iU a.iV ["self"] (LC a.az):=by
 refine T.vn.ok tK (λvs H Q E h=>?_) (λ_ A _ s H vs Q E hr h=>?_)
 ·obtain⟨p,d,q,n,f,m,hs,ds,rfl,_⟩:=h;rfl
 ·obtain⟨p,d,q,n,f,m,hs,ds,rfl,S,k⟩:=h;refine⟨_,(av (aF (cF (QG rfl) (by rfl) T.tR adf (aa (eO K (pv 0)) af)))),?_⟩
  have ok:=S.ch.ok;obtain⟨dx,_,_,_,e,U,hd⟩:=S.ob;cases e;obtain⟨kvs,ns,h1,h2,h3,h4⟩:=hd.sorted ok;refine(au rfl ⟨p,_,dx,_,_,rfl,U,T.aB,T.na_standing_ties,nc,d,kvs,ns,rfl,h1,h2,h3,λl I Y Z O=>?_⟩)
  rw[h4 I Z O];exact k l Y
def b9(T:Txt P w base K mg a):gH P w K mg base wW 2 a.gp a.gq ["self"] (CT a.az):=by
 have ja:=ja T;refine T.qx.ok o8 (λvs H Q E h=>?_) (λ_ A _ s H vs Q E hr h=>?_)
 ·obtain⟨p,d,q,n,f,m,hs,ds,rfl,_⟩:=h;rfl
 ·obtain⟨p,d,q,n,f,m,hs,ds,rfl,S,k⟩:=h;refine⟨_,(av (aF (cD (own:=["name"]) (fq:=["self"]) (js:=[0]) (aI (aj dX) ["self"]) rfl (wX K (bX (pv 0) T.aB T.tQ ja (hr.mono (by decide)) T.vo .nil aE)) (λ_ _ _ _=>(bq 0 (lG ["name","self"]))) (λ_ _ _ _=>cg) (λ_ _ _ _=>(IW (by exact rN hr) (eO K (pv 1)) (pv 0) (λ_ _=>rfl)))))),?_⟩
  have ok:=S.ch.ok;obtain⟨dx,_,_,_,e,Y,hd⟩:=S.ob;cases e;have few:=ok.few;refine(au rfl ⟨p,dx,_,rfl,Y,fF (by decide +kernel) (by decide +kernel) (by decide +kernel) (by decide +kernel),p,d,q,n,f,m,hs,ds,rfl,S,λl Z=>⟨l,rfl,⟨_,aR.of ae⟩,λD U=>?_⟩⟩)
  have s1:aq H (upd H l (.lst (aD (m.map (·.1))))):=aq.new Z;have Zb:H D=none:=s1.free U;have ab:l≠D:=aJ ae U;refine cA (xs:=aD (m.map (·.1))) (λi acc H2=>aq (upd H l (.lst (aD (m.map (·.1))))) H2/\H2 D=some (.lst acc)/\Paired (TupAt H2) acc ((m.map (·.2)).take i)/\acc.length=i) ⟨aq.new U,ae,.nil,rfl⟩ ?_ (by rw[aG,aac];exact dW few) ?_ ?_
  ·rintro i acc H2 _ ⟨s2,hd2,pr,I⟩;exact⟨aR.of (s2 _ _ ae),hd2,acV I⟩
  ·rintro i x acc H2 hx ⟨s2,hd2,pr,I⟩;obtain⟨nm,O,rfl⟩:=iK hx;rw[aaw]at O;obtain⟨⟨nm',t⟩,hmt,e⟩:=vY.mp O;have e:nm' = nm:=e;subst e;obtain⟨kvs,b,g1,g2,g3⟩:=(hd.same (s1.trans s2)).get ok (jV hmt);have LP:=s2 _ _ (s1 _ _ Y);refine⟨rfl,au rfl ⟨p,_,dx,_,_,rfl,LP,T.aB,T.na_standing_ties,nc,_,rfl,d,.ref b,rfl,(by have z:=yc.k (k:=kN nm') g1;rw[g2]at z;exact z),hd2,s2.put U,ae,?_,by rw[aaz,abt,I]⟩⟩
   rw[aa1,aaw,hmt];exact Paired.snoc (Paired.imp' (λ_ _ z=>z.tups (bG.put hd2)) pr) ⟨b,rfl,bG.put hd2 _ _ g3⟩
  ·rintro acc H2 ⟨s2,hd2,pr,I⟩;rw[aG,aac,show m.length=(m.map (·.2)).length from(aac _).symm,aa7]at pr
   exact k D acc H2 Zb (s1.trans s2) hd2 pr
def aP(T:Txt P w base K mg a):gH P w K mg base wW 3 a.gV a.gW ["self"] (E7 a.az):=by
 have eW:=eW T;have b9:=b9 T;refine T.rA.ok qw (λvs H Q E h=>?_) (λ_ A _ s H vs Q E hr h=>?_)
 ·obtain⟨p,d,q,n,f,m,hs,ds,rfl,_⟩:=h;rfl
 ·obtain⟨p,d,q,n,f,m,hs,ds,rfl,S,k⟩:=h;refine⟨_,(av (aF (aH eW hr T.k7.c aE (aa (eO K (pv 0)) (aa (bX (pv 0) T.aB T.jD b9 (hr.mono (by decide)) T.jW .nil aE) af))))),?_⟩
  have ok:=S.ch.ok;obtain⟨dx,_,_,_,e,O,hd⟩:=S.ob;cases e;refine(au rfl ⟨p,_,dx,_,_,rfl,O,T.aB,T.na_points,AZ,_,rfl,p,dx,_,rfl,O,fF (by decide +kernel) (by decide +kernel) (by decide +kernel) (by decide +kernel),p,d,q,n,f,m,hs,ds,rfl,S,λl xs H2 Y s2 I pr=>?_⟩)
  exact⟨n,l,xs,_,rfl,.inl I,pr,ok.BL S.p1 S.p2,λU H3 s3 hw=>k U H3 (s2.trans s3) hw⟩
def fZ(T:Txt P w base K mg a):gH P w K mg base wW 1 a.iW a.iX ["self"] (LD a.az):=by
 refine T.vp.ok tM (λvs H Q E h=>?_) (λ_ A _ s H vs Q E hr h=>?_)
 ·obtain⟨p,d,q,n,hs,ds,rfl,_⟩:=h;rfl
 ·obtain⟨p,d,q,n,hs,ds,rfl,S,k⟩:=h;refine⟨_,(av (aF (cG K T.eG (aa (eO K (pv 0)) af)))),?_⟩;obtain⟨dx,f,m,hs',rfl,hp,hd⟩:=S.ob;obtain⟨ys,hq,pr⟩:=S.dn;have I:=pr.length;rw[adR]at I;refine(au rfl ⟨p,_,dx,_,_,rfl,hp,T.aB,T.na_done,su,q,ys,rfl,.inl (aR.of hq),?_⟩);rw[I];exact k
def b8(T:Txt P w base K mg a):gH P w K mg base wW 3 a.kZ a.k6 ["self","one","other","length"] (Rq a.az):=by
 have eW:=eW T;have b9:=b9 T;refine T.y9.ok jJ (λvs H Q E h=>?_) (λ_ A _ s H vs Q E hr h=>?_)
 ·obtain⟨p,d,q,n,f,m,hs,ds,t,rfl,_⟩:=h;rfl
 ·obtain⟨p,d,q,n,f,m,hs,ds,t,rfl,S,gt,few,XZ,k⟩:=h;refine⟨_,(ai (aN (i:=4) jJ.nd rfl (Or.inl rfl) (cy (aa (pv 1) (aa (pv 2) (aa (pv 3) af)))))
   (ai (QH (av (bL (aH eW hr T.k7.c aE (aa (eO K (pv 0)) (aa (aS (Z6 K) (bX (pv 0) T.aB T.jD b9 (hr.mono (by decide)) T.jW .nil aE) (eg (aa (pv 4) af))) af))))))
   (ai (aN (i:=5) jJ.nd rfl (Or.inl rfl) (eO K (pv 0)))
   (ai (B4 (by exact rN hr) (eO K (pv 0)) (pv 5) (pv 4) rfl)
   (ai (ua (pv 0) (aS ie (pv 5) ak) rfl)
   (ai (bL (Jm K (lB abe abl abm cW (eO K (pv 0)) (aa (cy (aa (pv 5) (aa iF af))) af))))
   (av (aF (pv 5))))))))),?_⟩
  refine wm ?_;intro cH cQ eK fG gR mj;have ok:=S.ch.ok;refine(au rfl (au rfl (au rfl ⟨dl rfl,λb hb=>?_⟩)))
  have s1:aq H (upd H b (.tup (mC t))):=aq.new hb;have ab:upd H b (.tup (mC t)) b=some (.tup (mC t)):=ae;have S1:=S.same s1;obtain⟨dx,_,_,_,e,Eg,a5⟩:=S1.ob;cases e;refine(au rfl ⟨p,_,dx,_,_,rfl,Eg,T.aB,T.na_points,AZ,_,rfl,p,dx,_,rfl,Eg,fF (by decide +kernel) (by decide +kernel) (by decide +kernel) (by decide +kernel),p,d,q,n,f,m,hs,ds,rfl,S1,λl xs H2 hl s2 ax pr=>?_⟩)
  have hlen:=pr.length;rw[aac]at hlen;refine(au rfl ⟨dl rfl,λl2 aT=>?_⟩)
  have s3:aq H2 (upd H2 l2 (.lst [.ref b])):=aq.new aT;refine⟨l,l2,xs,[.ref b],rfl,rfl,aR.of (s3 _ _ ax),aR.of ae,dW (by show xs.length+1<=24;lia),λl3 UN=>?_⟩
  have s4:=s3.trans (aq.new (o:=.lst (xs++[.ref b])) UN);have ag:=(ok.put gt few).BL S.p1 S.p2;rw[aaJ]at ag;refine⟨n,l3,xs++[.ref b],_,rfl,.inl ae,Paired.snoc (Paired.imp' (λ_ _ z=>z.tups s4.tups) pr) ⟨b,rfl,s4 _ _ (s2 _ _ ab)⟩,ag,λw0 I s5 hw=>?_⟩
  have O:aq H I:=((s1.trans s2).trans s4).trans s5;have S5:=S.same O;have Vr:I b=some (.tup (mC t)):=s5 _ _ (s4 _ _ (s2 _ _ ab));obtain⟨dx,_,_,_,e,Z,Y7⟩:=S5.ob;cases e;obtain⟨ys,hq5,pd5⟩:=S5.dn;obtain⟨kvs,h1,h2,h3⟩:=Y7.put ok.fresh Vr;have Fw:p≠d:=aQ Z h1 (by intro z;cases z)
  have LF:p≠q:=aQ Z hq5 (by intro z;cases z)
  have LW:d≠q:=aQ h1 hq5 (by intro z;cases z)
  refine(au rfl ⟨p,_,dx,_,_,rfl,Z,T.aB,T.na_next_name,QK,?_⟩);refine(au rfl (au rfl ⟨p,_,dx,_,_,rfl,Z,T.aB,T.na_standing_ties,nc,_,rfl,d,_,rfl,B3.k (k:=kN f) h1 (E8 (by lia)),?_⟩))
  have a3:upd I d (.dK (putK kvs (kN f) (.ref b))) p=some (.ins a.az dx (j7 n d f q)):=by rw[ah Fw];exact Z
  refine(au rfl (dz (au rfl ⟨p,_,dx,_,rfl,a3,T.aB,T.na_next_name,(by show 4<1000;decide),?_⟩)))
  have e7:di "next_name" (.int ((f:Int)+1)) (j7 n d f q)=j7 n d (f+1) q:=AY n d f (f+1) q;have U:upd (upd I d (.dK (putK kvs (kN f) (.ref b)))) p (.ins a.az dx (di "next_name" (.int ((f:Int)+1)) (j7 n d f q))) p=some (.ins a.az dx (j7 n d (f+1) q)):=by rw[ae,e7]
  have X0:upd (upd I d (.dK (putK kvs (kN f) (.ref b)))) p (.ins a.az dx (di "next_name" (.int ((f:Int)+1)) (j7 n d f q))) q=some (.lst ys):=by rw[ah (aa6 LF),ah (aa6 LW)];exact hq5
  have ar:upd (upd I d (.dK (putK kvs (kN f) (.ref b)))) p (.ins a.az dx (di "next_name" (.int ((f:Int)+1)) (j7 n d f q))) d=some (.dK (putK kvs (kN f) (.ref b))):=by rw[ah (aa6 Fw),ae]
  have Zc:bG I (upd (upd I d (.dK (putK kvs (kN f) (.ref b)))) p (.ins a.az dx (di "next_name" (.int ((f:Int)+1)) (j7 n d f q)))):=λc zs e=>by
   rw[ah (aQ e Z (by intro z;cases z)),ah (aQ e h1 (by intro z;cases z))]
   exact e
  have aw:∀c o,I c=some o->c≠p->c≠d->c≠q->upd (upd I d (.dK (putK kvs (kN f) (.ref b)))) p (.ins a.az dx (di "next_name" (.int ((f:Int)+1)) (j7 n d f q))) c=some o:=λc o e h1 h2 _=>by
   rw[ah h1,ah h2];exact e
  generalize upd (upd I d (.dK (putK kvs (kN f) (.ref b)))) p (.ins a.az dx (di "next_name" (.int ((f:Int)+1)) (j7 n d f q)))=H7 at U X0 ar Zc aw;refine(au rfl ⟨p,_,dx,_,_,rfl,U,T.aB,T.na_done,su,.inl ⟨rfl,_,aR.of X0⟩,au rfl ⟨dl rfl,λb2 CK=>?_⟩⟩)
  have Y:aq H7 (upd H7 b2 (.tup [.int (f:Int),.eX])):=aq.new CK;have a4:=pd5.length;rw[adR]at a4;refine⟨q,ys,_,rfl,rfl,Y _ _ X0,cz (by lia),au rfl (?_)⟩
  have t9:bG H7 (upd (upd H7 b2 (.tup [.int (f:Int),.eX])) q (.lst (ys++[.ref b2]))):=Y.tups.trans (bG.put (Y _ _ X0));refine k _ ⟨(O.tups.trans Zc).trans t9,λc o e h1 h2 h3=>?_⟩ ⟨.put S.ch gt few,S.p1,S.p2,⟨dx,f+1,m++[(f,t)],_,rfl,?_,?_⟩,ys++[.ref b2],ae,?_⟩
  ·rw[ah h3];exact Y _ _ (aw c o (O _ _ e) h1 h2 h3)
  ·rw[ah LF];exact Y _ _ U
  ·refine h3 _ _ (Zc.trans t9) ?_ (.refl _);rw[ah LW];exact Y _ _ ar
  ·rw[adY];refine Paired.snoc (Paired.imp' (λ_ _ z=>z.tups (Zc.trans t9)) pd5) ⟨b2,rfl,bG.put (Y _ _ X0) _ _ ae⟩
def jT(T:Txt P w base K mg a):gH P w K mg base wW 1 a.jO a.jP ["self","name"] (O7 a.az):=by
 refine T.wH.ok uQ (λvs H Q E h=>?_) (λ_ A _ s H vs Q E hr h=>?_)
 ·obtain⟨p,d,q,n,f,m,hs,ds,x,t,rfl,_⟩:=h;rfl
 ·obtain⟨p,d,q,n,f,m,hs,ds,x,t,rfl,S,hx,XZ,k⟩:=h;refine⟨_,(ai (bW (SK (Ke (by exact rN hr) (pv 1) (eO K (pv 0)))) fb aY)
   (av (bL (Jm K (lB abe abl abm cW (eO K (pv 0)) (aa (cy (aa (pv 1) (aa (DQ (eO K (pv 0)) (pv 1) ⟨rfl,rfl,rfl,rfl⟩) af))) af)))))),?_⟩
  refine dO ?_;intro cH cQ;have ok:=S.ch.ok;obtain⟨dx,_,_,_,e,U,hd⟩:=S.ob;cases e;obtain⟨ys,hq,pd⟩:=S.dn;obtain⟨kvs,b,h1,h2,Y,h4⟩:=hd.pop ok hx;have Fw:p≠d:=aQ U h1 (by intro z;cases z)
  have LF:p≠q:=aQ U hq (by intro z;cases z)
  have LW:d≠q:=aQ h1 hq (by intro z;cases z)
  refine(au rfl (au rfl ⟨p,_,dx,_,_,rfl,U,T.aB,T.na_standing_ties,nc,d,_,rfl,(by have z:=yc.k (k:=kN x) h1;rw[h2]at z;exact z),au rfl (?_)⟩))
  refine dN ?_;have Eg:upd H d (.dK (bO kvs (kN x))) p=some (.ins a.az dx (j7 n d f q)):=by rw[ah Fw];exact U
  have I:upd H d (.dK (bO kvs (kN x))) q=some (.lst ys):=by rw[ah (aa6 LW)];exact hq
  have Z:upd H d (.dK (bO kvs (kN x))) b=some (.tup (mC t)):=by rw[ah (aQ Y h1 (by intro z;cases z))];exact Y
  have ab:upd H d (.dK (bO kvs (kN x))) d=some (.dK (bO kvs (kN x))):=ae;have t1:bG H (upd H d (.dK (bO kvs (kN x)))):=λc zs e=>by
   rw[ah (aQ e h1 (by intro z;cases z))]
   exact e
  have k1:∀c o,H c=some o->c≠p->c≠d->c≠q->upd H d (.dK (bO kvs (kN x))) c=some o:=λc o e _ h2 _=>by
   rw[ah h2];exact e
  refine(au rfl ⟨p,_,dx,_,_,rfl,U,T.aB,T.na_done,su,.inl ⟨rfl,_,aR.of hq⟩,au rfl (au rfl ⟨p,_,dx,_,_,rfl,U,T.aB,T.na_standing_ties,nc,d,rfl,.inl ⟨_,.inl h1⟩,au rfl ⟨kvs,kN x,.ref b,h1,rfl,h2,?_⟩⟩)⟩);generalize upd H d (.dK (bO kvs (kN x)))=H1 at Eg I Z ab t1 k1;refine⟨dl rfl,λb2 CK=>?_⟩
  have O:aq H1 (upd H1 b2 (.tup [.int (x:Int),.ref b])):=aq.new CK;have ag:=pd.length;rw[adR]at ag;refine⟨q,ys,_,rfl,rfl,O _ _ I,cz (by lia),?_⟩
  have t9:bG H1 (upd (upd H1 b2 (.tup [.int (x:Int),.ref b])) q (.lst (ys++[.ref b2]))):=O.tups.trans (bG.put (O _ _ I));refine k _ ⟨t1.trans t9,λc o e h1 h2 Y=>?_⟩ ⟨.drop S.ch hx,S.p1,S.p2,⟨dx,f,without x m,_,rfl,?_,?_⟩,ys++[.ref b2],ae,?_⟩
  ·rw[ah Y];exact O _ _ (k1 c o e h1 h2 Y)
  ·rw[ah LF];exact O _ _ Eg
  ·refine h4 _ (t1.trans t9) ?_;rw[ah LW];exact O _ _ ab
  ·rw[adY];refine Paired.snoc (Paired.imp' (λ_ _ z=>z.tups (t1.trans t9)) pd) ⟨b2,b,rfl,bG.put (O _ _ I) _ _ ae,t9 _ _ Z⟩
def jU(T:Txt P w base K mg a):gH P w K mg base wW 1 a.jQ a.jR ["self"] (O8 a.az):=by
 refine T.wJ.ok mT (λvs H Q E h=>?_) (λ_ A _ s H vs Q E hr h=>?_)
 ·obtain⟨p,d,q,n,s1,s2,hs,e,ds,rfl,_⟩:=h;rfl
 ·obtain⟨p,d,q,n,s1,s2,hs,e,ds,rfl,S,k⟩:=h;refine⟨_,(ai (bW (aO jq (cG K T.eG (aa (eO K (pv 0)) af)) ak (aM _)) fb aY)
   (ai (aN (i:=1) mT.nd rfl (Or.inl rfl) (aay K (F6 abe PySem.F.slot_list_pop PySem.F.type_list_pop Tj (eO K (pv 0)))))
   (av (bW (aO oz (aK (cT K) (pv 1) ak) iF (aM _)) (ai (bL (DQ (eO K (pv 0)) (aK (cT K) (pv 1) ak) ⟨rfl,rfl,rfl,rfl⟩))
   (av (ua (pv 0) (aK (cT K) (pv 1) ak) rfl))) (av (B4 (by exact rN hr) (eO K (pv 0)) (aK (cT K) (pv 1) ak) (aK (cT K) (pv 1) ak) rfl)))))),?_⟩
  refine uR ?_;intro cH cQ eK fG gR mj;obtain⟨dx,f,m,_,e0,Y,hd⟩:=S.ob;cases e0;obtain⟨ys,hq,pd⟩:=S.dn;rw[adY]at pd;obtain⟨ys',y,rfl,pd',hy⟩:=Ni pd;obtain⟨agg,hd0,xG⟩:=hd.len;have Fw:p≠d:=aQ Y hd0 (by intro z;cases z)
  have LF:p≠q:=aQ Y hq (by intro z;cases z)
  have LW:d≠q:=aQ hd0 hq (by intro z;cases z)
  refine(au rfl ⟨p,_,dx,_,_,rfl,Y,T.aB,T.na_done,su,vS rfl (.inl (aR.of hq)) ⟨rfl,au rfl (lQ (λz=>by have z:=V.int.inj z;rw[aaz]at z;simp at z;lia) ?_)⟩⟩)
  refine(au rfl ⟨p,_,dx,_,_,rfl,Y,T.aB,T.na_done,su,.inl ⟨rfl,_,aR.of hq⟩,q,_,y,rfl,rfl,hq,by simp,?_⟩)
  rw[List.dropLast_concat];have U:upd H q (.lst ys') p=some (.ins a.az dx (j7 n d f q)):=by rw[ah LF];exact Y
  have I:upd H q (.lst ys') q=some (.lst ys'):=ae;have t1:bG H (upd H q (.lst ys')):=bG.put hq;have k1:∀c o,H c=some o->c≠p->c≠d->c≠q->upd H q (.lst ys') c=some o:=λc o e _ _ h3=>by
   rw[ah h3];exact e
  have O:eB (upd H q (.lst ys')) d m:=hd.keep t1 (by rw[ah LW])
  generalize upd H q (.lst ys')=H1 at U I t1 k1 O;have WZ:=hy.tups t1;have Z:Paired (ye H1) ys' ds.reverse:=Paired.imp' (λ_ _ z=>z.tups t1) pd'
  cases S.ch with
  | put c g hl =>
    obtain⟨b,rfl,hb⟩:=WZ
    rename_i f0 m0 t0
    refine(au rfl (cU (aU.of hb) (ao (j:=1) rfl) ⟨rfl,au rfl (fC ?_)⟩));obtain⟨kvs,bt,h1,h2,h3,h4⟩:=O.pop (c.ok.put g hl) (n:=f0) (t:=t0) (jY _ aaF);refine(au rfl ⟨p,_,dx,_,_,rfl,U,T.aB,T.na_standing_ties,nc,d,rfl,.inl ⟨_,.inl h1⟩,au rfl (cU (aU.of hb) (ao (j:=0) rfl) ⟨kvs,kN f0,.ref bt,h1,rfl,h2,?_⟩)⟩);have LP:upd H1 d (.dK (bO kvs (kN f0))) p=some (.ins a.az dx (j7 n d (f0+1) q)):=by rw[ah Fw];exact U
    have CK:upd H1 d (.dK (bO kvs (kN f0))) b=some (.tup [.int (f0:Int),.eX]):=by rw[ah (aQ hb h1 (by intro z;cases z))];exact hb
    refine(au rfl (cU (aU.of CK) (ao (j:=0) rfl) (au rfl ⟨p,_,dx,_,rfl,LP,T.aB,T.na_next_name,(by show 4<1000;decide),?_⟩)))
    have t3:bG H1 (upd (upd H1 d (.dK (bO kvs (kN f0)))) p (.ins a.az dx (di "next_name" (.int (f0:Int)) (j7 n d (f0+1) q)))):=λc zs e=>by
     rw[ah (aQ e U (by intro z;cases z)),ah (aQ e h1 (by intro z;cases z))]
     exact e
    refine k _ ⟨t1.trans t3,λc o e g1 g2 g3=>?_⟩ ⟨c,S.p1,S.p2,⟨dx,f0,m0,_,rfl,Eq.trans ae (aa4 (λl=>some (HO.ins a.az dx l)) (AY n d (f0+1) f0 q)),?_⟩,ys',?_,Paired.imp' (λ_ _ z=>z.tups t3) Z⟩
    ·rw[ah g1,ah g2];exact k1 c o e g1 g2 g3
    ·have z:=h4 _ t3 (by rw[ah (aa6 Fw),ae])
     rw[DS c.ok.fresh]at z;exact z
    ·rw[ah (aa6 LF),ah (aa6 LW)];exact I
  | drop c hm =>
    obtain⟨b,bt,rfl,hb,US⟩:=WZ
    rename_i m0 x0 t0
    refine(au rfl (cU (aU.of hb) (ao (j:=1) rfl) ⟨rfl,au rfl (lQ (λz=>nomatch z) ?_)⟩))
    obtain⟨kvs,h1,h2,h3⟩:=O.put (n:=x0) (t:=t0) (b:=bt) (λz=>by
     obtain⟨e,he,q⟩:=aaH.mp z;have:=(aaX.mp he).2;simp[q]at this) US
    refine(au rfl (cU (aU.of hb) (ao (j:=1) rfl) (au rfl ⟨p,_,dx,_,_,rfl,U,T.aB,T.na_standing_ties,nc,_,rfl,cU (aU.of hb) (ao (j:=0) rfl) ⟨d,_,rfl,B3.k (k:=kN x0) h1 (E8 (by rw[h2];exact(c.ok.drop x0).few)),?_⟩⟩)))
    have t3:bG H1 (upd H1 d (.dK (putK kvs (kN x0) (.ref bt)))):=λc zs e=>by
     rw[ah (aQ e h1 (by intro z;cases z))]
     exact e
    refine k _ ⟨t1.trans t3,λc o e g1 g2 g3=>?_⟩ ⟨c,S.p1,S.p2,⟨dx,f,m0,_,rfl,?_,?_⟩,ys',?_,Paired.imp' (λ_ _ z=>z.tups t3) Z⟩
    ·rw[ah g2];exact k1 c o e g1 g2 g3
    ·rw[ah Fw];exact U
    ·exact h3 _ _ t3 ae (perm_back c.ok.nodup hm)
    ·rw[ah (aa6 LW)];exact I
def CU(C t1 t2:Addr)(Ro O0:Pos):Sp:=λvs H Q _=>∃(p d q:Addr) (n f:Nat) (m:cL) (hs:List (Nat×cL)) (ds:List kO),∃g:aA n (m.map (·.2)),vs=[.ref p]/\gx C H p d q n ((f,m)::hs) ds/\H t1=some (.jF (dU (lA "least_ways") Ro))/\H t2=some (.jF (dU (lA "by_length") O0))/\
 ∀b ys (I:List Rp) H',aq H H'->H' b=some (.tup ys)->Paired (Ah H') ys I->RM.LB g.N (aW (m.map (·.2))) (I.map (·.1))->(I.map (·.1)).Pairwise (gi (m.map (·.2)))->MarksOf g.N (I.map (·.1)) (I.map (·.2.1))->(∀t∈I,LR n t.2.2/\sW n (m.map (·.2)) g t.2.1 t.2.2)->(∃bs,RM.En g.N (aW (m.map (·.2))) (g.N.bf.map λc=>2^c) bs []/\(I.map (·.1)).Perm bs)->Q (.ref b) H'
def wN(C t1 t2:Addr)(Ro O0:Pos):Sp:=λvs H Q _=>∃(p d q:Addr) (n f:Nat) (m:cL) (hs:List (Nat×cL)) (ds:List kO),∃g:aA n (m.map (·.2)),vs=[.ref p]/\gx C H p d q n ((f,m)::hs) ds/\H t1=some (.jF (dU (lA "least_ways") Ro))/\H t2=some (.jF (dU (lA "by_length") O0))/\
 ∀D rs H',H D=none->aq H H'->H' D=some (.lst ((rs.map (lenOf (m.map (·.2)))).map V.int))->RM.LB g.N (aW (m.map (·.2))) rs->rs.Pairwise (gi (m.map (·.2)))->(∃bs,RM.En g.N (aW (m.map (·.2))) (g.N.bf.map λc=>2^c) bs []/\rs.Perm bs)->Q (.ref D) H'
def dY(T:Txt P w base K mg a):gH P w K mg base wW 12 a.gr a.gv ["self"] (CU a.az a.bS a.cV bB cE):=by
 have nS:=nS T;have aP:=aP T;refine T.qy.ok o9 (λvs H Q E h=>?_) (λ_ A _ s H vs Q E hr h=>?_)
 ·obtain⟨p,d,q,n,f,m,hs,ds,g,rfl,_⟩:=h;rfl
 ·obtain⟨p,d,q,n,f,m,hs,ds,g,rfl,S,I,O,k⟩:=h;refine⟨_,(av (aF (aH nS hr T.nJ.c aE (aa (bX (pv 0) T.aB T.bx aP (hr.mono (by decide)) T.bA .nil aE) af)))),?_⟩
  obtain⟨dx,_,_,_,e,U,hd⟩:=S.ob;cases e;refine(au rfl ⟨p,dx,_,rfl,U,fF (by decide +kernel) (by decide +kernel) (by decide +kernel) (by decide +kernel),p,d,q,n,f,m,hs,ds,rfl,S,λY H1 s1 hw=>?_⟩)
  exact⟨Y,n,_,g,rfl,hw,s1 _ _ I,s1 _ _ O,λb ys Z H2 _ s2 hb pr lb pw mo al lr _=>k b ys Z H2 (s1.trans s2) hb pr lb pw mo al lr⟩
def bI(T:Txt P w base K mg a):gH P w K mg base wW 12 a.eT a.eU ["self"] (wN a.az a.bS a.cV bB cE):=by
 have vB:=vB T;have aP:=aP T;refine T.nL.ok mU (λvs H Q E h=>?_) (λ_ A _ s H vs Q E hr h=>?_)
 ·obtain⟨p,d,q,n,f,m,hs,ds,g,rfl,_⟩:=h;rfl
 ·obtain⟨p,d,q,n,f,m,hs,ds,g,rfl,S,I,O,k⟩:=h;refine⟨_,(av (aF (aH vB hr T.vh.c aE (aa (bX (pv 0) T.aB T.bx aP (hr.mono (by decide)) T.bA .nil aE) af)))),?_⟩
  obtain⟨dx,_,_,_,e,U,hd⟩:=S.ob;cases e;refine(au rfl ⟨p,dx,_,rfl,U,fF (by decide +kernel) (by decide +kernel) (by decide +kernel) (by decide +kernel),p,d,q,n,f,m,hs,ds,rfl,S,λY H1 s1 hw=>?_⟩)
  exact⟨Y,n,_,g,rfl,hw,s1 _ _ I,s1 _ _ O,λD rs H2 Z s2 j9 lb pw lr=>k D rs H2 (s1.free Z) (s1.trans s2) j9 lb pw lr⟩
def Rr(K:bJ):Sp:=λvs H Q _=>∃(a:Addr) (ns:List Int) (k:Nat),vs=[.ref a,.int (k:Int)]/\aR K H a (ns.map V.int)/\∀z,Q (.int z) H
def Rt:Sp:=λvs H Q _=>∃c,vs=[.int c]/\∀z,0<=z->z<1000000007->Q (.int z) H
inductive Dd where
 | put (t:bZ)
 | drop (x:Nat)
def ddV:Dd->List V
 | .put t=>[.str "put",.int t.1,.int t.2.1,.int t.2.2]
 | .drop x=>[.str "drop",.int (x:Int)]
def O9(H:Hp)(v:V)(d:Dd):Prop:=∃c,v = .ref c/\H c=some (.tup (ddV d))
def O9.tups{H H' : Hp}{v:V}{d:Dd}(s:bG H H')(h:O9 H v d):O9 H' v d:=let⟨c,e,h1⟩:=h;⟨c,e,s _ _ h1⟩
def stp(s:Nat×cL):Dd->Nat×cL
 | .put t=>(s.1+1,s.2++[(s.1,t)])
 | .drop x=>(s.1,without x s.2)
def Zd(n:Nat)(s:Nat×cL):Dd->Prop
 | .put t=>ik (n:Int) t/\s.2.length<n+3
 | .drop x=>∃t,(x,t)∈s.2
def Rn(n:Nat):Nat×cL->List Dd->Prop
 | _,[]=>True
 | s,d::r=>Zd n s d/\Rn n (stp s d) r
def pL(s:Nat×cL)(ds:List Dd):Nat×cL:=ds.foldl stp s
def vC(s:Nat×cL)(ds:List Dd)(d:Dd):pL s (ds++[d])=stp (pL s ds) d:=by
 unfold pL;rw[acC];rfl
def Rn.snoc{n:Nat}{d:Dd}:∀{ds:List Dd} {s:Nat×cL},Rn n s ds->Zd n (pL s ds) d->Rn n s (ds++[d])
 | [],_,_,c=>⟨c,trivial⟩
 | _::_,_,⟨h1,h2⟩,c=>⟨h1,Rn.snoc h2 c⟩
def Rn.X3{n:Nat}{d:Dd}:∀{ds:List Dd} {s:Nat×cL} {i:Nat},Rn n s ds->ds[i]?=some d->Zd n (pL s (ds.take i)) d
 | _::_,_,0,⟨h1,_⟩,e=>by cases e;exact h1
 | x::r,s,i+1,⟨_,h2⟩,e=>Rn.X3 (ds:=r) (s:=stp s x) (i:=i) h2 e
def CV{n:Nat}:∀{ds:List Dd} {s:Nat×cL},n<=6->c7 n s.1 s.2->Rn n s ds->c7 n (pL s ds).1 (pL s ds).2
 | [],_,_,h,_=>h
 | .put t::r,s,hn,h,⟨⟨g,hl⟩,h2⟩=>CV (ds:=r) hn (h.put g (by lia)) h2
 | .drop x::r,s,hn,h,⟨_,h2⟩=>CV (ds:=r) hn (h.drop x) h2
def zl:∀(l:List Nat) (j:Nat),(aD l).eraseIdx j=aD (l.eraseIdx j)
 | [],_=>rfl
 | _::_,0=>rfl
 | x::r,j+1=>aa4 (V.int (x:Int) :: ·) (zl r j)
def qJ:∀{m:cL} {k x:Nat},(m.map (·.1)).Nodup->(m.map (·.1))[k]?=some x->(m.map (·.1)).eraseIdx k=(without x m).map (·.1)
 | [],_,_,_,h=>by cases h
 | e::r,0,x,hn,h=>by
   have ex:e.1=x:=Option.some.inj h;rw[aaR]at hn;have h1:=(abn.mp hn).1;rw[ex]at h1;have q:=m9 (n:=x) (m:=r) h1;unfold Ring.without at q ⊢;rw[aa2,aaf (by rw[ex];simp),q]
   rfl
 | e::r,k+1,x,hn,h=>by
   rw[aaR]at hn h;have hx:x∈r.map (·.1):=jV (show(r.map (·.1))[k]?=some x from h)
   have ne:e.1≠x:=λz=>(abn.mp hn).1 (z▸hx)
   have I:=qJ (m:=r) (k:=k) (x:=x) (abn.mp hn).2 h;have hr:without x (e::r)=e::without x r:=by
    unfold Ring.without;rw[aa2,aai (by simp[ne])]
   rw[hr,aaR,aaR,<-I];rfl
def LX(p:Nat):Int:=if(p:Int)-1 > 1 then(p:Int)-1 else 1
def UT{p:Nat}(h:2<=p):LX p=(p:Int)-1:=by
 unfold LX
 split<;>lia
def Su(y:Int):∃m,Fi [V.int 9,.int 1,.int (10^(30:Int).toNat)] (y/7%3)=some (.int m)/\1<=m/\m<=1000000000000000000000000000000:=by
 obtain⟨h0,h1⟩:=qB (y/7) 3 (by decide)
 generalize y/7%3=i at h0 h1;have hi:i=0\/i=1\/i=2:=by lia
 rcases hi with rfl|rfl|rfl
 ·exact⟨9,ao (j:=0) rfl,by decide,by decide⟩
 ·exact⟨1,ao (j:=1) rfl,by decide,by decide⟩
 ·exact⟨10^(30:Int).toNat,ao (j:=2) rfl,by decide,by decide⟩
def X4(y:Int):∃m:Nat,Fi [V.int 2,.int 3,.int 3,.int 4,.int 4,.int 5,.int 5,.int 6] (y%8)=some (.int (m:Int))/\2<=m/\m<=6:=by
 obtain⟨h0,h1⟩:=qB y 8 (by decide)
 generalize y%8=i at h0 h1;have hi:i=0\/i=1\/i=2\/i=3\/i=4\/i=5\/i=6\/i=7:=by lia
 rcases hi with rfl|rfl|rfl|rfl|rfl|rfl|rfl|rfl
 ·exact⟨2,ao (j:=0) rfl,by decide,by decide⟩
 ·exact⟨3,ao (j:=1) rfl,by decide,by decide⟩
 ·exact⟨3,ao (j:=2) rfl,by decide,by decide⟩
 ·exact⟨4,ao (j:=3) rfl,by decide,by decide⟩
 ·exact⟨4,ao (j:=4) rfl,by decide,by decide⟩
 ·exact⟨5,ao (j:=5) rfl,by decide,by decide⟩
 ·exact⟨5,ao (j:=6) rfl,by decide,by decide⟩
 ·exact⟨6,ao (j:=7) rfl,by decide,by decide⟩
def Ru{p x y:Int}(hp:2<=p)(h0:0<=x)(h1:x<p)(h2:0<=y)(h3:y<p-1):x≠(x+1+y)%p:=by
 by_cases h:x+1+y<p
 ·rw[Int.emod_eq_of_lt (by lia) h];lia
 ·rw[<-Int.sub_emod_right,Int.emod_eq_of_lt (by lia) (by lia)];lia
def UU{k n:Nat}(h:k<n):seqIndex? (k:Int) n=some k:=by
 have h1 : ¬((k:Int)<0):=by lia
 unfold seqIndex?;simp[h1,h]
def Pa:Sp:=λvs H Q _=>∃(c:Int) (p:Nat),vs=[.int c,.int (p:Int)]/\2<=p/\p<=10/\∀t b H',aq H H'->ik (p:Int) t->H' b=some (.tup (mC t))->Q (.ref b) H'
def Pb(K:bJ):Sp:=λvs H Q _=>∃(b:Addr) (ns:List Int) (k:Nat),vs=[.ref b,.int (k:Int)]/\aR K H b (ns.map V.int)/\ns.length<=63/\∀(n:Nat) (ds:List Dd) c L xs H',2<=n->n<=6->aq H H'->H' c=some (.tup [.int (n:Int),.ref L])->H' L=some (.lst xs)->Paired (O9 H') xs ds->Rn n (0,[]) ds->ds.length<=63->Q (.ref c) H'
def X5(C:Addr):Sp:=λvs H Q _=>∃(p d q c:Addr) (n:Nat) (s:Nat×cL) (hs:List (Nat×cL)) (ds:List kO) (e:Dd),vs=[.ref p,.ref c]/\gx C H p d q n (s::hs) ds/\H c=some (.tup (ddV e))/\Zd n s e/\n<=6/\ds.length<=900/\∀H' e',Kept H H' p d q->gx C H' p d q n (stp s e::s::hs) (e'::ds)->Q .eX H'
def jb:Ok T T.nK 1 (Rr K):=by
 refine T.nK.ok Ez λ_ A _ s H vs Q E hr h=>?_
 ·obtain⟨b,ns,k,rfl,O,q⟩:=h;refine⟨_,(ai (bW (aO Ao (pv 1) (cG K T.eG (aa (pv 0) af)) (aM _)) (av (aF (aK (oB K) (pv 0) (pv 1)))) aY)
   (av (aF ak))),?_⟩
  refine dO ?_;intro U Y;refine(au rfl (au rfl ⟨b,_,rfl,.inl O,_,_,rfl,rfl,au rfl (xD (λI=>?_) (λ_=>q 0))⟩))
  have I:=ko I;rw[aac]at I;exact(au rfl (au rfl ⟨b,_,_,_,rfl,rfl,O,ao (j:=k) (Qn (by lia)),q _⟩))
def dP:Ok T T.i7 1 Rt:=by
 refine T.i7.ok vV λ_ A _ s H vs Q E hr h=>?_
 ·obtain⟨c,rfl,k⟩:=h;refine⟨_,(ai (aN (i:=1) vV.nd rfl (Or.inl rfl) (aS gG (aS FH (aS ie (aS gG (pv 0) (aS Mg ak ak)) ak) ak) ak))
   (av (aF (aS m5 (aS gG (aS FH (pv 1) (pv 1)) ak) ak)))),?_⟩
  refine jf ?_;intro I;refine(au rfl (dz ⟨⟨by decide,by decide,by decide⟩,dz ⟨(BC rfl),dz (dz ⟨.inr ⟨by decide,by decide⟩,dz ⟨(BC rfl),?_⟩⟩)⟩⟩))
  have h0:=qB ((c%10^(60:Int).toNat+1)*69621) 2147483647 (by decide)
  refine(au rfl (au rfl (dz ⟨.inl ⟨by have:=h0.1;lia,by have:=h0.2;lia⟩,dz ⟨(BC rfl),dz ⟨⟨by decide,by decide⟩,?_⟩⟩⟩)))
  have h1:=qB ((c%10^(60:Int).toNat+1)*69621%2147483647*((c%10^(60:Int).toNat+1)*69621%2147483647)) 1000000007 (by decide)
  exact k _ (Int.ediv_nonneg h1.1 (by decide)) (Int.lt_of_le_of_lt (Int.ediv_le_self _ h1.1) h1.2)
def rE:Ok T T.rq 2 Pa:=by
 have dP:=dP T;refine T.rq.ok g7 λ_ A _ s H vs Q E hr h=>?_
 ·obtain⟨c,p,rfl,Eg,LP,k⟩:=h;refine⟨_,(ai (aN (i:=2) g7.nd rfl (Or.inl rfl) (aS m5 (pv 0) ak))
   (ai (bW (aO jq (aS gG (pv 0) ak) ak (aM _)) (av (aN (i:=2) g7.nd rfl (Or.inl rfl) (aS ie (aS FH (aH dP hr T.i7.c aE (aa (pv 0) af)) ak) (aH dP hr T.i7.c aE (aa (aS ie (pv 0) ak) af))))) aY)
   (ai (aN (i:=3) g7.nd rfl (Or.inl rfl) (aS gG (pv 2) (pv 1)))
   (ai (aN (i:=4) g7.nd rfl (Or.inl rfl) (aS gG (aS ie (aS ie (pv 3) ak) (aS gG (aS m5 (pv 2) (pv 1)) (cF (pO rfl) (by rfl) T.Jr ac0 (aa ak (aa (aS qM (pv 1) ak) af))))) (pv 1)))
   (ai (aN (i:=2) g7.nd rfl (Or.inl rfl) (aS m5 (aS m5 (pv 2) (pv 1)) (cF (pO rfl) (by rfl) T.Jr ac0 (aa ak (aa (aS qM (pv 1) ak) af)))))
   (av (aF (cy (aa (pv 3) (aa (pv 4) (aa (aS ie ak (aS gG (pv 2) (aK (oB K) (eg (aa ak (aa ak (aa (aS Mg ak ak) af)))) (aS gG (aS m5 (pv 2) ak) ak)))) af))))))))))),?_⟩
  refine EA ?_;intro cH cQ eK fG gR mj;have p0:(0:Int)<(p:Int):=by lia
  have mx:=UT Eg;have U:0<LX p:=by lia
  have hd:∀i,SS i (p:Int):=λi=>⟨by lia,by lia⟩
  have I:∀i,SS i (LX p):=λi=>⟨by lia,by lia⟩
  have UW:∀n m:Int,1<=m->m<=1000000000000000000000000000000->ik (p:Int) (n%p,(n%p+1+n/p%LX p)%p,1+n/p/LX p%m):=λn m m0 Y=>by
   obtain⟨h1,h2⟩:=qB (n/p/LX p) m (by lia)
   obtain⟨h3,h4⟩:=qB (n/p) (LX p) U;obtain⟨h5,h6⟩:=qB n p p0;exact⟨h5,h6,(qB _ _ p0).1,(qB _ _ p0).2,Ru (by lia) h5 h6 h3 (by lia),by show 1<=1+n/p/LX p%m;lia,by show 1+n/p/LX p%m<=_;lia⟩
  refine(au rfl (dz ⟨⟨by decide,by decide⟩,au rfl (dz ⟨(BC rfl),rfl,au rfl (xD (λ_=>?_) (λ_=>?_))⟩)⟩))
  case' refine_1=>refine(au rfl ⟨c,rfl,λn1 _ _=>(dz ⟨.inr ⟨by decide,by decide⟩,au rfl (dz (au rfl (λn2 _ _=>(dz (?_)))))⟩)⟩);have Z:=Su ((n1*1000003+n2)/p/LX p)
  case' refine_2=>have Z:=Su (c/4/p/LX p)
  all_goals
   refine(au rfl (au rfl (dz ⟨p0,?_⟩)));refine(au rfl (dz (au rfl (au rfl (dz ⟨hd _,_,rfl,dz ⟨_,_,rfl,_,_,rfl,rfl,U,_,_,rfl,rfl,au rfl (dz ⟨p0,?_⟩)⟩⟩)))));refine(au rfl (au rfl (dz ⟨hd _,_,rfl,dz ⟨_,_,rfl,_,_,rfl,rfl,I _,?_⟩⟩)));obtain⟨m,O,m0,Y⟩:=Z;refine(au rfl (au rfl (au rfl (dz ⟨⟨by decide,by decide,by decide⟩,(dl rfl),λl hl=>(au rfl (dz ⟨⟨by decide,by decide⟩,dz ⟨(BC rfl),p8 (aR.of ae) (O) (dz ⟨(by show 0<m;lia),dz ⟨(dl rfl),λb hb=>?_⟩⟩)⟩⟩))⟩))))
   exact k _ b _ ((aq.new hl).trans (aq.new hb)) (UW _ m m0 Y) ae
def zm:Ok T T.yZ 4 (X5 a.az):=by
 have jT:=jT T;have b8:=b8 T;refine T.yZ.ok KU λ_ A _ s H vs Q E hr h=>?_
 ·obtain⟨p,d,q,c,n,⟨f,m⟩,hs,ds,e,rfl,S,hc,X3,Z,O,k⟩:=h;refine⟨_,(av (bW (aO jq (aK (cT K) (pv 1) ak) m4 (aM _)) (av (bL (wU (pv 0) T.aB T.jS b8 (hr.mono (by decide)) T.lq .nil aE (aa (aK (cT K) (pv 1) ak) (aa (aK (cT K) (pv 1) ak) (aa (aK (cT K) (pv 1) ak) af)))))) (av (bL (wU (pv 0) T.aB T.vj jT (hr.mono (by decide)) T.wI .nil aE (aa (aK (cT K) (pv 1) ak) af)))))),?_⟩
  refine KW ?_;intro cH cQ;obtain⟨dx,_,_,_,Y,U,hd⟩:=S.ob;cases Y;cases e with
  | put t =>
    obtain⟨gt,few⟩:=X3;have few:m.length<n+3:=few;refine(au rfl (cU (aU.of hc) (ao (j:=0) rfl) ⟨rfl,au rfl (?_)⟩));rw[dm rfl];refine fC (au rfl ⟨p,dx,_,rfl,U,fF (by decide +kernel) (by decide +kernel) (by decide +kernel) (by decide +kernel),au rfl (cU (aU.of hc) (ao (j:=1) rfl) (au rfl (cU (aU.of hc) (ao (j:=2) rfl) (au rfl (cU (aU.of hc) (ao (j:=3) rfl) ⟨p,d,q,n,f,m,hs,ds,t,rfl,S,gt,(by lia),O,λH' kp I=>k H' _ kp I⟩)))))⟩)
  | drop x =>
    obtain⟨t,hx⟩:=X3;refine(au rfl (cU (aU.of hc) (ao (j:=0) rfl) ⟨rfl,au rfl (?_)⟩));rw[gj (by decide +kernel)]
    refine dN (au rfl ⟨p,dx,_,rfl,U,fF (by decide +kernel) (by decide +kernel) (by decide +kernel) (by decide +kernel),au rfl (cU (aU.of hc) (ao (j:=1) rfl) ⟨p,d,q,n,f,m,hs,ds,x,t,rfl,S,hx,O,λH' kp I=>k H' _ kp I⟩)⟩)
def pM:Ok T T.pD 3 (Pb K):=by
 have jb:=jb T;have dP:=dP T;have rE:=rE T;refine T.pD.ok dI λ_ A _ s H vs Q E hr h=>?_
 ·obtain⟨b,ns,k,rfl,hS,hn,q⟩:=h;refine⟨_,(ai (aN (i:=2) dI.nd rfl (Or.inl rfl) (aK (oB K) (eg (aa ak (aa ak (aa ak (aa ak (aa ak (aa ak (aa ak (aa ak af))))))))) (aS gG (aH jb hr T.nK.c aE (aa (pv 0) (aa ak af))) ak)))
   (ai (aN (i:=3) dI.nd rfl (Or.inl rfl) (eg af))
   (ai (aN (i:=4) dI.nd rfl (Or.inl rfl) (eg af))
   (ai (aN (i:=5) dI.nd rfl (Or.inl rfl) ak)
   (ai (fH PassesOwn.never rfl (wX K (Dg (slL K) (pv 0) (Br ak) (Br (aS ie ak (pv 1))))) (bq 6 dI.nd)
   (ai (aN (i:=7) dI.nd rfl (Or.inl rfl) (aH dP hr T.i7.c aE (aa (pv 6) af)))
   (av (bW (PW.pt (L5 (aO jq (aS gG (pv 7) ak) ak (aM _)) (Ii (aO vH (cG K T.eG (aa (pv 4) af)) ak (aM _))))) (av (bL (Jm K (lB abe abl abm cW (pv 3) (aa (cy (aa m4 (aa (Jm K (lB abe PySem.F.slot_list_pop PySem.F.type_list_pop MA (pv 4) (aa (aS gG (aS m5 (pv 7) ak) (cG K T.eG (aa (pv 4) af))) af))) af))) af))))) (av (bW (aO Ao (cG K T.eG (aa (pv 4) af)) (aS ie (pv 2) ak) (aM _)) (ai (bL (Jm K (lB abe abl abm cW (pv 3) (aa (aS WR (cy (aa m4 af)) (aH rE hr T.rq.c aE (aa (pv 6) (aa (pv 2) af)))) af))))
   (ai (bL (Jm K (lB abe abl abm cW (pv 4) (aa (pv 5) af))))
   (av (aN (i:=5) dI.nd rfl (Or.inl rfl) (aS ie (pv 5) ak))))) aY))))))
   (av (aF (cy (aa (pv 2) (aa (pv 3) af)))))))))),?_⟩
  refine Cr ?_;intro cH cQ eK fG gR mj yE Jo Jp Ol Ew Ex;refine⟨dl rfl,λl1 a7=>?_⟩
  have s1:aq H (upd H l1 (.lst [.int 2,.int 3,.int 3,.int 4,.int 4,.int 5,.int 5,.int 6])):=aq.new a7;refine(au rfl ⟨b,ns,0,rfl,s1.seq hS,λz=>?_⟩)
  obtain⟨n,a8,n1,n2⟩:=X4 z;refine(dz ⟨(BC rfl),p8 (aR.of ae) (a8) (?_)⟩);generalize upd H l1 (.lst [.int 2,.int 3,.int 3,.int 4,.int 4,.int 5,.int 5,.int 6])=H1 at s1;refine⟨dl rfl,λL hL=>⟨dl rfl,λD hD=>?_⟩⟩
  have Ze:L≠D:=aJ ae hD;have s3:aq H1 (upd (upd H1 L (.lst [])) D (.lst [])):=(aq.new hL).trans (aq.new hD);have ab:upd (upd H1 L (.lst [])) D (.lst []) L=some (.lst []):=aq.new hD _ _ ae;have zy:upd (upd H1 L (.lst [])) D (.lst []) D=some (.lst []):=ae;have R9:H L=none:=s1.free hL;have Zb:H D=none:=s1.free ((aq.new hL).free hD);have Vx:=s1.trans s3;generalize upd (upd H1 L (.lst [])) D (.lst [])=H3 at Vx ab zy;refine(au rfl (au rfl (au rfl (dz (au rfl ⟨b,_,rfl,Vx.seq hS,λU ag=>?_⟩)))))
  obtain⟨ms,UQ,bb⟩:∃l' : List Int,zD (ns.map V.int) (some 1) (some (1+(k:Int)))=l'.map V.int/\l'.length<=ns.length:=by
   refine⟨_,ME ns _ _,?_⟩;rw[abk,acF]
   lia
  rw[UQ];have a3:U≠L:=aa6 (aJ ab ag);have a4:U≠D:=aa6 (aJ zy ag);have s4:aq H3 (upd H3 U (.lst (ms.map V.int))):=aq.new ag;have ar:upd H3 U (.lst (ms.map V.int)) U=some (.lst (ms.map V.int)):=ae;generalize upd H3 U (.lst (ms.map V.int))=H4 at s4 ar;refine⟨U,rfl,⟨_,aR.of ar⟩,gX (K:=K) (a:=U) (xs:=ms.map V.int) (λi σ I=>∃(ds:List Dd) (xs:List V) (v6 v7:Option V),σ=[some (.ref b),some (.int (k:Int)),some (.int (n:Int)),some (.ref L),some (.ref D),some (.int (((pL (0,[]) ds).1:Nat):Int)),v6,v7]/\aq H I/\I L=some (.lst xs)/\Paired (O9 I) xs ds/\Rn n (0,[]) ds/\ds.length<=i/\I D=some (.lst (aD ((pL (0,[]) ds).2.map (·.1))))/\I U=some (.lst (ms.map V.int))) ⟨[],[],none,none,rfl,Vx.trans s4,s4 _ _ ab,.nil,trivial,aam _,s4 _ _ zy,ar⟩ (λi σ I _ ⟨_,_,_,_,_,_,_,_,_,_,_,z⟩=>aR.of z) ?_ ?_⟩
  ·rintro i x D' σ I hi ⟨ds,xs,v6,v7,rfl,s5,UX,OQ,VA,Sv,Y,Z⟩;rw[aaw]at hi;have LQ:i<ms.length:=by
    rcases vY.mp hi with⟨_,z,_⟩
    exact(jo.mp z).1
   obtain⟨y,_,rfl⟩:=vY.mp hi;refine(au rfl ⟨y,rfl,λz z0 z1=>?_⟩)
   have ok:=CV n2 c7.nil VA;generalize O:pL (0,[]) ds=st at Y ok;have few:=ok.few;have cont:mj D' [some (.ref b),some (.int (k:Int)),some (.int (n:Int)),some (.ref L),some (.ref D),some (.int ((st.1:Nat):Int)),some (.int y),some (.int z)] I:=by
    refine(au rfl (vS rfl (.inl (aR.of Y)) (au rfl (dz (dz (au rfl (xD (λh=>?_) (λh=>?_))))))))
    ·have h:=ko h;rw[aG,aac]at h;refine(au rfl ⟨.inl ⟨rfl,_,aR.of UX⟩,dl rfl,λc1 a9=>?_⟩)
     refine(au rfl (au rfl ⟨y,n,rfl,n1,(by lia),λt bt H6 s6 gt US=>?_⟩))
     refine⟨c1,bt,_,_,rfl,rfl,s6 _ _ ae,US,dl rfl,λc2 H7 s7 ba=>?_⟩
     have X7:=((aq.new a9).trans s6).trans s7;have aw:=X7 _ _ UX;have Rv:=OQ.length;refine⟨L,xs,_,rfl,rfl,aw,cz (by lia),?_⟩
     have Vb:upd H7 L (.lst (xs++[.ref c2])) D=some (.lst (aD (st.2.map (·.1)))):=by rw[ah (aa6 Ze)];exact X7 _ _ Y
     refine(au rfl ⟨.inl ⟨rfl,_,aR.of Vb⟩,au rfl ⟨D,_,_,rfl,rfl,Vb,cz (by rw[aG,aac];lia),?_⟩⟩)
     have t9:=(X7.tups.trans (bG.put aw)).trans (bG.put (o:=.lst (aD (st.2.map (·.1))++[.int ((st.1:Nat):Int)])) Vb);have LY:pL (0,[]) (ds++[.put t])=(st.1+1,st.2++[(st.1,t)]):=by rw[vC,O];rfl
     refine(au rfl (dz ⟨ds++[.put t],xs++[.ref c2],some (.int y),some (.int z),?_,((s5.trans X7).put R9).put Zb,?_,Paired.snoc (Paired.imp' (λ_ _ z=>z.tups t9) OQ) ⟨c2,rfl,?_⟩,VA.snoc ?_,?_,?_,?_⟩))
     ·rw[LY];rfl
     ·rw[ah Ze];exact ae
     ·exact((bG.put aw).trans (bG.put Vb)) _ _ ba
     ·rw[O];exact⟨gt,by lia⟩
     ·rw[aaz];show _+1<=_
      lia
     ·rw[ae,LY,aaJ,<-gM];rfl
     ·rw[ah a4,ah a3];exact X7 _ _ Z
    ·exact⟨ds,xs,_,_,by rw[O],s5,UX,OQ,VA,by lia,by rw[O];exact Y,Z⟩
   refine(au rfl (dz ⟨(BC rfl),rfl,au rfl (xD (λ_=>?_) (λ_=>dN cont))⟩))
   refine(au rfl (vS rfl (.inl (aR.of Y)) (dz (au rfl (xD (λh=>?_) (λ_=>cont))))))
   have h:=ko h;rw[aG,aac]at h;have lp:(0:Int)<(((aD (st.2.map (·.1))).length:Nat):Int):=by rw[aG,aac];lia
   obtain⟨j,ej⟩:=acL (Int.emod_nonneg (z/4) (Int.ne_of_gt lp));have jl:=Int.emod_lt_of_pos (z/4) lp;rw[ej]at jl;have ax:j<(aD (st.2.map (·.1))).length:=by lia
   have a5:j<(st.2.map (·.1)).length:=by rw[aG]at ax;exact ax
   generalize hx:(st.2.map (·.1))[j]=x at *;have aT:(st.2.map (·.1))[j]?=some x:=by rw[aag a5,hx]
   refine(au rfl ⟨.inl ⟨rfl,_,aR.of UX⟩,au rfl ⟨.inl ⟨rfl,_,aR.of Y⟩,au rfl (dz ⟨⟨by decide,by decide⟩,au rfl (vS rfl (.inl (aR.of Y)) (dz ⟨lp,D,_,_,j,.int (x:Int),rfl,rfl,Y,?_,?_,?_,?_,dl rfl,λc hc=>?_⟩))⟩)⟩⟩)
   ·rw[ej];lia
   ·rw[ej];rw[aac]at a5;lia
   ·rw[ej];exact UU ax
   ·unfold aD;rw[aaw,aT];rfl
   have RT:∃t,(x,t)∈st.2:=by
    obtain⟨e,he,e2⟩:=aaH.mp (jV aT);exact⟨e.2,by rw[<-e2];exact he⟩
   have er:(aD (st.2.map (·.1))).eraseIdx j=aD ((Ring.without x st.2).map (·.1)):=by rw[<-qJ ok.nodup aT];exact zl _ j
   rw[er]at hc ⊢;have Zf:upd I D (.lst (aD ((Ring.without x st.2).map (·.1)))) L=some (.lst xs):=by rw[ah Ze];exact UX
   have s6:aq H (upd I D (.lst (aD ((Ring.without x st.2).map (·.1))))):=s5.put Zb;have t6:bG I (upd I D (.lst (aD ((Ring.without x st.2).map (·.1))))):=bG.put Y;have Vq:upd I D (.lst (aD ((Ring.without x st.2).map (·.1)))) D=some (.lst (aD ((Ring.without x st.2).map (·.1)))):=ae;have a6:upd I D (.lst (aD ((Ring.without x st.2).map (·.1)))) U=some (.lst (ms.map V.int)):=by rw[ah a4];exact Z
   generalize upd I D (.lst (aD ((Ring.without x st.2).map (·.1))))=H6 at hc Zf s6 t6 Vq a6;have s7:aq H6 (upd H6 c (.tup (ddV (.drop x)))):=aq.new hc;have Rv:=OQ.length;refine⟨L,xs,_,rfl,rfl,s7 _ _ Zf,cz (by lia),?_⟩
   have LY:pL (0,[]) (ds++[.drop x])=(st.1,Ring.without x st.2):=by rw[vC,O];rfl
   have t8:=(t6.trans s7.tups).trans (bG.put (o:=.lst (xs++[.ref c])) (s7 _ _ Zf));refine⟨ds++[.drop x],xs++[.ref c],some (.int y),some (.int z),?_,(s6.trans s7).put R9,ae,Paired.snoc (Paired.imp' (λ_ _ z=>z.tups t8) OQ) ⟨c,rfl,bG.put (s7 _ _ Zf) _ _ ae⟩,VA.snoc ?_,?_,?_,?_⟩
   ·rw[LY];rfl
   ·rw[O];exact RT
   ·rw[aaz];show _+1<=_
    lia
   ·rw[ah (aa6 Ze),LY];exact s7 _ _ Vq
   ·rw[ah a3];exact s7 _ _ a6
  ·rintro σ I ⟨ds,xs,v6,v7,rfl,s5,UX,OQ,VA,Sv,Y,Z⟩;rw[aac]at Sv;refine(au rfl (au rfl ⟨dl rfl,λc hc=>?_⟩))
   have s6:aq I (upd I c (.tup [.int (n:Int),.ref L])):=aq.new hc;exact q n ds c L xs _ n1 n2 (s5.trans s6) ae (s6 _ _ UX) (Paired.imp' (λ_ _ z=>z.tups s6.tups) OQ) VA (by lia)
def mZ{K:bJ}{H:Hp}:∀l:List Int,DatVs K H (l.map V.int) (l.map PyData.int)
 | []=>.nil
 | x::r=>.cons (.int x) (mZ r)
def lay_ints:∀l:List Int,PyData.canLayAll0 (l.map PyData.int)=true
 | []=>rfl
 | x::r=>by
   have I:=lay_ints r;have e:(PyData.int x).canLay0=true:=by simp[PyData.canLay0]
   simp only[aaR,PyData.canLayAll0,I,acM,e]
def Bj:∀l:List Int,PyData.depthAll (l.map PyData.int)=0
 | []=>rfl
 | x::r=>by
   show max (PyData.depth (PyData.int x)) (PyData.depthAll (r.map PyData.int))=0;rw[Bj r];rfl
def shaped_ints(l:List Int):SeqAt.shaped (.list (l.map PyData.int))=true:=by
 unfold SeqAt.shaped;have e:(PyData.list (l.map PyData.int)).canLay0=PyData.canLayAll0 (l.map PyData.int):=by simp[PyData.canLay0]
 rw[e,lay_ints,abx];refine dm ?_;have I:PyData.depth (PyData.list (l.map PyData.int))=PyData.depthAll (l.map PyData.int)+1:=by simp[PyData.depth]
 rw[I,Bj]
 lia
def Pc(l:List Int):(PyData.list (l.map PyData.int)).canLay0=true:=by
 have e:(PyData.list (l.map PyData.int)).canLay0=PyData.canLayAll0 (l.map PyData.int):=by simp[PyData.canLay0]
 rw[e,lay_ints]
def LG{p:Nat}{ts:List bZ}{g:aA p ts}{rs rs' : List Nat}(lb:RM.LB g.N (aW ts) rs)(lb' : RM.LB g.N (aW ts) rs')(pw:rs.Pairwise (gi ts))(Q7:rs'.Pairwise (gi ts))
 (lr:∃bs,RM.En g.N (aW ts) (g.N.bf.map λc=>2^c) bs []/\rs.Perm bs) (lr' : ∃bs,RM.En g.N (aW ts) (g.N.bf.map λc=>2^c) bs []/\rs'.Perm bs):rs=rs':=by
 have I:∀k,k<g.N.n->0<aW ts k:=λk hk=>by
  have:=(g.rS _ (ff hk)).l0;unfold aW
  lia
 obtain⟨bs,l1,p1⟩:=lr;obtain⟨bs',l2,p2⟩:=lr';have O:bs.length=bs'.length:=by rw[<-p1.length_eq,<-p2.length_eq,lb.1.len,lb'.1.len]
 obtain⟨rfl,_⟩:=l1.uniq I l2 O;exact(p1.trans p2.symm).eq_of_pairwise (λx y _ _ h1 h2=>Bh h1 h2) pw Q7
def X8(t:Rp):XW:=((t.1:Int),(t.2.1:Int),t.2.2)
def Ib{p:Nat}{H:Hp}:∀{ys:List V} {I:List Rp},Paired (Ah H) ys I->(∀t∈I,LR p t.2.2)->Paired (XX p H) ys (I.map X8)
 | _,_,.nil,_=>.nil
 | _,_,.cons ⟨c,b,e,h1,h2⟩ r,al=>.cons ⟨c,b,e,h1,h2,al _ aaF⟩ (Ib r λt ht=>al t (nU _ ht))
def zo{p:Nat}{ts:List bZ}{g:aA p ts}{I:List Rp}(lb:RM.LB g.N (aW ts) (I.map (·.1)))(pw:(I.map (·.1)).Pairwise (gi ts))(mo:MarksOf g.N (I.map (·.1)) (I.map (·.2.1)))(al:∀t∈I,LR p t.2.2/\sW p ts g t.2.1 t.2.2):O4 p ts g (I.map X8):=by
 refine⟨I.map (·.1),by rw[abz,abz];rfl,lb.1,pw,⟨I.map (·.2.1),by rw[abz,abz];rfl,mo⟩,λz hz=>?_⟩
 obtain⟨t,ht,rfl⟩:=aaH.mp hz;obtain⟨i,hi⟩:=aa5 ht;have O:(I.map (·.1))[i]?=some t.1:=by rw[aaw,hi];rfl
 have U:(I.map (·.2.1))[i]?=some t.2.1:=by rw[aaw,hi];rfl
 obtain⟨Y,X9⟩:=mo.2 i t.2.1 U;obtain⟨rg,rl⟩:=lb.1.ring t.1 (jV O);have own:=X9 i t.1 O;rw[dm rfl]at own;refine⟨t.1,rfl,rl,rg,(B9 Y).mpr own,(al t ht).2.stands,?_⟩;refine Kq (al t ht).2 λr2 h2 h3 h4=>?_
 obtain⟨b2,CK,YL,Z⟩:=lb.2 r2 t.2.1 h3 h2 h4;obtain⟨j,hj⟩:=aa5 CK;rw[X9 j b2 hj]at YL;have ej:i=j:=ko YL;subst ej;rw[O]at hj;rw[yl rl,Option.some.inj hj];exact Z
def UR{p:Nat}{ts:List bZ}{g:aA p ts}{rs:List Nat}(lb:RM.LB g.N (aW ts) rs):rs.length<=24:=by
 have h1:g.N.bf.length<=(List.range g.N.n).length:=abc ..;rw[aaK,<-lb.1.len]at h1;exact aa0 h1 g.len
def zp{n:Nat}:∀{ds:List Dd} {s:Nat×cL},s.2.length<=n+3->Rn n s ds->(pL s ds).2.length<=n+3
 | [],_,h,_=>h
 | .put t::r,s,_,⟨⟨_,hl⟩,h2⟩=>zp (ds:=r) (by show(s.2++[(s.1,t)]).length<=_;rw[aaz];show s.2.length+1<=_;lia) h2
 | .drop x::r,s,h,⟨_,h2⟩=>zp (ds:=r) (aa0 (abc _ _) h) h2
def qp{H0 H H' : Hp}{p d q:Addr}(s:aq H0 H)(k:Kept H H' p d q)(hp:H0 p=none)(hd:H0 d=none)(hq:H0 q=none):aq H0 H' :=
 λb o e=>k.rest b o (s b o e) (aJ e hp) (aJ e hd) (aJ e hq)
def LH(C:Addr):Sp:=λvs H Q _=>∃(n:Nat) (l:Addr) (xs:List V) (ts:List bZ),vs=[.int (n:Int),.ref l]/\(H l=some (.lst xs)\/H l=some (.tup xs))/\Paired (TupAt H) xs ts/\(∀t∈ts,ik (n:Int) t)/\ts.length<=20/\1<=n/\n<=10/\
 ∀p d q s hs I H',H p=none->H d=none->H q=none->aq H H'->gx C H' p d q n (s::hs) I->s.2.map (·.2)=ts->I.length=ts.length->Q (.ref p) H'
def Ic:Sp:=λvs H Q _=>∃(l:Addr) (c:Int) (xs:List V) (ts:List bZ),vs=[.ref l,.int c]/\H l=some (.lst xs)/\Paired (TupAt H) xs ts/\ts.length<=20/\∀D ys row H',aq H H'->H' D=some (.lst ys)->row.Perm (List.range ts.length)->Paired (TupAt H') ys (cC ts row)->Q (.ref D) H'
def Pd{α β:Type}{F:α->β->Prop}{x:α}{y:β}(h:F x y):∀{l:List α} {r:List β} (j:Nat),Paired F l r->Paired F (l.take j++x::l.drop j) (r.take j++y::r.drop j)
 | _,_,0,p=>.cons h p
 | _,_,_+1,.nil=>.cons h .nil
 | _,_,j+1,.cons a r=>.cons a (Pd h j r)
def pN:Ok T T.pF 2 Ic:=by
 have dP:=dP T;refine T.pF.ok nB λ_ A _ s H vs Q E hr h=>?_
 ·obtain⟨l,c,xs,ts,rfl,Y,pr,tl,q⟩:=h;refine⟨_,(ai (aN (i:=2) nB.nd rfl (Or.inl rfl) (eg af))
   (ai (fH PassesOwn.never rfl (cu (by rfl) T.dJ (aa (cG K T.eG (aa (pv 0) af)) af)) (bq 3 nB.nd)
   (av (bL (Jm K (lB abe PySem.F.slot_list_insert PySem.F.type_list_insert JW (pv 2) (aa (aS gG (aH dP hr T.i7.c aE (aa (aS ie (pv 1) (pv 3)) af)) (aS ie (pv 3) ak)) (aa (aK (oB K) (pv 0) (pv 3)) af)))))))
   (av (aF (pv 2))))),?_⟩
  refine uI ?_;intro cH cQ eK;have Rv:=pr.length;refine⟨dl rfl,λD Z=>?_⟩
  have s1:aq H (upd H D (.lst [])):=aq.new Z;have uE:upd H D (.lst []) D=some (.lst []):=ae;generalize upd H D (.lst [])=H1 at s1 uE;refine(au rfl (vS rfl (.inl (aR.of (s1 _ _ Y))) (au rfl ⟨(by lia),(by lia),?_⟩)))
  refine kU (lo:=0) (n:=(xs.length:Int).toNat) (λk σ H2=>∃O ys row,σ=[some (.ref l),some (.int c),some (.ref D),O]/\aq H H2/\H2 D=some (.lst ys)/\row.Perm (List.range k)/\Paired (TupAt H2) ys (cC ts row)) ⟨none,[],[],rfl,s1,uE,adj _,.nil⟩ ?_ ?_
  ·rintro k D' σ H2 hk ⟨O,ys,row,rfl,s2,I,pm,py⟩;rw[aaE]at hk;rw[abS];have xG:row.length=k:=by rw[pm.length_eq,aaK]
   have Vp:ys.length=k:=by rw[py.length];unfold cC;rw[aac,xG]
   obtain⟨x,hx⟩:∃x,xs[k]?=some x:=⟨_,aag hk⟩;obtain⟨t,ht,bt,rfl,US⟩:=Paired.lR pr hx;have U:bj ts k=t:=by unfold bj;rw[aad,ht];rfl
   refine(au rfl ⟨.inl ⟨rfl,_,aR.of I⟩,au rfl (au rfl (dz (au rfl (λz hz ab=>?_))))⟩)
   obtain⟨j,hj,N1⟩:∃j:Nat,z%((k:Int)+1)=(j:Int)/\j<=k:=by
    obtain⟨h1,h2⟩:=qB z ((k:Int)+1) (by lia)
    exact⟨(z%((k:Int)+1)).toNat,by lia,by lia⟩
   refine(au rfl (dz (dz ⟨(by lia),au rfl (au rfl (p8 (aR.of (s2 _ _ Y)) (ao (j:=k) hx) (?_)))⟩)))
   dsimp only;rw[hj];refine⟨D,_,j,_,rfl,rfl,I,by lia,m8 (by lia),_,ys.take j ++ .ref bt::ys.drop j,row.take j++k::row.drop j,rfl,s2.put Z,ae,?_,?_⟩
   ·have p1:(row.take j++k::row.drop j).Perm (k::row):=by
     have:=List.perm_middle (a:=k) (l₁:=row.take j) (l₂:=row.drop j)
     rwa [List.take_append_drop]at this
    rw[abE];exact p1.trans ((List.Perm.cons k pm).trans (List.perm_append_singleton k (List.range k)).symm)
   ·have e:cC ts (row.take j++k::row.drop j)=(cC ts row).take j++t::(cC ts row).drop j:=by
     unfold cC;rw[aaJ,aaR,List.map_take,List.map_drop,U]
    rw[e];exact Pd ⟨bt,rfl,bG.put I _ _ (s2 _ _ US)⟩ j (Paired.imp' (λ_ _ z=>z.tups (bG.put I)) py)
  ·rintro σ H2 ⟨O,ys,row,rfl,s2,I,pm,py⟩;rw[aaE,Rv]at pm;exact(au rfl (q D ys row H2 s2 I pm py))
def jn:Ok T T.jj 5 (LH a.az):=by
 have dD:=dD T;have b8:=b8 T;refine T.jj.ok kX λ_ A _ s H vs Q E hr h=>?_
 ·obtain⟨n,l,xs,ts,rfl,Y,pr,ag,tl,n1,n2,k⟩:=h;refine⟨_,(ai (aN (i:=2) kX.nd rfl (Or.inl rfl) (Iv T.mk_Standing dD (hr.mono (by decide)) (by rfl) T.za T.nX .nil aE (aa (pv 0) af)))
   (ai (fH PassesOwn.never rfl (piS K (pv 1)) (bq 3 kX.nd)
   (av (bL (wU (pv 2) T.aB T.jS b8 (hr.mono (by decide)) T.lq .nil aE (aa (aK (cT K) (pv 3) ak) (aa (aK (cT K) (pv 3) ak) (aa (aK (cT K) (pv 3) ak) af)))))))
   (av (aF (pv 2))))),?_⟩
  refine uI ?_;intro cH cQ eK;have Rv:=pr.length;refine(au rfl (λp dx hp Yb ne=>⟨p,dx,n,rfl,ae,n1,n2,λd q H2 U uq S2 kp=>⟨rfl,?_⟩⟩))
  have s2:aq H H2:=λb o e=>kp b o (by rw[ah (aJ e hp),ah (aJ e Yb)];exact e) (aJ e hp)
  have fresh:∀e,upd (upd H dx (.own p)) p (.ins a.az dx []) e=none->H e=none:=λe he=>by
   by_cases e1:e=p
   ·rw[e1];exact hp
   ·rw[ah e1]at he
    by_cases e2:e=dx
    ·rw[e2];exact Yb
    ·rwa [ah e2]at he
  have U:=fresh d U;have uq:=fresh q uq;have step:∀(i:Nat) (x:V) (I:Hp) (D' : Ends),xs[i]?=some x->(∃s hs O,aq H I/\gx a.az I p d q n (s::hs) O/\s.2.map (·.2)=ts.take i/\O.length=i)->(∀Z,(∃s hs O,aq H Z/\gx a.az Z p d q n (s::hs) O/\s.2.map (·.2)=ts.take (i+1)/\O.length=i+1)->D'.nx [some (.int (n:Int)),some (.ref l),some (.ref p),some x] Z)->cQ D' [some (.int (n:Int)),some (.ref l),some (.ref p),some x] I:=λi x I D' hx ⟨⟨f,m⟩,hs,O,s5,S5,em,Sv⟩ nx=>by
   obtain⟨t,ht,bt,rfl,US⟩:=Paired.lR pr hx;have LQ:=(jo.mp ht).1;have hc:=aU.of (K:=K) (s5 _ _ US);obtain⟨dx5,_,_,_,_,Ss,_⟩:=S5.ob;have em:m.map (·.2)=ts.take i:=em;have ml:m.length<=i:=by have:=aa4 List.length em;rw[aac,abk]at this;lia
   refine(au rfl ⟨p,dx5,_,rfl,Ss,fF (by decide +kernel) (by decide +kernel) (by decide +kernel) (by decide +kernel),au rfl ⟨bt,_,0,_,rfl,rfl,hc,ao (j:=0) rfl,_,rfl,bt,_,1,_,rfl,rfl,hc,ao (j:=1) rfl,_,rfl,bt,_,2,_,rfl,rfl,hc,ao (j:=2) rfl,p,d,q,n,f,m,hs,O,t,rfl,S5,ag t (jV ht),(by lia),(by lia),λZ ar S6=>nx Z ⟨_,_,_,qp s5 ar hp U uq,S6,?_,aa4 (· + 1) Sv⟩⟩⟩)
   rw[aaJ,aa1,ht];show m.map (·.2)++[t]=_;rw[em];rfl
  have Yc:∀σ I,(∃v,σ=[some (.int (n:Int)),some (.ref l),some (.ref p),v]/\∃s hs O,aq H I/\gx a.az I p d q n (s::hs) O/\s.2.map (·.2)=ts.take xs.length/\O.length=xs.length)->cH { nx:=λ_ H'=>Q V.eX H',rt:=Q} σ I:=λσ I ⟨v,e,s,hs,O,s5,S5,em,Sv⟩=>by
   subst e;rw[Rv,aa7]at em;exact(au rfl (k p d q s hs O I hp U uq s5 S5 em (Sv.trans Rv)))
  have ab:∃v,[some (V.int (n:Int)),some (.ref l),some (.ref p),none]=[some (.int (n:Int)),some (.ref l),some (.ref p),v]/\∃s hs O,aq H H2/\gx a.az H2 p d q n (s::hs) O/\s.2.map (·.2)=ts.take 0/\O.length=0:=⟨none,rfl,_,_,_,s2,S2,rfl,rfl⟩;rcases Y with Y|Y
  ·refine .inl (au rfl ⟨l,rfl,⟨xs,aR.of (s2 _ _ Y)⟩,rJ (K:=K) (a:=l) (xs:=xs) (λi σ I=>∃v,σ=[some (.int (n:Int)),some (.ref l),some (.ref p),v]/\∃s hs O,aq H I/\gx a.az I p d q n (s::hs) O/\s.2.map (·.2)=ts.take i/\O.length=i) ab (λi σ I _ ⟨_,_,_,_,_,z,_⟩=>aR.of (z _ _ Y)) ?_ Yc⟩)
   rintro i x σ I hx ⟨v,rfl,h5⟩;exact step i x I _ hx h5 λZ h6=>(au rfl (h6))
  ·refine .inr (au rfl ⟨l,rfl,⟨xs,aU.of (s2 _ _ Y)⟩,Im (K:=K) (a:=l) (xs:=xs) (λi σ I=>∃v,σ=[some (.int (n:Int)),some (.ref l),some (.ref p),v]/\∃s hs O,aq H I/\gx a.az I p d q n (s::hs) O/\s.2.map (·.2)=ts.take i/\O.length=i) ab (λi σ I _ ⟨_,_,_,_,_,z,_⟩=>aU.of (z _ _ Y)) ?_ Yc⟩)
   rintro i x σ I hx ⟨v,rfl,h5⟩;exact step i x I _ hx h5 λZ h6=>(au rfl (h6))
def tU{ts:List bZ}{l:List Nat}(h:l.Pairwise (gi ts)):l.Pairwise λx y=>lenOf ts x<=lenOf ts y:=h.imp λ{x y} z=>by
 unfold gi at z
 lia
def zq{p:Nat}{ts:List bZ}{g:aA p ts}{m:Nat}(h:m<2^ts.length):RM.len g.N (aW ts) m=lenOf ts m:=(yl h).symm
def LI{p:Nat}{ts:List bZ}{row rs rs' : List Nat}(g:aA p ts)(hr:row.Perm (List.range ts.length))(g' : aA p (cC ts row))(lb:RM.LB g.N (aW ts) rs)(pw:rs.Pairwise (gi ts))
 (lb' : RM.LB g'.N (aW (cC ts row)) rs') (Q7:rs'.Pairwise (gi (cC ts row))):rs'.map (lenOf (cC ts row))=rs.map (lenOf ts):=by
 have iso:=Oj g hr g';have al:(cC ts row).length=ts.length:=iso.n;have e' : ∀r,r<2^ts.length->RM.len g'.N (aW (cC ts row)) r=lenOf (cC ts row) r:=λr hr=>zq (by rw[al];exact hr)
 have I:∀r,r<2^ts.length->lenOf (cC ts row) (RM.dG ts.length (λi=>row.getD i 0) r)=lenOf ts r:=λr h=>KN hr h
 obtain⟨a1,a2⟩:=iso.place lb lb' e' I (tU pw) (tU Q7);have O:∀r,r<2^(cC ts row).length->lenOf ts (RM.dG (cC ts row).length (λk=>row.idxOf k) r)=lenOf (cC ts row) r:=λr h=>by
  rw[al]at h ⊢;rw[<-I _ (RM.xq _ _ _)]
  congr 1
  have:=iso.symm.back (m:=r) (by rw[iso.n];exact h)
  rw[iso.n]at this;exact this
 obtain⟨b1,U⟩:=iso.symm.place lb' lb (λr hr=>zq (by rw[<-al];exact hr)) O (tU Q7) (tU pw)
 refine ac3 (by rw[aac,aac];lia) λi x y=>?_
 rw[aac]at x y;rw[adz,adz];exact Int.le_antisymm (a2 i _ _ (aag x) (aag y)) (U i _ _ (aag y) (aag x))
def Rx{n:Nat}{t1 t2:List bZ}(e:t1=t2){g1:aA n t1}{g2:aA n t2}{r1 r2:List Nat}(lb1:RM.LB g1.N (aW t1) r1)(Yd:RM.LB g2.N (aW t2) r2)(pw1:r1.Pairwise (gi t1))(Ye:r2.Pairwise (gi t2))(lr1:∃bs,RM.En g1.N (aW t1) (g1.N.bf.map λc=>2^c) bs []/\r1.Perm bs)(lr2:∃bs,RM.En g2.N (aW t2) (g2.N.bf.map λc=>2^c) bs []/\r2.Perm bs):r1.map (lenOf t1)=r2.map (lenOf t2):=by
 subst e;rw[LG lb1 Yd pw1 Ye lr1 lr2]
def LJ{n:Nat}{t3 t2 ts:List bZ}{row:List Nat}(e3:t3=cC ts row)(e2:t2=ts)(pm:row.Perm (List.range ts.length)){g3:aA n t3}{g2:aA n t2}{r3 r2:List Nat}(lb3:RM.LB g3.N (aW t3) r3)(Yd:RM.LB g2.N (aW t2) r2)(pw3:r3.Pairwise (gi t3))(Ye:r2.Pairwise (gi t2)):r3.map (lenOf t3)=r2.map (lenOf t2):=by
 subst e3 e2;exact LI g2 pm g3 Yd Ye lb3 pw3
def Bk(ts:List bZ):(PyData.list (ts.map oJ)).canLay0=true:=by
 have e:(PyData.list (ts.map oJ)).canLay0=PyData.canLayAll0 (ts.map oJ):=by simp[PyData.canLay0]
 rw[e,yf]
def tV(ts:List bZ):SeqAt.shaped (.list (ts.map oJ))=true:=by
 unfold SeqAt.shaped;rw[Bk,abx];refine dm ?_;have h:=uw ts;have e:PyData.depth (.list (ts.map oJ))=PyData.depthAll (ts.map oJ)+1:=by simp[PyData.depth]
 lia
def vD{H:Hp}:∀{xs:List V} {ts:List bZ},Paired (TupAt H) xs ts->∃ps:List (Addr×bZ),xs=ps.map (λq=>V.ref q.1)/\ps.map (·.2)=ts/\∀q∈ps,H q.1=some (.tup [.int q.2.1,.int q.2.2.1,.int q.2.2.2])
 | _,_,.nil=>⟨[],rfl,rfl,λ_ h=>nomatch h⟩
 | _,t::_,.cons ⟨b,e,h⟩ r=>by
   obtain⟨ps,O,U,Y⟩:=vD r;refine⟨(b,t)::ps,by rw[e,O];rfl,by rw[<-U];rfl,λq I=>?_⟩
   rcases aaC.mp I with rfl|I
   ·exact h
   ·exact Y q I
def vE{H:Hp}:∀{ps:List (Addr×bZ)},(∀q∈ps,H q.1=some (.tup [.int q.2.1,.int q.2.2.1,.int q.2.2.2]))->Paired (TupAt H) (ps.map λq=>V.ref q.1) (ps.map (·.2))
 | [],_=>.nil
 | q::_,h=>.cons ⟨q.1,rfl,h q aaF⟩ (vE λx hx=>h x (nU _ hx))
def Pe{ps ps' : List (Addr×bZ)}(pm:(ps.map (·.2)).Perm (ps'.map (·.2)))(h:ps.Pairwise λx y=>¬ gQ y.2 x.2)(h' : ps'.Pairwise λx y=>¬ gQ y.2 x.2):ps.map (·.2)=ps'.map (·.2):=by
 refine pm.eq_of_pairwise (le:=λx y:bZ=>¬ gQ y x) (λx y _ _ h1 h2=>?_) (abH.mpr h) (abH.mpr h')
 rcases Sb x y with z|z|z
 ·exact absurd z h2
 ·exact z
 ·exact absurd z h1
def Ie{ts:List bZ}{row:List Nat}(h:row.Perm (List.range ts.length)):(cC ts row).Perm ts:=by
 have e:ts=(List.range ts.length).map (bj ts):=by
  refine ac3 (by rw[aac,aaK]) λi a b=>?_
  rw[adz,ade];unfold bj;rw[aad,aag a];rfl
 have:=h.map (bj ts);rw[<-e]at this;exact this
def E9{C:Addr}{H H' : Hp}{p d q p2 d2 q2:Addr}{n:Nat}{hs:List (Nat×cL)}{ds:List kO}(h:gx C H p d q n hs ds)(k:Kept H H' p2 d2 q2)(z:∀x,x=p\/x=d\/x=q->x≠p2/\x≠d2/\x≠q2):gx C H' p d q n hs ds:=by
 obtain⟨dx,f,m,hs',e,O,hd⟩:=h.ob;obtain⟨ys,hq,pr⟩:=h.dn;obtain⟨kvs,hd0,_⟩:=hd.len;have I:∀x o,x=p\/x=d\/x=q->H x=some o->H' x=some o:=λx o hx U=>k.rest x o U (z x hx).1 (z x hx).2.1 (z x hx).2.2
 exact⟨h.ch,h.p1,h.p2,⟨dx,f,m,hs',e,I p _ (.inl rfl) O,hd.keep k.tups (by rw[hd0];exact I d _ (.inr (.inl rfl)) hd0)⟩,ys,I q _ (.inr (.inr rfl)) hq,Paired.imp' (λ_ _ z=>z.tups k.tups) pr⟩
def Ry{C:Addr}{H:Hp}{p d q:Addr}{n:Nat}{hs:List (Nat×cL)}{ds:List kO}(h:gx C H p d q n hs ds):∀x,x=p\/x=d\/x=q->∃o,H x=some o:=by
 obtain⟨dx,f,m,hs',e,I,hd⟩:=h.ob;obtain⟨ys,hq,pr⟩:=h.dn;obtain⟨kvs,hd0,_⟩:=hd.len;rintro x (rfl|rfl|rfl)
 ·exact⟨_,I⟩
 ·exact⟨_,hd0⟩
 ·exact⟨_,hq⟩
def CW(K:bJ)(tb:wg):Sp:=λvs H Q _=>∃(a:Addr) (ns:List Int),vs=[.ref a]/\aR K H a (ns.map V.int)/\ns.length<=63/\TabsAt tb H/\∀H',Q (.bl true) H'
def Yg:Ok T T.Sh 13 (CW K [(a.cV,lA "by_length",cE),(a.bS,lA "least_ways",bB)]):=by
 have pM:=pM T;have zm:=zm T;have jb:=jb T;have pN:=pN T;have jn:=jn T;have jm:=jm T;have dD:=dD T;have b8:=b8 T;have jU:=jU T;have fZ:=fZ T;have aP:=aP T;have dY:=dY T;have bI:=bI T;refine T.Sh.ok nC λ_ A _ s H vs Q E hr h=>?_
 ·obtain⟨b,ns,rfl,hS,hn,hT,fin⟩:=h;have Hz:=hT _ aaF;have Ft:=hT _ (nU _ aaF);refine⟨_,(ai (L8 (aH pM hr T.pD.c aE (aa (pv 0) (aa ak af))) (Dp K (n:=2) rfl (aL (bq 1 nC.nd) (aL (bq 2 nC.nd) c8))))
   (ai (aN (i:=3) nC.nd rfl (Or.inl rfl) (Iv T.mk_Standing dD (hr.mono (by decide)) (by rfl) T.za T.nX .nil aE (aa (pv 1) af)))
   (ai (fH PassesOwn.never rfl (wX K (pv 2)) (bq 4 nC.nd)
   (av (bL (aH zm hr T.yZ.c aE (aa (pv 3) (aa (pv 4) af))))))
   (ai (aN (i:=5) nC.nd rfl (Or.inl rfl) (bX (pv 3) T.aB T.bx aP (hr.mono (by decide)) T.bA .nil aE))
   (ai (aN (i:=6) nC.nd rfl (Or.inl rfl) (aH jn hr T.jj.c aE (aa (pv 1) (aa (aK (cT K) (pv 5) ak) af))))
   (ai (aN (i:=7) nC.nd rfl (Or.inl rfl) (aH jn hr T.jj.c aE (aa (pv 1) (aa (aH pN hr T.pF.c aE (aa (fc (Ws K) (by rfl) T.Ho adt (aa (aK (cT K) (pv 5) ak) af)) (aa (aH jb hr T.nK.c aE (aa (pv 0) (aa ak af))) af))) af))))
   (ai (bW (PW.pt (nV (aO (ud K hr.units) (bX (pv 6) T.aB T.bx aP (hr.mono (by decide)) T.bA .nil aE) (pv 5) (aM _)) (jG (aO (ud K hr.units) (cF (Bb K) (by rfl) T.tR adf (aa (aK (cT K) (bX (pv 7) T.aB T.bx aP (hr.mono (by decide)) T.bA .nil aE) ak) af)) (cF (Bb K) (by rfl) T.tR adf (aa (aK (cT K) (pv 5) ak) af)) (aM _))))) (av (aF iE)) aY)
   (ai (bW (PW.pt (nV (aO (ud K hr.units) (bX (pv 6) T.aB T.cK bI (hr.mono (by decide)) T.cR .nil aE) (bX (pv 3) T.aB T.cK bI (hr.mono (by decide)) T.cR .nil aE) (aM _)) (jG (aO (ud K hr.units) (bX (pv 7) T.aB T.cK bI (hr.mono (by decide)) T.cR .nil aE) (bX (pv 3) T.aB T.cK bI (hr.mono (by decide)) T.cR .nil aE) (aM _))))) (av (aF iE)) aY)
   (ai (bW (PW.pt (nV (aO MJ (aH jm hr T.ji.c aE (aa (pv 5) (aa (bX (pv 6) T.aB T.jE dY (hr.mono (by decide)) T.jX .nil aE) af))) iE (aM _)) (jG (aO MJ (aH jm hr T.ji.c aE (aa (bX (pv 6) T.aB T.bx aP (hr.mono (by decide)) T.bA .nil aE) (aa (bX (pv 3) T.aB T.jE dY (hr.mono (by decide)) T.jX .nil aE) af))) iE (aM _))))) (av (aF iE)) aY)
   (ai (fH PassesOwn.never rfl (cu (by rfl) T.dJ (aa (bX (pv 6) T.aB T.lO fZ (hr.mono (by decide)) T.mV .nil aE) af)) (bq 8 nC.nd)
   (av (bL (bX (pv 6) T.aB T.vm jU (hr.mono (by decide)) T.wK .nil aE))))
   (ai (bL (wU (pv 7) T.aB T.jS b8 (hr.mono (by decide)) T.lq .nil aE (aa ak (aa ak (aa ak af)))))
   (av (aF (ou (c9 (BD K hr.units) (bX (pv 3) T.aB T.bx aP (hr.mono (by decide)) T.bA .nil aE) (pv 5) (aM _)) (ou (c9 (BD K hr.units) (bX (pv 6) T.aB T.bx aP (hr.mono (by decide)) T.bA .nil aE) (cy (aa (pv 1) (aa (cy af) af))) (aM _)) (oq (c9 jq (bX (pv 3) T.aB T.lO fZ (hr.mono (by decide)) T.mV .nil aE) (cG K T.eG (aa (pv 2) af)) (aM _)))))))))))))))))),?_⟩
  refine Uz ?_;intro cH cQ eK fG gR mj yE Jo Jp Ol Ew Ex Xj Xk Xl Xm;refine(au rfl ⟨b,ns,14,rfl,hS,hn,λn ds c L xs H1 n1 n2 s1 hc hL pr rn e6=>?_⟩)
  refine⟨c,_,rfl,aU.of hc,rfl,_,_,rfl,_,_,rfl,rfl,?_⟩;refine(au rfl (λp dx hp Yb ne=>⟨p,dx,n,rfl,ae,by lia,by lia,λd q H2 ar uq S2 kp=>⟨rfl,?_⟩⟩))
  have s2:aq H1 H2:=λb o e=>kp b o (by rw[ah (aJ e hp),ah (aJ e Yb)];exact e) (aJ e hp)
  have fresh:∀e,upd (upd H1 dx (.own p)) p (.ins a.az dx []) e=none->H1 e=none:=λe he=>by
   by_cases e1:e=p
   ·rw[e1];exact hp
   ·rw[ah e1]at he
    by_cases e2:e=dx
    ·rw[e2];exact Yb
    ·rwa [ah e2]at he
  have ar:=fresh d ar;have uq:=fresh q uq;have Rv:=pr.length;refine(au rfl ⟨L,rfl,⟨_,aR.of (s2 _ _ hL)⟩,gX (K:=K) (a:=L) (xs:=xs) (λi σ H5=>∃v4,σ=[some (.ref b),some (.int (n:Int)),some (.ref L),some (.ref p),v4,none,none,none,none]/\aq H1 H5/\∃hs Y,gx a.az H5 p d q n (pL (0,[]) (ds.take i)::hs) Y/\Y.length=i) ⟨none,rfl,s2,[],[],S2,rfl⟩ (λi σ H5 _ ⟨_,_,z,_⟩=>aR.of (z _ _ hL)) ?_ ?_⟩)
  ·rintro i x D' σ H5 hx ⟨v4,rfl,s5,hs,Y,S5,Sv⟩;obtain⟨e,he,c',rfl,c2⟩:=Paired.lR pr hx;have LQ:=(jo.mp he).1;refine(au rfl (au rfl ⟨p,d,q,c',n,_,hs,Y,e,rfl,S5,s5 _ _ c2,rn.X3 he,n2,by lia,λH7 e' c3 S7=>?_⟩))
   refine(au rfl ⟨qp s5 c3 hp ar uq,pL (0,[]) (ds.take i)::hs,e'::Y,?_,aa4 (· + 1) Sv⟩);rw[aa1,he];show gx _ _ _ _ _ _ (pL _ (ds.take i++[e])::_) _;rw[vC];exact S7
  rintro σ HA ⟨v4,rfl,sA,hs,Y,SA,a8⟩;rw[Rv]at SA a8;rw[aa7]at SA;have few:=zp (s:=(0,[])) (aa3 _) rn;generalize pL (0,[]) ds=st at SA few;obtain⟨f,m⟩:=st;have few:m.length<=n+3:=few;have g:=SA.ch.ok.BL SA.p1 SA.p2;obtain⟨dxA,_,_,_,O,hpA,_⟩:=SA.ob;cases O;refine(au rfl ⟨p,dxA,_,rfl,hpA,fF (by decide +kernel) (by decide +kernel) (by decide +kernel) (by decide +kernel),p,d,q,n,f,m,hs,Y,rfl,SA,λwb HB sB hw=>?_⟩)
  generalize U:m.map (·.2)=ts at g hw;have e7:ts.length<=9:=by have:=aa4 List.length U;rw[aac]at this;lia
  obtain⟨bt,zs,h1,h2,h3⟩:=id hw.ex;have aw:=sA.trans sB;refine(au rfl (au rfl (cU (aU.of h1) (ao (j:=1) rfl) ⟨n,bt,_,ts,rfl,.inr h2,h3,g.rS,by lia,by lia,by lia,λpo Z qo so ab Sw HC c4 RB da sC SC I de=>?_⟩)))
  refine(au rfl (au rfl (cU (aU.of (sC _ _ h1)) (ao (j:=1) rfl) (vS rfl (.inr (aU.of (sC _ _ h2))) (λl3 UN=>?_)))))
  have sD:aq HC (upd HC l3 (.lst zs)):=aq.new UN;have Yh:upd HC l3 (.lst zs) l3=some (.lst zs):=ae;generalize upd HC l3 (.lst zs)=HD at sD Yh;have df:=(s1.trans aw).trans (sC.trans sD);have dq:Paired (TupAt HD) zs ts:=Paired.imp' (λ_ _ z=>z.tups (sC.trans sD).tups) h3
  refine(au rfl ⟨b,ns,0,rfl,df.seq hS,λz=>⟨l3,z,zs,ts,rfl,Yh,dq,by lia,λD ys row HE sE hD pm py=>?_⟩⟩)
  have g':=KL g pm;have a9:(cC ts row).length=ts.length:=by unfold cC;rw[aac,pm.length_eq,aaK]
  refine⟨n,D,ys,cC ts row,rfl,.inl hD,py,g'.rS,by lia,by lia,by lia,λpt et qt dr ag Zg HF e9 fe fi sF SF LY fm=>?_⟩
  have BE:=(sC.trans sD).trans sE;have BF:=BE.trans sF;have UY:=(SC.same (sD.trans sE)).same sF;have Zh:=(SA.same sB).same BF;have ba:=(s1.trans aw).trans BF;have bb:=hw.same BF;obtain⟨fo,mo⟩:=so;obtain⟨ft,mt⟩:=dr;obtain⟨Yi,_,_,_,O,Pf,_⟩:=UY.ob;cases O;obtain⟨dxt,_,_,_,O,Yj,_⟩:=SF.ob;cases O;have I:mo.map (·.2)=ts:=I;have LY:mt.map (·.2)=cC ts row:=LY;refine(au rfl ⟨po,Yi,_,rfl,Pf,fF (by decide +kernel) (by decide +kernel) (by decide +kernel) (by decide +kernel),po,Z,qo,n,fo,mo,ab,Sw,rfl,UY,λwo HG sG bc=>?_⟩)
  rw[I]at bc;have du:=bb.same sG;refine(au rfl ⟨_,_,pV bc,pV du,iM _ _,iM _ _,_,rfl,?_⟩);rw[SeqAt.eqv_refl _ (xh n ts)];refine dN (au rfl ⟨pt,dxt,_,rfl,sG _ _ Yj,fF (by decide +kernel) (by decide +kernel) (by decide +kernel) (by decide +kernel),pt,et,qt,n,ft,mt,ag,Zg,rfl,SF.same sG,λwt HI sI bo=>?_⟩)
  rw[LY]at bo;obtain⟨b3,z3,k1,k2,k3⟩:=id bo.ex;obtain⟨ps3,e31,e32,e33⟩:=vD k3;rw[e31]at k2;have FI:=sG.trans sI;have fv:ps3.length=ts.length:=by have:=aa4 List.length e32;rw[aac,a9]at this;exact this
  refine(cU (aU.of k1) (ao (j:=1) rfl) ⟨b3,ps3,rfl,aU.of k2,e33,by lia,λl4 UZ dv bp dy=>?_⟩)
  have sJ:aq HI (upd HI l4 (.lst (UZ.map λq=>V.ref q.1))):=aq.new dv
  have Yk:upd HI l4 (.lst (UZ.map λq=>V.ref q.1)) l4=some (.lst (UZ.map λq=>V.ref q.1)):=ae
  generalize upd HI l4 (.lst (UZ.map λq=>V.ref q.1))=HJ at sJ Yk
  obtain⟨bw,dA,bD,bP⟩:=vD h3;rw[dA]at h2;have BJ:=(BF.trans FI).trans sJ;have fx:bw.length=ts.length:=by have:=aa4 List.length bD;rw[aac]at this;exact this
  refine(au rfl (cU (aU.of (BJ _ _ h1)) (ao (j:=1) rfl) ⟨bt,bw,rfl,aU.of (BJ _ _ h2),(λq hq=>BJ _ _ (bP q hq)),by lia,λl5 U0 dC bR dE=>?_⟩))
  have sK:aq HJ (upd HJ l5 (.lst (U0.map λq=>V.ref q.1))):=aq.new dC
  have Yl:upd HJ l5 (.lst (U0.map λq=>V.ref q.1)) l5=some (.lst (U0.map λq=>V.ref q.1)):=ae
  generalize upd HJ l5 (.lst (U0.map λq=>V.ref q.1))=HK at sK Yl
  have dV:UZ.map (·.2)=U0.map (·.2):=Pe ((bp.map _).trans (by rw[e32];exact(Ie pm).trans (by rw[<-bD];exact(bR.map _).symm))) dy dE
  have BK:=BJ.trans sK;have d4:Paired (TupAt HK) (UZ.map λq=>V.ref q.1) (UZ.map (·.2)):=vE λq hq=>(sJ.trans sK) _ _ (e33 q (bp.mem_iff.mp hq))
  have d5:Paired (TupAt HK) (U0.map λq=>V.ref q.1) (U0.map (·.2)):=vE λq hq=>BK _ _ (bP q (bR.mem_iff.mp hq))
  refine⟨_,_,.lst (aR.of (sK _ _ Yk)) (sy d4),.lst (aR.of Yl) (sy d5),tV _,tV _,_,rfl,?_⟩;rw[dV,SeqAt.eqv_refl _ (Bk _)];refine dN ?_;have FK:=(FI.trans sJ).trans sK;have tb:∀{H9:Hp},aq HF H9->H9 a.bS=some (.jF (dU (lA "least_ways") bB))/\H9 a.cV=some (.jF (dU (lA "by_length") cE)):=λs9=>⟨(ba.trans s9) _ _ Ft,(ba.trans s9) _ _ Hz⟩
  have go:aA n (mo.map (·.2)):=by rw[I];exact g
  have gt:aA n (mt.map (·.2)):=by rw[LY];exact g'
  have gs:aA n (m.map (·.2)):=by rw[U];exact g
  have b2:∀{z:List Int},PyData.eqv (.list (z.map PyData.int)) (.list (z.map PyData.int))=true:=SeqAt.eqv_refl _ (Pc _);obtain⟨ax,_,_,_,O,U1,_⟩:=Zh.ob;cases O;refine(au rfl ⟨po,Yi,_,rfl,FK _ _ Pf,fF (by decide +kernel) (by decide +kernel) (by decide +kernel) (by decide +kernel),po,Z,qo,n,fo,mo,ab,Sw,go,rfl,UY.same FK,(tb FK).1,(tb FK).2,λD1 r1 HL _ sL uE ea eb ec=>?_⟩)
  have FL:=FK.trans sL;refine(au rfl ⟨p,ax,_,rfl,FL _ _ U1,fF (by decide +kernel) (by decide +kernel) (by decide +kernel) (by decide +kernel),p,d,q,n,f,m,hs,Y,gs,rfl,Zh.same FL,(tb FL).1,(tb FL).2,λD2 r2 HM _ sM j9 Yd Ye ed=>?_⟩)
  rw[Rx (I.trans U.symm) ea Yd eb Ye ec ed]at uE;have FM:=FL.trans sM;refine⟨_,_,.lst (aR.of (sM _ _ uE)) (mZ _),.lst (aR.of j9) (mZ _),shaped_ints _,shaped_ints _,_,rfl,?_⟩;rw[b2];refine dN (au rfl ⟨pt,dxt,_,rfl,FM _ _ Yj,fF (by decide +kernel) (by decide +kernel) (by decide +kernel) (by decide +kernel),pt,et,qt,n,ft,mt,ag,Zg,gt,rfl,SF.same FM,(tb FM).1,(tb FM).2,λD3 r3 HN _ sN zy ee ef fy=>?_⟩)
  have FN:=FM.trans sN;refine(au rfl ⟨p,ax,_,rfl,FN _ _ U1,fF (by decide +kernel) (by decide +kernel) (by decide +kernel) (by decide +kernel),p,d,q,n,f,m,hs,Y,gs,rfl,Zh.same FN,(tb FN).1,(tb FN).2,λD4 r4 fz _ sO Fq eh ei fA=>?_⟩)
  rw[LJ LY U pm ee eh ef ei]at zy;have FO:=FN.trans sO;refine⟨_,_,.lst (aR.of (sO _ _ zy)) (mZ _),.lst (aR.of Fq) (mZ _),shaped_ints _,shaped_ints _,_,rfl,?_⟩;rw[b2];refine dN ?_;refine(au rfl (au rfl ⟨po,Yi,_,rfl,FO _ _ Pf,fF (by decide +kernel) (by decide +kernel) (by decide +kernel) (by decide +kernel),po,Z,qo,n,fo,mo,ab,Sw,go,rfl,UY.same FO,(tb FO).1,(tb FO).2,λb5 y5 ej HP sP Vr OQ b4 ek el b6 gc=>?_⟩))
  have FP:=FO.trans sP;have Ym:∀{t1:List bZ} {g1:aA n t1} {tr:List Rp},RM.LB g1.N (aW t1) (tr.map (·.1))->(tr.map X8).length<=60:=λlb=>by have:=UR lb;rw[aac]at this;rw[aac];lia
  have cb:=bb.same FP;rw[<-I]at cb;refine⟨wb,n,_,go,b5,y5,ej.map X8,rfl,cb,(tb FP).2,Vr,Ib OQ λt ht=>(b6 t ht).1,Ym b4,λHQ dQ sQ en=>?_⟩
  rw[en.mpr (zo b4 ek el b6)];have FQ:=FP.trans sQ;refine⟨true,true,rfl,rfl,au rfl (dN ?_)⟩;refine(au rfl ⟨po,Yi,_,rfl,FQ _ _ Pf,fF (by decide +kernel) (by decide +kernel) (by decide +kernel) (by decide +kernel),po,Z,qo,n,fo,mo,ab,Sw,rfl,UY.same FQ,λw6 HR sR er=>?_⟩)
  have FR:=FQ.trans sR;refine(au rfl ⟨p,ax,_,rfl,FR _ _ U1,fF (by decide +kernel) (by decide +kernel) (by decide +kernel) (by decide +kernel),p,d,q,n,f,m,hs,Y,gs,rfl,Zh.same FR,(tb FR).1,(tb FR).2,λb7 y7 eu HS sS Sk ew cc ey eC cn gd=>?_⟩)
  have FS:=FR.trans sS;have cp:=er.same sS;rw[I,<-U]at cp;refine⟨w6,n,_,gs,b7,y7,eu.map X8,rfl,cp,(tb FS).2,Sk,Ib ew λt ht=>(cn t ht).1,Ym cc,λHT dT sT eD=>?_⟩
  rw[eD.mpr (zo cc ey eC cn)];have FT:=FS.trans sT;refine⟨true,true,rfl,rfl,au rfl (dN ?_)⟩;have BT:=BF.trans FT;refine(au rfl ⟨po,Yi,_,rfl,FT _ _ Pf,fF (by decide +kernel) (by decide +kernel) (by decide +kernel) (by decide +kernel),po,Z,qo,n,_,Sw,rfl,UY.same FT,?_⟩)
  have de:Sw.length<=20:=by lia
  have eH:∀x,x=po\/x=Z\/x=qo->∃o,HE x=some o:=Ry (SC.same (sD.trans sE));have cq:∀x,x=pt\/x=et\/x=qt->HE x=none:=by rintro x (rfl | rfl | rfl)<;>assumption
  have dist:∀x y,(x=pt\/x=et\/x=qt)->(y=po\/y=Z\/y=qo)->x≠y:=λx y hx hy e=>by
   obtain⟨o,ho⟩:=eH y hy;have:=cq x hx;rw[e,ho]at this;cases this
  have aT:∀x,x=pt\/x=et\/x=qt->HB x=none:=λx hx=>BE.free (cq x hx)
  refine(au rfl ⟨(by lia),(by lia),?_⟩)
  refine kU (lo:=0) (n:=(Sw.length:Int).toNat) (λi σ H9=>∃v8,σ=[some (.ref b),some (.int (n:Int)),some (.ref L),some (.ref p),v4,some (.ref wb),some (.ref po),some (.ref pt),v8]/\aq HB H9/\(∃Yn VB,gx a.az H9 po Z qo n Yn VB/\VB.length+i=Sw.length)/\gx a.az H9 pt et qt n ((ft,mt)::ag) Zg) ⟨none,rfl,BT,⟨_,_,UY.same FT,rfl⟩,SF.same FT⟩ ?_ ?_
  ·rintro i D' σ H9 hi ⟨v8,rfl,s9,⟨Yn,VB,S9,Zi⟩,Zj⟩;rw[aaE]at hi;have eL:=S9.ch.len;cases VB with
   | nil=>exact absurd Zi (by rw[acz];lia)
   | cons e Na =>
     match Yn,eL with
     | s1::s2::hs',_ =>
       obtain⟨a3,_,_,_,O,a4,_⟩:=S9.ob;refine(au rfl ⟨po,a3,_,rfl,a4,fF (by decide +kernel) (by decide +kernel) (by decide +kernel) (by decide +kernel),po,Z,qo,n,s1,s2,hs',e,Na,rfl,S9,λHX kp SX=>(au rfl ⟨qp s9 kp c4 RB da,⟨_,_,SX,by rw[abj]at Zi;lia⟩,E9 Zj kp λx hx=>⟨dist x po hx (.inl rfl),dist x Z hx (.inr (.inl rfl)),dist x qo hx (.inr (.inr rfl))⟩⟩)⟩)
  ·rintro σ H9 ⟨v8,rfl,s9,⟨Yn,VB,S9,Zi⟩,Zj⟩;rw[aaE]at Zi;have eP:VB=[]:=acS (by lia)
   subst eP;obtain rfl:Yn=[(0,[])]:=by cases S9.ch with|nil=>rfl
   obtain⟨a3,_,_,_,O,a4,_⟩:=Zj.ob;have eQ:ik (n:Int) (0,1,1):=⟨by show(0:Int)<=0;decide,by show(0:Int)<_;lia,by show(0:Int)<=1;decide,by show(1:Int)<_;lia,by show(0:Int)≠1;decide,by show(1:Int)<=1;decide,by show(1:Int)<=_;decide⟩
   have gg:mt.length=ts.length:=by have:=aa4 List.length LY;rw[aac,a9]at this;exact this
   refine(au rfl ⟨pt,a3,_,rfl,a4,fF (by decide +kernel) (by decide +kernel) (by decide +kernel) (by decide +kernel),pt,et,qt,n,ft,mt,ag,Zg,(0,1,1),rfl,Zj,eQ,by lia,by lia,λHX cv _=>?_⟩)
   have sX:=qp s9 cv (aT pt (.inl rfl)) (aT et (.inr (.inl rfl))) (aT qt (.inr (.inr rfl)));have SX:=E9 S9 cv λx hx=>⟨(dist pt x (.inl rfl) hx).symm,(dist et x (.inr (.inl rfl)) hx).symm,(dist qt x (.inr (.inr rfl)) hx).symm⟩
   have a5:=(SA.same sB).same sX;obtain⟨cw,_,_,_,O,c1,_⟩:=a5.ob;cases O;refine(au rfl ⟨p,cw,_,rfl,c1,fF (by decide +kernel) (by decide +kernel) (by decide +kernel) (by decide +kernel),p,d,q,n,f,m,hs,Y,rfl,a5,λw8 HY sY YZ=>?_⟩)
   rw[U]at YZ;refine(au rfl ⟨_,_,pV YZ,pV (hw.same (sX.trans sY)),iM _ _,iM _ _,_,rfl,?_⟩);rw[SeqAt.eqv_refl _ (xh n ts)];obtain⟨eS,_,_,_,O,e3,_⟩:=(SX.same sY).ob;cases O;refine fC (au rfl ⟨po,eS,_,rfl,e3,fF (by decide +kernel) (by decide +kernel) (by decide +kernel) (by decide +kernel),po,Z,qo,n,0,[],[],[],rfl,SX.same sY,λw9 HZ sZ e4=>?_⟩)
   refine(au rfl ⟨dl rfl,λe he=>⟨dl rfl,λw2 e5=>?_⟩⟩)
   have sU:aq HZ (upd HZ e (.tup [])):=aq.new he;have sV:aq (upd HZ e (.tup [])) (upd (upd HZ e (.tup [])) w2 (.tup [.int (n:Int),.ref e])):=aq.new e5;have W2:bE (upd (upd HZ e (.tup [])) w2 (.tup [.int (n:Int),.ref e])) w2 n []:=⟨e,[],ae,sV _ _ ae,.nil⟩;have a6:=sU.trans sV;have W1:bE _ w9 n []:=e4.same a6;generalize upd (upd HZ e (.tup [])) w2 (.tup [.int (n:Int),.ref e])=HW at W2 a6 W1;refine⟨_,_,pV W1,pV W2,iM _ _,iM _ _,_,rfl,?_⟩;rw[SeqAt.eqv_refl _ (xh n [])];have a7:=(sY.trans sZ).trans a6;refine fC (au rfl ⟨p,cw,_,rfl,a7 _ _ c1,fF (by decide +kernel) (by decide +kernel) (by decide +kernel) (by decide +kernel),p,d,q,n,_,Y,rfl,a5.same a7,_,rfl,vS rfl (.inl (aR.of ((aw.trans (sX.trans a7)) _ _ hL))) ⟨rfl,?_⟩⟩)
   rw[dm (by rw[a8,Rv])]
   exact fin _
end
section
variable {l:PySem.W.OpenLaw}{w:World}{K:bJ}{h:Heap}{mg:nY}{fa f0 f1 f2 f3 f4 f5 f6 f7 f8 f9 f10 f11 f12 f13 f14 f15 f16 f17 f18 f19 f20 f21 f22 f23 f24 f25 f26 f27 f28 f29 f30 f31 f32 f33 f34 f35 f36 f37 f38 f39 f40 f41 f42 f43 f44 f45 f46 f47 f48 f49 f50 f51 f52 f53 f54 f55 f56 f57 f58 Zk Zl Zm Zn Zo f64 Zp Zq Zr Zs Fb zu zw vF zx Fc bh tW gb qK fB:Addr}{d0 d1 d2 d3 d4 d5 d6 d7 d8 d9 d10 d11 d12 d13 d14 d15 d16 d17 d18 d19 d20 d21 d22 d23 d24 d25 d26 d27 d28 d29 d30 d31 d32 d33 d34 d35 d36 d37 d38 d39 d40 d41 d42 d43 d44 d45 d46 d47 d48 d49 d50 d51 d52 d53 d54 d55 d56 d57 d58 d59 d60 d61 d62 d63 d64 d65 d66 d67 d68:FuncData}{ts:List Addr}{Aj Fd LK:Tok}
open PySem.W
def all_mk(X:K.In h)(G:h.Ns mainGlobals mg)(hfa:mg "law"=some (.ref fa))(te:ts=[gb,fB])
 (d_BadWeb:nsIn K mainGlobals "BadWeb"=some (some (.ref Fb)))
 (d_BadSet:nsIn K mainGlobals "BadSet"=some (some (.ref zu)))
 (d_BadPoint:nsIn K mainGlobals "BadPoint"=some (some (.ref zw)))
 (d_NoChord:nsIn K mainGlobals "NoChord"=some (some (.ref vF)))
 (d_NoBase:nsIn K mainGlobals "NoBase"=some (some (.ref zx)))
 (d_NoDeed:nsIn K mainGlobals "NoDeed"=some (some (.ref Fc)))
 (d_Standing:nsIn K mainGlobals "Standing"=some (some (.ref bh)))
 (pg_Standing:plainGet K bh Str.empty=true) (hd_Standing:hasDictIn K bh=true) (po_Standing:plainOver K bh=true) (sa_Standing:findIn K (.ref bh) "__setattr__"=some (some (.builtin "object.__setattr__"))) (mk_Standing:makesIn K bh=true) (kc_Standing:keepIn K (.ref bh)=true)
 (na_points:findIn K (.ref bh) "points"=some none)
 (na_standing_ties:findIn K (.ref bh) "standing_ties"=some none)
 (na_next_name:findIn K (.ref bh) "next_name"=some none)
 (na_done:findIn K (.ref bh) "done"=some none)
 (xc_BadSet:excIn K zu [.type "ValueError",.type "Exception",.type "BaseException",.type "object"] "ValueError.__new__"=true)
 (xc_NoChord:excIn K vF [.type "ValueError",.type "Exception",.type "BaseException",.type "object"] "ValueError.__new__"=true)
 (xc_NoBase:excIn K zx [.type "ValueError",.type "Exception",.type "BaseException",.type "object"] "ValueError.__new__"=true)
 (ma59:findIn K (.ref bh) "__init__"=some (some (.ref Zk))) (mj59:isFn K (.ref Zk)=true) (a59:rM K "__init__" "Standing.__init__" jI Zk d59)
 (ma60:findIn K (.ref bh) "put"=some (some (.ref Zl))) (mj60:isFn K (.ref Zl)=true) (a60:rM K "put" "Standing.put" kY Zl d60)
 (ma61:findIn K (.ref bh) "drop"=some (some (.ref Zm))) (mj61:isFn K (.ref Zm)=true) (a61:rM K "drop" "Standing.drop" jK Zm d61)
 (ma62:findIn K (.ref bh) "back"=some (some (.ref Zn))) (mj62:isFn K (.ref Zn)=true) (a62:rM K "back" "Standing.back" jL Zn d62)
 (ma63:findIn K (.ref bh) "names"=some (some (.ref Zo))) (mj63:isFn K (.ref Zo)=true) (a63:rM K "names" "Standing.names" iS Zo d63)
 (ma64:findIn K (.ref bh) "ties_now"=some (some (.ref f64))) (mj64:isFn K (.ref f64)=true) (a64:rM K "ties_now" "Standing.ties_now" dX f64 d64)
 (ma65:findIn K (.ref bh) "web_now"=some (some (.ref Zp))) (mj65:isFn K (.ref Zp)=true) (a65:rM K "web_now" "Standing.web_now" gU Zp d65)
 (ma66:findIn K (.ref bh) "base_now"=some (some (.ref Zq))) (mj66:isFn K (.ref Zq)=true) (a66:rM K "base_now" "Standing.base_now" gn Zq d66)
 (ma67:findIn K (.ref bh) "lengths_now"=some (some (.ref Zr))) (mj67:isFn K (.ref Zr)=true) (a67:rM K "lengths_now" "Standing.lengths_now" eR Zr d67)
 (ma68:findIn K (.ref bh) "deeds"=some (some (.ref Zs))) (mj68:isFn K (.ref Zs)=true) (a68:rM K "deeds" "Standing.deeds" iT Zs d68)
 (nt:noTabs K=true) (pn:([gb,fB]:List Addr).Nodup) (pi:∀p∈([gb,fB]:List Addr),p∈ts)
 (a0:Dk K "made_web" ni f0 d0)
 (a1:Dk K "made_tie" qW f1 d1)
 (a2:Dk K "has_tie" uF f2 d2)
 (a3:Dk K "ties_in" qa f3 d3)
 (a4:Dk K "set_of" yF f4 d4)
 (a5:Dk K "all_ties" qX f5 d5)
 (a6:Dk K "is_set" yG f6 d6)
 (a7:Dk K "check_set" oY f7 d7)
 (a8:Dk K "triples_in" kc f8 d8)
 (a9:Dk K "length_of" lJ f9 d9)
 (a10:Dk K "odd_points" kg f10 d10)
 (a11:Dk K "drawn_together" fR f11 d11)
 (a12:Dk K "pieces" tE f12 d12)
 (a13:Dk K "rank" GP f13 d13)
 (a14:Dk K "is_even" uG f14 d14)
 (a15:Dk K "forest_trails" gA f15 d15)
 (a16:Dk K "forest" yH f16 d16)
 (a17:Dk K "chords" yI f17 d17)
 (a18:Dk K "ring_closed" lT f18 d18)
 (a19:Dk K "chord_ring" nj f19 d19)
 (a20:Dk K "is_ring" qg f20 d20)
 (a21:Dk K "is_ring_number" iQ f21 d21)
 (U:Ux K "by_length" lK f22 d22 tW gb)
 (a23:Dk K "common" yK f23 d23)
 (a24:Dk K "bears_oddly" lU f24 d24)
 (a25:Dk K "is_side" uJ f25 d25)
 (a26:Dk K "cut_of" tG f26 d26)
 (a27:Dk K "side_of" qh f27 d27)
 (a28:Dk K "steps_by_point" fT f28 d28)
 (Y:Ux K "least_ways" iA f29 d29 qK fB)
 (a30:Dk K "length_of_way" jH f30 d30)
 (a31:Dk K "worths_of_ways" fU f31 d31)
 (a32:Dk K "all_least_ways" fV f32 d32)
 (a33:Dk K "worths_of_all" gB f33 d33)
 (a34:Dk K "worths_for" nu f34 d34)
 (a35:Dk K "least_odd" lM f35 d35)
 (a36:Dk K "near_enough" lV f36 d36)
 (a37:Dk K "tie_stands" ny f37 d37)
 (a38:Dk K "worths_stand" kW f38 d38)
 (a39:Dk K "none_shorter" fM f39 d39)
 (a40:Dk K "ring_stands" lX f40 d40)
 (a41:Dk K "reduced" uM f41 d41)
 (a42:Dk K "with_row" qY f42 d42)
 (a43:Dk K "rows_of" uN f43 d43)
 (a44:Dk K "is_base" qi f44 d44)
 (a45:Dk K "marks_for" lN f45 d45)
 (a46:Dk K "least_rings" gz f46 d46)
 (a47:Dk K "least_base" ki f47 d47)
 (a48:Dk K "lengths" qj f48 d48)
 (a49:Dk K "marks_fit" jA f49 d49)
 (a50:Dk K "base_judged" fj f50 d50)
 (a51:Dk K "_law_cell" qZ f51 d51)
 (a52:Dk K "_law_turn" q9 f52 d52)
 (a53:Dk K "_law_near" rf f53 d53)
 (a54:Dk K "_law_deeds" o6 f54 d54)
 (a55:Dk K "_law_do" yQ f55 d55)
 (a56:Dk K "_law_put_all" lZ f56 d56)
 (a57:Dk K "_law_mixed" o7 f57 d57)
 (O:Dk K "law" Om f58 d58)
 (CY:Ng K "ValueError")
 (Yo:Ng K "abs")
 (Yp:Ng K "all")
 (Fe:Ng K "enumerate")
 (Yq:Ng K "len")
 (U3:Ng K "list")
 (Yr:Ng K "max")
 (Ys:Ng K "min")
 (Rz:Ng K "range")
 (Pg:Ng K "sorted")
 (Yt:Ng K "sum")
 (RA:Ng K "tuple")
 (Yu:Ng K "zip")
 (Ak:nsIn K mainGlobals "MOST_POINTS"=some (some (.int 10 Aj)))
 (Ff:nsIn K mainGlobals "MOST_TIES"=some (some (.int 24 Fd)))
 (LL:nsIn K mainGlobals "LONGEST"=some (some (.int 1000000000000000000000000000000 LK)))
 : ∃(fd:FuncData) (tb:wg),((tb.map (·.1)).Nodup/\noTabs K=true/\∀p∈tb,p.1∈ts/\∃c,codeHdIn K c p.1=true)/\(∀(s:Shared) (v:Value),BindsTo s fd ⟨[v],[]⟩ [("script",v)])/\∀base:Heap,K.In base->base.Ns mainGlobals mg->gH l.prog w K mg base wW 13 fa fd ["script"] (CW K tb):=by
 have e:=hfa.symm.trans (mg_of X G O.n);cases e;have T:∀base,Txt l.prog w base K mg ⟨f0,_,f1,_,f2,_,f3,_,f4,_,f5,_,f6,_,f7,_,f8,_,f9,_,f10,_,f11,_,f12,_,f13,_,f14,_,f15,_,f16,_,f17,_,f18,_,f19,_,f20,_,f21,_,f22,_,f23,_,f24,_,f25,_,f26,_,f27,_,f28,_,f29,_,f30,_,f31,_,f32,_,f33,_,f34,_,f35,_,f36,_,f37,_,f38,_,f39,_,f40,_,f41,_,f42,_,f43,_,f44,_,f45,_,f46,_,f47,_,f48,_,f49,_,f50,_,f51,_,f52,_,f53,_,f54,_,f55,_,f56,_,f57,_,fa,_,Zk,_,Zl,_,Zm,_,Zn,_,Zo,_,f64,_,Zp,_,Zq,_,Zr,_,Zs,_,Fb,zu,zw,vF,zx,Fc,bh,tW,gb,qK,fB⟩:=λ_=>⟨oX X G a0,oX X G a1,oX X G a2,GL X G a3,oX X G a4,GL X G a5,oX X G a6,oX X G a7,oX X G a8,oX X G a9,oX X G a10,Vk X G a11,oX X G a12,GL X G a13,oX X G a14,GL X G a15,GL X G a16,GL X G a17,Vk X G a18,oX X G a19,oX X G a20,oX X G a21,dl2 X G U,oX X G a23,oX X G a24,oX X G a25,oX X G a26,oX X G a27,oX X G a28,dl3 X G Y,GL X G a30,GL X G a31,oX X G a32,GL X G a33,oX X G a34,oX X G a35,Vk X G a36,Vk X G a37,Vk X G a38,oX X G a39,dn4 X G a40,oX X G a41,oX X G a42,GL X G a43,oX X G a44,oX X G a45,GL X G a46,GL X G a47,GL X G a48,Vk X G a49,oX X G a50,oX X G a51,GL X G a52,oX X G a53,oX X G a54,oX X G a55,oX X G a56,oX X G a57,GL X G O,a59,⟨mk_Standing,ma59,mj59,kc_Standing⟩,a59.binds (λ_ _ _ _ _ _ us I=>by obtain⟨_,_,rfl⟩:=TH us I;rfl),a60,⟨ma60,mj60,a60.kp⟩,a60.binds (λ_ _ _ _ _ _ us I=>by obtain⟨_,_,_,_,rfl⟩:=WG us I;rfl),a61,⟨ma61,mj61,a61.kp⟩,a61.binds (λ_ _ _ _ _ _ us I=>by obtain⟨_,_,rfl⟩:=TH us I;rfl),a62,⟨ma62,mj62,a62.kp⟩,a62.binds (λ_ _ _ _ _ _ us I=>by obtain⟨_,rfl⟩:=Dq us I;rfl),a63,⟨ma63,mj63,a63.kp⟩,a63.binds (λ_ _ _ _ _ _ us I=>by obtain⟨_,rfl⟩:=Dq us I;rfl),a64,⟨ma64,mj64,a64.kp⟩,a64.binds (λ_ _ _ _ _ _ us I=>by obtain⟨_,rfl⟩:=Dq us I;rfl),a65,⟨ma65,mj65,a65.kp⟩,a65.binds (λ_ _ _ _ _ _ us I=>by obtain⟨_,rfl⟩:=Dq us I;rfl),a66,⟨ma66,mj66,a66.kp⟩,a66.binds (λ_ _ _ _ _ _ us I=>by obtain⟨_,rfl⟩:=Dq us I;rfl),a67,⟨ma67,mj67,a67.kp⟩,a67.binds (λ_ _ _ _ _ _ us I=>by obtain⟨_,rfl⟩:=Dq us I;rfl),a68,⟨ma68,mj68,a68.kp⟩,a68.binds (λ_ _ _ _ _ _ us I=>by obtain⟨_,rfl⟩:=Dq us I;rfl),acd X G CY.n,acd X G Yo.n,acd X G Yp.n,acd X G Fe.n,acd X G Yq.n,acd X G U3.n,acd X G Yr.n,acd X G Ys.n,acd X G Rz.n,acd X G Pg.n,acd X G Yt.n,acd X G RA.n,acd X G Yu.n,⟨_,mg_of X G Ak⟩,⟨_,mg_of X G Ff⟩,⟨_,mg_of X G LL⟩,mg_of X G d_BadWeb,mg_of X G d_BadSet,mg_of X G d_BadPoint,mg_of X G d_NoChord,mg_of X G d_NoBase,mg_of X G d_NoDeed,mg_of X G d_Standing,⟨pg_Standing,hd_Standing,po_Standing,sa_Standing⟩,na_points,na_standing_ties,na_next_name,na_done,λh1 Z G1=>F9 Z G1 d_BadSet xc_BadSet,λh1 Z G1=>F9 Z G1 d_NoChord xc_NoChord,λh1 Z G1=>F9 Z G1 d_NoBase xc_NoBase⟩
 exact⟨_,[(gb,lA "by_length",cE),(fB,lA "least_ways",bB)],⟨pn,nt,λp hp=>⟨pi _ (abU (f:=(·.1)) hp),by simp only[aaC,acu,or_false]at hp;rcases hp with rfl | rfl;all_goals first | exact⟨_,U.F.hd⟩ | exact⟨_,Y.F.hd⟩⟩⟩,Uy O,λbase _ _=>Yg (T base)⟩
end
def walk{l:PySem.W.OpenLaw}{q:Program}{loose:List Str}{XP:(Str->Option Value)->Heap->Prop}{YP:World->Heap->Prop}{d:DefRec}{K:Params->bJ}{ts:List Addr}(hn:l.most=some 63)(RH:d.params.defaults=[])
 (hY:∀(w:World) (h:Heap),YP w h->(K w.params).In h/\∀P∈ts,h.get? P=some (PySem.W.tabObj #[]))
 (F:∀(w:World) (mg:nY) (fa:Addr) (h:Heap),(K w.params).In h->h.Ns mainGlobals mg->mg d.name=some (.ref fa)->
  ∃(fd:FuncData) (tb:wg),((tb.map (·.1)).Nodup/\PySem.W.noTabs (K w.params)=true/\∀p∈tb,p.1∈ts/\∃c,PySem.W.codeHdIn (K w.params) c p.1=true)/\(∀(s:Shared) (u:Value),BindsTo s fd ⟨[u],[]⟩ [("script",u)])/\∀base:Heap,(K w.params).In base->base.Ns mainGlobals mg->gH l.prog w (K w.params) mg base wW 13 fa fd ["script"] (CW (K w.params) tb)) :
 PySem.W.WalkO q loose XP YP l.row.toRowW d [] (λf vs=>PySem.call f vs) :=
 L2.NZ (n:=63) (k:=13) (x:="script") (CX:=λ_=>wW) (sp:=λw=>CW (K w.params)) hn (by decide) RH ⟨rfl,by decide,by decide⟩ hY F (λ_ _ a ns tb I O U=>⟨a,ns,rfl,U,I,O,λ_=>rfl⟩) λ_ _ _ _ _ z=>z
end K57
namespace PySem.W.Fast
def tw17910222036707667138:=()
def tw14725013272243775901:=()
def tw11029855861783941783:=()
def tw992819664612440336:=()
def tw9513769471653283768:=()
def tw7625780957417043483:=()
def tw13323829510690421393:=()
def tw13184783603912120094:=()
def tw7354010346808814977:=()
def tw13908544807071481230:=()
def tw3233831897340193612:=()
def tw13727348140272532284:=()
def tw11181698584904266844:=()
def tw18316046060717082552:=()
def tw9208698237488455832:=()
def tw16792761373474287138:=()
def tw5585352207087028649:=()
def tw9376425363386984694:=()
def tw12221317822630521277:=()
def tw18051939952672855162:=()
def tw6482871805279594670:=()
def tw6836557971997373491:=()
def tw13400866403215330294:=()
def tw9080874778328425867:=()
def tw10527537101496968674:=()
def tw13447287686065688116:=()
def tw5042009685386980089:=()
def tw8529555985439345437:=()
def tw10864506957948013561:=()
def tw7251457556445903993:=()
def tw15462338748652876665:=()
def tw7172093837739901879:=()
def tw9942956784362674959:=()
def tw5850843901073155525:=()
def tw2307027642375736099:=()
def tw8897806737538458566:=()
def tw10513930862395772474:=()
def tw9116593113253358529:=()
def tw10007997642804678093:=()
def tw2881259615336057245:=()
def tw18030552540143686172:=()
def tw8204868096019903295:=()
def tw6311081277605944341:=()
def tw14517679333343677118:=()
def tw10941776660869417027:=()
def tw9566642649950033983:=()
def tw15852865888820318433:=()
def tw11158127347141906554:=()
def tw12355937194019050816:=()
def tw15829174341009966667:=()
def tw7466674810954765866:=()
def tw715425000558160407:=()
def tw5514639589696209836:=()
def tw18047637101846007579:=()
def tw10057196788360378036:=()
def tw1747952641212283318:=()
def tw4632053766578479479:=()
def tw6961451421736683243:=()
def tw5499700631221899792:=()
def tw15434415603496450475:=()
def tw3120047484545477367:=()
def tw3748579669343086080:=()
def tw18378287358534808766:=()
def tw12795451407787096673:=()
def tw10859815031368192638:=()
def tw7919899232034268554:=()
def tw16561102270967147583:=()
def tw4107705971831280026:=()
def tw9494505669334976884:=()
def tw8458124666102420054:=()
def tw14688853199662313951:=()
def tw131697763380306234:=()
def tw1706735257501598465:=()
def tw2879589641595361730:=()
def tw15664392985095957143:=()
def tw11859413737884011599:=()
def tw15252541038768196447:=()
def tw6699605028544992776:=()
def tw4679953824544941231:=()
def tw10954958394021741479:=()
def tw14637883393765716613:=()
def tw12759221153297065917:=()
def tw1331575317763971440:=()
def tw10973482676282455472:=()
def tw4696895695519337332:=()
def tw2054678793297444378:=()
def tw15626111047797886819:=()
def tw14249992588860227376:=()
def tw925006311664245797:=()
def tw3946280348247818458:=()
def tw13756559817396536025:=()
def tw6463064928400322012:=()
def tw5221220053848669980:=()
def tw7788739020745676184:=()
def tw3295681466817714144:=()
def tw2380754939031274605:=()
def tw16171763546417513880:=()
def tw665384740463326638:=()
def tw11097439933409931390:=()
def tw13287113566014532686:=()
def tw5494599807911045019:=()
def tw14024961950725569071:=()
def tw651839183482394208:=()
def tw5075277433218051990:=()
def tw15182756711476279873:=()
def tw9945158500821265540:=()
def tw14888000516303347422:=()
def tw1130540706999650590:=()
def tw9076115958889007053:=()
def tw13241449213872559094:=()
def tw10042014726172964374:=()
def tw2091655979610002616:=()
end PySem.W.Fast
open PySem PySem.W PyProof.Rows
set_option maxRecDepth 100000 in
set_option maxHeartbeats 0 in
theorem PySem.Challenge.cw_ringbase_k57_whole_any_way_there_holds : PySem.Challenge.rw_ringbase_k57_whole_any_way_there.Holds := by
 w_on;o_law;k_head;(case hw=>w_witness2)
 k_fill
 refine K57.walk (l:=PySem.Challenge.rw_ringbase_k57_whole_any_way_there) rfl rfl (fun w h Y=>⟨PySem.W.km_in_of Y,PySem.W.km_tabs_of Y⟩) ?F
 case F =>
  intro w mg fa h KX G hmg;refine' K57.all_mk KX G hmg ?te ?d_BadWeb ?d_BadSet ?d_BadPoint ?d_NoChord ?d_NoBase ?d_NoDeed ?d_Standing ?pg_Standing ?hd_Standing ?po_Standing ?sa_Standing ?mk_Standing ?kc_Standing ?na_points ?na_standing_ties ?na_next_name ?na_done ?xc_BadSet ?xc_NoChord ?xc_NoBase ?ma59 ?mj59 ?a59 ?ma60 ?mj60 ?a60 ?ma61 ?mj61 ?a61 ?ma62 ?mj62 ?a62 ?ma63 ?mj63 ?a63 ?ma64 ?mj64 ?a64 ?ma65 ?mj65 ?a65 ?ma66 ?mj66 ?a66 ?ma67 ?mj67 ?a67 ?ma68 ?mj68 ?a68 ?nt ?pn ?pi ..
  (case te=>exact rfl)
  (case d_BadWeb=>k_is)
  (case d_BadSet=>k_is)
  (case d_BadPoint=>k_is)
  (case d_NoChord=>k_is)
  (case d_NoBase=>k_is)
  (case d_NoDeed=>k_is)
  (case d_Standing=>k_is)
  (case ma59=>k_is)
  (case mj59=>k_is)
  (case ma60=>k_is)
  (case mj60=>k_is)
  (case ma61=>k_is)
  (case mj61=>k_is)
  (case ma62=>k_is)
  (case mj62=>k_is)
  (case ma63=>k_is)
  (case mj63=>k_is)
  (case ma64=>k_is)
  (case mj64=>k_is)
  (case ma65=>k_is)
  (case mj65=>k_is)
  (case ma66=>k_is)
  (case mj66=>k_is)
  (case ma67=>k_is)
  (case mj67=>k_is)
  (case ma68=>k_is)
  (case mj68=>k_is)
  (case a59=>refine' L2.kI ?gl ?gc ?gk;(case gl=>k_is);(case gc=>k_is);(case gk=>k_is))
  (case a60=>refine' L2.kI ?gl ?gc ?gk;(case gl=>k_is);(case gc=>k_is);(case gk=>k_is))
  (case a61=>refine' L2.kI ?gl ?gc ?gk;(case gl=>k_is);(case gc=>k_is);(case gk=>k_is))
  (case a62=>refine' L2.kI ?gl ?gc ?gk;(case gl=>k_is);(case gc=>k_is);(case gk=>k_is))
  (case a63=>refine' L2.kI ?gl ?gc ?gk;(case gl=>k_is);(case gc=>k_is);(case gk=>k_is))
  (case a64=>refine' L2.kI ?gl ?gc ?gk;(case gl=>k_is);(case gc=>k_is);(case gk=>k_is))
  (case a65=>refine' L2.kI ?gl ?gc ?gk;(case gl=>k_is);(case gc=>k_is);(case gk=>k_is))
  (case a66=>refine' L2.kI ?gl ?gc ?gk;(case gl=>k_is);(case gc=>k_is);(case gk=>k_is))
  (case a67=>refine' L2.kI ?gl ?gc ?gk;(case gl=>k_is);(case gc=>k_is);(case gk=>k_is))
  (case a68=>refine' L2.kI ?gl ?gc ?gk;(case gl=>k_is);(case gc=>k_is);(case gk=>k_is))
  any_goals (refine' L2.dk ?ga ?gl ?gc ?gk;(case ga=>k_is);(case gl=>k_is);(case gc=>k_is);(case gk=>k_is))
  any_goals (refine' L2.dkL ?ga ?gl ?gc ?gk ?gd;(case ga=>k_is);(case gl=>k_is);(case gd=>kernel_rfl);(case gc=>k_is);(case gk=>k_is))
  any_goals (refine' L2.Ng.mk ?ga;(case ga=>k_is))
  (case pg_Standing=>k_is)
  (case hd_Standing=>k_is)
  (case po_Standing=>k_is)
  (case sa_Standing=>k_is)
  (case mk_Standing=>k_is)
  (case kc_Standing=>k_is)
  (case na_points=>k_is)
  (case na_standing_ties=>k_is)
  (case na_next_name=>k_is)
  (case na_done=>k_is)
  (case xc_BadSet=>k_exc)
  (case xc_NoChord=>k_exc)
  (case xc_NoBase=>k_exc)
  (case nt=>kernel_rfl)
  (case pn=>decide)
  (case pi=>decide)
  any_goals k_is
