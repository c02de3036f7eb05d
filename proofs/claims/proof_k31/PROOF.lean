import PyProof.Rows.All
import Wide.All
import OpenK.AllK
import Wide.FinOn
import Lean
import PyProof.EqAt
import PyProof.EqKinds
import PyProof.TupleCall
import PySem.Challenge.RW_ringbase_k31_parts_of_even_sets
set_option Elab.async false
set_option linter.all false
set_option maxRecDepth 100000
abbrev cD:=@decide_eq_true
abbrev dO:=@decide_eq_false
abbrev jR:=@of_decide_eq_true
abbrev iO:=@List.mem_append_right
abbrev jt:=@List.mem_cons_of_mem
abbrev iV:=@List.mem_of_getElem?
abbrev RV:=@Bool.eq_false_iff
abbrev ju:=@List.getElem?_eq_some_iff
abbrev tD:=@Option.map_eq_some_iff
abbrev C7:=@List.mem_append_left
abbrev Sv:=@Bool.and_eq_true_iff
abbrev aQ:=List (PySem.Addr×PySem.Obj)
abbrev dh:=PySem.Value->PySem.Shared->Prop
abbrev mQ:=PySem.Str->Option PySem.Value
abbrev bN:=PySem.W.Frag
abbrev aaa:=@List.length_map
abbrev aab:=@if_neg
abbrev aac:=@if_pos
abbrev aad:=@List.getElem?_eq_getElem
abbrev aae:=@List.getD_eq_getElem?_getD
abbrev aaf:=@Nat.le_refl
abbrev aag:=@Nat.testBit_xor
abbrev aah:=@PySem.wpAny_pure
abbrev aai:=@List.getElem?_map
abbrev aaj:=@Int.toNat_natCast
abbrev aak:=@PySem.Heap.get?_push_of_some
abbrev aal:=@PySem.Heap.lt_size
abbrev aam:=@List.mem_cons_self
abbrev aan:=@Bool.false_ne_true
abbrev aao:=@List.length_append
abbrev aap:=@Nat.lt_of_lt_of_le
abbrev aaq:=@List.mem_cons
abbrev aar:=@Nat.testBit_two_pow
abbrev aas:=@List.mem_filter
abbrev aat:=@List.mem_singleton
abbrev aau:=@List.size_toArray
abbrev aav:=@List.length_range
abbrev aaw:=@List.mem_append
abbrev aax:=@List.map_append
abbrev aay:=@Nat.ne_of_lt
abbrev aaz:=@List.mem_map
abbrev aaA:=@List.mem_range
abbrev aaB:=@PySem.Heap.get?_push_size
abbrev aaC:=@Classical.byContradiction
abbrev aaD:=@PySem.wpAny_mono
abbrev aaE:=@Nat.le_trans
abbrev aaF:=@PySem.wpAny_holding
abbrev aaG:=@Nat.eq_of_testBit_eq
abbrev aaH:=@Bool.and_eq_true
abbrev aaI:=@List.getElem?_of_mem
abbrev aaJ:=@Nat.xor_lt_two_pow
abbrev aaK:=@List.getElem?_append_left
abbrev aaL:=@Nat.zero_le
abbrev aaM:=@List.take_length
abbrev aaN:=@List.map_cons
abbrev aaO:=@Nat.le_of_lt
abbrev aaP:=@List.length_filter_le
abbrev aaQ:=@List.getElem?_append_right
abbrev aaR:=@List.filter_cons
abbrev aaS:=@decide_eq_decide
abbrev aaT:=@PySem.F.plain_min_loop
abbrev aaU:=@congrArg
abbrev aaV:=@List.nodup_cons
abbrev aaW:=@List.take_add_one
abbrev aaX:=@Nat.testBit_lt_two_pow
abbrev aaY:=@PySem.Heap.SameBut.update
abbrev aaZ:=@PySem.F.plainAttrs_list
abbrev aa0:=@List.length_take
abbrev aa1:=@List.length_cons
abbrev aa2:=@Nat.two_pow_pos
abbrev aa3:=@PySem.F.slot_list_append
abbrev aa4:=@PySem.F.type_list_append
abbrev aa5:=@decide_eq_true_iff
abbrev aa6:=@Int.zero_add
abbrev aa7:=@Bool.xor_false
abbrev aa8:=@Nat.lt_irrefl
abbrev aa9:=@Nat.xor_assoc
abbrev aba:=@Ne.symm
abbrev abb:=@List.length_singleton
abbrev abc:=@Nat.zero_xor
abbrev abd:=@Bool.eq_iff_iff
abbrev abe:=@PyProof.Rows.boot_isinstance
abbrev abf:=@Nat.pow_le_pow_right
abbrev abg:=@Nat.not_lt_zero
abbrev abh:=@Nat.ble_eq
abbrev abj:=@PySem.mem_of_lookup
abbrev abk:=@List.lookup_cons
abbrev abl:=@List.map_map
abbrev abm:=@Nat.zero_testBit
abbrev abn:=@PySem.Heap.get?_update_self
abbrev abo:=@Bool.true_and
abbrev abp:=@Nat.xor_zero
abbrev abq:=@Bool.false_eq_true
abbrev abr:=@PySem.Heap.get?_update_other
abbrev abt:=@Nat.exists_testBit_of_ne_zero
abbrev abu:=@Nat.lt_succ_of_lt
abbrev abv:=@List.length_replicate
abbrev abw:=@List.Pairwise.imp_of_mem
abbrev abx:=@PySem.W.kia_one
abbrev aby:=@List.append_nil
abbrev abz:=@PyProof.Rows.callWith_type1
abbrev abA:=@List.filter_cons_of_pos
abbrev abB:=@PySem.W.mg_none_of
abbrev abC:=@Nat.ne_of_gt
abbrev abD:=@Nat.xor_self
abbrev abE:=@Bool.and_false
abbrev abF:=@Nat.le_succ
abbrev abG:=@List.range_succ
abbrev abH:=@Nat.pow_succ
abbrev abI:=@Int.le_refl
abbrev abJ:=@List.Pairwise.filter
abbrev abK:=@Bool.false_xor
abbrev abL:=@Nat.pow_lt_pow_right
abbrev abM:=@PySem.wpAny_tryCatch
abbrev abN:=@Int.eq_ofNat_of_zero_le
abbrev abO:=@List.pairwise_map
abbrev abP:=@List.replicate_succ
abbrev abQ:=@List.getElem?_range
abbrev abR:=@PySem.F.entry_min_loop
abbrev abS:=@Array.getElem?_eq_some_iff
abbrev abT:=@PySem.F.excBase_ValueError
abbrev abU:=@List.mem_filterMap
abbrev abV:=@List.filter_append
abbrev abW:=@List.pairwise_iff_getElem
abbrev abX:=@Option.map_some
abbrev abY:=@PySem.Heap.get?_push_ne
abbrev abZ:=@List.getElem?_replicate
abbrev ab0:=@List.filter_cons_of_neg
abbrev ab2:=@PyProof.Rows.boot_tuple
abbrev ab3:=@List.not_mem_nil
abbrev ab4:=@List.getElem_mem
abbrev ab5:=@Nat.lt_of_le_of_lt
abbrev ab6:=@Array.getD_eq_getD_getElem?
abbrev ab7:=@List.length_nil
abbrev ab8:=@List.foldl_cons
abbrev ab9:=@Nat.mod_two_eq_zero_or_one
abbrev acd:=@List.foldl_append
abbrev ace:=@PySem.F.slot_dict_keyiterator_next
abbrev acf:=@Nat.lt_succ_self
abbrev acg:=@List.all_eq_true
abbrev ach:=@Nat.le_add_right
abbrev aci:=@Nat.testBit_succ
abbrev acj:=@Array.length_toList
abbrev ack:=@List.mem_map_of_mem
abbrev acm:=@PySem.Obj.data_mapFields
abbrev acn:=@Nat.testBit_and
abbrev aco:=@List.find?_cons
abbrev acp:=@List.map_singleton
abbrev acq:=@List.getElem?_set_self
abbrev acr:=@List.flatten_cons
abbrev acs:=@Bool.not_eq_true'
abbrev acu:=@PySem.Obj.isFreed_of_fields
abbrev acv:=@Array.getElem?_toList
abbrev acw:=@Int.le_of_lt
abbrev acy:=@PyProof.Rows.boot_int
abbrev acz:=@List.getElem?_set_ne
abbrev acA:=@List.length_drop
abbrev acB:=@List.nodup_range
abbrev acC:=@Bool.and_true
abbrev acD:=@List.map_congr_left
abbrev acE:=@Int.emod_nonneg
abbrev acF:=@Nat.min_eq_left
abbrev acH:=@Int.emod_lt_of_pos
abbrev acI:=@Nat.le_total
abbrev acK:=@Nat.zero_add
abbrev acL:=@Nat.sub_self
abbrev acM:=@Nat.and_lt_two_pow
abbrev acN:=@Nat.xor_comm
abbrev acO:=@Nat.testBit_two_pow_self
abbrev acP:=@List.pairwise_cons
abbrev acQ:=@Bool.false_and
abbrev acR:=@List.nodup_nil
abbrev acT:=@List.Perm.refl
abbrev acU:=@Nat.exists_eq_add_of_le
abbrev acV:=@List.eraseIdx_cons_succ
abbrev acW:=@List.pairwise_singleton
abbrev acX:=@List.filter_congr
abbrev acZ:=@List.take_of_length_le
abbrev ac0:=@PyProof.Rows.bitAnd_pp
abbrev ac1:=@PyProof.Rows.boot_list
abbrev ac2:=@List.map_id
abbrev ac3:=@List.any_cons
abbrev ac4:=@List.getElem_inj
abbrev ac5:=@Nat.succ_ne_self
abbrev ac6:=@Nat.testBit_eq_decide_div_mod_eq
abbrev ac7:=@Nat.lt_log2_self
abbrev ac8:=@Nat.max_eq_right
abbrev ac9:=@Nat.min_eq_right
abbrev ada:=@PyProof.Rows.slot_int_bit_length
abbrev adb:=@PyProof.Rows.type_int_bit_length
abbrev ade:=@List.lookup_cons_self
abbrev adf:=@PySem.F.slot_dict_get
abbrev adg:=@Classical.choose_spec
abbrev adi:=@PyProof.Rows.boot_min
abbrev adj:=@Array.getElem?_setIfInBounds_ne
abbrev adk:=@PySem.Heap.get?_none_of_le
abbrev adl:=@Nat.max_eq_left
abbrev adm:=@List.mem_of_mem_drop
abbrev adn:=@List.mem_iff_getElem
abbrev ado:=@List.take_append_of_le_length
abbrev adq:=@List.eq_nil_of_length_eq_zero
abbrev ads:=@List.filterMap_cons
abbrev adt:=@List.filter_eq_self
abbrev adu:=@Int.natCast_nonneg
abbrev adv:=@Bool.xor_self
abbrev adw:=@List.nodup_append
abbrev adx:=@Nat.testBit_log2
abbrev ady:=@List.any_eq_true
abbrev adz:=@List.map_snd_zip
abbrev adA:=@Nat.le_of_eq
abbrev adB:=@Nat.testBit_zero
abbrev adC:=@List.ext_getElem
namespace L2
open PySem PySem.Spec PyProof.Rows
abbrev aN:=@wpAny_bind
abbrev Key:=Sum Int Str
def xZ:Key->Value->Bool
 | .inl k,v=>Value.isInt k v
 | .inr x,v=>Value.isStrOf x v
def Wo(w:World):Key->Int
 | .inl k=>hashInt k
 | .inr x=>hashStr w x
def di:∀{k:Key} {v:Value},xZ k v=true->(∃i t,k=Sum.inl i/\v=Value.int i t)\/(∃x t,k=Sum.inr x/\v=Value.str x t)
 | .inl i,v,h=>by
   obtain⟨t,e⟩:=Value.isInt_shape (k:=i) (v:=v) h;exact .inl ⟨i,t,rfl,e⟩
 | .inr x,v,h=>by
   obtain⟨t,e⟩:=Value.isStrOf_shape (x:=x) (v:=v) h;exact .inr ⟨x,t,rfl,e⟩
def Gv(i:Int)(t:Tok):xZ (.inl i) (.int i t)=true:=by simp[xZ,Value.isInt]
def Gw(x:Str)(t:Tok):xZ (.inr x) (.str x t)=true:=by simp[xZ,Value.isStrOf]
def P0(a b:Int):decide ((Sum.inl a:Key)=Sum.inl b)=(a==b):=by
 by_cases e:a=b
 ·subst e;simp
 ·have h : ¬(Sum.inl a:Key)=Sum.inl b:=λq=>e (Sum.inl.inj q)
  rw[dO h];exact(beq_eq_false_iff_ne.mpr e).symm
def P1(a b:Str):decide ((Sum.inr a:Key)=Sum.inr b)=decide (a=b):=by
 by_cases e:a=b
 ·subst e;simp
 ·have h : ¬(Sum.inr a:Key)=Sum.inr b:=λq=>e (Sum.inr.inj q)
  rw[dO h,dO e]
def P4(a:Int)(b:Str):decide ((Sum.inl a:Key)=Sum.inr b)=false:=dO (λq=>nomatch q)
def P5(a:Str)(b:Int):decide ((Sum.inr a:Key)=Sum.inl b)=false:=dO (λq=>nomatch q)
def dX(prog:Program)(w:World):PySem.KeyKind prog w Key where
 is:=xZ
 hash:=Wo w
 inj:=λv a b ha hb=>by
  rcases di ha with⟨i,t,rfl,rfl⟩|⟨x,t,rfl,rfl⟩
  ·rcases di hb with⟨j,u,rfl,e⟩|⟨y,u,rfl,e⟩
   ·injection e with e1 _;rw[e1]
   ·exact nomatch e
  ·rcases di hb with⟨j,u,rfl,e⟩|⟨y,u,rfl,e⟩
   ·exact nomatch e
   ·injection e with e1 _;rw[e1]
 byValue:=λk v h=>by
  rcases di h with⟨i,t,rfl,rfl⟩|⟨x,t,rfl,rfl⟩<;>rfl
 pyHash:=λG h=>by
  rcases di G with⟨i,t,rfl,rfl⟩|⟨x,t,rfl,rfl⟩
  ·exact wpAny_pyHash_int h
  ·exact wpAny_pyHash_str h
 eqBool:=λI G h=>by
  rcases di I with⟨i,t,rfl,rfl⟩|⟨x,t,rfl,rfl⟩
  ·rcases di G with⟨j,u,rfl,rfl⟩|⟨y,u,rfl,rfl⟩
   ·rw[P0]at h;exact wpAny_eqBool_int h
   ·rw[P4]at h;exact SeqAt.EqAt.int_str i t y u _ _ _ _ h
  ·rcases di G with⟨j,u,rfl,rfl⟩|⟨y,u,rfl,rfl⟩
   ·rw[P5]at h;exact SeqAt.EqAt.str_int x t j u _ _ _ _ h
   ·rw[P1]at h;exact wpAny_eqBool_str h
 «strs»:=λk x t v h=>by
  rcases di h with⟨i,u,rfl,e⟩|⟨y,u,rfl,e⟩
  ·exact nomatch e
  ·injection e with e1 _
   subst e1;cases v<;>rfl
def AN(prog:Program)(w:World)(i:Int)(t:Tok):(dX prog w).is (.inl i) (.int i t)=true:=Gv i t
def AO(prog:Program)(w:World)(x:Str)(t:Tok):(dX prog w).is (.inr x) (.str x t)=true:=Gw x t
inductive V where
 | eE | bl (b:Bool) | int (i:Int) | str (x:Str) | Ja (b:Array UInt8) | P6 (b:UInt64) | ref (a:Addr) | ty (n:String)
 deriving DecidableEq
def RelV:V->Value->Prop
 | .eE,u=>u=Value.none
 | .bl b,u=>u=Value.bool b
 | .int i,u=>∃t,u=Value.int i t
 | .str x,u=>∃t,u=Value.str x t
 | .Ja b,u=>∃t,u=Value.bytes b t
 | .P6 b,u=>∃t,u=Value.float b t
 | .ref a,u=>u=Value.ref a
 | .ty n,u=>u=Value.type n
abbrev Vals:List V->List Value->Prop:=Paired RelV
def Vals.length{xs:List V}{us:List Value}(r:Vals xs us):xs.length=us.length:=Paired.length r
def Vals.get:∀{xs:List V} {us:List Value} {i:Nat} {x:V},Vals xs us->xs[i]?=some x->∃u,us[i]?=some u/\RelV x u
 | _,_,_,_,.nil,e=>by simp at e
 | _,_,0,_,.cons r _,e=>by simp at e;subst e;exact⟨_,rfl,r⟩
 | _,_,i+1,x,.cons _ t,e=>by
   obtain⟨u,h1,h2⟩:=Vals.get (i:=i) (x:=x) t (by simpa using e)
   exact⟨u,by simpa using h1,h2⟩
def Vals.set{x:V}{u:Value}(r:RelV x u):∀{xs:List V} {us:List Value} (i:Nat),Vals xs us->Vals (xs.set i x) (us.set i u)
 | _,_,_,.nil=>.nil
 | _,_,0,.cons _ t=>.cons r t
 | _,_,i+1,.cons q t=>.cons q (Vals.set r i t)
def Vals.append:∀{xs ys:List V} {us ws:List Value},Vals xs us->Vals ys ws->Vals (xs++ys) (us++ws)
 | _,_,_,_,.nil,s=>s
 | _,_,_,_,.cons r t,s=>.cons r (Vals.append t s)
def Vals.take:∀{xs:List V} {us:List Value} (n:Nat),Vals xs us->Vals (xs.take n) (us.take n)
 | _,_,0,_=>.nil
 | _,_,_+1,.nil=>.nil
 | _,_,n+1,.cons r t=>.cons r (Vals.take n t)
def Vals.drop:∀{xs:List V} {us:List Value} (n:Nat),Vals xs us->Vals (xs.drop n) (us.drop n)
 | _,_,0,r=>r
 | _,_,_+1,.nil=>.nil
 | _,_,n+1,.cons _ t=>Vals.drop n t
def oF:Option V->Option Value->Prop
 | some v,some u=>RelV v u
 | none,none=>True
 | _,_=>False
def KV{κ:Type}:List (κ×V)->List (κ×Value)->Prop:=Paired λ(p:κ×V) (q:κ×Value)=>p.1=q.1/\RelV p.2 q.2
def kV:Key->V
 | .inl i=>.int i
 | .inr x=>.str x
inductive HO where
 | lst (xs:List V)
 | tup (xs:List V)
 | dK (kvs:List (Key×V)) | dT (kvs:List (List Key×V))
 | set (S:Int->Bool) (n:Nat)
 | ins (C dx:Addr) (fs:List (Str×V))
 | own (x:Addr)
 | xd (fs:List (Str×V))
 | met (f x:Addr)
 | Gx (lo hi:Int)
 | lB (o:Obj) (u:HO)
 | jV (ps:Array Value)
 | ext (φ:Heap->Prop)
abbrev Hp:=Addr->Option HO
def upd(H:Hp)(a:Addr)(o:HO):Hp:=λb=>if b=a then some o else H b
def ae{H:Hp}{a:Addr}{o:HO}:upd H a o a=some o:=by unfold upd;rw[aac rfl]
def ao{H:Hp}{a b:Addr}{o:HO}(h:b≠a):upd H a o b=H b:=by unfold upd;rw[aab h]
def aW{H:Hp}{a b:Addr}{o u:HO}(h:H a=some o)(h' : H b=some u)(d:o≠u):a≠b:=by
 intro e;subst e;rw[h]at h';exact d (Option.some.inj h')
def bj{H:Hp}{a b:Addr}{o:HO}(h:H a=some o)(h' : H b=none):a≠b:=by
 intro e;subst e;rw[h]at h';cases h'
def M9(qs:Array Value):Str:=match (qs[0]?:Option Value) with | some (Value.str q _)=>q | _=>""
section
variable (P:Program)(w:World)
def bg(H:Hp)(h:Heap)(a:Addr):HO->Prop
 | .lst xs=>xs.length<=sizeLine/\∃(G:List Value) (n:Nat),Vals xs G/\h.get? a=some { cls:=.type "list",data:=.seq G.toArray n}
 | .tup xs=>xs.length<=sizeLine/\∃G:List Value,Vals xs G/\IsTup h a G.toArray
 | .dK kvs=>kvs.length<=sizeLine/\(a==sysModules)=false/\∃vs,KV kvs vs/\h.DictOf (dX P w) a vs
 | .dT kvs=>kvs.length<=sizeLine/\(a==sysModules)=false/\∃xs:List (List Key×Addr×Value),
  Paired (λ(p:List Key×V) (q:List Key×Addr×Value)=>p.1=q.1/\H q.2.1=some (.tup (p.1.map kV))/\RelV p.2 q.2.2) kvs xs/\
  ∃o es ep,h.get? a=some o/\o.ExactDict/\o.data = .dict es ep/\es.toList=xs.map (entryOfKey (tupleKind (dX P w)))/\(xs.map (·.1)).Nodup
 | .set S n=>h.SetOf (intKind P w) a S n
 | .ins C dx fs=>H dx=some (.own a)/\fs.length<=1000/\dx≠a/\h.get? a=some (PySem.W.instObj C dx)/\
  ∃mA,h.Ns1 dx mA/\(∀f,oF (fs.lookup f) (mA f))/\PySem.Within mA (fs.map (·.1))
 | .own _=>∃o,h.get? a=some o
 | .xd fs=>∃mA,h.Ns1 a mA/\∀f,oF (fs.lookup f) (mA f)
 | .Gx lo hi=>∃t u v,h.get? a=some { cls:=.type "range",data:=.fields #[.int lo t,.int hi u,.int 1 v]}
 | .lB o u=>h.get? a=some o/\bg H h a u
 | .jV qs=>∃ps:Array Value,h.get? a=some { cls:=.none,data:=.fields ps}/\((qs.size=3/\(ps = #[]\/∃c,ps = #[qs.getD 1 .none,qs.getD 2 .none,.ref c]/\H c=some (.own a)/\h.CodeRec (.ref c) (M9 qs)))\/∃q l k,qs = #[q,l,k]++ps/\ps.size=3)
 | .met f x=>h.get? a=some (PySem.W.methodObj (.ref f) (.ref x))
 | .ext φ=>φ h/\(∃o,h.get? a=some o)/\∀h1 h2:Heap,φ h1->(∀o,h1.get? a=some o->h2.get? a=some o)->φ h2
def mY(H:Hp)(h:Heap):Prop:=∀a o,H a=some o->bg P w H h a o
end
section
variable {P:Program}{w:World}{H H' : Hp}{h h' : Heap}{a:Addr}{o:HO}
def bg.lt(x:bg P w H h a o):a<h.objs.size:=by
 cases o with
 | lst xs=>obtain⟨_,_,_,_,e⟩:=x;exact aal e
 | tup xs=>obtain⟨_,_,_,p⟩:=x;exact p.lt
 | dK kvs=>obtain⟨_,_,_,_,o,_,_,e,_⟩:=x;exact aal e
 | dT kvs=>obtain⟨_,_,_,_,o,_,_,e,_⟩:=x;exact aal e
 | set S n=>obtain⟨o,_,_,_,e,_⟩:=x;exact aal e
 | ins C dx fs=>obtain⟨_,_,_,e,_⟩:=x;exact aal e
 | own y=>obtain⟨_,e⟩:=x;exact aal e
 | xd fs=>obtain⟨_,⟨_,_,_,e,_⟩,_⟩:=x;exact aal e
 | Gx lo hi=>obtain⟨_,_,_,e⟩:=x;exact aal e
 | lB ob u=>obtain⟨e,_⟩:=x;exact aal e
 | jV ps=>obtain⟨_,e,_⟩:=x;exact aal e
 | met f y=>exact aal (show h.get? a=some _ from x)
 | ext φ=>obtain⟨_,⟨_,e⟩,_⟩:=x;exact aal e
def Paired.yY{α β:Type}{F G:α->β->Prop}:∀{I:List α} {O:List β},Paired F I O->(∀a b,F a b->G a b)->Paired G I O
 | _,_,.nil,_=>.nil
 | _,_,.cons r t,f=>.cons (f _ _ r) (Paired.yY t f)
def Paired.imp'{α β:Type}{F G:α->β->Prop}(f:∀a b,F a b->G a b){l₁:List α}{l₂:List β}(r:Paired F l₁ l₂):Paired G l₁ l₂:=Paired.yY r f
def bg.stay(x:bg P w H h a o)(k:∀b u,(b=a\/H b=some (.own a))->h.get? b=some u->h'.get? b=some u)
 (ho:∀b,H b=some (.own a)->H' b=some (.own a)) (ht:∀b xs,H b=some (.tup xs)->H' b=some (.tup xs)):bg P w H' h' a o:=by
 induction o with
 | lst xs=>obtain⟨z,G,n,r,e⟩:=x;exact⟨z,G,n,r,k _ _ (.inl rfl) e⟩
 | tup xs=>obtain⟨z,G,r,ob,e,c⟩:=x;exact⟨z,G,r,ob,k _ _ (.inl rfl) e,c⟩
 | dK kvs=>obtain⟨z,y,vs,r,ob,es,ep,e,c⟩:=x;exact⟨z,y,vs,r,ob,es,ep,k _ _ (.inl rfl) e,c⟩
 | dT kvs =>
   obtain⟨z,y,xs,r,ob,es,ep,e,c⟩:=x;exact⟨z,y,xs,Paired.yY r λp q z=>⟨z.1,ht _ _ z.2.1,z.2.2⟩,ob,es,ep,k _ _ (.inl rfl) e,c⟩
 | set S n=>obtain⟨ob,es,ep,t,e,c⟩:=x;exact⟨ob,es,ep,t,k _ _ (.inl rfl) e,c⟩
 | ins C dx fs =>
   obtain⟨d,z,ne,e,mA,⟨od,es,ep,I,c⟩,r⟩:=x;exact⟨ho _ d,z,ne,k _ _ (.inl rfl) e,mA,⟨od,es,ep,k _ _ (.inr d) I,c⟩,r⟩
 | own y=>obtain⟨ob,e⟩:=x;exact⟨ob,k _ _ (.inl rfl) e⟩
 | xd fs=>obtain⟨mA,⟨od,es,ep,e,c⟩,r⟩:=x;exact⟨mA,⟨od,es,ep,k _ _ (.inl rfl) e,c⟩,r⟩
 | Gx lo hi=>obtain⟨t,u,v,e⟩:=x;exact⟨t,u,v,k _ _ (.inl rfl) e⟩
 | lB ob u ih=>obtain⟨e,q⟩:=x;exact⟨k _ _ (.inl rfl) e,ih q⟩
 | jV qs =>
   obtain⟨ps,e,f⟩:=x;refine⟨ps,k _ _ (.inl rfl) e,?_⟩;rcases f with⟨hz,f|⟨c,e1,I,c',oc,vs,tq,hc,ho',hd,hv⟩⟩|f
   ·exact .inl ⟨hz,.inl f⟩
   ·cases hc;exact .inl ⟨hz,.inr ⟨c,e1,ho _ I,c,oc,vs,tq,rfl,k _ _ (.inr I) ho',hd,hv⟩⟩
   ·exact .inr f
 | met f y =>
   have e:h.get? a=some (PySem.W.methodObj (.ref f) (.ref y)):=x;show h'.get? a=some (PySem.W.methodObj (.ref f) (.ref y));exact k a _ (.inl rfl) e
 | ext φ=>obtain⟨p,⟨o,e⟩,st⟩:=x;exact⟨st _ _ p λo q=>k _ _ (.inl rfl) q,⟨o,k _ _ (.inl rfl) e⟩,st⟩
def mY.lt(x:mY P w H h)(e:H a=some o):a<h.objs.size:=(x a o e).lt
def mY.fresh(x:mY P w H h)(e:h.objs.size<=a):H a=none:=by
 cases q:H a with
 | none=>rfl
 | some u=>exact absurd (aap (x.lt q) e) (aa8 _)
def mY.kept(x:mY P w H h)(k:∀b u,h.get? b=some u->h'.get? b=some u):mY P w H h':=λa o e =>
 (x a o e).stay (λb u _ q=>k b u q) (λ_ q=>q) λ_ _ q=>q
def mY.laid(x:mY P w H h)(k:∀b u,h.get? b=some u->h'.get? b=some u)(hp:h.objs.size<=a)(new:bg P w (upd H a o) h' a o):mY P w (upd H a o) h':=λb u e=>by
 have hn:=x.fresh hp
 by_cases hb:b=a
 ·subst hb;rw[ae]at e;cases e;exact new
 ·rw[ao hb]at e;exact(x b u e).stay (λc v _ q=>k c v q) (λc q=>by rw[ao (bj q hn)];exact q) λc xs q=>by rw[ao (bj q hn)];exact q
end
def Rd(H:Hp)(a:Addr)(u:HO):Prop:=H a=some u\/∃o,H a=some (.lB o u)
def Rd.ok{P:Program}{w:World}{H:Hp}{h:Heap}{a:Addr}{u:HO}(r:Rd H a u)(x:mY P w H h):bg P w H h a u:=by
 rcases r with r|⟨o,r⟩
 ·exact x a u r
 ·obtain⟨_,q⟩:=x a _ r;exact q
def Sw:Option HO->Prop
 | some (.lst _)=>True
 | some (.dK _)=>True
 | some (.dT _)=>True
 | some (.set _ _)=>True
 | some (.ins _ _ _)=>True
 | some (.ext _)=>True
 | _=>False
section
variable {P:Program}{w:World}{H:Hp}{h h' : Heap}{x e:Addr}{o' : HO}
def mY.write(ok:mY P w H h)(mu:Sw (H x))(he:e=x\/H e=some (.own x))(k:∀b u,b≠e->h.get? b=some u->h'.get? b=some u)(RW:∃u,h'.get? e=some u)
 (new:bg P w (upd H x o') h' x o'):mY P w (upd H x o') h':=λb u q=>by
 have I:∀c y,H c=some (.own y)->c≠x:=λc y r z=>by subst z;rw[r]at mu;exact mu
 have O:∀c xs,H c=some (.tup xs)->c≠x:=λc xs r z=>by subst z;rw[r]at mu;exact mu
 by_cases hb:b=x
 ·subst hb;rw[ae]at q;cases q;exact new
 ·rw[ao hb]at q
  by_cases G:b=e
  ·have q' : H b=some (.own x):=by
    rcases he with z|z
    ·exact absurd (G.trans z) hb
    ·rw[G];exact z
   rw[q]at q';cases q';obtain⟨v,U⟩:=RW;exact⟨v,by rw[G];exact U⟩
  ·refine(ok b u q).stay (λc v hc r=>k c v ?_ r) (λc r=>by rw[ao (I c b r)];exact r) λc xs r=>by rw[ao (O c xs r)];exact r
   rcases hc with rfl|hc
   ·exact G
   ·rintro rfl;rcases he with z|z
    ·exact I c b hc z
    ·rw[hc]at z;cases z;exact hb rfl
end
structure Un(fs ex:List Addr)(H H' : Hp)(h h' : Heap):Prop where
 keep:∀b o,h.get? b=some o->H b=none->b∉fs->b∉ex->h'.get? b=some o
 slot:∀b o,h.get? b=some o->H b=none->b∈fs->b∉ex->∃sl,h'.get? b=some { o with slots:=sl}
 free:∀b o,h.get? b=some o->H b=none->b∉ex->H' b=none
 there:∀b o,h.get? b=some o->b∉ex->∃o',h'.get? b=some o'
 tups:∀b xs,H b=some (.tup xs)->H' b=some (.tup xs)
 jS:∀b o u,H b=some (.lB o u)->H' b=some (.lB o u)
 kR:∀b ps,H b=some (.jV ps)->∃more,H' b=some (.jV (ps++more))
section
variable {fs fs' ex ex' : List Addr}{H H1 H2:Hp}{h h1 h2 h' : Heap}{a x e:Addr}{o:HO}
def Un.any(u:Un fs ex H H1 h h1){b:Addr}{ob:Obj}(q:h.get? b=some ob)(n:H b=none)(hx:b∉ex):∃sl,h1.get? b=some { ob with slots:=sl}:=by
 by_cases hb:b∈fs
 ·exact u.slot b ob q n hb hx
 ·exact⟨ob.slots,u.keep b ob q n hb hx⟩
def Un.kept(k:∀b u,h.get? b=some u->h'.get? b=some u):Un fs ex H H h h' :=
 ⟨λb ob q _ _ _=>k b ob q,λb ob q _ _ _=>⟨ob.slots,k b ob q⟩,λ_ _ _ n _=>n,λb ob q _=>⟨ob,k b ob q⟩,λ_ _ q=>q,λ_ _ _ q=>q,λ_ ps q=>⟨#[],by rw[q];simp⟩⟩
def Un.refl:Un fs ex H H h h:=Un.kept λ_ _ q=>q
def Un.laid(k:∀b u,h.get? b=some u->h'.get? b=some u)(hp:h.objs.size<=a)(hn:H a=none):Un fs ex H (upd H a o) h h' where
 keep:=λb u q _ _ _=>k b u q
 slot:=λb u q _ _ _=>⟨u.slots,k b u q⟩
 free:=λb u q n _=>by rw[ao (aay (aap (aal q) hp))];exact n
 there:=λb u q _=>⟨u,k b u q⟩
 tups:=λb xs q=>by rw[ao (bj q hn)];exact q
 jS:=λb u xs q=>by rw[ao (bj q hn)];exact q
 kR:=λb ps q=>⟨#[],by rw[ao (bj q hn),q];simp⟩
def Un.write(mu:Sw (H x))(he:e=x\/H e=some (.own x))(k:∀b u,b≠e->h.get? b=some u->h'.get? b=some u)(RW:∃u,h'.get? e=some u):Un fs ex H (upd H x o) h h':=by
 have hx:∀b,H b=none->b≠x:=λb n z=>by subst z;rw[n]at mu;exact mu
 have hb:∀b,H b=none->b≠e:=λb n z=>by
  subst z;rcases he with r|r
  ·exact hx b n r
  ·rw[n]at r;cases r
 have hm:∀b u,H b=some u->¬ Sw (some u)->b≠x:=λb u q nm z=>by subst z;rw[q]at mu;exact nm mu
 refine⟨λb u q n _ _=>k b u (hb b n) q,λb u q n _ _=>⟨u.slots,k b u (hb b n) q⟩,λb u q n _=>by rw[ao (hx b n)];exact n,λb u q _=>?_,
  λb xs q=>by rw[ao (hm b _ q λz=>z)];exact q,λb u xs q=>by rw[ao (hm b _ q λz=>z)];exact q,λb ps q=>⟨#[],by rw[ao (hm b _ q λz=>z),q];simp⟩⟩
 by_cases G:b=e
 ·subst G;exact RW
 ·exact⟨u,k b u G q⟩
end
def RX(h:Heap)(H:Hp):List Addr:=(List.range h.objs.size).filter λa=>(H a).isSome
def AQ(h:Heap)(H:Hp):Heap:=PySem.W.hideAll h (RX h H)
def Gy(h:Heap)(H:Hp):(AQ h H).objs.size=h.objs.size:=PySem.W.hideAll_size _ _
def uM{h:Heap}{H:Hp}{b:Addr}{o:Obj}(e:h.get? b=some o)(n:H b=none):(AQ h H).get? b=some o :=
 PySem.W.hideAll_get _ e λhm=>by
  have q:(H b).isSome=true:=(aas.mp hm).2;rw[n]at q;simp at q
def Na{h:Heap}{H:Hp}{b:Addr}{o:Obj}(e:(AQ h H).get? b=some o):h.get? b=some o/\H b=none:=by
 have e' : h.get? b=some o:=PySem.W.of_hideAll (RX h H) e;refine⟨e',?_⟩;cases q:H b with
 | none=>rfl
 | some x =>
   have hm:b∈RX h H:=aas.mpr ⟨aaA.mpr (aal e'),by simp[q]⟩
   have z:(AQ h H).get? b=none:=PySem.W.hideAll_none (RX h H) hm;rw[z]at e;cases e
def uo(g h:Heap)(L:Addr):aQ:=(List.range h.objs.size).filterMap λa=>if a=L\/(g.get? a).isSome=true then none else(h.get? a).map λo=>(a,o)
def AR{g h:Heap}{L a:Addr}{o:Obj}(h1:a≠L)(h2:g.get? a=none)(h3:h.get? a=some o):(a,o)∈uo g h L :=
 abU.mpr ⟨a,aaA.mpr (aal h3),by simp[h1,h2,h3]⟩
def uN{g h:Heap}{L:Addr}{p:Addr×Obj}(hp:p∈uo g h L):p.1≠L/\g.get? p.1=none/\h.get? p.1=some p.2:=by
 obtain⟨b,_,e⟩:=abU.mp hp
 split at e
 ·cases e
 ·rename_i hn
  cases q:h.get? b with
  | none=>rw[q]at e;simp at e
  | some u =>
    rw[q]at e;simp only[abX,Option.some.injEq]at e;subst e;refine⟨λz=>hn (.inl z),?_,q⟩
    show g.get? b=none;cases r:g.get? b with
    | none=>rfl
    | some v=>exact(hn (.inr (by simp[r]))).elim
def rest(g h:Heap)(L d:Addr):aQ:=(uo g h L).filter λp=>decide (p.1≠d)
def uq{g h:Heap}{L d:Addr}:∀p∈rest g h L d,p.1≠d:=λp hp=>jR (aas.mp hp).2
def Jl{g h:Heap}{L d a:Addr}{o:Obj}(h1:a≠L)(h2:g.get? a=none)(h3:h.get? a=some o)(h4:a≠d):(a,o)∈rest g h L d :=
 aas.mpr ⟨AR h1 h2 h3,cD h4⟩
def AS{g h:Heap}{L:Addr}:News g L h (uo g h L):=λp hp=>let⟨a,b,c⟩:=uN hp;⟨c,a,b⟩
def i8{g h h' : Heap}{L d:Addr}{m:mQ}(k:∀b o,g.get? b=some o->h.get? b=some o)(F:Fr g L h' m)(N:News g L h' (rest g h L d)):
 ∀b o,b≠L->b≠d->h.get? b=some o->h'.get? b=some o:=λb o h1 h2 e=>by
 cases q:g.get? b with
 | some u =>
   have:=k b u q;rw[e]at this;cases this;exact F.keep b _ q
 | none=>exact(N (b,o) (Jl h1 q e h2)).1
structure Mod(K:bN)(mg:mQ)(base:Heap):Prop where
 Sy:K.In base
 glob:base.Ns mainGlobals mg
 blt:∃mb,base.Ns builtinsNs mb/\∀x:Str,x≠"__name__"->mb x=bootBuiltins x
 nolimit:base.NoLimit
 bmain:∃bm ob,mg "__builtins__"=some (.ref bm)/\bm≠builtinsNs/\base.get? bm=some ob/\ob.cls = .type "module"/\ob.dict=some builtinsNs/\ob.data = .plain
structure Cx where
 prog:Program
 w:World
 K:bN
 mg:Str->Option Value
 base:Heap
 A:Around
 N:List Str
 s₀:Shared
 H₀:Hp
 env:Env
 outer:List Env
 stack:List Env
 ex:List Addr
 fn:Str->Bool
 calm:Bool
 pn:aQ
 xe:Value->Shared->Prop
def frs(l:List Env):List Addr:=l.filterMap (·.frame)
abbrev Cx.fs(X:Cx):List Addr:=frs X.outer
def Vv(sc:Scope)(x:Str):Prop:=sc.names.lookup x=some .local\/sc.names.lookup x=some .cell\/sc.names.lookup x=some .free
def Loc(sc:Scope)(x:Str):Prop:=sc.names.lookup x=some .local\/sc.names.lookup x=some .cell
def Look(env:Env)(h:Heap)(m:mQ)(x:Str)(u:Value):Prop :=
 (env.kindOf x=some .local/\m x=some u)\/((env.kindOf x=some .cell\/env.kindOf x=some .free)/\∃c,env.cells.lookup x=some c/\h.IsCell c (some u))
structure Cx.Ok(X:Cx):Prop where
 mod:Mod X.K X.mg X.base
 kind:X.env.scope.kind = .function
 glob:X.env.globals=mainGlobals
 blt:X.env.builtins=builtinsNs
 above:X.s₀.heap.objs.size<=X.env.locals
 inj:∀x y c,X.env.cells.lookup x=some c->X.env.cells.lookup y=some c->x=y
 has:∀x,(X.env.kindOf x=some .cell\/X.env.kindOf x=some .free)->∃c,X.env.cells.lookup x=some c
 RY:∀x c,X.fn x=true->X.env.cells.lookup x=some c->X.s₀.heap.objs.size<=c
 hd:X.calm=true->X.A.handled=none
 frames:X.A.frames=some X.stack
 MS:X.stack=X.outer\/(X.stack=X.env::X.outer/\X.env.frame=some X.env.locals)
 Wr:∀b∈X.ex,b≠X.env.locals/\∀x c,X.env.cells.lookup x=some c->c≠b
 bs:∀b o,X.base.get? b=some o->X.s₀.heap.get? b=some o/\X.H₀ b=none
 Jm:X.base.objs.size<=X.s₀.heap.objs.size
 Gz:∀b o,X.base.get? b=some o->b∉X.ex
 Jo:∀b∈X.ex,b∉X.fs
 funs:X.s₀.heap.FunFrames X.base X.outer
 Nb:∀b∈X.fs,X.H₀ b=none
structure Inv(X:Cx)(pq:aQ)(σ:List (Option V))(H:Hp)(s:Shared):Prop where
 ok:X.Ok
 os:s.os=X.s₀.os
 bare:AllBare s.gens
 base:Un X.fs X.ex X.H₀ H X.s₀.heap s.heap
 loc:∃m,s.heap.Ns X.env.locals m/\∀(i:Nat) (x:Str) (v:V),X.N[i]?=some x->σ[i]?=some (some v)->Vv X.env.scope x->∃u,RelV v u/\Look X.env s.heap m x u
 cell:∀x c,X.env.cells.lookup x=some c->∃v,s.heap.IsCell c v
 free:H X.env.locals=none
 ee:∀x c,X.env.cells.lookup x=some c->H c=none
 pin:∀p∈X.pn++pq,s.heap.get? p.1=some p.2/\H p.1=none/\p.1≠X.env.locals/\p.1∉X.fs/\∀v,p.2.data≠.cell v
 hok:mY X.prog X.w H s.heap
 len:σ.length=X.N.length
section
variable {X:Cx}{pq:aQ}{σ:List (Option V)}{H H' : Hp}{s:Shared}{h' : Heap}
def Cx.Ok.Ws(ok:X.Ok){b:Addr}{o:Obj}(e:X.base.get? b=some o):b∉X.fs:=λhb=>by
 have:=(ok.funs.mem hb).1;rw[e]at this;cases this
def Inv.bs(I:Inv X pq σ H s):∀b o,X.base.get? b=some o->s.heap.get? b=some o/\H b=none:=λb o e =>
 ⟨I.base.keep b o (I.ok.bs b o e).1 (I.ok.bs b o e).2 (I.ok.Ws e) (I.ok.Gz b o e),I.base.free b o (I.ok.bs b o e).1 (I.ok.bs b o e).2 (I.ok.Gz b o e)⟩
def Inv.bk(I:Inv X pq σ H s):∀b o,X.base.get? b=some o->s.heap.get? b=some o:=λb o e=>(I.bs b o e).1
def Inv.mod(I:Inv X pq σ H s):Mod X.K X.mg X.base:=I.ok.mod
def Inv.o5(I:Inv X pq σ H s):X.K.In s.heap:=I.ok.mod.Sy.keeps I.bk
def Inv.nolimit(I:Inv X pq σ H s):s.heap.NoLimit:=I.ok.mod.nolimit.keeps I.bk
def Inv.fr(I:Inv X pq σ H s):∃m,Fr X.base X.env.locals s.heap m :=
 let⟨m,hn,_⟩:=I.loc
 ⟨m,hn,I.bk,aaE I.ok.Jm I.ok.above⟩
def Inv.lt(I:Inv X pq σ H s):X.env.locals<s.heap.objs.size:=let⟨_,hn,_⟩:=I.loc;hn.lt
def Inv.sz(I:Inv X pq σ H s):X.s₀.heap.objs.size<=s.heap.objs.size:=aaE I.ok.above (aaO I.lt)
def Inv.Sz(I:Inv X pq σ H s){a:Addr}(h:s.heap.objs.size<=a):a∉X.fs:=λhb=>by
 obtain⟨_,o,G,_⟩:=I.ok.funs.mem hb;exact absurd (aap (aal G) (aaE I.sz h)) (aa8 _)
def Inv.Nc(I:Inv X pq σ H s):∀x c,X.env.cells.lookup x=some c->c≠X.env.locals:=λx c e z=>by
 obtain⟨v,o,G,hd⟩:=I.cell x c e;obtain⟨m,⟨o',es,ep,ho',hd',_⟩,_⟩:=I.loc;rw[z,ho']at G;cases G;rw[hd']at hd;cases hd
def Inv.funs(I:Inv X pq σ H s):s.heap.FunFrames X.base X.outer:=by
 have all:∀(l:List Env),(∀b∈frs l,b∈X.fs)->X.s₀.heap.FunFrames X.base l->s.heap.FunFrames X.base l:=by
  intro l
  induction l with
  | nil=>intro _ _;trivial
  | cons env r O =>
    intro hs U;obtain⟨hk,⟨L,o,hf,hn,Y,hd⟩,hr⟩:=U;have G:L∈X.fs:=hs L (by unfold frs;rw[ads,hf];exact aam)
    obtain⟨sl,e⟩:=I.base.slot L o Y (I.ok.Nb L G) G λz=>I.ok.Jo L z G
    exact⟨hk,⟨L,_,hf,hn,e,hd⟩,O (λb hb=>hs b (by unfold frs;rw[ads,hf];exact jt _ hb)) hr⟩
 exact all X.outer (λ_ hb=>hb) I.ok.funs
def Inv.stack(I:Inv X pq σ H s):s.heap.FunFrames X.base X.stack:=by
 rcases I.ok.MS with e|⟨e,hf⟩
 ·rw[e];exact I.funs
 ·rw[e];obtain⟨m,hn,_⟩:=I.loc;refine .cons (by rw[I.ok.kind];decide) hf hn ?_ I.funs
  exact adk (aaE I.ok.Jm I.ok.above)
def Inv.uO(I:Inv X pq σ H s):∀b∈frs X.stack,b∈X.env.locals::X.fs:=λb hb=>by
 rcases I.ok.MS with e|⟨e,hf⟩
 ·rw[e]at hb;exact jt _ hb
 ·rw[e]at hb;unfold frs at hb;rw[ads,hf]at hb;exact hb
def Inv.ur(I:Inv X pq σ H s):∀b∈frs X.stack,H b=none:=λb hb=>by
 rcases aaq.mp (I.uO b hb) with e|hb
 ·rw[e];exact I.free
 ·obtain⟨_,o,G,_⟩:=I.ok.funs.mem hb;exact I.base.free b o G (I.ok.Nb b hb) λz=>I.ok.Jo b z hb
def Inv.step{g' : Array GenState}{t' : Nat}{d' : Drawn}{ch:List Addr}(I:Inv X pq σ H s)
 (hch:∀b∈ch,(b∈X.ex\/X.s₀.heap.objs.size<=b)/\b≠X.env.locals/\(∀x c,X.env.cells.lookup x=some c->c≠b)/\∀p∈X.pn++pq,p.1≠b)
 (keep:∀b o,b≠X.env.locals->b∉X.fs->b∉ch->s.heap.get? b=some o->H b=none->h'.get? b=some o)
 (slot:∀b o,b≠X.env.locals->b∈X.fs->b∉ch->s.heap.get? b=some o->H b=none->∃sl,h'.get? b=some { o with slots:=sl}) (free:∀b o,b∉ch->s.heap.get? b=some o->H b=none->H' b=none)
 (there:∀b o,b∉ch->s.heap.get? b=some o->∃o',h'.get? b=some o')
 (tups:∀b xs,H b=some (.tup xs)->H' b=some (.tup xs)) (jS:∀b o u,H b=some (.lB o u)->H' b=some (.lB o u)) (kR:∀b ps,H b=some (.jV ps)->∃more,H' b=some (.jV (ps++more)))
 (ns:∀m,s.heap.Ns X.env.locals m->h'.Ns X.env.locals m) (hok:mY X.prog X.w H' h') (hg:AllBare g') :
 Inv X pq σ H' { s with heap:=h',gens:=g',drawn:=d',toks:=t'}:=by
 have YM:∀b o,X.s₀.heap.get? b=some o->b≠X.env.locals:=λb o e=>aay (aap (aal e) I.ok.above)
 have Z:∀b o,X.s₀.heap.get? b=some o->b∉X.ex->b∉ch:=λb o e hx hb=>by
  rcases(hch b hb).1 with z|z
  ·exact hx z
  ·exact absurd (aap (aal e) z) (aa8 _)
 have cellK:∀x c,X.env.cells.lookup x=some c->∀v,s.heap.IsCell c v->h'.IsCell c v:=λx c e v ⟨o,O,hd⟩=>by
  have U:c∉ch:=λz=>(hch c z).2.2.1 x c e rfl
  by_cases hc:c∈X.fs
  ·obtain⟨sl,q⟩:=slot c o (I.Nc x c e) hc U O (I.ee x c e);exact⟨_,q,hd⟩
  ·exact⟨o,keep c o (I.Nc x c e) hc U O (I.ee x c e),hd⟩
 refine⟨I.ok,I.os,hg,⟨λb o e n hb hx=>?_,λb o e n hb hx=>?_,λb o e n hx=>?_,λb o e hx=>?_,λb xs e=>tups b xs (I.base.tups b xs e),λb o xs e=>jS b o xs (I.base.jS b o xs e),λb ps e=>?_⟩,?_,λx c e=>?_,?_,λx c e=>?_,λp hp=>?_,hok,I.len⟩
 ·exact keep b o (YM b o e) hb (Z b o e hx) (I.base.keep b o e n hb hx) (I.base.free b o e n hx)
 ·obtain⟨sl,G⟩:=I.base.slot b o e n hb hx;obtain⟨Vx,Y⟩:=slot b _ (YM b o e) hb (Z b o e hx) G (I.base.free b o e n hx);exact⟨Vx,Y⟩
 ·obtain⟨o',G⟩:=I.base.there b o e hx;exact free b o' (Z b o e hx) G (I.base.free b o e n hx)
 ·obtain⟨o',G⟩:=I.base.there b o e hx;exact there b o' (Z b o e hx) G
 ·obtain⟨m1,G⟩:=I.base.kR b ps e;obtain⟨m2,Y⟩:=kR b _ G;exact⟨m1++m2,by rw[Y,Array.append_assoc]⟩
 ·obtain⟨m,hn,hl⟩:=I.loc;refine⟨m,ns m hn,λi x v G Y e3=>?_⟩
  obtain⟨u,r,l⟩:=hl i x v G Y e3;refine⟨u,r,?_⟩;rcases l with l|⟨k,c,e,z⟩
  ·exact .inl l
  ·exact .inr ⟨k,c,e,cellK x c e _ z⟩
 ·obtain⟨v,z⟩:=I.cell x c e;exact⟨v,cellK x c e v z⟩
 ·obtain⟨m,⟨o,_,_,O,_⟩,_⟩:=I.loc;exact free _ o (λz=>(hch _ z).2.1 rfl) O I.free
 ·obtain⟨v,o,O,hd⟩:=I.cell x c e;exact free c o (λz=>(hch c z).2.2.1 x c e rfl) O (I.ee x c e)
 ·obtain⟨e,n,ne,nf,d⟩:=I.pin p hp;have U:p.1∉ch:=λz=>(hch p.1 z).2.2.2 p hp rfl
  exact⟨keep p.1 p.2 ne nf U e n,free p.1 p.2 U e n,ne,nf,d⟩
def Inv.un{t' : Nat}(I:Inv X pq σ H s)(u:Un X.fs [] H H' s.heap h')(hok:mY X.prog X.w H' h'):Inv X pq σ H' { s with heap:=h',toks:=t'}:=by
 obtain⟨m,⟨o,es,ep,U,r⟩,_⟩:=id I.loc;obtain⟨sl,hL⟩:=u.any U I.free (by simp)
 exact I.step (g':=s.gens) (d':=s.drawn) (ch:=[]) (λ_ z=>nomatch z) (λb o _ hb _ e n=>u.keep b o e n hb (by simp)) (λb o _ hb _ e n=>u.slot b o e n hb (by simp)) (λb o _ e n=>u.free b o e n (by simp)) (λb o _ e=>u.there b o e (by simp)) u.tups u.jS u.kR (λm' hm=>by
  obtain⟨o',O,Y,G,Z⟩:=hm;rw[U]at G;cases G;exact⟨_,O,Y,hL,Z⟩) hok I.bare
def Inv.call{g' : Array GenState}{t' : Nat}{d' : Drawn}{ch:List Addr}(I:Inv X pq σ H s)(u:Un (frs X.stack) ch H H' s.heap h')(hok:mY X.prog X.w H' h')(hg:AllBare g')
 (hch:∀b∈ch,(b∈X.ex\/X.s₀.heap.objs.size<=b)/\b≠X.env.locals/\(∀x c,X.env.cells.lookup x=some c->c≠b)/\∀p∈X.pn++pq,p.1≠b) :
 Inv X pq σ H' { s with heap:=h',gens:=g',drawn:=d',toks:=t'}:=by
 obtain⟨m,⟨o,es,ep,Y,r⟩,_⟩:=id I.loc;obtain⟨sl,O⟩:=u.any Y I.free λz=>(hch _ z).2.1 rfl
 exact I.step (ch:=ch) hch (λb o O hb hc e n=>u.keep b o e n (λz=>(aaq.mp (I.uO b z)).elim O hb) hc) (λb o _ _ hc e n=>u.any e n hc) (λb o hc e n=>u.free b o e n hc) (λb o hc e=>u.there b o e hc) u.tups u.jS u.kR (λm' hm=>by
  obtain⟨o',U,Z,G,r'⟩:=hm;rw[Y]at G;cases G;exact⟨_,U,Z,O,r'⟩) hok hg
def Inv.turned{t' : Nat}{it:Addr}(I:Inv X pq σ H s)(k:∀b o,b≠it->s.heap.get? b=some o->h'.get? b=some o)(hn:H it=none)(hL:it≠X.env.locals)
 (h1:it∈X.ex\/X.s₀.heap.objs.size<=it) (h2:∀x c,X.env.cells.lookup x=some c->c≠it) (h3:∀p∈X.pn++pq,p.1≠it):Inv X pq σ H { s with heap:=h',toks:=t'}:=by
 have G:∀b u,H b=some u->b≠it:=λb u e z=>by rw[z,hn]at e;cases e
 refine I.step (g':=s.gens) (d':=s.drawn) (ch:=[it]) (λb hb=>?_) (λb o _ _ hc e _=>k b o (λz=>hc (by simp[z])) e) (λb o _ _ hc e _=>⟨o.slots,k b o (λz=>hc (by simp[z])) e⟩) (λ_ _ _ _ n=>n)
  (λb o hc e=>⟨o,k b o (λz=>hc (by simp[z])) e⟩) (λ_ _ e=>e) (λ_ _ _ e=>e) (λb ps e=>⟨#[],by rw[e];simp⟩) (λm hm=>?_) (λb u e=>?_) I.bare
 ·have e:b=it:=by simpa using hb
  subst e;exact⟨h1,hL,h2,h3⟩
 ·obtain⟨o,es,ep,O,r⟩:=hm;exact⟨o,es,ep,k _ o (aba hL) O,r⟩
 ·refine(I.hok b u e).stay (λc v hc q=>k c v ?_ q) (λ_ q=>q) λ_ _ q=>q
  rcases hc with z|z
  ·rw[z];exact G b u e
  ·exact G c _ z
def Inv.tok(I:Inv X pq σ H s)(t:Nat):Inv X pq σ H { s with toks:=t}:=I.un (h':=s.heap) (t':=t) Un.refl I.hok
def Inv.kept{t' : Nat}(I:Inv X pq σ H s)(k:∀b u,s.heap.get? b=some u->h'.get? b=some u):Inv X pq σ H { s with heap:=h',toks:=t'}:=I.un (Un.kept k) (I.hok.kept k)
def Inv.laid{a:Addr}{o:HO}{t' : Nat}(I:Inv X pq σ H s)(k:∀b u,s.heap.get? b=some u->h'.get? b=some u)(hp:s.heap.objs.size<=a)(new:bg X.prog X.w (upd H a o) h' a o):
 Inv X pq σ (upd H a o) { s with heap:=h',toks:=t'}:=I.un (Un.laid k hp (I.hok.fresh hp)) (I.hok.laid k hp new)
def Inv.write{x e:Addr}{o:HO}{t' : Nat}(I:Inv X pq σ H s)(mu:Sw (H x))(he:e=x\/H e=some (.own x))(k:∀b u,b≠e->s.heap.get? b=some u->h'.get? b=some u)(RW:∃u,h'.get? e=some u)
 (new:bg X.prog X.w (upd H x o) h' x o):Inv X pq σ (upd H x o) { s with heap:=h',toks:=t'}:=I.un (Un.write mu he k RW) (I.hok.write mu he k RW new)
def Inv.weak{σ' : List (Option V)}(I:Inv X pq σ H s)(hl:σ'.length=σ.length)(w:∀(i:Nat) v,σ'[i]?=some (some v)->σ[i]?=some (some v)):Inv X pq σ' H s :=
 ⟨I.ok,I.os,I.bare,I.base,let⟨m,hn,hl'⟩:=I.loc;⟨m,hn,λi x v G O U=>hl' i x v G (w i v O) U⟩,I.cell,I.free,I.ee,I.pin,I.hok,hl.trans I.len⟩
def Inv.gG{uv:aQ}(I:Inv X pq σ H s)(h:∀p∈uv,s.heap.get? p.1=some p.2/\H p.1=none/\p.1≠X.env.locals/\p.1∉X.fs/\∀v,p.2.data≠.cell v):Inv X uv σ H s :=
 ⟨I.ok,I.os,I.bare,I.base,I.loc,I.cell,I.free,I.ee,λp hp=>(aaw.mp hp).elim (λz=>I.pin p (C7 _ z)) (h p),I.hok,I.len⟩
def uP{N:List Str}(hN:N.Nodup){i j:Nat}{x:Str}(a:N[i]?=some x)(b:N[j]?=some x):i=j:=by
 obtain⟨h1,G⟩:=ju.mp a;obtain⟨h2,e2⟩:=ju.mp b;exact(ac4 hN).mp (G.trans e2.symm)
def GA{M:Model}{A:Around}{E:dh}{i:Nat}{x:Str}{v:V}{u:Value}{Q:Unit->Shared->Prop}(I:Inv X pq σ H s)(hN:X.N.Nodup)(hi:X.N[i]?=some x)(hx:Loc X.env.scope x)(r:RelV v u)
 (h:∀s',Inv X pq (σ.set i (some v)) H s'->(∃a,Heap.SameBut a s.heap s'.heap/\(a=X.env.locals\/X.env.cells.lookup x=some a))->Q () s') (hf:X.fn x=true\/X.env.scope.names.lookup x=some .local:=by first | exact .inl rfl | exact .inr rfl | assumption):wpAny M A (storeName X.env x u) Q E s:=by
 obtain⟨m,hn,hl⟩:=id I.loc;have Z:(X.env.scope.kind == .class || (X.env.scope.kind == .module&&X.env.locals != X.env.globals))=false:=by rw[I.ok.kind];rfl
 have YO:i<σ.length:=by rw[I.len];exact(ju.mp hi).1
 have Nc:=I.Nc;have tracked:∀{a:Addr} {h' : Heap},(∃o,s.heap.get? a=some o/\H a=none)->Heap.SameBut a s.heap h'->mY X.prog X.w H h':=λ{a h'} ha hs b ob e=>by
  obtain⟨_,_,O⟩:=ha;refine(I.hok b ob e).stay (λc w' hc q=>(hs.2 c ?_).trans q) (λ_ q=>q) λ_ _ q=>q
  rintro rfl;rcases hc with rfl|hc
  ·rw[O]at e;cases e
  ·rw[O]at hc;cases hc
 rcases hx with hk|hk
 ·refine wpAny_storeName_local hk hn (λh' ax hs=>?_) Z
  obtain⟨oL,_,_,uQ,_⟩:=id hn;refine h _ ⟨I.ok,I.os,I.bare,⟨λb o e n hb hx=>?_,λb o e n hb hx=>?_,I.base.free,λb o e hx=>?_,I.base.tups,I.base.jS,I.base.kR⟩,⟨_,ax,λj y v' G U e3=>?_⟩,λy c e=>?_,I.free,I.ee,λp hp=>?_,tracked ⟨oL,uQ,I.free⟩ hs,by simpa using I.len⟩ ⟨_,hs,.inl rfl⟩
  ·exact(hs.2 b (aay (aap (aal e) I.ok.above))).trans (I.base.keep b o e n hb hx)
  ·obtain⟨sl,G⟩:=I.base.slot b o e n hb hx;exact⟨sl,(hs.2 b (aay (aap (aal e) I.ok.above))).trans G⟩
  ·obtain⟨o',G⟩:=I.base.there b o e hx;exact⟨o',(hs.2 b (aay (aap (aal e) I.ok.above))).trans G⟩
  ·by_cases hj:j=i
   ·subst hj;rw[hi]at G;cases G;rw[acq YO]at U;cases U;exact⟨u,r,.inl ⟨hk,by simp⟩⟩
   ·rw[acz (aba hj)]at U;obtain⟨u',r',q⟩:=hl j y v' G U e3;refine⟨u',r',?_⟩;rcases q with⟨k,e⟩|⟨k,c,e,z⟩
    ·refine .inl ⟨k,?_⟩;have:y≠x:=λe=>hj (uP hN G (e▸hi))
     simp[this,e]
    ·exact .inr ⟨k,c,e,z.sameBut hs (Nc y c e)⟩
  ·obtain⟨w',z⟩:=I.cell y c e;exact⟨w',z.sameBut hs (Nc y c e)⟩
  ·obtain⟨e,n,ne,nf,d⟩:=I.pin p hp;exact⟨(hs.2 p.1 ne).trans e,n,ne,nf,d⟩
 ·have Y:X.fn x=true:=by
   rcases hf with z|z
   ·exact z
   ·rw[z]at hk;cases hk
  obtain⟨c,hc⟩:=I.ok.has x (.inl hk);obtain⟨w',z⟩:=I.cell x c hc;refine wpAny_storeName_cell I.ok.kind hk hc z (λh' ag hs=>?_)
  obtain⟨oc,ar,Wu⟩:=id z;refine h { s with heap:=h'} ⟨I.ok,I.os,I.bare,⟨λb o e n hb hx=>?_,λb o e n hb hx=>?_,I.base.free,λb o e hx=>?_,I.base.tups,I.base.jS,I.base.kR⟩,⟨m,hn.sameBut hs (aba (Nc x c hc)),λj y v' G U e3=>?_⟩,λy c' e=>?_,I.free,I.ee,λp hp=>?_,tracked ⟨oc,ar,I.ee x c hc⟩ hs,by simpa using I.len⟩ ⟨c,hs,.inr hc⟩
  ·exact(hs.2 b (aay (aap (aal e) (I.ok.RY x c Y hc)))).trans (I.base.keep b o e n hb hx)
  ·obtain⟨sl,G⟩:=I.base.slot b o e n hb hx;exact⟨sl,(hs.2 b (aay (aap (aal e) (I.ok.RY x c Y hc)))).trans G⟩
  ·obtain⟨o',G⟩:=I.base.there b o e hx;exact⟨o',(hs.2 b (aay (aap (aal e) (I.ok.RY x c Y hc)))).trans G⟩
  ·by_cases hj:j=i
   ·subst hj;rw[hi]at G;cases G;rw[acq YO]at U;cases U;exact⟨u,r,.inr ⟨.inl hk,c,hc,ag⟩⟩
   ·rw[acz (aba hj)]at U;obtain⟨u',r',q⟩:=hl j y v' G U e3;refine⟨u',r',?_⟩;rcases q with q|⟨k,c',e,z'⟩
    ·exact .inl q
    ·refine .inr ⟨k,c',e,z'.sameBut hs ?_⟩;rintro rfl;exact hj (uP hN G (I.ok.inj _ _ _ e hc▸hi))
  ·by_cases aw:c' = c
   ·subst aw;exact⟨_,ag⟩
   ·obtain⟨w2,z2⟩:=I.cell y c' e;exact⟨w2,z2.sameBut hs aw⟩
  ·obtain⟨e,n,ne,nf,d⟩:=I.pin p hp;refine⟨(hs.2 p.1 ?_).trans e,n,ne,nf,d⟩;intro q;rw[q,ar]at e;have q' : oc=p.2:=Option.some.inj e;exact d w' (by rw[<-q'];exact Wu)
def mZ{M:Model}{A:Around}{E:dh}{i:Nat}{x:Str}{v:V}{u:Value}{Q:Unit->Shared->Prop}(I:Inv X pq σ H s)(hN:X.N.Nodup)(hi:X.N[i]?=some x)(hx:Loc X.env.scope x)(r:RelV v u)
 (h:∀s',Inv X pq (σ.set i (some v)) H s'->Q () s') (hf:X.fn x=true\/X.env.scope.names.lookup x=some .local:=by first | exact .inl rfl | exact .inr rfl | assumption):wpAny M A (storeName X.env x u) Q E s :=
 GA I hN hi hx r (λs' G _=>h s' G) hf
def Inv.Jp{s' : Shared}{ch:List Addr}(I:Inv X pq σ H s)(ho:s'.os=s.os)(u:Un (frs X.stack) ch H H' s.heap s'.heap)(hok:mY X.prog X.w H' s'.heap)(hg:AllBare s'.gens)
 (hch:∀b∈ch,(b∈X.ex\/X.s₀.heap.objs.size<=b)/\b≠X.env.locals/\(∀x c,X.env.cells.lookup x=some c->c≠b)/\∀p∈X.pn++pq,p.1≠b):Inv X pq σ H' s':=by
 obtain⟨h',g',d',t',o'⟩:=s';have e:o' = s.os:=ho;subst e;exact I.call (g':=g') (t':=t') (d':=d') u hok hg hch
end
abbrev XK:=Value->Option Addr->Hp->Prop
abbrev St:=List (Option V)
abbrev VK:=V->Hp->Prop
abbrev TE:=St->Hp->VK->Prop
abbrev TT:=St->Hp->(Bool->Hp->Prop)->Prop
abbrev TA:=St->Hp->(List V->Hp->Prop)->Prop
structure Ends where
 nx:St->Hp->Prop
 rt:VK
 bk:St->Hp->Prop:=λ_ _=>False
 ct:St->Hp->Prop:=λ_ _=>False
abbrev TS:=Ends->St->Hp->Prop
def EP(X:Cx)(pq:aQ)(σ:St)(Q:VK)(u:Value)(s' : Shared):Prop:=∃v H',Inv X pq σ H' s'/\RelV v u/\Q v H'
def TP(X:Cx)(pq:aQ)(σ:St)(Q:Bool->Hp->Prop)(b:Bool)(s' : Shared):Prop:=∃H',Inv X pq σ H' s'/\Q b H'
def AP(X:Cx)(pq:aQ)(σ:St)(Q:List V->Hp->Prop)(us:List Value)(s' : Shared):Prop:=∃vs H',Inv X pq σ H' s'/\Vals vs us/\Q vs H'
def SP(X:Cx)(pq:aQ)(D:Ends)(f:Flow)(s' : Shared):Prop :=
 match f with
 | .next=>∃σ' H',Inv X pq σ' H' s'/\D.nx σ' H'
 | .brk=>∃σ' H',Inv X pq σ' H' s'/\D.bk σ' H'
 | .cont=>∃σ' H',Inv X pq σ' H' s'/\D.ct σ' H'
 | .ret u=>∃v σ' H',Inv X pq σ' H' s'/\RelV v u/\D.rt v H'
def PE(X:Cx)(e:Expr)(t:TE):Prop :=
 ∀(pq:aQ) (s:Shared) (σ:St) (H:Hp) (Q:VK),Inv X pq σ H s->t σ H Q->wpAny (model X.prog X.w) X.A (eval e X.env) (EP X pq σ Q) X.xe s
def PT(X:Cx)(e:Expr)(t:TT):Prop :=
 ∀(pq:aQ) (s:Shared) (σ:St) (H:Hp) (Q:Bool->Hp->Prop),Inv X pq σ H s->t σ H Q->wpAny (model X.prog X.w) X.A (isTrue e X.env (eval e X.env)) (TP X pq σ Q) X.xe s
def PW(X:Cx)(e:Expr)(t:TT):Prop :=
 ∀(whole:Sem Value) (pq:aQ) (s:Shared) (σ:St) (H:Hp) (Q:Bool->Hp->Prop),Inv X pq σ H s->t σ H Q->wpAny (model X.prog X.w) X.A (isTrue e X.env whole) (TP X pq σ Q) X.xe s
def PW.pt{X:Cx}{e:Expr}{t:TT}(h:PW X e t):PT X e t:=h _
def PA(X:Cx)(es:List Expr)(t:TA):Prop :=
 ∀(pos:Pos) (pq:aQ) (s:Shared) (σ:St) (H:Hp) (Q:List V->Hp->Prop),Inv X pq σ H s->t σ H Q->wpAny (model X.prog X.w) X.A (spliced (backTo pos (starEach es X.env))) (AP X pq σ Q) X.xe s
def PS(X:Cx)(st:Stmt)(t:TS):Prop :=
 ∀(pq:aQ) (s:Shared) (σ:St) (H:Hp) (D:Ends),Inv X pq σ H s->t D σ H->wpAny (model X.prog X.w) X.A (exec st X.env) (SP X pq D) X.xe s
def uw(X:Cx)(st:List Stmt)(t:TS):Prop :=
 ∀(pq:aQ) (s:Shared) (σ:St) (H:Hp) (D:Ends),Inv X pq σ H s->t D σ H->wpAny (model X.prog X.w) X.A (execs st X.env) (SP X pq D) X.xe s
def dP{α:Type}{t:Sem α}{Q Q' : α->Shared->Prop}{M:Model}{A:Around}{E:dh}{s:Shared}(h:wpAny M A t Q E s)(hQ:∀a s,Q a s->Q' a s):wpAny M A t Q' E s:=aaD h hQ λ_ _ x=>x
section
variable {X:Cx}
def SD(i:Nat):TE:=λσ H Q=>∃v,σ[i]?=some (some v)/\Q v H
def tC(v:V):TE:=λ_ H Q=>Q v H
def P8{i:Nat}{x:Str}{pos:Pos}(hN:X.N[i]?=some x)(hv:Vv X.env.scope x)(hd:(x==("__debug__":Str))=false:=by decide)(hcd:(x==("__classdict__":Str))=false:=by decide):PE X (.Name x pos) (SD i):=by
 intro pq s σ H Q I h;obtain⟨v,e,h⟩:=h;obtain⟨m,hn,hl⟩:=I.loc;obtain⟨u,r,l⟩:=hl i x v hN e hv;have fin:EP X pq σ Q u s:=⟨v,H,I,r,h⟩;rcases l with⟨hk,hm⟩|⟨hk,c,hc,hcell⟩
 ·exact wpAny_Name (wpAny_loadName_local I.ok.kind hk hn hm fin) hd
 ·rcases hk with hk|hk
  ·exact wpAny_Name (wpAny_loadName_cell I.ok.kind hk hc hcell fin) hd
  ·exact wpAny_Name (wpAny_loadName_free I.ok.kind hk hc hcell fin hcd) hd
def ah{i j pos}:PE X (.Constant (.int i) j pos) (tC (.int i)):=λ_ _ _ H _ I h=>wpAny_Constant_int ⟨.int i,H,I.tok _,⟨_,rfl⟩,h⟩
def m3{b j pos}:PE X (.Constant (.bool b) j pos) (tC (.bl b)):=λ_ _ _ H _ I h=>Constant_bool ⟨.bl b,H,I,rfl,h⟩
def o6{j pos}:PE X (.Constant .none j pos) (tC .eE):=λ_ _ _ H _ I h=>Constant_none ⟨.eE,H,I,rfl,h⟩
def iW{x j pos}:PE X (.Constant (.str x) j pos) (tC (.str x)):=λ_ _ _ H _ I h=>Calls.Constant_str ⟨.str x,H,I.tok _,⟨_,rfl⟩,h⟩
def Gl(X:Cx)(x:Str):Prop:=X.env.kindOf x=some .globalImplicit
def nS{E:dh}{pq:aQ}{s:Shared}{σ:St}{H:Hp}{x:Str}{u:Value}{pos:Pos}{Q:dh}(I:Inv X pq σ H s)(hg:Gl X x)(hm:X.mg x=some u)(h:Q u s)
 (hd:(x==("__debug__":Str))=false:=by decide):wpAny (model X.prog X.w) X.A (eval (.Name x pos) X.env) Q E s :=
 Calls.Name_function_global I.ok.kind hg (Calls.loadGlobal_global (by rw[I.ok.glob];exact I.mod.glob.keeps I.bk) hm h) hd
def kA{E:dh}{pq:aQ}{s:Shared}{σ:St}{H:Hp}{x:Str}{u:Value}{pos:Pos}{Q:dh}(I:Inv X pq σ H s)(hg:Gl X x)(hm:X.mg x=none)(hv:bootBuiltins x=some u)(h:Q u s)
 (hn:x≠"__name__":=by decide) (hd:(x==("__debug__":Str))=false:=by decide):wpAny (model X.prog X.w) X.A (eval (.Name x pos) X.env) Q E s:=by
 obtain⟨mb,h1,h2⟩:=I.mod.blt;exact Calls.Name_function_global I.ok.kind hg (Calls.loadGlobal_builtin (by rw[I.ok.glob];exact I.mod.glob.keeps I.bk) hm (by rw[I.ok.blt];exact h1.keeps I.bk) ((h2 x hn).trans hv) h) hd
def Nd{x:Str}{v:V}{u:Value}{pos:Pos}(hg:Gl X x)(hm:X.mg x=some u)(r:RelV v u)(hd:(x==("__debug__":Str))=false:=by decide):PE X (.Name x pos) (tC v) :=
 λ_ _ _ H _ I h=>nS I hg hm ⟨v,H,I,r,h⟩ hd
def Nf{x:Str}{v:V}{u:Value}{pos:Pos}(hg:Gl X x)(hm:X.mg x=none)(hv:bootBuiltins x=some u)(r:RelV v u)(hn:x≠"__name__":=by decide)(hd:(x==("__debug__":Str))=false:=by decide):PE X (.Name x pos) (tC v) :=
 λ_ _ _ H _ I h=>kA I hg hm hv ⟨v,H,I,r,h⟩ hn hd
variable {a b:Expr}{ta tb:TE}{pos:Pos}
def tB(t:TE):TT:=λσ H Q=>t σ H λx H1=>∃c,x = .bl c/\Q c H1
def cF{e:Expr}{t:TE}(h:PE X e t)(he:∀whole,isTrue e X.env whole=(do let v←whole;standAt e.pos;holding [v] (truthy v)):=by intro _;rfl):PT X e (tB t):=by
 intro pq s σ H Q I hw;refine isTrue_plain (dP (h pq s σ H _ I hw) λv s1 ⟨x,H1,G,O,U⟩=>?_) (he _)
 obtain⟨d,rfl,q⟩:=U;cases O;exact wpAny_truthy_bool ⟨H1,G,q⟩
variable {tA Vy:TT}{rest:List Expr}
def Wv(t u:TT):TT:=λσ H Q=>t σ H λc H1=>if c=true then u σ H1 Q else Q false H1
def tOr(t u:TT):TT:=λσ H Q=>t σ H λc H1=>if c=true then Q true H1 else u σ H1 Q
def Ww(t:TT):TT:=λσ H Q=>t σ H λc H1=>Q (!c) H1
def yZ(ha:PT X a tA):PW X (.BoolOp .And [a] pos) tA:=by
 intro G pq s σ H Q I h;refine isTrue_and (dP (ha pq s σ H Q I h) λc s1 e=>?_)
 cases c with
 | true=>exact isTrue_and_nil e
 | false=>exact e
def m4(ha:PT X a tA):PW X (.BoolOp .Or [a] pos) tA:=by
 intro G pq s σ H Q I h;refine isTrue_or (dP (ha pq s σ H Q I h) λc s1 e=>?_)
 cases c with
 | false=>exact isTrue_or_nil e
 | true=>exact e
def Dm(ha:PT X a tA)(hb:PW X (.BoolOp .And (b::rest) pos) Vy):PW X (.BoolOp .And (a::b::rest) pos) (Wv tA Vy):=by
 intro U pq s σ H Q I h;refine isTrue_and (dP (ha pq s σ H _ I h) λc s1 ⟨H1,G,O⟩=>?_)
 cases c with
 | true=>exact hb U pq s1 σ H1 Q G O
 | false=>exact⟨H1,G,O⟩
def pW(ha:PT X a tA)(hb:PW X (.BoolOp .Or (b::rest) pos) Vy):PW X (.BoolOp .Or (a::b::rest) pos) (tOr tA Vy):=by
 intro U pq s σ H Q I h;refine isTrue_or (dP (ha pq s σ H _ I h) λc s1 ⟨H1,G,O⟩=>?_)
 cases c with
 | true=>exact⟨H1,G,O⟩
 | false=>exact hb U pq s1 σ H1 Q G O
def kB(ha:PT X a tA):PT X (.UnaryOp .Not a pos) (Ww tA):=by
 intro pq s σ H Q I h;exact isTrue_not (ha pq s σ H (λc H1=>Q (!c) H1) I h)
def SE(ta tb:TE):TE:=λσ H Q=>ta σ H λx H1=>∃c,x = .bl c/\if c=true then tb σ H1 Q else Q (.bl false) H1
def SG(ta:TE):TE:=λσ H Q=>ta σ H λx H1=>∃c,x = .bl c/\Q (.bl (!c)) H1
def uR{op}{t:TE}(h:PE X a t):PE X (.BoolOp op [a] pos) t:=λpq s σ H Q I hw=>BoolOp_one (h pq s σ H Q I hw)
def uS(ha:PE X a ta)(hb:PE X (.BoolOp .And (b::rest) pos) tb):PE X (.BoolOp .And (a::b::rest) pos) (SE ta tb):=by
 intro pq s σ H Q I h;refine BoolOp_and (dP (ha pq s σ H _ I h) λv s1 ⟨x,H1,O,U,G⟩=>?_)
 obtain⟨c,rfl,G⟩:=G;cases U;refine wpAny_truthy_bool ?_;cases c with
 | true=>exact hb pq s1 σ H1 Q O G
 | false=>exact⟨.bl false,H1,O,rfl,G⟩
def Jq(ha:PE X a ta):PE X (.UnaryOp .Not a pos) (SG ta):=by
 intro pq s σ H Q I h;refine UnaryOp_ (dP (ha pq s σ H _ I h) λv s1 ⟨x,H1,O,U,G⟩=>?_)
 obtain⟨c,rfl,G⟩:=G;cases U;exact not_of (wpAny_truthy_bool ⟨.bl (!c),H1,O,rfl,G⟩)
def tIf(t:TT)(ta tb:TE):TE:=λσ H Q=>t σ H λc H1=>if c=true then ta σ H1 Q else tb σ H1 Q
def m5{c:Expr}(hc:PT X c tA)(ha:PE X a ta)(hb:PE X b tb):PE X (.IfExp c a b pos) (tIf tA ta tb):=by
 intro pq s σ H Q I h;refine wpAny_IfExp (dP (hc pq s σ H _ I h) λd s1 ⟨H1,G,O⟩=>?_)
 cases d with
 | true=>exact ha pq s1 σ H1 Q G O
 | false=>exact hb pq s1 σ H1 Q G O
end
def aM(K:bN)(H:Hp)(a:Addr)(xs:List V):Prop :=
 Rd H a (.lst xs)\/
  ∃(o:Obj) (G:Array Value) (n:Nat),K.lookup a=some o/\o.cls = .type "list"/\o.dict=none/\o.data = .seq G n/\G.size<=sizeLine/\Vals xs G.toList
def aR(K:bN)(H:Hp)(a:Addr)(xs:List V):Prop :=
 Rd H a (.tup xs)\/
  ∃(o:Obj) (G:Array Value) (n:Nat),K.lookup a=some o/\o.cls = .type "tuple"/\o.data = .seq G n/\G.size<=sizeLine/\Vals xs G.toList
def WA:Value->Option V
 | .none=>some .eE
 | .bool b=>some (.bl b)
 | .int i _=>some (.int i)
 | .str x _=>some (.str x)
 | .bytes b _=>some (.Ja b)
 | .float b _=>some (.P6 b)
 | .ref a=>some (.ref a)
 | .type n=>some (.ty n)
 | _=>none
def RelV.abs{x:V}{u:Value}(r:RelV x u):WA u=some x:=by
 cases x with
 | eE=>cases r;rfl
 | bl _=>cases r;rfl
 | int _=>obtain⟨t,rfl⟩:=r;rfl
 | str _=>obtain⟨t,rfl⟩:=r;rfl
 | Ja _=>obtain⟨t,rfl⟩:=r;rfl
 | P6 _=>obtain⟨t,rfl⟩:=r;rfl
 | ref _=>cases r;rfl
 | ty _=>cases r;rfl
def RelV.inj{x y:V}{u:Value}(r:RelV x u)(q:RelV y u):x=y:=Option.some.inj (r.abs.symm.trans q.abs)
def Vals.inj:∀{xs ys:List V} {us:List Value},Vals xs us->Vals ys us->xs=ys
 | _,_,_,.nil,.nil=>rfl
 | _,_,_,.cons r t,.cons r' t'=>by rw[r.inj r',Vals.inj t t']
section
variable {X:Cx}{pq:aQ}{σ:St}{H:Hp}{s:Shared}{a:Addr}{xs ys:List V}
def aM.of{K:bN}(h:H a=some (.lst xs)):aM K H a xs:=.inl (.inl h)
def aR.of{K:bN}(h:H a=some (.tup xs)):aR K H a xs:=.inl (.inl h)
def Inv.list(I:Inv X pq σ H s)(h:aM X.K H a xs):∃G:List Value,Vals xs G/\PlainL s.heap a G.toArray/\xs.length<=sizeLine:=by
 rcases h with h|⟨o,G,n,hk,hc,hd,hs,hz,r⟩
 ·obtain⟨z,G,n,r,e⟩:=h.ok I.hok;exact⟨G,r,⟨_,n,e,rfl,rfl,rfl⟩,z⟩
 ·refine⟨G.toList,r,⟨o,n,I.o5 a o hk,hc,hd,by simpa using hs⟩,?_⟩
  have e:=r.length;simp only[acj]at e
  lia
def Inv.tuple(I:Inv X pq σ H s)(h:aR X.K H a xs):∃G:List Value,Vals xs G/\IsTup s.heap a G.toArray/\xs.length<=sizeLine:=by
 rcases h with h|⟨o,G,n,hk,hc,hs,hz,r⟩
 ·obtain⟨z,G,r,p⟩:=h.ok I.hok;exact⟨G,r,p,z⟩
 ·refine⟨G.toList,r,⟨o,I.o5 a o hk,hc,n,by simpa using hs⟩,?_⟩
  have e:=r.length;simp only[acj]at e
  lia
def Inv.pX(I:Inv X pq σ H s)(h:aM X.K H a xs)(h' : aM X.K H a ys):xs=ys:=by
 obtain⟨G,r,⟨o,n,e,_,_,d⟩,_⟩:=I.list h;obtain⟨its',r',⟨o',n',e',_,_,d'⟩,_⟩:=I.list h';rw[e]at e';cases e';rw[d]at d';injection d' with d1 _
 have:G=its':=by simpa using aaU Array.toList d1
 subst this;exact r.inj r'
def Inv.GB(I:Inv X pq σ H s)(h:aR X.K H a xs)(h' : aR X.K H a ys):xs=ys:=by
 obtain⟨G,r,⟨o,e,_,n,d⟩,_⟩:=I.tuple h;obtain⟨its',r',⟨o',e',_,n',d'⟩,_⟩:=I.tuple h';rw[e]at e';cases e';rw[d]at d';injection d' with d1 _
 have:G=its':=by simpa using aaU Array.toList d1
 subst this;exact r.inj r'
end
abbrev Cx.uT(X:Cx)(E:dh):Cx:={ X with xe:=E}
abbrev Cx.Dd(X:Cx):Cx:=X.uT λ_ _=>False
def Cx.Ok.uT{X:Cx}(ok:X.Ok)(E:dh):(X.uT E).Ok :=
 ⟨ok.mod,ok.kind,ok.glob,ok.blt,ok.above,ok.inj,ok.has,ok.RY,ok.hd,ok.frames,ok.MS,ok.Wr,ok.bs,ok.Jm,ok.Gz,ok.Jo,ok.funs,ok.Nb⟩
def Cx.Ok.jv{X:Cx}{E:dh}(ok:(X.uT E).Ok):X.Ok :=
 ⟨ok.mod,ok.kind,ok.glob,ok.blt,ok.above,ok.inj,ok.has,ok.RY,ok.hd,ok.frames,ok.MS,ok.Wr,ok.bs,ok.Jm,ok.Gz,ok.Jo,ok.funs,ok.Nb⟩
section
variable {X:Cx}{pq:aQ}{σ:St}{H:Hp}{s:Shared}{E:dh}
def Inv.uT(I:Inv X pq σ H s)(E:dh):Inv (X.uT E) pq σ H s:=⟨I.ok.uT E,I.os,I.bare,I.base,I.loc,I.cell,I.free,I.ee,I.pin,I.hok,I.len⟩
def Inv.jv(I:Inv (X.uT E) pq σ H s):Inv X pq σ H s:=⟨I.ok.jv,I.os,I.bare,I.base,I.loc,I.cell,I.free,I.ee,I.pin,I.hok,I.len⟩
def SP.jv{D:Ends}{f:Flow}{s' : Shared}(h:SP (X.uT E) pq D f s'):SP X pq D f s':=by
 cases f with
 | next=>obtain⟨σ',H',I,q⟩:=h;exact⟨σ',H',I.jv,q⟩
 | brk=>obtain⟨σ',H',I,q⟩:=h;exact⟨σ',H',I.jv,q⟩
 | cont=>obtain⟨σ',H',I,q⟩:=h;exact⟨σ',H',I.jv,q⟩
 | ret u=>obtain⟨v,σ',H',I,r,q⟩:=h;exact⟨v,σ',H',I.jv,r,q⟩
def uw.Dd{st:List Stmt}{t:TS}(h:uw X.Dd st t):uw X st t:=λpq s σ H D I hw =>
 aaD (h pq s σ H D (I.uT _) hw) (λ_ _ q=>q.jv) λ_ _ z=>False.elim z
end
section
variable {X:Cx}{st:Stmt}{rest:List Stmt}{t u:TS}{e:Expr}{te:TE}{pos:Pos}
def aV:TS:=λD σ H=>D.nx σ H
def Ends.on(D:Ends)(u:TS):Ends:={ D with nx:=u D}
def ay(t u:TS):TS:=λD σ H=>t (D.on u) σ H
def aZ:uw X [] aV:=λ_ _ σ H _ I h=>wpAny_execs_nil ⟨σ,H,I,h⟩
def ai(h1:PS X st t)(h2:uw X rest u):uw X (st::rest) (ay t u):=by
 intro pq s σ H D I h;refine wpAny_execs_cons (dP (h1 pq s σ H { D with nx:=u D} I h) λf s1 q=>?_)
 cases f with
 | next =>
   obtain⟨σ',H',G,q⟩:=q;exact h2 pq s1 σ' H' D G q
 | ret v=>exact q
 | brk=>exact q
 | cont=>exact q
def av(h1:PS X st t):uw X [st] t:=by
 intro pq s σ H D I h;refine wpAny_execs_cons (dP (h1 pq s σ H D I h) λf s1 q=>?_)
 cases f with
 | next=>exact wpAny_execs_nil q
 | ret v=>exact q
 | brk=>exact q
 | cont=>exact q
def Inv.quiet{pq:aQ}{σ:St}{H:Hp}{s:Shared}(I:Inv X pq σ H s):interactive X.env=false:=by simp[interactive,I.ok.kind]
def SH(te:TE):TS:=λD σ H=>te σ H λ_ H1=>D.nx σ H1
def cY(he:PE X e te)(hs:swapsWith e none pos.line X.env=pure false:=by rfl):PS X (.Expr e pos) (SH te):=by
 intro pq s σ H D I h;exact wpAny_Expr_any (dP (he pq s σ H _ I h) λv s1 ⟨x,H1,G,U,O⟩=>⟨σ,H1,G,O⟩) I.quiet hs
def WB(te:TE):TS:=λD σ H=>te σ H D.rt
def aJ(he:PE X e te):PS X (.Return (some e) pos) (WB te):=by
 intro pq s σ H D I h;exact wpAny_Return_some (dP (he pq s σ H _ I h) λv s1 ⟨x,H1,G,O,U⟩=>⟨x,σ,H1,G,O,U⟩)
def bO(c:TT)(t u:TS):TS:=λD σ H=>c σ H λb H1=>if b=true then t D σ H1 else u D σ H1
def cA{c:Expr}{a b:List Stmt}{tc:TT}(hc:PT X c tc)(ha:uw X a t)(hb:uw X b u):PS X (.If c a b pos) (bO tc t u):=by
 intro pq s σ H D I h;refine wpAny_If (dP (hc pq s σ H _ I h) λd s1 ⟨H1,G,O⟩=>?_)
 cases d with
 | true=>exact ha pq s1 σ H1 D G O
 | false=>exact hb pq s1 σ H1 D G O
def P9:TS:=λ_ _ _=>False
def x6{sts:List Stmt}:uw X sts P9:=λ_ _ _ _ _ _ h=>h.elim
end
abbrev TG:=V->St->Hp->(St->Hp->Prop)->Prop
abbrev MT:=List V->St->Hp->(St->Hp->Prop)->Prop
def PG(X:Cx)(target:Expr)(t:TG):Prop :=
 ∀(pq:aQ) (s:Shared) (σ:St) (H:Hp) (v:V) (u:Value) (Q:St->Hp->Prop),Inv X pq σ H s->RelV v u->t v σ H Q->
  wpAny (model X.prog X.w) X.A (assign target X.env u) (λ_ s'=>∃σ' H',Inv X pq σ' H' s'/\Q σ' H') X.xe s
def RZ(X:Cx)(ts:List Expr)(t:MT):Prop :=
 ∀(pq:aQ) (s:Shared) (σ:St) (H:Hp) (vs:List V) (us:List Value) (Q:St->Hp->Prop),Inv X pq σ H s->Vals vs us->t vs σ H Q->
  wpAny (model X.prog X.w) X.A (assignInOrder ((assignEach ts X.env).map (·.2)) us) (λ_ s'=>∃σ' H',Inv X pq σ' H' s'/\Q σ' H') X.xe s
abbrev Jr:=V->V->V->Hp->(Hp->Prop)->Prop
def Qa(X:Cx)(t:Jr):Prop :=
 ∀(pq:aQ) (s:Shared) (σ:St) (H:Hp) (o i v:V) (G I u:Value) (Q:Hp->Prop),Inv X pq σ H s->RelV o G->RelV i I->RelV v u->t o i v H Q->
  wpAny (model X.prog X.w) X.A (setItem G I u) (λ_ s'=>∃H',Inv X pq σ H' s'/\Q H') X.xe s
abbrev SJ:=V->V->Hp->VK->Prop
def YQ(X:Cx)(op:Operator)(t:SJ):Prop :=
 ∀(pq:aQ) (s:Shared) (σ:St) (H:Hp) (x y:V) (v u:Value) (Q:VK),Inv X pq σ H s->RelV x v->RelV y u->t x y H Q->
  wpAny (model X.prog X.w) X.A (inplaceOp op v u) (EP X pq σ Q) X.xe s
section
variable {X:Cx}{pos:Pos}
def Js(i:Nat):TG:=λv σ H Q=>Q (σ.set i (some v)) H
def ux{i:Nat}{x:Str}(hN:X.N.Nodup)(hi:X.N[i]?=some x)(hx:Loc X.env.scope x)(hf:X.fn x=true\/X.env.scope.names.lookup x=some .local:=by first | exact .inl rfl | exact .inr rfl | assumption):PG X (.Name x pos) (Js i):=by
 intro pq s σ H v u Q I r h;exact wpAny_assign_Name (mZ I hN hi hx r (λs' G=>⟨_,H,G,h⟩) hf)
def WC:MT:=λvs σ H Q=>vs=[]/\Q σ H
def SK(t:TG)(u:MT):MT:=λvs σ H Q=>∃v r,vs=v::r/\t v σ H λσ' H'=>u r σ' H' Q
def fc:RZ X [] WC:=by
 intro pq s σ H vs us Q I r h;obtain⟨e,h⟩:=h;subst e;cases r;exact assignInOrder_nil ⟨σ,H,I,h⟩
def aS{e:Expr}{es:List Expr}{t:TG}{u:MT}(h1:PG X e t)(h2:RZ X es u)
 (hs:(assignEach (e::es) X.env).map (·.2)=assign e X.env::(assignEach es X.env).map (·.2):=by rfl):RZ X (e::es) (SK t u):=by
 intro pq s σ H vs us Q I r h;obtain⟨v,Z,G,h⟩:=h;subst G;cases r with
 | cons r O =>
   rw[hs];refine assignInOrder_cons (dP (h1 pq s σ H _ _ _ I r h) λ_ s1 ⟨σ1,H1,U,Y⟩=>?_)
   exact h2 pq s1 σ1 H1 _ _ Q U O Y
def SM(K:bN)(n:Nat)(t:MT):TG:=λv σ H Q=>∃a xs,v = .ref a/\aR K H a xs/\xs.length=n/\t xs σ H Q
def Qc{es:List Expr}{k:Nat}{t:MT}{n:Nat}(hc:X.calm=true)(h:RZ X es t)
 (hn:(assignEach es X.env).length=n:=by rfl) (hst:(assignEach es X.env).findIdx? (·.1)=none:=by rfl):PG X (.Tuple es k pos) (SM X.K n t):=by
 intro pq s σ H v u Q I r hw;obtain⟨a,xs,G,O,U,hw⟩:=hw;subst G;cases r;obtain⟨its,rv,ht,hz⟩:=I.tuple O;refine assign_Tuple_tuple (I.ok.hd hc) ht (by simp[hn,<-U,rv.length]) hst λh' hx=>?_
 have Y:Inv X pq σ H { s with heap:=h'}:=I.kept (t':=s.toks) λb o e=>hx b o (aay (aal e)) e
 exact h pq _ σ H xs _ Q Y (by simpa using rv) hw
def WD(to ti:TE)(t:Jr):TG:=λv σ H Q=>to σ H λo H1=>ti σ H1 λi H2=>t o i v H2 λH3=>Q σ H3
def Dp{o i:Expr}{to ti:TE}{t:Jr}(ho:PE X o to)(hi:PE X i ti)(hs:Qa X t)
 (ha:∀v,assign (.Subscript o i pos) X.env v=(do
  let G←holding [v] (eval o X.env)
  let O←holding [v,G] (eval i X.env)
  standAt pos
  holding [v,G,O] (setItem G O v)
  release [v,G,O] []):=by intro _;rfl):PG X (.Subscript o i pos) (WD to ti t):=by
 intro pq s σ H v u Q I r h;rw[ha];refine aN (aaF (dP (ho pq s σ H _ I h) λG s1 ⟨x,H1,U,Y,Z⟩=>?_))
 refine aN (aaF (dP (hi pq s1 σ H1 _ U Z) λO s2 ⟨y,H2,I2,r2,q2⟩=>?_))
 refine aN (wpAny_standAt (aN (aaF (dP (hs pq s2 σ H2 x y v G O u _ I2 Y r2 r q2) λ_ s3 ⟨H3,I3,q3⟩=>?_))))
 exact wpAny_release ⟨σ,H3,I3,q3⟩
def SN(te:TE)(g:TG):TS:=λD σ H=>te σ H λx H1=>g x σ H1 D.nx
def Dq{tg e:Expr}{te:TE}{g:TG}(he:PE X e te)(hg:PG X tg g)(hs:swapsWithSole [tg] e pos.line X.env=pure false:=by rfl)(hw:swappedStores [tg] e X.env=pure none:=by rfl)
 (h1:(assignEach [tg] X.env).map (·.2)=[assign tg X.env]:=by rfl):PS X (.Assign [tg] e pos) (SN te g):=by
 intro pq s σ H D I h;refine wpAny_Assign_stores (dP (he pq s σ H _ I h) λv s1 ⟨x,H1,G,O,U⟩=>?_) hs hw
 rw[h1];exact dP (hg pq s1 σ H1 x v _ G O U) λ_ s2 q=>q
def aF{i:Nat}{x:Str}{e:Expr}{te:TE}{pos' : Pos}(hN:X.N.Nodup)(hi:X.N[i]?=some x)(hx:Loc X.env.scope x)(he:PE X e te)(hs:swapsWith e (some (.Name x pos')) pos.line X.env=pure false:=by rfl)(hf:X.fn x=true\/X.env.scope.names.lookup x=some .local:=by first | exact .inl rfl | exact .inr rfl | assumption):
 PS X (.Assign [.Name x pos'] e pos) (SN te (Js i)):=by
 intro pq s σ H D I h;refine wpAny_Assign_Name (dP (he pq s σ H _ I h) λv s1 ⟨y,H1,G,O,U⟩=>?_) hs
 exact mZ G hN hi hx O (λs2 Y=>⟨_,H1,Y,U⟩) hf
def WE(i:Nat)(te:TE)(ti:SJ):TS:=λD σ H=>∃x,σ[i]?=some (some x)/\te σ H λy H1=>ti x y H1 λz H2=>D.nx (σ.set i (some z)) H2
def y9{i:Nat}{x:Str}{e:Expr}{te:TE}{op:Operator}{ti:SJ}{pos' : Pos}(hN:X.N.Nodup)(hi:X.N[i]?=some x)(hx:Loc X.env.scope x)(he:PE X e te)(ho:YQ X op ti)(hf:X.fn x=true\/X.env.scope.names.lookup x=some .local:=by first | exact .inl rfl | exact .inr rfl | assumption):
 PS X (.AugAssign (.Name x pos') op e pos) (WE i te ti):=by
 intro pq s σ H D I h;obtain⟨v,U,h⟩:=h;obtain⟨m,hn,hl⟩:=I.loc;have O:Vv X.env.scope x:=by rcases hx with k | k;exact .inl k;exact .inr (.inl k)
 obtain⟨u,r,l⟩:=hl i x v hi U O;refine wpAny_AugAssign_Name ?_;have go:wpAny (model X.prog X.w) X.A (eval e X.env) (λw Y=>wpAny (model X.prog X.w) X.A (inplaceOp op u w) (λr Z=>wpAny (model X.prog X.w) X.A (storeName X.env x r) (λ_=>SP X pq D .next) X.xe Z) X.xe Y) X.xe s:=by
  refine dP (he pq s σ H _ I h) λw s1 ⟨y,H1,I1,r1,q1⟩=>?_
  refine dP (ho pq s1 σ H1 v y u w _ I1 r r1 q1) λz s2 ⟨zv,H2,I2,r2,q2⟩=>?_
  exact mZ I2 hN hi hx r2 (λs3 I3=>⟨_,H2,I3,q2⟩) hf
 rcases l with⟨hk,hm⟩|⟨hk,c,hc,G⟩
 ·exact wpAny_loadName_local I.ok.kind hk hn hm go
 ·rcases hk with hk|hk
  ·exact wpAny_loadName_cell I.ok.kind hk hc G go
  ·rcases hx with k|k
   ·have:X.env.scope.names.lookup x=some .free:=hk;rw[k]at this;cases this
   ·have:X.env.scope.names.lookup x=some .free:=hk;rw[k]at this;cases this
def SQ(to ti te:TE)(Nh:V->V->Hp->VK->Prop)(Vz:SJ)(Ni:Jr):TS:=λD σ H=>to σ H λo H1=>ti σ H1 λi H2=>Nh o i H2 λx H3=>te σ H3 λy H4=>Vz x y H4 λz G=>Ni o i z G λI=>D.nx σ I
def SR(X:Cx)(t:V->V->Hp->VK->Prop):Prop :=
 ∀(pq:aQ) (s:Shared) (σ:St) (H:Hp) (o i:V) (G I:Value) (Q:VK),Inv X pq σ H s->RelV o G->RelV i I->t o i H Q->
  wpAny (model X.prog X.w) X.A (getItem G I) (EP X pq σ Q) X.xe s
def Fj{o i e:Expr}{to ti te:TE}{Nh:V->V->Hp->VK->Prop}{Vz:SJ}{Ni:Jr}{op:Operator}{tpos:Pos}(ho:PE X o to)(hi:PE X i ti)(hg:SR X Nh)(he:PE X e te)(hp:YQ X op Vz)(hs:Qa X Ni)
 (ha:∀G O new,augStore i G O new=(do holding [new,G,O] (setItem G O new);release [new,G,O] [];pure .next):=by intros;rfl):PS X (.AugAssign (.Subscript o i tpos) op e pos) (SQ to ti te Nh Vz Ni):=by
 intro pq s σ H D I h;refine wpAny_AugAssign_SubscriptAny (dP (ho pq s σ H _ I h) λG s1 ⟨U,H1,I1,Y,q1⟩=>?_) ha
 refine dP (hi pq s1 σ H1 _ I1 q1) λO s2 ⟨Z,H2,I2,r2,q2⟩=>?_
 refine dP (hg pq s2 σ H2 U Z G O _ I2 Y r2 q2) λold s3 ⟨x3,H3,I3,r3,q3⟩=>?_
 refine dP (he pq s3 σ H3 _ I3 q3) λv s4 ⟨x4,H4,I4,r4,q4⟩=>?_
 refine dP (hp pq s4 σ H4 x3 x4 old v _ I4 r3 r4 q4) λnew s5 ⟨x5,H5,I5,r5,q5⟩=>?_
 exact dP (hs pq s5 σ H5 U Z x5 G O new _ I5 Y r2 r5 q5) λ_ s6 ⟨H6,I6,q6⟩=>⟨σ,H6,I6,q6⟩
def uU(c:TT)(tb:TS):TS:=λD σ H=>∃W:Nat->St->Hp->Prop,(∃m,W m σ H)/\∀m σ H,W m σ H->
 c σ H λb H1=>if b=true then ∃N:St->Hp->Prop,(∀σ' H',N σ' H'->∃G,G<m/\W G σ' H')/\tb { D with nx:=N,ct:=N,bk:=D.nx} σ H1 else D.nx σ H1
def AU{c:Expr}{body:List Stmt}{tc:TT}{tb:TS}(hp:PassesOwn (model X.prog X.w) X.A X.env X.xe)(hc:PT X c tc)(hb:uw X body tb):PS X (.While c body [] pos) (uU tc tb):=by
 intro pq s σ H D I h;obtain⟨W,⟨m0,w0⟩,turn⟩:=h;refine wpAny_While (codeAny_whileLoop (λn s'=>∃σ' H',Inv X pq σ' H' s'/\W n σ' H') ?_ m0 ⟨σ,H,I,w0⟩)
 rintro n s1 ⟨σ1,H1,I1,w1⟩;refine wpAny_passesOwn hp (dP (hc pq s1 σ1 H1 _ I1 (turn n σ1 H1 w1)) λb s2 ⟨H2,Z,G⟩=>?_)
 cases b with
 | true =>
   obtain⟨N,hN,G⟩:=G;rw[aac rfl];refine wpAny_passesOwn hp (dP (hb pq s2 σ1 H2 _ Z G) λf s3 O=>?_)
   cases f with
   | next =>
     obtain⟨σ3,H3,U,Y⟩:=O;obtain⟨m',hm,w3⟩:=hN σ3 H3 Y;exact⟨m',hm,σ3,H3,U,w3⟩
   | cont =>
     obtain⟨σ3,H3,U,Y⟩:=O;obtain⟨m',hm,w3⟩:=hN σ3 H3 Y;exact⟨m',hm,σ3,H3,U,w3⟩
   | brk=>exact O
   | ret v=>exact O
 | false =>
   rw[aab aan];exact wpAny_execs_nil ⟨σ1,H2,Z,G⟩
end
structure It where
 go:Nat->Hp->Prop
 MU:Nat->Hp->V->Hp->Prop
 stop:Nat->Hp->Prop
def o7(X:Cx)(pq:aQ)(H:Hp)(b:Addr):Prop :=
 H b=none/\b≠X.env.locals/\b∉X.fs/\(b∈X.ex\/X.s₀.heap.objs.size<=b)/\(∀x c,X.env.cells.lookup x=some c->c≠b)/\∀p∈X.pn++pq,p.1≠b
def Inv.GC{X:Cx}{pq:aQ}{σ:St}{H H' : Hp}{s:Shared}{b:Addr}(I:Inv X pq σ H s)(hb:s.heap.objs.size<=b)(hn:H' b=none):o7 X pq H' b:=by
 refine⟨hn,abC (aap I.lt hb),I.Sz hb,.inr (aaE I.sz hb),λx c e z=>?_,λp hp z=>?_⟩
 ·obtain⟨v,q⟩:=I.cell x c e;exact absurd (aap q.lt (by rw[z];exact hb)) (aa8 _)
 ·exact absurd (aap (aal (I.pin p hp).1) (by rw[z];exact hb)) (aa8 _)
structure Turn(P:Program)(w:World)(K:bN)(tg:Expr)(J:It)(fp:List Addr)(it:Addr)(tn:Nat->Heap->Prop):Prop where
 mem:it∈fp
 obj:∀i h,tn i h->∀b∈fp,∃o,h.get? b=some o/\∀v,o.data≠.cell v
 keep:∀i h h',tn i h->(∀b∈fp,∀o,h.get? b=some o->h'.get? b=some o)->tn i h'
 item:∀(X:Cx),X.prog=P->X.w=w->X.K=K->X.calm=true->∀(i:Nat) (pq:aQ) (s:Shared) (σ:St) (H:Hp) (E:dh),Inv X pq σ H s->(∀b∈fp,o7 X pq H b)->tn i s.heap->J.go i H->
  wpAny (model P w) X.A (pyNext (.ref it)) (λr s1=>∃u,r=some u/\
   wpAny (model P w) X.A (letOwnedTupleGo tg (.ref it) u) (λ_ s2=>∃x H',Inv X pq σ H' s2/\RelV x u/\J.MU i H x H'/\tn (i+1) s2.heap/\∀b∈fp,H' b=none) E s1) E s
 done:∀(X:Cx),X.prog=P->X.w=w->X.K=K->X.calm=true->∀(i:Nat) (pq:aQ) (s:Shared) (σ:St) (H:Hp) (E:dh),Inv X pq σ H s->(∀b∈fp,o7 X pq H b)->tn i s.heap->J.stop i H->
  wpAny (model P w) X.A (pyNext (.ref it)) (λr s1=>r=none/\Inv X pq σ H s1) E s
 self:∀(A:Around) (i:Nat) (s:Shared) (Q:dh) (E:dh),tn i s.heap->Q (.ref it) s->wpAny (model P w) A (pyIter (.ref it)) Q E s
abbrev TI:=St->Hp->(It->Hp->Prop)->Prop
def YR(X:Cx)(pq:aQ)(σ:St)(tg:Expr)(R:It->Hp->Prop)(itv:Value)(s2:Shared):Prop :=
 ∃(it:Addr) (fp:List Addr) (tn:Nat->Heap->Prop) (J:It) (H' : Hp),itv = .ref it/\Inv X pq σ H' s2/\Turn X.prog X.w X.K tg J fp it tn/\tn 0 s2.heap/\(∀b∈fp,o7 X pq H' b)/\R J H'
def PI(X:Cx)(tg iter:Expr)(wi:TI):Prop :=
 ∀(pq:aQ) (s:Shared) (σ:St) (H:Hp) (R:It->Hp->Prop),Inv X pq σ H s->wi σ H R->
  wpAny (model X.prog X.w) X.A (eval iter X.env) (λv s1=>wpAny (model X.prog X.w) X.A (pyIter v) (YR X pq σ tg R) X.xe s1) X.xe s
def O0{M:Model}{A:Around}{E:dh}{s:Shared}{tg:Expr}{it:Addr}{u:Value}{o:Obj}{n:String}{vs:Array Value}{Q:Unit->Shared->Prop}(ho:s.heap.get? it=some o)(hc:o.cls = .type n)(hd:o.data = .fields vs)
 (hn:["enumerate","zip","dict_itemiterator","dict_reverseitemiterator","odict_iterator","itertools.zip_longest","itertools.pairwise"].contains n=false) (hQ:Q () s):wpAny M A (letOwnedTupleGo tg (.ref it) u) Q E s:=by
 unfold letOwnedTupleGo;cases tg<;>first
  | exact aah hQ
  | (cases u<;>first
   | exact aah hQ
   | (refine aN (wpAny_load ho ?_)
      rw[hc,hd];show wpAny M A (if(["enumerate","zip","dict_itemiterator","dict_reverseitemiterator","odict_iterator","itertools.zip_longest","itertools.pairwise"].contains n&&vs[0]? == some (rawInt _))=true then _ else _) Q E s
      rw[aab (by intro h;rw[hn,acQ]at h;cases h)]
      exact aah hQ))
def Nj(K:bN)(a:Addr):It :=
 ⟨λi H=>∃xs x,aM K H a xs/\xs[i]?=some x,λi H x H'=>H' = H/\∀xs,aM K H a xs->xs[i]?=some x,λi H=>∃xs,aM K H a xs/\xs.length<=i⟩
def Jt(lo:Int)(n:Nat):It:=⟨λi _=>i<n,λi H x H'=>H' = H/\x = .int (lo+i),λi _=>n<=i⟩
def GD{P:Program}{w:World}{K:bN}{tg:Expr}(a it:Addr):Turn P w K tg (Nj K a) [it] it (λi h=>h.IsListIter it a i) where
 mem:=by simp
 obj:=λi h st b hb=>by
  have e:b=it:=by simpa using hb
  subst e;obtain⟨o,e,c,d⟩:=st;exact⟨o,e,λv z=>by rw[d]at z;cases z⟩
 keep:=λi h h' st k=>st.at λo e=>k it (by simp) o e
 item:=by
  intro X U hw Y hc i pq s σ H E I hf st Z;subst U hw Y;obtain⟨xs,x,O,hx⟩:=Z;obtain⟨its,rv,p,hz⟩:=I.list O;obtain⟨u,hu,ru⟩:=rv.get hx;obtain⟨f0,f1,f2,f3,f4,f5⟩:=hf it (by simp)
  refine wpAny_pyNext_list_item st p.isList (x:=u) (by simpa using hu) λh' G sb=>?_
  have I1:Inv X pq σ H { s with heap:=h'}:=I.turned (t':=s.toks) (λb o hb e=>(sb.2 b hb).trans e) f0 f1 f3 f4 f5
  obtain⟨o,e,c,d⟩:=id G;exact⟨u,rfl,O0 (s:={ s with heap:=h'}) e c d (by decide) ⟨x,H,I1,ru,⟨rfl,λys hy=>by rw[I.pX hy O];exact hx⟩,G,λb hb=>(hf b hb).1⟩⟩
 done:=by
  intro X U hw Y hc i pq s σ H E I hf st Z;subst U hw Y;obtain⟨xs,O,hx⟩:=Z;obtain⟨its,rv,p,hz⟩:=I.list O;obtain⟨f0,f1,f2,f3,f4,f5⟩:=hf it (by simp)
  have hl:=rv.length;exact wpAny_pyNext_list_end (I.ok.hd hc) st p.isList (by simp;lia) λh' eb=>⟨rfl,I.turned (t':=s.toks) (λb o hb e=>eb b o hb e) f0 f1 f3 f4 f5⟩
 self:=λ_ _ _ _ _ st h=>wpAny_pyIter_listiter st h
def Dr{P:Program}{w:World}{K:bN}{tg:Expr}(it:Addr)(lo:Int)(n:Nat):Turn P w K tg (Jt lo n) [it] it (λi h=>IsRangeIter h it (lo+(i:Nat)*1) ((n:Int)-(i:Nat)) 1) where
 mem:=by simp
 obj:=λi h st b hb=>by
  have e:b=it:=by simpa using hb
  subst e;exact⟨_,st,λv z=>by
   have z' : Data.fields _=Data.cell v:=z;cases z'⟩
 keep:=λi h h' st k=>k it (by simp) _ st
 item:=by
  intro X O hw U hc i pq s σ H E I hf st Y;subst O hw U;obtain⟨f0,f1,f2,f3,f4,f5⟩:=hf it (by simp)
  have W:=Walks.range (prog:=X.prog) (w:=X.w) (I.ok.hd hc) it lo 1 n;refine W.item i s _ _ Y st λv h' tk Z G kk=>?_
  obtain⟨t,rfl⟩:=Z;have I1:Inv X pq σ H { s with heap:=h',toks:=tk}:=I.turned (λb o hb e=>kk b o (by simpa using hb) e) f0 f1 f3 f4 f5
  refine⟨_,rfl,O0 (s:={ s with heap:=h',toks:=tk}) (n:="range_iterator") G rfl rfl (by decide) ⟨.int (lo+i),H,I1,⟨t,?_⟩,⟨rfl,rfl⟩,G,λb hb=>(hf b hb).1⟩⟩
  rw[Int.mul_one]
 done:=by
  intro X O hw U hc i pq s σ H E I hf st Y;subst O hw U;obtain⟨f0,f1,f2,f3,f4,f5⟩:=hf it (by simp)
  exact wpAny_pyNext_range_end (I.ok.hd hc) st (by have:n<=i:=Y;lia) λh' eb=>⟨rfl,I.turned (t':=s.toks) (λb o hb e=>eb b o hb e) f0 f1 f3 f4 f5⟩
 self:=λ_ _ _ _ _ st h=>wpAny_pyIter_rangeiter st h
section
variable {X:Cx}{tg:Expr}
def O1(K:bN)(tl:TE):TI:=λσ H R=>tl σ H λx H1=>∃a,x = .ref a/\(∃xs,aM K H1 a xs)/\R (Nj K a) H1
def Nk{l:Expr}{tl:TE}(hl:PE X l tl):PI X tg l (O1 X.K tl):=by
 intro pq s σ H R I h;refine dP (hl pq s σ H _ I h) λv s1 ⟨x,H1,G,O,U⟩=>?_
 obtain⟨a,e,⟨xs,Y⟩,q⟩:=U;subst e;cases O;obtain⟨its,rv,p,hz⟩:=G.list Y;refine wpAny_pyIter_list p.isList ?_;refine⟨s1.heap.objs.size,[s1.heap.objs.size],_,_,H1,rfl,G.kept (t':=s1.toks) λb o e=>aak _ e,GD a _,⟨_,aaB _ rfl,rfl,rfl⟩,λb hb=>?_,q⟩
 have e:b=s1.heap.objs.size:=by simpa using hb
 subst e;exact G.GC (aaf _) (G.hok.fresh (aaf _))
def AV{pq:aQ}{σ:St}{H:Hp}{s:Shared}{R:It->Hp->Prop}{E:dh}{lo hi:Int}{t u v:Tok}{tk:Nat}(I:Inv X pq σ H s)(h1 : -(2^62)<=lo)(h2:lo<2^62)(h3 : -(2^62)<=hi)(h4:hi<2^62)
 (q:R (Jt lo (hi-lo).toNat) H):wpAny (model X.prog X.w) X.A (pyIter (.ref s.heap.objs.size)) (YR X pq σ tg R) E { s with heap:=s.heap.push { cls:=.type "range",data:=.fields #[.int lo t,.int hi u,.int 1 v]},toks:=tk}:=by
 refine wpAny_pyIter_range (IsRange.new ..) (small_one h1 h2 h3 h4) ?_;have G:Inv X pq σ H { s with heap:=s.heap.push { cls:=.type "range",data:=.fields #[.int lo t,.int hi u,.int 1 v]},toks:=tk}:=I.kept λb o e=>aak _ e
 refine⟨(s.heap.push { cls:=.type "range",data:=.fields #[.int lo t,.int hi u,.int 1 v]}).objs.size,[(s.heap.push { cls:=.type "range",data:=.fields #[.int lo t,.int hi u,.int 1 v]}).objs.size],_,_,H,rfl,
  G.kept (t':=tk) λb o e=>aak _ e,Dr _ lo (hi-lo).toNat,?_,λb hb=>?_,q⟩
 ·have O:lo+((0:Nat):Int)*1=lo:=by simp
  have U:(((hi-lo).toNat:Nat):Int)-((0:Nat):Int)=Builtin.Range.rangeSize lo hi 1:=by rw[rangeSize_one];split<;>lia
  show IsRangeIter _ _ (lo+((0:Nat):Int)*1) ((((hi-lo).toNat:Nat):Int)-((0:Nat):Int)) 1;rw[O,U];exact aaB _ rfl
 ·have e:b=(s.heap.push { cls:=.type "range",data:=.fields #[.int lo t,.int hi u,.int 1 v]}).objs.size:=by simpa using hb
  subst e;exact G.GC (aaf _) (G.hok.fresh (aaf _))
def SS(ta:TA):TI:=λσ H R=>ta σ H λvs H1=>∃j:Int,vs=[.int j]/\-(2^62)<=j/\j<2^62/\R (Jt 0 j.toNat) H1
def SV(ta:TA):TI:=λσ H R=>ta σ H λvs H1=>∃i j:Int,vs=[.int i,.int j]/\(-(2^62)<=i/\i<2^62/\-(2^62)<=j/\j<2^62)/\R (Jt i (j-i).toNat) H1
def br{a:Expr}{ta:TA}{p pos:Pos}(hg:Gl X "range")(hm:X.mg "range"=none)(ha:PA X [a] ta)(hs:starEach [a] X.env=[(false,eval a X.env)]:=by rfl):PI X tg (.Call (.Name "range" p) [a] [] pos) (SS ta):=by
 intro pq s σ H R I h;refine Call_ (kA I hg hm boot_range (abz (dP (ha pos pq s σ H _ I h) λus s1 ⟨vs,H1,O,U,G⟩=>?_) hs rfl))
 obtain⟨j,e,G,Y,q⟩:=G;subst e;cases U with
 | cons r Z =>
   cases Z;obtain⟨t,rfl⟩:=r;exact call_range_1 (AV O (by lia) (by lia) G Y (by simpa using q))
def GF{a b:Expr}{ta:TA}{p pos:Pos}(hg:Gl X "range")(hm:X.mg "range"=none)(ha:PA X [a,b] ta)(hs:starEach [a,b] X.env=[(false,eval a X.env),(false,eval b X.env)]:=by rfl)(hs2:starEach [b] X.env=[(false,eval b X.env)]:=by rfl):
 PI X tg (.Call (.Name "range" p) [a,b] [] pos) (SV ta):=by
 intro pq s σ H R I h;refine Call_ (kA I hg hm boot_range (abz (dP (ha pos pq s σ H _ I h) λus s1 ⟨vs,H1,U,Y,G⟩=>?_) (by rw[hs,hs2]) (by rw[hs2];rfl)))
 obtain⟨i,j,e,⟨G,Z,q3,q4⟩,q⟩:=G;subst e;cases Y with
 | cons r O =>
   cases O with
   | cons r' O =>
     cases O;obtain⟨t,rfl⟩:=r;obtain⟨t',rfl⟩:=r';exact call_range_2 (AV U G Z q3 q4 q)
def dM(wi:TI)(g:TG)(tb:TS):TS:=λD σ H=>wi σ H λJ H1=>∃W:Nat->Nat->St->Hp->Prop,(∃m,W 0 m σ H1)/\∀i m σ H,W i m σ H->
 (J.stop i H/\D.nx σ H)\/(J.go i H/\∃N:St->Hp->Prop,(∀σ' H',N σ' H'->∃G,G<m/\W (i+1) G σ' H')/\∀x H',J.MU i H x H'->g x σ H' λσ2 H2=>tb { D with nx:=N,ct:=N,bk:=D.nx} σ2 H2)
def qU(fp:List Addr)(h:Heap):aQ:=fp.filterMap λb=>(h.get? b).map λo=>(b,o)
def g7{fp:List Addr}{h:Heap}{b:Addr}{o:Obj}(hb:b∈fp)(e:h.get? b=some o):(b,o)∈qU fp h:=abU.mpr ⟨b,hb,by rw[e];rfl⟩
def GG{fp:List Addr}{h:Heap}{p:Addr×Obj}(hp:p∈qU fp h):p.1∈fp/\h.get? p.1=some p.2:=by
 obtain⟨b,hb,e⟩:=abU.mp hp;cases q:h.get? b with
 | none=>rw[q]at e;cases e
 | some o =>
   rw[q]at e;have e' : (b,o)=p:=Option.some.inj e;subst e';exact⟨hb,q⟩
def Inv.pinned{pq:aQ}{σ:St}{H:Hp}{s:Shared}{fp:List Addr}(I:Inv X pq σ H s)(hf:∀b∈fp,o7 X pq H b)(ho:∀b∈fp,∃o,s.heap.get? b=some o/\∀v,o.data≠.cell v):Inv X (pq++qU fp s.heap) σ H s :=
 I.gG λp hp=>(aaw.mp hp).elim (λz=>I.pin p (iO _ z)) λz=>by
  obtain⟨hb,e⟩:=GG z;obtain⟨f0,f1,f2,_⟩:=hf p.1 hb;obtain⟨o,e',d⟩:=ho p.1 hb;rw[e]at e';cases e';exact⟨e,f0,f1,f2,d⟩
def Inv.jw{pq pl:aQ}{σ:St}{H:Hp}{s:Shared}(I:Inv X (pq++pl) σ H s):Inv X pq σ H s:=I.gG λp hp=>I.pin p (iO _ (C7 _ hp))
def eK{iter:Expr}{body:List Stmt}{wi:TI}{g:TG}{tb:TS}{pos:Pos}(hp:PassesOwn (model X.prog X.w) X.A X.env X.xe)(hc:X.calm=true)(hi:PI X tg iter wi)(hg:PG X tg g)(hb:uw X body tb)
 (hs:∀x,foldedSetIterable iter X.env x=pure x:=by intro _;rfl):PS X (.For tg iter body [] pos) (dM wi g tb):=by
 intro pq s σ H D I h;refine wpAny_For (dP (hi pq s σ H _ I h) λv s1 h1=>dP h1 λar s2 h2=>?_) hs
 obtain⟨it,fp,tn,J,H2,e,I2,T,ag,f2,W,⟨m0,w0⟩,turn⟩:=h2;subst e;have Dt:∀{H' : Hp},(∀b∈fp,H' b=none)->∀b∈fp,o7 X pq H' b:=λhn b hb=>⟨hn b hb,(f2 b hb).2⟩
 refine codeAny_forLoop_any (λn s'=>∃i σ' H',Inv X pq σ' H' s'/\tn i s'.heap/\(∀b∈fp,H' b=none)/\W i n σ' H') ?_ m0 ⟨0,σ,H2,I2,ag,λb hb=>(f2 b hb).1,w0⟩
 rintro n s3 ⟨i,σ3,H3,I3,Y,O2,w3⟩;rcases turn i n σ3 H3 w3 with⟨stop,qn⟩|⟨go,N,hN,step⟩
 ·refine wpAny_passesOwn hp (dP (T.done X rfl rfl rfl hc i pq s3 σ3 H3 X.xe I3 (Dt O2) Y stop) λr s4 ⟨hr,I4⟩=>?_)
  subst hr;exact wpAny_execs_nil ⟨σ3,H3,I4,qn⟩
 ·refine wpAny_passesOwn hp (dP (T.item X rfl rfl rfl hc i pq s3 σ3 H3 X.xe I3 (Dt O2) Y go) λr s4 ⟨u,hr,h4⟩=>?_)
  subst hr;refine wpAny_passesOwn hp (dP h4 λ_ s5 ⟨x,H5,I5,r5,y5,Ju,SW⟩=>?_)
  have SX:=I5.pinned (Dt SW) (T.obj _ _ Ju);refine wpAny_passesOwn hp (dP (hg _ s5 σ3 H5 x u _ SX r5 (step x H5 y5)) λ_ s6 ⟨σ6,H6,I6,q6⟩=>?_)
  refine wpAny_passesOwn hp (dP (hb _ s6 σ6 H6 _ I6 q6) λf s7 U=>?_)
  have again:∀{σ7:St} {G:Hp},Inv X (pq++qU fp s5.heap) σ7 G s7->N σ7 G->∃m,m<n/\∃i σ' H',Inv X pq σ' H' s7/\tn i s7.heap/\(∀b∈fp,H' b=none)/\W i m σ' H':=λ{σ7 G} O Z=>by
   obtain⟨m',hm,w7⟩:=hN σ7 G Z;refine⟨m',hm,i+1,σ7,G,O.jw,T.keep _ _ _ Ju λb hb o e=>(O.pin (b,o) (iO _ (iO _ (g7 hb e)))).1,λb hb=>?_,w7⟩
   obtain⟨o,e,d⟩:=T.obj _ _ Ju b hb;exact(O.pin (b,o) (iO _ (iO _ (g7 hb e)))).2.1
  cases f with
  | next=>obtain⟨σ7,G,O,Z⟩:=U;exact again O Z
  | cont=>obtain⟨σ7,G,O,Z⟩:=U;exact again O Z
  | brk=>obtain⟨σ7,G,O,U⟩:=U;exact⟨σ7,G,O.jw,U⟩
  | ret v=>obtain⟨x7,σ7,G,O,r7,U⟩:=U;exact⟨x7,σ7,G,O.jw,r7,U⟩
end
def uV{K:bN}{a:Addr}{xs:List V}{g:TG}{tb:TS}{D:Ends}{σ:St}{H:Hp}(Pv:Nat->St->Hp->Prop)(h0:Pv 0 σ H)(hl:∀i σ H,i<=xs.length->Pv i σ H->aM K H a xs)
 (hs:∀i x σ H,xs[i]?=some x->Pv i σ H->g x σ H λσ2 H2=>tb { D with nx:=Pv (i+1),ct:=Pv (i+1),bk:=D.nx} σ2 H2) (hd:∀σ H,Pv xs.length σ H->D.nx σ H) :
 ∃W:Nat->Nat->St->Hp->Prop,(∃m,W 0 m σ H)/\∀i m σ H,W i m σ H->
   ((Nj K a).stop i H/\D.nx σ H)\/((Nj K a).go i H/\∃N:St->Hp->Prop,(∀σ' H',N σ' H'->∃I,I<m/\W (i+1) I σ' H')/\∀x H',(Nj K a).MU i H x H'->g x σ H' λσ2 H2=>tb { D with nx:=N,ct:=N,bk:=D.nx} σ2 H2):=by
 refine⟨λi m σ H=>m=xs.length-i/\i<=xs.length/\Pv i σ H,⟨xs.length,by simp,aaL _,h0⟩,?_⟩
 rintro i m σ H ⟨rfl,hi,p⟩;have q:=hl i σ H hi p
 by_cases G:i<xs.length
 ·refine .inr ⟨⟨xs,xs[i],q,by simp[G]⟩,Pv (i+1),λσ' H' O=>⟨xs.length-(i+1),by lia,rfl,G,O⟩,λx H' y=>?_⟩
  obtain⟨e,y⟩:=y;subst e;exact hs i x σ _ (y xs q) p
 ·have e:i=xs.length:=by lia
  subst e;exact .inl ⟨⟨xs,q,aaf _⟩,hd σ H p⟩
def GH{lo:Int}{n:Nat}{g:TG}{tb:TS}{D:Ends}{σ:St}{H:Hp}(Pv:Nat->St->Hp->Prop)(h0:Pv 0 σ H)
 (hs:∀i σ H,i<n->Pv i σ H->g (.int (lo+i)) σ H λσ2 H2=>tb { D with nx:=Pv (i+1),ct:=Pv (i+1),bk:=D.nx} σ2 H2) (hd:∀σ H,Pv n σ H->D.nx σ H) :
 ∃W:Nat->Nat->St->Hp->Prop,(∃m,W 0 m σ H)/\∀i m σ H,W i m σ H->
   ((Jt lo n).stop i H/\D.nx σ H)\/((Jt lo n).go i H/\∃N:St->Hp->Prop,(∀σ' H',N σ' H'->∃I,I<m/\W (i+1) I σ' H')/\∀x H',(Jt lo n).MU i H x H'->g x σ H' λσ2 H2=>tb { D with nx:=N,ct:=N,bk:=D.nx} σ2 H2):=by
 refine⟨λi m σ H=>m=n-i/\i<=n/\Pv i σ H,⟨n,by simp,aaL _,h0⟩,?_⟩
 rintro i m σ H ⟨rfl,hi,p⟩
 by_cases G:i<n
 ·refine .inr ⟨G,Pv (i+1),λσ' H' O=>⟨n-(i+1),by lia,rfl,G,O⟩,λx H' y=>?_⟩
  obtain⟨e,y⟩:=y;subst e y;exact hs i σ _ G p
 ·have e:i=n:=by lia
  subst e;exact .inl ⟨aaf _,hd σ H p⟩
abbrev R2:=V->V->Hp->VK->Prop
def lC(X:Cx)(f:Value->Value->Sem Value)(r:R2):Prop :=
 ∀(pq:aQ) (s:Shared) (σ:St) (H:Hp) (x y:V) (v u:Value) (Q:VK),Inv X pq σ H s->RelV x v->RelV y u->r x y H Q->
  wpAny (model X.prog X.w) X.A (f v u) (EP X pq σ Q) X.xe s
def WG(X:Cx)(f:Value->Sem Value)(r:V->Hp->VK->Prop):Prop :=
 ∀(pq:aQ) (s:Shared) (σ:St) (H:Hp) (x:V) (v:Value) (Q:VK),Inv X pq σ H s->RelV x v->r x H Q->
  wpAny (model X.prog X.w) X.A (f v) (EP X pq σ Q) X.xe s
def fJ(X:Cx)(f:Value)(r:List V->Hp->VK->Prop):Prop :=
 ∀(pq:aQ) (s:Shared) (σ:St) (H:Hp) (xs:List V) (us:List Value) (Q:VK),Inv X pq σ H s->Vals xs us->r xs H Q->
  wpAny (model X.prog X.w) X.A (call f us) (EP X pq σ Q) X.xe s
def SY(r:R2)(ta tb:TE):TE:=λσ H Q=>ta σ H λx H1=>tb σ H1 λy H2=>r x y H2 Q
def tUn(r:V->Hp->VK->Prop)(ta:TE):TE:=λσ H Q=>ta σ H λx H1=>r x H1 Q
def rI(C:Int->Int->Prop)(g:Int->Int->V):R2:=λx y H Q=>∃i j,x = .int i/\y = .int j/\C i j/\Q (g i j) H
def Fl(g:Int->Int->V):R2:=λx y H Q=>∃i j,x = .int i/\y = .int j/\Q (g i j) H
def rU(g:Int->V):V->Hp->VK->Prop:=λx H Q=>∃i,x = .int i/\Q (g i) H
section
variable {X:Cx}{a b c:Expr}{ta tb tc:TE}{pos:Pos}
def Qd(ha:PE X a ta)(hb:PE X b tb){pq:aQ}{s:Shared}{σ:St}{H:Hp}{R:V->V->Hp->Prop}(I:Inv X pq σ H s)
 (h:ta σ H λx H1=>tb σ H1 λy H2=>R x y H2) {Q:dh} {f:Value->Value->Sem Value}
 (hf:∀v u s2 x y H2,Inv X pq σ H2 s2->RelV x v->RelV y u->R x y H2->wpAny (model X.prog X.w) X.A (f v u) Q X.xe s2) :
 wpAny (model X.prog X.w) X.A (eval a X.env) (λv G=>wpAny (model X.prog X.w) X.A (eval b X.env) (λu O=>wpAny (model X.prog X.w) X.A (f v u) Q X.xe O) X.xe G) X.xe s:=by
 refine dP (ha pq s σ H _ I h) λv s1 ⟨x,H1,U,Y,Z⟩=>?_
 refine dP (hb pq s1 σ H1 _ U Z) λu s2 ⟨y,H2,I2,r2,q2⟩=>?_
 exact hf v u s2 x y H2 I2 Y r2 q2
def aI{op:Operator}{r:R2}(ho:lC X (binaryOp op) r)(ha:PE X a ta)(hb:PE X b tb):PE X (.BinOp a op b pos) (SY r ta tb):=by
 intro pq s σ H Q I h;exact wpAny_BinOp (Qd ha hb I h λv u s2 x y H2 G rx O q=>ho pq s2 σ H2 x y v u Q G rx O q)
def O3{op:UnaryOp}{r:V->Hp->VK->Prop}(ho:WG X (unaryOp op) r)(ha:PE X a ta):PE X (.UnaryOp op a pos) (tUn r ta):=by
 intro pq s σ H Q I h;exact UnaryOp_ (dP (ha pq s σ H _ I h) λv s1 ⟨x,H1,G,O,U⟩=>ho pq s1 σ H1 x v Q G O U)
def R0{f:Value->Value->Sem Value}{C:Int->Int->Prop}{g:Int->Int->Int}
 (rule:∀(i j:Int) (t u:Tok) (s:Shared) (Q:dh) (E:dh),C i j->Q (.int (g i j) s.toks) { s with toks:=s.toks+1}->wpAny (model X.prog X.w) X.A (f (.int i t) (.int j u)) Q E s) :
 lC X f (rI C λi j=>.int (g i j)):=by
 intro pq s σ H x y v u Q I rx G h;obtain⟨i,j,rfl,rfl,hc,q⟩:=h;obtain⟨t,rfl⟩:=rx;obtain⟨t',rfl⟩:=G;exact rule i j t t' s _ _ hc ⟨.int (g i j),H,I.tok _,⟨_,rfl⟩,q⟩
def AW{f:Value->Value->Sem Value}{g:Int->Int->Int}
 (rule:∀(i j:Int) (t u:Tok) (s:Shared) (Q:dh) (E:dh),Q (.int (g i j) s.toks) { s with toks:=s.toks+1}->wpAny (model X.prog X.w) X.A (f (.int i t) (.int j u)) Q E s) :
 lC X f (Fl λi j=>.int (g i j)):=by
 intro pq s σ H x y v u Q I rx G h;obtain⟨i,j,rfl,rfl,q⟩:=h;obtain⟨t,rfl⟩:=rx;obtain⟨t',rfl⟩:=G;exact rule i j t t' s _ _ ⟨.int (g i j),H,I.tok _,⟨_,rfl⟩,q⟩
def Nl{f:Value->Value->Sem Value}{g:Int->Int->Bool}
 (rule:∀(i j:Int) (t u:Tok) (s:Shared) (Q:dh) (E:dh),Q (.bool (g i j)) s->wpAny (model X.prog X.w) X.A (f (.int i t) (.int j u)) Q E s) :
 lC X f (Fl λi j=>.bl (g i j)):=by
 intro pq s σ H x y v u Q I rx G h;obtain⟨i,j,rfl,rfl,q⟩:=h;obtain⟨t,rfl⟩:=rx;obtain⟨t',rfl⟩:=G;exact rule i j t t' s _ _ ⟨.bl (g i j),H,I,rfl,q⟩
def WH(i j:Int):Prop:=0<j/\j<1073741824
def S0(i j:Int):Prop:=0<=j/\j<=1000000/\i.natAbs<2^64
def Qe(i j:Int):Prop:=(-(2^64)<i/\i<2^64)\/(-(2^64)<j/\j<2^64)
def Qe.ok{i j:Int}(h:Qe i j):IntMulOk i j:=by
 rcases h with⟨h1,h2⟩|⟨h1,h2⟩
 ·exact .of_left (intBits_le_64 h1 h2)
 ·exact .of_right (intBits_le_64 h1 h2)
def Du(k:Nat):(0:Int)<=2^k:=by
 rw[two_pow_cast];exact adu _
def eM:lC X (binaryOp .Add) (Fl λi j=>.int (i+j)):=AW λ_ _ _ _ _ _ _ q=>add_int q
def o8:lC X (binaryOp .Sub) (Fl λi j=>.int (i-j)):=AW λ_ _ _ _ _ _ _ q=>sub_int q
def Dv:lC X (binaryOp .Mult) (rI Qe λi j=>.int (i*j)):=R0 λ_ _ _ _ _ _ _ hc q=>mul_int q hc.ok
def lD:lC X (binaryOp .FloorDiv) (rI WH λi j=>.int (i/j)):=R0 λi j _ _ _ _ _ hc q=>by
 have h1:(0:Int)<j:=hc.1;have h2:j<1073741824:=hc.2;exact floordiv_int (by lia) (by rw[Int.fdiv_eq_ediv_of_nonneg i (by lia)];exact q) (.inl (PyProof.noPylong_small (by lia)))
def cG:lC X (binaryOp .Mod) (rI (λ_ j=>0<j) λi j=>.int (i%j)):=R0 λi j _ _ _ _ _ hc q=>by
 have h1:(0:Int)<j:=hc;exact mod_int' (by lia) (by rw[Int.fmod_eq_emod_of_nonneg i (by lia)];exact q)
def Jv:lC X (binaryOp .Pow) (rI S0 λi j=>.int (i^j.toNat)):=R0 λ_ _ _ _ _ _ _ hc q=>pow_int_small hc.1 hc.2.1 hc.2.2 q
def jx:lC X (binaryOp .LShift) (rI S0 λi j=>.int (i*2^j.toNat)):=R0 λ_ _ _ _ _ _ _ hc q=>lshift_int_small hc.1 hc.2.1 hc.2.2 q
def o9:lC X (binaryOp .RShift) (rI (λ_ j=>0<=j) λi j=>.int (i/2^j.toNat)):=R0 λi j _ _ _ _ _ hc q =>
 rshift_int hc (by rw[Int.fdiv_eq_ediv_of_nonneg i (Du _)];exact q)
def Jw:lC X (binaryOp .BitAnd) (Fl λi j=>.int (Builtin.bitAnd i j)):=AW λ_ _ _ _ _ _ _ q=>and_int q
def S3:lC X (binaryOp .BitOr) (Fl λi j=>.int (Builtin.bitOr i j)):=AW λ_ _ _ _ _ _ _ q=>or_int q
def eU:lC X (binaryOp .BitXor) (Fl λi j=>.int (Builtin.bitXor i j)):=AW λ_ _ _ _ _ _ _ q=>xor_int q
def Fo:lC X (inplaceOp .Add) (Fl λi j=>.int (i+j)):=AW λ_ _ _ _ _ _ _ q=>iadd_int q
def Jx:lC X (inplaceOp .BitOr) (Fl λi j=>.int (Builtin.bitOr i j)):=AW λ_ _ _ _ _ _ _ q=>ior_int q
def Fp:lC X (inplaceOp .BitXor) (Fl λi j=>.int (Builtin.bitXor i j)):=AW λ_ _ _ _ _ _ _ q=>ixor_int q
def unI{f:Value->Sem Value}{g:Int->Int}
 (rule:∀(i:Int) (t:Tok) (s:Shared) (Q:dh) (E:dh),Q (.int (g i) s.toks) { s with toks:=s.toks+1}->wpAny (model X.prog X.w) X.A (f (.int i t)) Q E s) :
 WG X f (rU λi=>.int (g i)):=by
 intro pq s σ H x v Q I rx h;obtain⟨i,rfl,q⟩:=h;obtain⟨t,rfl⟩:=rx;exact rule i t s _ _ ⟨.int (g i),H,I.tok _,⟨_,rfl⟩,q⟩
def Jy:WG X (unaryOp .USub) (rU λi=>.int (-i)):=unI λ_ _ _ _ _ q=>neg_int q
end
def S4:V->V->Bool
 | .eE,.eE=>true | .eE,.int _=>true | .int _,.eE=>true | .eE,.bl _=>true | .bl _,.eE=>true | .eE,.str _=>true | .str _,.eE=>true
 | .int _,.int _=>true | .bl _,.bl _=>true | .str _,.str _=>true | .Ja _,.Ja _=>true
 | .int _,.str _=>true | .str _,.int _=>true | .bl _,.str _=>true | .str _,.bl _=>true
 | _,_=>false
def rEq:R2:=λx y H Q=>S4 x y=true/\Q (.bl (decide (x=y))) H
def rNe:R2:=λx y H Q=>S4 x y=true/\Q (.bl (!decide (x=y))) H
def Fq{i j:Int}:decide (V.int i=V.int j)=(i==j):=by
 rw[abd];simp
def Jz{i j:Bool}:decide (V.bl i=V.bl j)=(i==j):=by
 rw[abd];simp
def Ft{i j:Str}:decide (V.str i=V.str j)=(i==j):=by
 rw[abd];simp
def Fv{i j:Array UInt8}:decide (V.Ja i=V.Ja j)=(i.toList==j.toList):=by
 rw[abd];cases i;cases j;simp
section
variable {X:Cx}{a b c:Expr}{ta tb tc:TE}{pos:Pos}
def bH{pq:aQ}{σ:St}{H:Hp}{s:Shared}{Q:VK}{k k' : Bool}(I:Inv X pq σ H s)(q:Q (.bl k) H)(e:k=k'):EP X pq σ Q (.bool k') s:=by
 subst e;exact⟨.bl k,H,I,rfl,q⟩
def dm:lC X (compareOp .Eq) rEq:=by
 intro pq s σ H x y v u Q I rx G h;obtain⟨hs,q⟩:=h;cases x with
 | eE =>
   cases rx;cases y with
   | eE=>cases G;exact PySem.EqNone.eq_none_none (bH I q (by simp))
   | bl j=>cases G;exact PySem.EqNone.eq_none_bool (bH I q (by simp))
   | int j=>obtain⟨O,rfl⟩:=G;exact PySem.EqNone.eq_none_int (bH I q (by simp))
   | str j=>obtain⟨O,rfl⟩:=G;exact PySem.EqNone.eq_none_str (bH I q (by simp))
   | _=>exact absurd (show false=true from hs) aan
 | bl i =>
   cases rx;cases y with
   | eE=>cases G;exact PySem.EqNone.eq_bool_none (bH I q (by simp))
   | bl j=>cases G;exact eq_bool (bH I q Jz)
   | str j=>obtain⟨O,rfl⟩:=G;exact PySem.EqMixed.eq_bool_str (bH I q (by simp))
   | _=>exact absurd (show false=true from hs) aan
 | int i =>
   obtain⟨t,rfl⟩:=rx;cases y with
   | eE=>cases G;exact PySem.EqNone.eq_int_none (bH I q (by simp))
   | int j=>obtain⟨O,rfl⟩:=G;exact eq_int (bH I q Fq)
   | str j=>obtain⟨O,rfl⟩:=G;exact PySem.EqMixed.eq_int_str (bH I q (by simp))
   | _=>exact absurd (show false=true from hs) aan
 | str i =>
   obtain⟨t,rfl⟩:=rx;cases y with
   | eE=>cases G;exact PySem.EqNone.eq_str_none (bH I q (by simp))
   | bl j=>cases G;exact PySem.EqMixed.eq_str_bool (bH I q (by simp))
   | int j=>obtain⟨O,rfl⟩:=G;exact PySem.EqMixed.eq_str_int (bH I q (by simp))
   | str j=>obtain⟨O,rfl⟩:=G;exact eq_str (bH I q Ft)
   | _=>exact absurd (show false=true from hs) aan
 | Ja i =>
   obtain⟨t,rfl⟩:=rx;cases y with
   | Ja j=>obtain⟨O,rfl⟩:=G;exact PySem.W.eq_bytes (bH I q Fv)
   | _=>exact absurd (show false=true from hs) aan
 | _=>cases y<;>exact absurd (show false=true from hs) aan
def AX:lC X (compareOp .NotEq) rNe:=by
 intro pq s σ H x y v u Q I rx G h;obtain⟨hs,q⟩:=h;cases x with
 | eE =>
   cases rx;cases y with
   | eE=>cases G;exact PySem.EqNone.ne_none_none (bH I q (by simp))
   | bl j=>cases G;exact PySem.EqNone.ne_none_bool (bH I q (by simp))
   | int j=>obtain⟨O,rfl⟩:=G;exact PySem.EqNone.ne_none_int (bH I q (by simp))
   | str j=>obtain⟨O,rfl⟩:=G;exact PySem.EqNone.ne_none_str (bH I q (by simp))
   | _=>exact absurd (show false=true from hs) aan
 | bl i =>
   cases rx;cases y with
   | eE=>cases G;exact PySem.EqNone.ne_bool_none (bH I q (by simp))
   | bl j=>cases G;exact ne_bool (bH I q (aaU not Jz))
   | str j=>obtain⟨O,rfl⟩:=G;exact PySem.EqMixed.ne_bool_str (bH I q (by simp))
   | _=>exact absurd (show false=true from hs) aan
 | int i =>
   obtain⟨t,rfl⟩:=rx;cases y with
   | eE=>cases G;exact PySem.EqNone.ne_int_none (bH I q (by simp))
   | int j=>obtain⟨O,rfl⟩:=G;exact ne_int (bH I q (aaU not Fq))
   | str j=>obtain⟨O,rfl⟩:=G;exact PySem.EqMixed.ne_int_str (bH I q (by simp))
   | _=>exact absurd (show false=true from hs) aan
 | str i =>
   obtain⟨t,rfl⟩:=rx;cases y with
   | eE=>cases G;exact PySem.EqNone.ne_str_none (bH I q (by simp))
   | bl j=>cases G;exact PySem.EqMixed.ne_str_bool (bH I q (by simp))
   | int j=>obtain⟨O,rfl⟩:=G;exact PySem.EqMixed.ne_str_int (bH I q (by simp))
   | str j=>obtain⟨O,rfl⟩:=G;exact ne_str (bH I q (aaU not Ft))
   | _=>exact absurd (show false=true from hs) aan
 | Ja i =>
   obtain⟨t,rfl⟩:=rx;cases y with
   | Ja j=>obtain⟨O,rfl⟩:=G;exact PySem.W.ne_bytes (bH I q (aaU not Fv))
   | _=>exact absurd (show false=true from hs) aan
 | _=>cases y<;>exact absurd (show false=true from hs) aan
def Fw:lC X (compareOp .Lt) (Fl λi j=>.bl (decide (i<j))):=Nl λ_ _ _ _ _ _ _ q=>lt_int q
def JA:lC X (compareOp .LtE) (Fl λi j=>.bl (decide (i<=j))):=Nl λ_ _ _ _ _ _ _ q=>le_int q
def uW:lC X (compareOp .Gt) (Fl λi j=>.bl (decide (j<i))):=Nl λ_ _ _ _ _ _ _ q=>gt_int q
def JB:lC X (compareOp .GtE) (Fl λi j=>.bl (decide (j<=i))):=Nl λ_ _ _ _ _ _ _ q=>ge_int q
def JC:lC X (compareOp .Is) (λx y H Q=>y = .eE/\Q (.bl (decide (x = .eE))) H):=by
 intro pq s σ H x y v u Q I rx G h;obtain⟨rfl,q⟩:=h;cases G;refine is_none_gen (bH I q ?_);cases x<;>first
  | (cases rx;rfl)
  | (obtain⟨t,rfl⟩:=rx;rfl)
def Nm:lC X (compareOp .IsNot) (λx y H Q=>y = .eE/\Q (.bl (!decide (x = .eE))) H):=by
 intro pq s σ H x y v u Q I rx G h;obtain⟨rfl,q⟩:=h;cases G;refine isnot_none_gen (bH I q ?_);cases x<;>first
  | (cases rx;rfl)
  | (obtain⟨t,rfl⟩:=rx;rfl)
def aO(b:Expr){op:CmpOp}(h:op≠.In:=by decide)(h2:op≠.NotIn:=by decide):behindInMarks op b=false:=by
 have G:(op==CmpOp.In)=false:=by cases op<;>first | rfl | exact absurd rfl h
 have I:(op==CmpOp.NotIn)=false:=by cases op<;>first | rfl | exact absurd rfl h2
 cases b<;>simp[behindInMarks,G,I]
def cZ{op:CmpOp}{r:R2}(ho:lC X (compareOp op) r)(ha:PE X a ta)(hb:PE X b tb)(hm:behindInMarks op b=false):PE X (.Compare a [op] [b] pos) (SY r ta tb):=by
 intro pq s σ H Q I h;exact wpAny_Compare1 (Qd ha hb I h λv u s2 x y H2 G rx O q=>ho pq s2 σ H2 x y v u Q G rx O q) hm
def S6(t:TE):TT:=λσ H Q=>t σ H λx H'=>∃k,x = .bl k/\Q k H'
def aP{op:CmpOp}{r:R2}(ho:lC X (compareOp op) r)(ha:PE X a ta)(hb:PE X b tb)(hm:behindInMarks op b=false):PT X (.Compare a [op] [b] pos) (S6 (SY r ta tb)):=by
 intro pq s σ H Q I h;refine wpAny_isTrue_Compare1 (dP (ha pq s σ H _ I h) λv s1 ⟨x,H1,G,O,U⟩=>dP (hb pq s1 σ H1 _ G U) λu s2 ⟨y,H2,Y,Z,q2⟩ =>
  dP (ho pq s2 σ H2 x y v u _ Y O Z q2) λc s3 ⟨z,H3,I3,r3,k,e,q3⟩=>?_) hm
 subst e;cases r3;exact wpAny_truthy_bool ⟨H3,I3,q3⟩
def uX:(sizeLine:Nat)<2^63:=by rw[sizeLine_eq];decide
def vals1{x:V}{us:List Value}(r:Vals [x] us):∃u,us=[u]/\RelV x u:=by
 cases r with
 | cons G I=>cases I;exact⟨_,rfl,G⟩
def vals2{x y:V}{us:List Value}(r:Vals [x,y] us):∃u G,us=[u,G]/\RelV x u/\RelV y G:=by
 cases r with
 | cons I O =>
   cases O with
   | cons U Y=>cases Y;exact⟨_,_,rfl,I,U⟩
def x8(hc:X.calm=true):fJ X (.builtin "max") (λxs H Q=>∃i j,xs=[.int i,.int j]/\Q (.int (if j > i then j else i)) H):=by
 intro pq s σ H xs us Q I r h;obtain⟨i,j,rfl,q⟩:=h;obtain⟨u,w',rfl,⟨t,rfl⟩,⟨t',rfl⟩⟩:=vals2 r;refine max_two_ints (I.ok.hd hc) λh' tk k=>⟨_,H,I.kept k,?_,q⟩
 by_cases hj:j > i
 ·rw[aac hj,aac hj];exact⟨_,rfl⟩
 ·rw[aab hj,aab hj];exact⟨_,rfl⟩
def x9(hc:X.calm=true):fJ X (.builtin "min") (λxs H Q=>∃i j,xs=[.int i,.int j]/\Q (.int (if j<i then j else i)) H):=by
 intro pq s σ H xs us Q I r h;obtain⟨i,j,rfl,q⟩:=h;obtain⟨u,w',rfl,⟨t,rfl⟩,⟨t',rfl⟩⟩:=vals2 r;refine min_two_ints (I.ok.hd hc) λh' tk k=>⟨_,H,I.kept k,?_,q⟩
 by_cases hj:j<i
 ·rw[aac hj,aac hj];exact⟨_,rfl⟩
 ·rw[aab hj,aab hj];exact⟨_,rfl⟩
def qV:fJ X (.type "int") (λxs H Q=>(∃i,xs=[.int i]/\Q (.int i) H)\/∃k,xs=[.bl k]/\Q (.int (if k then 1 else 0)) H):=by
 intro pq s σ H xs us Q I r h;rcases h with⟨i,rfl,q⟩|⟨k,rfl,q⟩
 ·obtain⟨u,rfl,t,rfl⟩:=vals1 r;exact call_int_int ⟨.int i,H,I,⟨_,rfl⟩,q⟩
 ·obtain⟨u,rfl,G⟩:=vals1 r;cases G;exact call_int_bool ⟨.int (if k then 1 else 0),H,I.tok _,⟨_,rfl⟩,q⟩
end
structure Qf(h:Heap)(x dx C:Addr)(mA:mQ):Prop where
 obj:h.get? x=some (PySem.W.instObj C dx)
 ns:h.Ns1 dx mA
 ne:dx≠x
def yb{h:Heap}{dx:Addr}{mA:mQ}(n:h.Ns1 dx mA):∃od,h.get? dx=some od/\∀name,PySem.W.lookIn name od=some (mA name):=by
 obtain⟨o,es,ep,I,hd,hk,_,hm⟩:=n;refine⟨o,I,λname=>?_⟩
 have e:=hm name;unfold nsFind findBy at e;rw[<-Array.find?_toList]at e;unfold PySem.W.lookIn;rw[hd];dsimp only
 split
 ·rename_i y q
  rw[q]at e;exact aaU some e
 ·rename_i q
  rw[q]at e;have a:es.toList.any (·.refKey)=false:=by
   rw[List.any_eq_false];intro y O;obtain⟨z,t,G⟩:=hk y (Array.mem_toList_iff.mp O);simp[DictEntry.refKey,G]
  have U : ¬ es.toList.any (·.refKey)=true:=by rw[a];exact aan
  rw[aab U];exact aaU some e
def Qf.look{h:Heap}{x dx C:Addr}{mA:mQ}(I:Qf h x dx C mA):∃od,PySem.W.InstAt h x (PySem.W.instObj C dx) C (some od)/\∀name,PySem.W.lookIn name od=some (mA name) :=
 let⟨od,ho,hl⟩:=yb I.ns
 ⟨od,⟨I.obj,rfl,rfl,ho⟩,hl⟩
def oF.some_of{v:V}{o:Option Value}(r:oF (some v) o):∃u,o=some u/\RelV v u:=by
 cases o with
 | none=>exact(show False from r).elim
 | some u=>exact⟨u,rfl,r⟩
def GI{v:V}{u:Value}(r:RelV v u):PySem.W.handedIn u=true:=by
 cases v with
 | eE=>cases(show u=Value.none from r);rfl
 | bl b=>cases(show u=Value.bool b from r);rfl
 | int i=>obtain⟨t,e⟩:=(show ∃t,u=Value.int i t from r);cases e;rfl
 | str x=>obtain⟨t,e⟩:=(show ∃t,u=Value.str x t from r);cases e;rfl
 | Ja b=>obtain⟨t,e⟩:=(show ∃t,u=Value.bytes b t from r);cases e;rfl
 | P6 b=>obtain⟨t,e⟩:=(show ∃t,u=Value.float b t from r);cases e;rfl
 | ref a=>cases(show u=Value.ref a from r);rfl
 | ty n=>cases(show u=Value.type n from r);rfl
section
variable {P:Program}{w:World}{H H' : Hp}{h h' : Heap}{a C dx:Addr}{fs fs' : List (Str×V)}
def Nn(hok:mY P w H h)(e:H a=some (.ins C dx fs)):∃mA,Qf h a dx C mA/\(∀f,oF (fs.lookup f) (mA f))/\PySem.Within mA (fs.map (·.1))/\fs.length<=1000/\H dx=some (.own a):=by
 obtain⟨d,z,ne,ob,mA,n,r,q⟩:=(show bg P w H h a (.ins C dx fs) from hok a _ e)
 exact⟨mA,⟨ob,n,ne⟩,r,q,z,d⟩
end
structure WI(K:bN)(C:Addr):Prop where
 pg:PySem.W.plainGet K C Str.empty=true
 hd:PySem.W.hasDictIn K C=true
 po:PySem.W.plainOver K C=true
 sa:PySem.W.findIn K (.ref C) "__setattr__"=some (some (.builtin "object.__setattr__"))
def WI.get{K:bN}{C:Addr}(c:WI K C)(f:Str):PySem.W.plainGet K C f=true:=c.pg
section
variable {X:Cx}{pq:aQ}{σ:St}{H:Hp}{s:Shared}{a C dx:Addr}{fs:List (Str×V)}{f:Str}{v:V}{A:Around}{E:dh}
def Np{prog:Program}{w:World}{env:Env}{e:Expr}{f:Str}{pos:Pos}{s:Shared}{Q:dh}(hb:attributeBase e f env (eval e env)=eval e env)
 (h:wpAny (model prog w) A (eval e env) (λo G=>wpAny (model prog w) A (getAttr o f true) Q E G) E s):wpAny (model prog w) A (eval (.Attribute e f pos) env) Q E s :=
 Attribute_any_ h (by rw[arm_eval_Attribute,hb])
end
section
variable {X:Cx}{pq:aQ}{σ:St}{H:Hp}{s:Shared}{A:Around}{E:dh}{Q:dh}{c:Value}{b:Bool}
inductive qW(K:bN)(H:Hp):V->Value->Prop where
 | eE:qW K H .eE (.type "NoneType")
 | bl (x:Bool):qW K H (.bl x) (.type "bool")
 | int (i:Int):qW K H (.int i) (.type "int")
 | str (x:Str):qW K H (.str x) (.type "str")
 | P6 (x:UInt64):qW K H (.P6 x) (.type "float")
 | lst {a:Addr} {xs:List V} (e:H a=some (.lst xs)):qW K H (.ref a) (.type "list")
 | lB {a:Addr} {o:Obj} {xs:List V} (e:H a=some (.lB o (.lst xs))):qW K H (.ref a) (.type "list")
 | tup {a:Addr} {xs:List V} (e:H a=some (.tup xs)):qW K H (.ref a) (.type "tuple")
 | dK {a:Addr} {kvs:List (Key×V)} (e:H a=some (.dK kvs)):qW K H (.ref a) (.type "dict")
 | dT {a:Addr} {kvs:List (List Key×V)} (e:H a=some (.dT kvs)):qW K H (.ref a) (.type "dict")
 | ins {a C dx:Addr} {fs:List (Str×V)} (e:H a=some (.ins C dx fs)) (cl:WI K C) (ha:PySem.W.findIn K (.ref C) "__class__"=some (some (.builtin "object.__class__")))
  (hn:PySem.W.specialIn K (.builtin "object.__class__") "__get__"=some (some (.builtin "getset_descriptor.__get__"))) (htk:PySem.W.takesIn K (.builtin "object.__class__")=some true)
  (hm:PySem.W.mroIn K C (.type "object")=some true):qW K H (.ref a) (.ref C)
def GJ{x:V}{u t:Value}(I:Inv X pq σ H s)(rx:RelV x u)(ty:qW X.K H x t)(e:PySem.W.kitOne X.K t c=some b)(h:∀tk,Q (.bool b) { s with toks:=tk}):
 wpAny (model X.prog X.w) A (call (.builtin "isinstance") [u,c]) Q E s:=by
 cases ty with
 | eE=>cases(show u=Value.none from rx);exact abx PySem.W.kitx_none I.o5 True.intro e (λz=>nomatch z) h
 | bl y=>cases(show u=Value.bool y from rx);exact abx PySem.W.kitx_bool I.o5 True.intro e (λz=>nomatch z) h
 | int i=>obtain⟨t,q⟩:=(show ∃t,u=Value.int i t from rx);cases q;exact abx PySem.W.kitx_int I.o5 True.intro e (λz=>nomatch z) h
 | str y=>obtain⟨t,q⟩:=(show ∃t,u=Value.str y t from rx);cases q;exact abx PySem.W.kitx_str I.o5 True.intro e (λz=>nomatch z) h
 | P6 y=>obtain⟨t,q⟩:=(show ∃t,u=Value.float y t from rx);cases q;exact abx PySem.W.kitx_float I.o5 True.intro e (λz=>nomatch z) h
 | @lst a xs ea =>
   cases(show u=Value.ref a from rx)
   obtain⟨_,_,n,_,h1⟩:=(show bg X.prog X.w H s.heap a (.lst xs) from I.hok a _ ea)
   exact abx PySem.W.kitx_list I.o5 ⟨_,h1,rfl⟩ e (λz=>nomatch z) h
 | @lB a ob xs ea =>
   cases(show u=Value.ref a from rx)
   obtain⟨_,_,_,n,_,h1⟩:=(show bg X.prog X.w H s.heap a (.lB ob (.lst xs)) from I.hok a _ ea)
   exact abx PySem.W.kitx_list I.o5 ⟨_,h1,rfl⟩ e (λz=>nomatch z) h
 | @tup a xs ea =>
   cases(show u=Value.ref a from rx)
   obtain⟨_,_,_,p⟩:=(show bg X.prog X.w H s.heap a (.tup xs) from I.hok a _ ea)
   obtain⟨o,h1,h2,_⟩:=p;exact abx PySem.W.kitx_tuple I.o5 ⟨o,h1,h2⟩ e (λz=>nomatch z) h
 | @dK a kvs ea =>
   cases(show u=Value.ref a from rx)
   obtain⟨_,_,vs,_,p⟩:=(show bg X.prog X.w H s.heap a (.dK kvs) from I.hok a _ ea)
   obtain⟨o,es,ep,h1,h2,_⟩:=p;exact abx PySem.W.kitx_dict I.o5 ⟨o,h1,h2.1⟩ e (λz=>nomatch z) h
 | @dT a kvs ea =>
   cases(show u=Value.ref a from rx)
   obtain⟨_,_,xs,_,o,es,ep,h1,h2,_⟩:=(show bg X.prog X.w H s.heap a (.dT kvs) from I.hok a _ ea)
   exact abx PySem.W.kitx_dict I.o5 ⟨o,h1,h2.1⟩ e (λz=>nomatch z) h
 | @ins a C dx fs ea cl ha hn htk hm =>
   cases(show u=Value.ref a from rx)
   obtain⟨mA,O,_⟩:=Nn I.hok ea;obtain⟨od,J,_⟩:=O.look;exact abx (PySem.W.kitx_own (cl.get _) cl.hd ha hn htk hm) I.o5 J e (λz=>nomatch z) h
end
structure eN(k:Nat)(A:Around):Prop where
 hd:A.handled=none
 dp:A.depth+3*k+5<recursionLimit
 un:A.units+16*k+200<cLine
def eN.mono{j k:Nat}{A:Around}(r:eN k A)(h:j<=k):eN j A:=⟨r.hd,by have:=r.dp;lia,by have:=r.un;lia⟩
def eN.deeper{k:Nat}{A:Around}(r:eN (k+1) A)(env:Env):eN k (A.deeper env) :=
 ⟨r.hd,by have:=r.dp;show A.depth+1+3*k+5<_;lia,by have:=r.un;show A.units+3+16*k+200<_;lia⟩
def eN.in1{k:Nat}{A:Around}(r:eN (k+1) A):eN k A.in1 :=
 ⟨r.hd,by have:=r.dp;show A.depth+3*k+5<_;lia,by have:=r.un;show A.units+1+16*k+200<_;lia⟩
def Dw{A:Around}{C:Addr}{us:List Value}{kw:List (Str×Value)}:(A.under (.builtin "type.__call__" ⟨.ref C::us,kw⟩)).depth=A.depth+1:=by
 first | rfl | simp[Around.under,Code.weight,Code.isCreation,Code.isGuard,Code.isCaller,Code.frames,Code.isFrame,guardIds]
def Dy{A:Around}{C:Addr}{us:List Value}{kw:List (Str×Value)}:(A.under (.builtin "type.__call__" ⟨.ref C::us,kw⟩)).units=A.units+1:=by
 first | rfl | simp[Around.under,Code.cUnits,Code.frames,Code.isFrame]
def eN.make{k:Nat}{A:Around}(r:eN (k+1) A)(C:Addr)(us:List Value)(kw:List (Str×Value)):eN k (A.under (.builtin "type.__call__" ⟨.ref C::us,kw⟩)) :=
 ⟨r.hd,by have:=r.dp;rw[Dw];lia,by have:=r.un;rw[Dy];lia⟩
def eN.depth{k:Nat}{A:Around}(r:eN k A):A.depth<recursionLimit:=by have:=r.dp;lia
def eN.units{k:Nat}{A:Around}(r:eN k A):A.units+64<cLine:=by have:=r.un;lia
def eN.Dz{k:Nat}{A:Around}(r:eN k A):A.units<cLine:=by have:=r.un;lia
def WJ:TA:=λ_ H Q=>Q [] H
def S7(ta:TE)(tr:TA):TA:=λσ H Q=>ta σ H λx H1=>tr σ H1 λxs H2=>Q (x::xs) H2
section
variable {X:Cx}{e:Expr}{es:List Expr}{te:TE}{t:TA}{pos:Pos}
def af:PA X [] WJ:=λ_ _ _ _ H Q I h=>Calls.spliced_nil ⟨[],H,I,.nil,h⟩
def aa(ha:PE X e te)(hr:PA X es t)(hs:starEach (e::es) X.env=(false,eval e X.env)::starEach es X.env:=by rfl):PA X (e::es) (S7 te t):=by
 intro pos pq s σ H Q I h;rw[hs];show wpAny _ _ (spliced ((false,eval e X.env)::backTo pos (starEach es X.env))) _ _ s;refine Calls.spliced_cons (dP (ha pq s σ H _ I h) λu s1 ⟨x,H1,G,O,U⟩=>?_)
 exact dP (hr pos pq s1 σ H1 _ G U) λus s2 ⟨xs,H2,Y,Z,q2⟩=>⟨x::xs,H2,Y,.cons O Z,q2⟩
def WK(t:TA):TE:=λσ H Q=>t σ H λxs H1=>xs.length<=sizeLine/\∀p,H1 p=none->Q (.ref p) (upd H1 p (.tup xs))
def WL(t:TA):TE:=λσ H Q=>t σ H λxs H1=>xs.length<=sizeLine/\∀p,H1 p=none->Q (.ref p) (upd H1 p (.lst xs))
def c8{x1}(h:PA X es t):PE X (.Tuple es x1 pos) (WK t):=by
 intro pq s σ H Q I O;refine wpAny_Tuple_spliced (dP (h pos pq s σ H _ I O) λus s1 ⟨xs,H1,G,r,z,q⟩=>⟨by rw[<-r.length];exact z,?_⟩)
 have hf:H1 s1.heap.objs.size=none:=G.hok.fresh (aaf _);refine⟨.ref s1.heap.objs.size,upd H1 s1.heap.objs.size (.tup xs),G.laid (t':=s1.toks) (λb u e=>aak _ e) (aaf _) ?_,rfl,q _ hf⟩
 exact⟨z,us,r,⟨_,aaB _ rfl,rfl,_,rfl⟩⟩
def dH(h:PA X es t):PE X (.List es pos) (WL t):=by
 intro pq s σ H Q I O;refine wpAny_List_spliced (dP (h pos pq s σ H _ I O) λus s1 ⟨xs,H1,G,r,z,q⟩=>⟨by rw[<-r.length];exact z,?_⟩)
 have hf:H1 s1.heap.objs.size=none:=G.hok.fresh (aaf _);refine⟨.ref s1.heap.objs.size,upd H1 s1.heap.objs.size (.lst xs),G.laid (t':=s1.toks) (λb u e=>aak _ e) (aaf _) ?_,rfl,q _ hf⟩
 exact⟨z,us,0,r,aaB _ rfl⟩
end
abbrev Sp:=List V->Hp->VK->XK->Prop
abbrev Jb:=List Env->Hp->Shared->XK->Value->Shared->Prop
structure DA(P:Program)(w:World)(K:bN)(mg:mQ)(base:Heap)(A:Around)(outer:List Env)(s:Shared)(H:Hp):Prop where
 frames:A.frames=some outer
 mod:Mod K mg base
 bs:∀b o,base.get? b=some o->s.heap.get? b=some o/\H b=none
 Jm:base.objs.size<=s.heap.objs.size
 funs:s.heap.FunFrames base outer
 Nb:∀b∈frs outer,H b=none
 hok:mY P w H s.heap
 bare:AllBare s.gens
def CE(outer:List Env)(P:Program)(w:World)(H:Hp)(s:Shared)(Q:VK)(u:Value)(s' : Shared):Prop :=
 ∃v H',s'.os=s.os/\AllBare s'.gens/\Un (frs outer) [] H H' s.heap s'.heap/\mY P w H' s'.heap/\RelV v u/\Q v H'
def CR(CX:Jb)(outer:List Env)(P:Program)(w:World)(H:Hp)(s:Shared)(Q:VK)(E:XK)(r:Result)(s' : Shared):Prop :=
 match r with
 | .ok (.ret u)=>CE outer P w H s Q u s'
 | .ok _=>False
 | .error e=>CX outer H s E e s'
structure lE(P:Program)(w:World)(K:bN)(mg:mQ)(base:Heap)(CX:Jb)(k:Nat)(f:Addr)(fd:FuncData)(ps:List Str)(sp:Sp):Prop where
 len:∀vs H Q E,sp vs H Q E->vs.length=ps.length
 run:∀(A:Around) (outer:List Env) (s:Shared) (H:Hp) (args:Args) (us:List Value) (vs:List V) (Q:VK) (E:XK),eN k A->DA P w K mg base A outer s H->BindsTo s fd args (ps.zip us)->Vals vs us->sp vs H Q E->
  codeAny (model P w) A (.call (.ref f) args) (CR CX outer P w H s Q E) s
def DA.make{P:Program}{w:World}{K:bN}{mg:mQ}{base:Heap}{A:Around}{outer:List Env}{s:Shared}{H:Hp}(e:DA P w K mg base A outer s H)(C:Addr)(us:List Value)(kw:List (Str×Value)):
 DA P w K mg base (A.under (.builtin "type.__call__" ⟨.ref C::us,kw⟩)) outer s H:=⟨by first | exact e.frames | (simpa[Around.under,Code.envs,Code.isFrame,pushEnvs]using e.frames),e.mod,e.bs,e.Jm,e.funs,e.Nb,e.hok,e.bare⟩
section
variable {X:Cx}{pq:aQ}{σ:St}{H:Hp}{s s' : Shared}
def Inv.S8(I:Inv X pq σ H s):DA X.prog X.w X.K X.mg X.base X.A X.stack s H :=
 ⟨I.ok.frames,I.ok.mod,I.bs,aaE I.ok.Jm I.sz,I.stack,I.ur,I.hok,I.bare⟩
def Inv.after{Q:VK}{u:Value}(I:Inv X pq σ H s)(h:CE X.stack X.prog X.w H s Q u s'):EP X pq σ Q u s':=by
 obtain⟨v,H',os,bare,un,hok,r,q⟩:=h;obtain⟨hh,g,d,t,os'⟩:=s';obtain rfl:os' = s.os:=os;exact⟨v,H',I.call (h':=hh) (g':=g) (d':=d) (t':=t) (ch:=[]) un hok bare (λb z=>absurd z (by simp)),r,q⟩
end
def O4(sp:Sp)(O5:List V)(E:XK)(t:TA):TE:=λσ H Q=>t σ H λvs H1=>sp (vs++O5) H1 Q E
def Binds(K:bN)(fd:FuncData)(ps:List Str)(ds:List Value):Prop :=
 ∀(s:Shared) (us:List Value),K.In s.heap->(us++ds).length=ps.length->BindsTo s fd ⟨us,[]⟩ (ps.zip (us++ds))
def Binds.all{K:bN}{fd:FuncData}{ps:List Str}(h:∀us:List Value,us.length=ps.length->bindArgs fd ⟨us,[]⟩=pure (ps.zip us)):Binds K fd ps []:=λs us _ G=>by
 rw[aby]at G ⊢;exact .of_eq (h us G)
def Passes(CX:Jb)(X:Cx)(E:XK):Prop:=∀(pq:aQ) (σ:St) (H:Hp) (s:Shared) (e:Value) (s' : Shared),Inv X pq σ H s->CX X.stack H s E e s'->X.xe e s'
section
variable {X:Cx}{CX:Jb}{k:Nat}{f C:Addr}{fd:FuncData}{ps:List Str}{sp:Sp}{O5:List V}{ds:List Value}{E:XK}{x m:Str}{p pos apos:Pos}{e o:Expr}{es:List Expr}{ta:TE}{t:TA}
def Qg{pq:aQ}{σ:St}{H:Hp}{s:Shared}{Q:VK}{us:List Value}{vs:List V}(F:lE X.prog X.w X.K X.mg X.base CX k f fd ps sp)(hr:eN k X.A)(hb:Binds X.K fd ps ds)(hd:Vals O5 ds)(hx:Passes CX X E)
 (I:Inv X pq σ H s) (r:Vals vs us) (h:sp (vs++O5) H Q E):wpAny (model X.prog X.w) X.A (call (.ref f) us) (EP X pq σ Q) X.xe s:=by
 have O:Vals (vs++O5) (us++ds):=r.append hd;have U:(us++ds).length=ps.length:=by rw[<-O.length];exact F.len _ _ _ _ h
 refine wpAny_call (codeAny_mono (F.run X.A X.stack s H ⟨us,[]⟩ (us++ds) (vs++O5) Q E hr I.S8 (hb s us I.o5 U) O h) λr s' G=>?_)
 cases r with
 | error e=>exact hx pq σ H s e s' I G
 | ok fl =>
   cases fl with
   | ret u=>exact I.after G
   | next=>exact False.elim G
   | brk=>exact False.elim G
   | cont=>exact False.elim G
def Nq(F:lE X.prog X.w X.K X.mg X.base CX k f fd ps sp)(hr:eN k X.A)(hg:Gl X x)(hm:X.mg x=some (.ref f))(hk:PySem.W.keepIn X.K (.ref f)=true)(hb:Binds X.K fd ps ds)(hd:Vals O5 ds)(hx:Passes CX X E)
 (ha:PA X (e::es) t) (hdb:(x==("__debug__":Str))=false:=by decide) (he:starEach (e::es) X.env=(false,eval e X.env)::starEach es X.env:=by rfl) (hpl:(backTo pos (starEach es X.env)).any (·.1)=false:=by rfl) :
 PE X (.Call (.Name x p) (e::es) [] pos) (O4 sp O5 E t):=by
 intro pq s σ H Q I h;refine wpAny_Call_Name_kw (nS I hg hm ?_ hdb);refine PySem.W.callWith_K (h₀:=X.base) I.ok.mod.Sy hk (dP (ha pos pq s σ H _ I h) λus s1 ⟨vs,H1,G,r,q⟩=>⟨G.o5,?_⟩) he hpl
 exact Qg F hr hb hd hx G r q
end
structure aE(N P:List Str)(sc:Scope):Prop where
 kind:sc.kind = .function
 co:sc.isCoroutine=false
 gen:sc.isGenerator=false
 nd:N.Nodup
 pre:N.take P.length=P
 par:∀x∈P,sc.names.lookup x=some .local\/sc.names.lookup x=some .cell
 Qh:∀y∈sc.names,y.2≠.free
def yc{kindOf:Str->Option NameKind}{x:Str}:∀{binds:List (Str×Value)} {m:mQ},(∀v,(x,v)∉binds)->bindL kindOf binds m x=m x
 | [],_,_=>rfl
 | (n,v)::r,m,h=>by
   unfold bindL;rw[yc λw hw=>h w (jt _ hw)]
   split
   ·have:x≠n:=by rintro rfl;exact h v aam
    simp[this]
   ·rfl
def yd{kindOf:Str->Option NameKind}{x:Str}:∀{binds:List (Str×Value)} {m:mQ},(∀v,(x,v)∉binds)->bindC kindOf binds m x=m x
 | [],_,_=>rfl
 | (n,v)::r,m,h=>by
   unfold bindC;rw[yd λw hw=>h w (jt _ hw)]
   split
   ·rfl
   ·have:x≠n:=by rintro rfl;exact h v aam
    simp[this]
def ye{kindOf:Str->Option NameKind}{x:Str}{v:Value}:∀{P:List Str} {vs:List Value} {i:Nat} {m:mQ},P.Nodup->P[i]?=some x->vs[i]?=some v->kindOf x=some .local->
 bindL kindOf (P.zip vs) m x=some v
 | [],_,_,_,_,h,_,_=>by simp at h
 | _::_,[],_,_,_,_,h,_=>by simp at h
 | p::P,w::vs,0,m,nd,h1,h2,hk=>by
   simp at h1 h2;subst h1;subst h2;show bindL kindOf ((p,w)::P.zip vs) m p=_;unfold bindL;rw[yc λv G=>(aaV.mp nd).1 (List.of_mem_zip G).1,aac hk]
   simp
 | p::P,w::vs,i+1,m,nd,h1,h2,hk=>by
   show bindL kindOf ((p,w)::P.zip vs) m x=_;unfold bindL;exact ye (i:=i) (aaV.mp nd).2 (by simpa using h1) (by simpa using h2) hk
def yf{kindOf:Str->Option NameKind}{x:Str}{v:Value}:∀{P:List Str} {vs:List Value} {i:Nat} {m:mQ},P.Nodup->P[i]?=some x->vs[i]?=some v->kindOf x≠some .local->
 bindC kindOf (P.zip vs) m x=some v
 | [],_,_,_,_,h,_,_=>by simp at h
 | _::_,[],_,_,_,_,h,_=>by simp at h
 | p::P,w::vs,0,m,nd,h1,h2,hk=>by
   simp at h1 h2;subst h1;subst h2;show bindC kindOf ((p,w)::P.zip vs) m p=_;unfold bindC;rw[yd λv G=>(aaV.mp nd).1 (List.of_mem_zip G).1,aab hk]
   simp
 | p::P,w::vs,i+1,m,nd,h1,h2,hk=>by
   show bindC kindOf ((p,w)::P.zip vs) m x=_;unfold bindC;exact yf (i:=i) (aaV.mp nd).2 (by simpa using h1) (by simpa using h2) hk
def start(N:List Str)(vs:List V):St:=vs.map some++List.replicate (N.length-vs.length) none
def tU(CX:Jb)(P:Program)(w:World)(K:bN)(mg:mQ)(base:Heap)(N:List Str)(qual:Str)(scope:Scope)(f:Addr)(cd:Value)(A:Around)(outer:List Env)(s:Shared)(H:Hp)(E:XK):Cx where
 prog:=P
 w:=w
 K:=K
 mg:=mg
 base:=base
 A:=A.deeper (envOfC qual scope s.heap.objs.size f cd)
 N:=N
 s₀:=s
 H₀:=H
 env:=envOfC qual scope s.heap.objs.size f cd
 outer:=outer
 stack:=envOfC qual scope s.heap.objs.size f cd::outer
 ex:=[]
 calm:=true
 fn:=λ_=>true
 pn:=[]
 xe:=λe s'=>wpAny (model P w) (A.deeper (envOfC qual scope s.heap.objs.size f cd)) (leaving (envOfC qual scope s.heap.objs.size f cd) e) (λ_ s''=>CX outer H s E e s'') (λe' s''=>CX outer H s E e' s'') s'
def AY{sc:Scope}{n:Nat}{x:Str}(h:sc.names.lookup x=some .cell):∃c,(cellsFrom n sc.names []).lookup x=some c:=by
 have q:=PySem.W.cellsFrom_some sc.names n [] (.inl h);exact Option.isSome_iff_exists.mp q
def GK{CX:Jb}{P:Program}{w:World}{K:bN}{mg:mQ}{base:Heap}{N ps:List Str}{qual:Str}{scope:Scope}{f:Addr}{cd:Value}{A:Around}{outer:List Env}{s s1:Shared}{H:Hp}{E:XK}{us:List Value}{vs:List V}
 (S:aE N ps scope) (hd:A.handled=none) (e0:DA P w K mg base A outer s H) (hl:vs.length=ps.length) (r:Vals vs us)
 (x:InCallC s s.heap.objs.size (bindL (envOfC qual scope s.heap.objs.size f cd).kindOf (ps.zip us) λ_=>none) (cellsFrom (s.heap.objs.size+1) scope.names []) (bindC (envOfC qual scope s.heap.objs.size f cd).kindOf (ps.zip us) λ_=>none) s1) :
 Inv (tU CX P w K mg base N qual scope f cd A outer s H E) [] (start N vs) H s1:=by
 have Y:ps.length<=N.length:=by have:=aaU List.length S.pre;rw[aa0]at this;lia
 obtain⟨h1,tk,rfl,hk⟩:=x.done;have I:∀b:Addr,b∉(tU CX P w K mg base N qual scope f cd A outer s H E).ex:=λb z=>absurd (show b∈([]:List Addr) from z) (by simp)
 refine⟨⟨e0.mod,S.kind,rfl,rfl,aaf _,λy z c h1 h2=>?_,λy G=>?_,λy c _ h=>?_,λ_=>hd,Around.frames_deeper e0.frames,.inr ⟨rfl,rfl⟩,λb z=>absurd z (I b),e0.bs,e0.Jm,λb _ _=>I b,λb z=>absurd z (I b),e0.funs,e0.Nb⟩,
  rfl,e0.bare,Un.kept hk,⟨_,x.toInCall.ns,λi y v h1 h2 h3=>?_⟩,λy c h=>⟨_,x.cell y c h⟩,e0.hok.fresh (aaf _),λy c h=>?_,λp hp=>absurd (show p∈([]:aQ) from hp) (by simp),e0.hok.kept hk,?_⟩
 ·exact name_of_addr x.apart (abj h1) (abj h2)
 ·have G:scope.names.lookup y=some .cell\/scope.names.lookup y=some .free:=G;rcases G with G|G
  ·exact AY G
  ·exact absurd rfl (S.Qh _ (abj G))
 ·exact aaO (x.above y c (abj h))
 ·have hi:i<vs.length:=by
   unfold start at h2
   by_cases hi:i<vs.length
   ·exact hi
   ·rw[aaQ (by simpa using hi)]at h2
    rw[abZ]at h2
    split at h2<;>cases h2
  have ha:vs[i]?=some v:=by
   unfold start at h2;rw[aaK (by simpa using hi),aai]at h2
   cases e:vs[i]? with
   | none=>rw[e]at h2;cases h2
   | some a=>rw[e]at h2;cases h2;rfl
  obtain⟨u,O,Z⟩:=r.get ha;have hp:ps[i]?=some y:=by
   rw[<-S.pre,List.getElem?_take_of_lt (by lia)];exact h1
  have U:ps.Nodup:=by rw[<-S.pre];exact S.nd.sublist (List.take_sublist _ _)
  refine⟨u,Z,?_⟩;rcases S.par y (iV hp) with k|k
  ·exact .inl ⟨k,ye U hp O k⟩
  ·obtain⟨c,e⟩:=AY (n:=s.heap.objs.size+1) k;refine .inr ⟨.inl k,c,e,?_⟩;have q:=x.cell y c e;rw[yf U hp O (by show scope.names.lookup y≠_;rw[k];decide)]at q
   exact q
 ·exact e0.hok.fresh (aaO (x.above y c (abj h)))
 ·unfold start;show _=N.length;rw[aao,aaa,abv]
  lia
def JD{CX:Jb}{P:Program}{w:World}{K:bN}{mg:mQ}{base:Heap}{k:Nat}{f:Addr}{name qual:Str}{params:Arguments}{body:List Stmt}{scope:Scope}{dV kV doc pm cdv ct oc:Value}{an od:Option Addr}
 {osl:Array (Option Value)} {N ps:List Str} {sp:Sp} (lk:K.lookup f=some ⟨oc,od,.func (PySem.W.fnOf name qual params body scope dV kV doc pm an cdv ct),osl⟩) (hcd:PySem.W.codeIn K cdv qual=true) (S:aE N ps scope)
 (len:∀vs H Q E,sp vs H Q E->vs.length=ps.length)
 (hbody:∀(A:Around) (outer:List Env) (s:Shared) (H:Hp) (vs:List V) (Q:VK) (E:XK),eN k (A.deeper (envOfC qual scope s.heap.objs.size f cdv))->sp vs H Q E->
  ∃t,uw (tU CX P w K mg base N qual scope f cdv A outer s H E) body t/\t { nx:=λ_ H'=>Q .eE H',rt:=Q} (start N vs) H) :
 lE P w K mg base CX (k+1) f (PySem.W.fnOf name qual params body scope dV kV doc pm an cdv ct) ps sp:=by
 refine⟨len,λA outer s H args us vs Q E hr O hb r Y=>?_⟩
 have hl:=len _ _ _ _ Y;have Z:K.In s.heap:=O.mod.Sy.keeps λb o e=>(O.bs b o e).1
 have lim:s.heap.NoLimit:=O.mod.nolimit.keeps λb o e=>(O.bs b o e).1
 have G:∀y∈ps.zip us,scope.names.lookup y.1=some .local\/(scope.names.lookup y.1=some .cell/\((cellsFrom (s.heap.objs.size+1) scope.names []).lookup y.1).isSome=true):=λ⟨n,v⟩ hy=>by
  rcases S.par n (List.of_mem_zip hy).1 with q|q
  ·exact .inl q
  ·exact .inr ⟨q,PySem.W.cellsFrom_some _ _ _ (.inl q)⟩
 refine codeAny_call_function hr.depth (Z _ _ lk) rfl S.co S.gen rfl (PySem.W.codeRec_of Z hcd) (hb _ _ _ _ ?_);refine wpAny_newFunctionEnv_cells S.kind G λenv he s1 x=>?_
 subst he;refine⟨lim.keeps x.toInCall.keep,codeAny_func ?_⟩;obtain⟨t,ht,hq⟩:=hbody A outer s H vs Q E (hr.deeper _) Y;have I:Inv (tU CX P w K mg base N qual scope f cdv A outer s H E) [] (start N vs) H s1:=GK S hr.hd O hl r x;refine aaD (ht [] s1 (start N vs) H _ I hq) (λfl s' hs=>?_) λe s' hs=>hs
 have fin:∀{σ' : St} {H' : Hp} {v:V} {u:Value},Inv (tU CX P w K mg base N qual scope f cdv A outer s H E) [] σ' H' s'->RelV v u->Q v H'->CE outer P w H s Q u s' :=
  λ{σ' H' v u} J U q=>⟨v,H',J.os,J.bare,J.base,J.hok,U,q⟩
 cases fl with
 | ret u =>
   obtain⟨v,σ',H',J,U,q⟩:=hs;exact fin J U q
 | next =>
   obtain⟨σ',H',J,q⟩:=hs;exact fin (v:=V.eE) (u:=Value.none) J rfl q
 | brk =>
   obtain⟨_,_,_,q⟩:=hs;exact False.elim q
 | cont =>
   obtain⟨_,_,_,q⟩:=hs;exact False.elim q
section
variable {X:Cx}{x:Str}{p pos:Pos}{e:Expr}{es:List Expr}{t:TA}{id T:String}{r:List V->Hp->VK->Prop}
def WN(r:List V->Hp->VK->Prop)(t:TA):TE:=λσ H Q=>t σ H λvs H1=>r vs H1 Q
def bI(hc:fJ X (.builtin id) r)(hg:Gl X x)(hm:X.mg x=none)(hv:bootBuiltins x=some (.builtin id))(ha:PA X (e::es) t)(hn:x≠"__name__":=by decide)(hdb:(x==("__debug__":Str))=false:=by decide)
 (he:starEach (e::es) X.env=(false,eval e X.env)::starEach es X.env:=by rfl) (hpl:(backTo pos (starEach es X.env)).any (·.1)=false:=by rfl):PE X (.Call (.Name x p) (e::es) [] pos) (WN r t):=by
 intro pq s σ H Q I h;refine wpAny_Call_Name_kw (kA I hg hm hv ?_ hn hdb);exact PyProof.Rows.callWith_builtin1 (dP (ha pos pq s σ H _ I h) λus s1 ⟨vs,H1,G,O,U⟩=>hc pq s1 σ H1 vs us Q G O U) he hpl
def cS(hc:fJ X (.type T) r)(hg:Gl X x)(hm:X.mg x=none)(hv:bootBuiltins x=some (.type T))(ha:PA X (e::es) t)(hn:x≠"__name__":=by decide)(hdb:(x==("__debug__":Str))=false:=by decide)
 (he:starEach (e::es) X.env=(false,eval e X.env)::starEach es X.env:=by rfl) (hpl:(backTo pos (starEach es X.env)).any (·.1)=false:=by rfl):PE X (.Call (.Name x p) (e::es) [] pos) (WN r t):=by
 intro pq s σ H Q I h;refine wpAny_Call_Name_kw (kA I hg hm hv ?_ hn hdb);exact abz (dP (ha pos pq s σ H _ I h) λus s1 ⟨vs,H1,G,O,U⟩=>hc pq s1 σ H1 vs us Q G O U) he hpl
end
end L2
namespace HT
open PySem PyProof.Rows
def lexLt:List Int->List Int->Bool
 | [],[]=>false
 | [],_::_=>true
 | _::_,[]=>false
 | x::xs,y::ys=>if x=y then lexLt xs ys else decide (x<y)
def g8(x y:Int)(xs ys:List Int):lexLt (x::xs) (y::ys)=if x=y then lexLt xs ys else decide (x<y):=rfl
def oN:lexLt [] []=false:=rfl
def uY(y:Int)(ys:List Int):lexLt [] (y::ys)=true:=rfl
def gH(x:Int)(xs:List Int):lexLt (x::xs) []=false:=rfl
def AZ(A:Around)(s:Shared)(a:Int)(t:Tok)(c:Int)(u:Tok):∃e,SeqAt.EqAt A s (.int a t) (.int c u) e/\(e=true↔a=c) :=
 ⟨(a==c),SeqAt.EqAt.int_int a t c u,by simp⟩
def JE(A:Around)(s:Shared)(a:Int)(t:Tok)(c:Int)(u:Tok)(prog:Program)(w:World)(E:dh)(Q:dh)(h:Q (.bool (decide (a<c))) s):
 wpAny (model prog w) A (richCompare .Lt (.int a t) (.int c u)) Q E s :=
 (PyProof.Rows.lt_int h:wpAny (model prog w) A (compareOp .Lt (.int a t) (.int c u)) Q E s)
section
open PySem.SeqAt
open PySem.AutoSeq1 (wpAny_loadPart')
open PySem.MeetsSeq PySem.MeetsSeq2 PySem.MeetsSeq3
def xh(l b:Addr)(items items2:Array Value)(n n2:Nat)(dd dd2:Option Addr)(sl sl2:Array (Option Value))(ns ms:List Int)(hi:IntsAre items.toList ns)(hj:IntsAre items2.toList ms):
 Meets (Builtin.«tuple.__lt__» ⟨[.ref l,.ref b],[]⟩)
  (λ_ R s=>s.heap.get? l=some { cls:=.type "tuple",dict:=dd,data:=.seq items n,slots:=sl}/\s.heap.get? b=some { cls:=.type "tuple",dict:=dd2,data:=.seq items2 n2,slots:=sl2}/\
   R (.ok (.ret (.bool (lexLt ns ms)))) s) :=
 .of_wp λprog w A R s h=>by
  obtain⟨hp,g,d,tk,os⟩:=s;obtain⟨hl,hb,h⟩:=h;have f2:=AutoSeq1.sub_tuple_tuple;have z1:items.size=ns.length:=by rw[<-hi.length];simp
  have z2:items2.size=ms.length:=by rw[<-hj.length];simp
  wp_walk using wpAny_loadPart' hl,wpAny_loadPart' hb,wpAny_forIn_list _ (λrest b s'=>b.1=none/\s' = ⟨hp,g,d,tk,os⟩/\∃(vs ws:List Value) (G I : List Int),rest=vs.zip ws/\
   IntsAre vs G/\IntsAre ws I/\G.length+items2.size=I.length+items.size/\R (.ok (.ret (.bool (lexLt G I)))) ⟨hp,g,d,tk,os⟩) _
  case turn =>
   rintro⟨y,x⟩ rest b s' ⟨Y,rfl,vs,ws,G,I,hz,O6,O,hlen,U⟩;cases O6 with
   | nil=>rw[List.zip_nil_left]at hz;cases hz
   | cons a t Z =>
     cases O with
     | nil=>rw[List.zip_nil_right]at hz;cases hz
     | cons c u ag =>
       rw[List.zip_cons_cons]at hz;injection hz with hyx hrest
       injection hyx with hy hx
       subst hy hx;rw[g8]at U;simp only[aa1]at hlen;obtain⟨e,he,JF⟩:=AZ A.in1 ⟨hp,g,d,tk,os⟩ a t c u;refine wpAny_bind (he prog w _ _ ?_);cases e with
       | true =>
         rw[aac (JF.mp rfl)]at U
         wp_walk
         exact⟨rfl,rfl,_,_,_,_,hrest,Z,ag,by lia,U⟩
       | false =>
         rw[aab (λq=>absurd (JF.mpr q) aan)]at U
         have JG:=JE A.in1 ⟨hp,g,d,tk,os⟩ a t c u prog w
         wp_walk using JG
         exact⟨_,rfl,by simpa using U⟩
  case fin =>
   rintro⟨b1,b2⟩ s' ⟨Y,rfl,vs,ws,G,I,hz,O6,O,hlen,U⟩;simp only at Y;subst Y;have hv:lexLt G I = decide (items.size<items2.size):=by
    cases O6 with
    | nil =>
      cases O with
      | nil =>
        simp only[ab7]at hlen;rw[oN];exact(dO (by lia)).symm
      | cons c u hw =>
        simp only[ab7,aa1]at hlen;rw[uY];exact(cD (by lia)).symm
    | cons a t hv =>
      cases O with
      | nil =>
        simp only[ab7,aa1]at hlen;rw[gH];exact(dO (by lia)).symm
      | cons c u hw =>
        rw[List.zip_cons_cons]at hz;cases hz
   rw[hv]at U
   wp_walk
   exact⟨_,rfl,by simpa[Builtin.Tuple.tupleCompareSizes]using U⟩
  case h =>
   exact⟨rfl,rfl,items.toList,items2.toList,ns,ms,rfl,hi,hj,by lia,h⟩
end
section
variable {prog:Program}{w:World}{A:Around}{E:dh}{s:Shared}
def DB{l b:Addr}{items items2:Array Value}{ns ms:List Int}{Q:dh}(hl:IsTup s.heap l items)(hb:IsTup s.heap b items2)(hi:IntsAre items.toList ns)(hj:IntsAre items2.toList ms)
 (hu:A.units<cLine) (h:Q (.bool (lexLt ns ms)) s):wpAny (model prog w) A (compareOp .Lt (.ref l) (.ref b)) Q E s:=by
 obtain⟨⟨cls,dd,data,sl⟩,G,hc,n,hd⟩:=id hl;obtain⟨⟨S9,dd2,data2,sl2⟩,ho2,hc2,n2,hd2⟩:=id hb;simp only at hc hd hc2 hd2;subst hc hd hc2 hd2;exact richCompare_meets_room (op:=.Lt) ⟨_,G,rfl⟩ ⟨_,ho2,rfl⟩ PySem.F.slot_tuple_lt PySem.F.entry_tuple_lt (PySem.F.args_tuple_lt_2 _ _) (xh l b items items2 n n2 dd dd2 sl sl2 ns ms hi hj)
  ⟨G,ho2,show Value.bool (lexLt ns ms)≠Value.notImplemented/\Q (.bool (lexLt ns ms)) s from⟨(λx=>nomatch x),h⟩⟩ hu
def tE(n d:Nat):Option Int->Nat
 | none=>d
 | some v=>if v<0 then(v+(n:Int)).toNat else min v.toNat n
def JH(n d:Nat):tE n d none=d:=rfl
def Nr(n d k:Nat):tE n d (some (k:Int))=min k n:=by
 show(if(k:Int)<0 then((k:Int)+(n:Int)).toNat else min (k:Int).toNat n)=min k n
 rw[aab (by lia),aaj]
end
end HT
namespace L2
open PySem PySem.Spec PyProof.Rows
abbrev TO:=St->Hp->(Option Int->Hp->Prop)->Prop
def PO(X:Cx)(e:Option Expr)(t:TO):Prop :=
 ∀(pq:aQ) (s:Shared) (σ:St) (H:Hp) (Q:Option Int->Hp->Prop),Inv X pq σ H s->t σ H Q->
  wpAny (model X.prog X.w) X.A (evalPart e X.env) (λu s'=>∃o H',Inv X pq σ H' s'/\IsPart u o/\Q o H') X.xe s
def Nt:TO:=λ_ H Q=>Q none H
def Tc(t:TE):TO:=λσ H Q=>t σ H λx H1=>∃i,x = .int i/\Q (some i) H1
def intsAre_of{ns:List Int}:∀{us:List Value},Vals (ns.map V.int) us->IntsAre us ns:=by
 induction ns with
 | nil=>intro us r;rw[List.map_nil]at r;cases r;exact .nil
 | cons n ns G =>
   intro us r;rw[aaN]at r;cases r with
   | cons I O =>
     obtain⟨t,e⟩:=I;subst e;exact .cons n t (G O)
section
variable {X:Cx}{e:Expr}{te:TE}{lo hi:Option Expr}{tl th:TO}{pos p2:Pos}
def za:PO X none Nt:=by
 intro pq s σ H Q I h;rw[evalPart_none];exact aah ⟨none,H,I,.none,h⟩
def pY(h:PE X e te):PO X (some e) (Tc te):=by
 intro pq s σ H Q I hw;rw[evalPart_some];refine dP (h pq s σ H _ I hw) λu s1 ⟨x,H1,G,O,U⟩=>?_
 obtain⟨i,rfl,q⟩:=U;obtain⟨t,rfl⟩:=O;exact⟨some i,H1,G,.int i t,q⟩
def WO(X:Cx)(r:V->Option Int->Option Int->Hp->VK->Prop):Prop :=
 ∀(pq:aQ) (s:Shared) (σ:St) (H:Hp) (x:V) (v G I:Value) (lo hi:Option Int) (sl:Addr) (Q:VK),Inv X pq σ H s->RelV x v->s.heap.IsSliceOf sl G I .none->IsPart G lo->IsPart I hi->r x lo hi H Q->
  ∃T id,typeLookup (.type T) "__getitem__"=pure (some (.builtin id))/\s.TypeIs v T/\wpAny (model X.prog X.w) X.A (getItem v (.ref sl)) (EP X pq σ Q) X.xe s
def tSl(r:V->Option Int->Option Int->Hp->VK->Prop)(te:TE)(tl th:TO):TE:=λσ H Q=>te σ H λx H1=>tl σ H1 λl H2=>th σ H2 λu H3=>r x l u H3 Q
def pZ{r:V->Option Int->Option Int->Hp->VK->Prop}(hr:WO X r)(he:PE X e te)(hl:PO X lo tl)(hu:PO X hi th):PE X (.Subscript e (.Slice lo hi none p2) pos) (tSl r te tl th):=by
 intro pq s σ H Q I h;refine Subscript_ (dP (he pq s σ H _ I h) λv s1 ⟨x,H1,U,Y,Z⟩=>?_)
 refine wpAny_Slice (dP (hl pq s1 σ H1 _ U Z) λG s2 ⟨l,H2,I2,pl,q2⟩=>dP (hu pq s2 σ H2 _ I2 q2) λO s3 ⟨u,H3,I3,pu,q3⟩=>?_)
 rw[evalPart_none];refine aah ?_;have I4:Inv X pq σ H3 { s3 with heap:=s3.heap.push { cls:=.type "slice",data:=.fields #[G,O,.none]}}:=I3.kept (t':=s3.toks) λb ob q=>aak _ q
 obtain⟨T,id,hT,ht,hg⟩:=hr pq { s3 with heap:=s3.heap.push { cls:=.type "slice",data:=.fields #[G,O,.none]}} σ H3 x v G O l u s3.heap.objs.size Q I4 Y (Heap.IsSliceOf.new ..) pl pu q3
 show wpAny (model X.prog X.w) X.A (subscriptTail e (.Slice lo hi none p2) v (.ref s3.heap.objs.size)) (EP X pq σ Q) X.xe { s3 with heap:=s3.heap.push { cls:=.type "slice",data:=.fields #[G,O,.none]}}
 exact tail_any (ops:=[.ref s3.heap.objs.size,v]) ht hT hg (by with_unfolding_all rfl)
def xj(xs:List V)(lo hi:Option Int):List V:=(xs.drop (HT.tE xs.length 0 lo)).take (HT.tE xs.length xs.length hi-HT.tE xs.length 0 lo)
def A2(xs:List V)(lo hi:Option Int):(xj xs lo hi).length<=xs.length:=by
 unfold xj;rw[aa0,acA]
 lia
end
def Nu(n:Nat)(i:Int):Option Nat:=if 0<=i then(if i<n then some i.toNat else none) else if -(n:Int)<=i then some (i+n).toNat else none
def Jc{α:Type}(xs:List α)(i:Int):Option α:=(Nu xs.length i).bind λj=>xs[j]?
def Fy{n:Nat}{i:Int}{j:Nat}(h:Nu n i=some j):seqIndex? i n=some j/\j<n/\-(n:Int)<=i/\i<n:=by
 unfold Nu at h
 by_cases h0:0<=i
 ·rw[aac h0]at h
  by_cases h1:i<n
  ·rw[aac h1]at h;have e:i.toNat=j:=Option.some.inj h;exact⟨by rw[seqIndex_of h0 h1,e],by lia,by lia,h1⟩
  ·rw[aab h1]at h;cases h
 ·rw[aab h0]at h
  by_cases h1 : -(n:Int)<=i
  ·rw[aac h1]at h;have e:(i+n).toNat=j:=Option.some.inj h;exact⟨by rw[seqIndex_neg (by lia) h1,e],by lia,h1,by lia⟩
  ·rw[aab h1]at h;cases h
def Fz{α:Type}{xs:List α}{i:Int}{v:α}(h:Jc xs i=some v):∃j,seqIndex? i xs.length=some j/\xs[j]?=some v/\j<xs.length/\-(xs.length:Int)<=i/\i<xs.length:=by
 unfold Jc at h;cases e:Nu xs.length i with
 | none=>rw[e]at h;cases h
 | some j =>
   rw[e]at h;obtain⟨h1,h2,G,I⟩:=Fy e;exact⟨j,h1,h,h2,G,I⟩
def ak{α:Type}{xs:List α}{j:Nat}{v:α}(h:xs[j]?=some v):Jc xs (j:Int)=some v:=by
 have hj:j<xs.length:=(ju.mp h).1;have e:Nu xs.length (j:Int)=some j:=by
  unfold Nu;rw[aac (by lia),aac (by lia)];simp
 unfold Jc;rw[e];exact h
def FA(b:Expr):Prop:=∀o i,subscripted b false o i=operate [o,i] (getItem o i)
def R1(X:Cx)(r:R2):Prop :=
 ∀(value slice:Expr) (pq:aQ) (s:Shared) (σ:St) (H:Hp) (x y:V) (v u:Value) (Q:VK),Inv X pq σ H s->RelV x v->RelV y u->r x y H Q->
  subscripted slice false v u=operate [v,u] (getItem v u)->wpAny (model X.prog X.w) X.A (subscriptTail value slice v u) (EP X pq σ Q) X.xe s
def WQ(X:Cx)(id:String)(r:V->List V->Hp->VK->Prop):Prop :=
 ∀(pq:aQ) (s:Shared) (σ:St) (H:Hp) (x:V) (xs:List V) (v:Value) (us:List Value) (Q:VK),Inv X pq σ H s->RelV x v->Vals xs us->r x xs H Q->
  wpAny (model X.prog X.w) X.A (call (.builtin id) (v::us)) (EP X pq σ Q) X.xe s
section
variable {X:Cx}{a b:Expr}{ta tb:TE}{pos:Pos}
def Td{r:R2}(hr:R1 X r)(ha:PE X a ta)(hb:PE X b tb)(hs:FA b):PE X (.Subscript a b pos) (SY r ta tb):=by
 intro pq s σ H Q I h;exact Subscript_ (Qd ha hb I h λv u s2 x y H2 G rx O q=>hr a b pq s2 σ H2 x y v u Q G rx O q (hs _ _))
def Tf(K:bN):R2:=λx y H Q=>∃p xs i v,x = .ref p/\y = .int i/\aM K H p xs/\Jc xs i=some v/\Q v H
def Tg(K:bN):R2:=λx y H Q=>∃p xs i v,x = .ref p/\y = .int i/\aR K H p xs/\Jc xs i=some v/\Q v H
def Nv:R1 X (Tf X.K):=by
 intro value slice pq s σ H x y v u Q I rx G h hs;obtain⟨p,xs,i,z,rfl,rfl,O,he,q⟩:=h;cases rx;obtain⟨t,rfl⟩:=G;obtain⟨its,r,pl,hz⟩:=I.list O;obtain⟨j,h1,h2,h3,h4,h5⟩:=Fz he;obtain⟨w,ew,rw'⟩:=r.get h2;have U:=r.length;have hn:=uX;have fin:EP X pq σ Q w s:=⟨z,H,I,rw',q⟩
 by_cases h0:0<=i
 ·have hj:i.toNat=j:=by
   rw[seqIndex_of h0 h5]at h1;exact Option.some.inj h1
  exact item_listR pl.isList h0 (by lia) (by rw[hj];simpa using ew) fin hs
 ·have hj:(i+(its.toArray.size:Int)).toNat=j:=by
   rw[seqIndex_neg (by lia) h4]at h1
   rw[aau,<-U];exact Option.some.inj h1
  exact subscriptTail_builtinR (x:=w) pl.isList.typeIs slot_list_getitem.lookup
   (wpAny_getItem_list_neg (Q:=λr s'=>r=w/\EP X pq σ Q r s') pl.isList (by lia) (by rw[aau]<;>lia) (by lia) (by rw[hj];simpa using ew) ⟨rfl,fin⟩) hs
def Qi:R1 X (Tg X.K):=by
 intro value slice pq s σ H x y v u Q I rx G h hs;obtain⟨p,xs,i,z,rfl,rfl,O,he,q⟩:=h;cases rx;obtain⟨t,rfl⟩:=G;obtain⟨its,r,pl,hz⟩:=I.tuple O;obtain⟨j,h1,h2,h3,h4,h5⟩:=Fz he;obtain⟨w,ew,rw'⟩:=r.get h2;have U:=r.length;have hn:=uX;have fin:EP X pq σ Q w s:=⟨z,H,I,rw',q⟩;exact subscriptTail_builtinR (x:=w) pl.typeIs slot_tuple_getitem.lookup
  (getItem_tuple (j:=j) (Q:=λr s'=>r=w/\EP X pq σ Q r s') pl (by lia) (by lia) (by rw[aau,<-U];exact h1) (by simpa using ew) ⟨rfl,fin⟩) hs
def DC(its:List Value)(n j:Nat)(u:Value):Obj.mapSeq (·.setIfInBounds j u) { cls:=.type "list",data:=.seq its.toArray n}={ cls:=.type "list",data:=.seq (its.set j u).toArray n}:=by
 simp[Obj.mapSeq]
def Inv.lst{pq:aQ}{σ:St}{H:Hp}{s:Shared}{p:Addr}{xs:List V}(I:Inv X pq σ H s)(h:H p=some (.lst xs)):
 ∃(G:List Value) (n:Nat),Vals xs G/\s.heap.get? p=some { cls:=.type "list",data:=.seq G.toArray n}/\xs.length<=sizeLine:=by
 obtain⟨z,G,n,r,e⟩:=I.hok p _ h;exact⟨G,n,r,e,z⟩
def Inv.Qj{pq:aQ}{σ:St}{H:Hp}{s:Shared}{p:Addr}{xs ys:List V}{its its' : List Value}{n n' : Nat}{f:Obj->Obj}(I:Inv X pq σ H s)(h:H p=some (.lst xs))
 (ho:s.heap.get? p=some { cls:=.type "list",data:=.seq its.toArray n}) (hf:f { cls:=.type "list",data:=.seq its.toArray n}={ cls:=.type "list",data:=.seq its'.toArray n'}) (r:Vals ys its') (hz:ys.length<=sizeLine) (t:Nat) :
 Inv X pq σ (upd H p (.lst ys)) { s with heap:=s.heap.update p f,toks:=t}:=by
 have e:(s.heap.update p f).get? p=some { cls:=.type "list",data:=.seq its'.toArray n'}:=by
  rw[abn f ho (by rw[hf]<;>rfl),hf]
 refine I.write (x:=p) (e:=p) (by rw[h];trivial) (.inl rfl) (λb u hb q=>(abr _ _ (aba hb)).trans q) ⟨_,e⟩ ?_
 exact⟨hz,its',n',r,e⟩
def Th:V->V->V->Hp->(Hp->Prop)->Prop:=λo i v H Q=>∃p xs k j,o = .ref p/\i = .int k/\H p=some (.lst xs)/\Nu xs.length k=some j/\Q (upd H p (.lst (xs.set j v)))
def set_list:Qa X Th:=by
 intro pq s σ H o i v Z iv u Q I U ri Y h;obtain⟨p,xs,k,j,rfl,rfl,hp,hj,q⟩:=h;cases U;obtain⟨t,rfl⟩:=ri;obtain⟨its,n,r,ho,hz⟩:=I.lst hp;obtain⟨h1,h2,h3,h4⟩:=Fy hj;have G:=r.length;have hn:=uX;have O : Inv X pq σ (upd H p (.lst (xs.set j v))) { s with heap:=s.heap.update p (Obj.mapSeq (·.setIfInBounds j u))} :=
  I.Qj hp ho (DC its n j u) (r.set Y j) (by rw[List.length_set];exact hz) s.toks
 by_cases h0:0<=k
 ·have hk:k.toNat=j:=by
   rw[seqIndex_of h0 h4]at h1;exact Option.some.inj h1
  exact PySem.W.ki_setAt ho h0 (by lia) (by rw[aau,<-G];exact h4) (by rw[hk];exact⟨_,O,q⟩)
 ·have hk:(k+(its.toArray.size:Int)).toNat=j:=by
   rw[seqIndex_neg (by lia) h3]at h1
   rw[aau,<-G];exact Option.some.inj h1
  exact PySem.W.ki_setBack ho (by lia) (by rw[aau,<-G];exact h3) (by lia) (by rw[hk];exact⟨_,O,q⟩)
def zb(lo hi:Option Int)(n:Nat):(sliceBounds lo hi none n).1=((HT.tE n 0 lo:Nat):Int)/\(sliceBounds lo hi none n).2.1=((HT.tE n n hi:Nat):Int)/\(sliceBounds lo hi none n).2.2=1:=by
 refine⟨?_,?_,rfl⟩
 ·cases lo with
  | none=>simp[sliceBounds,HT.tE]
  | some i =>
    simp only[sliceBounds,HT.tE,Option.getD_none,show(1:Int) > 0 by decide,if_true]
    by_cases h:i<0
    ·simp only[h,if_true]<;>lia
    ·simp only[h,if_false]<;>lia
 ·cases hi with
  | none=>simp[sliceBounds,HT.tE]
  | some i =>
    simp only[sliceBounds,HT.tE,Option.getD_none,show(1:Int) > 0 by decide,if_true]
    by_cases h:i<0
    ·simp only[h,if_true]<;>lia
    ·simp only[h,if_false]<;>lia
def xm(its:List Value)(lo hi:Option Int):slicePick its.toArray lo hi none=((its.drop (HT.tE its.length 0 lo)).take (HT.tE its.length its.length hi-HT.tE its.length 0 lo)).toArray:=by
 obtain⟨h1,h2,G⟩:=zb lo hi its.toArray.size;unfold slicePick;rw[h1,h2,G];simp only[sliceRange_one,pick_run,aau]<;>rfl
def Ti(K:bN):V->Option Int->Option Int->Hp->VK->Prop:=λx lo hi H Q=>∃a xs,x = .ref a/\aM K H a xs/\∀p,H p=none->Q (.ref p) (upd H p (.lst (xj xs lo hi)))
def Nx:WO X (Ti X.K):=by
 intro pq s σ H x v O U lo hi sl Q I rx hs G pu h;obtain⟨a,xs,rfl,hx,q⟩:=h;cases rx;obtain⟨its,r,ht,hz⟩:=I.list hx;have hlen:=r.length;refine⟨"list",_,slot_list_getitem.lookup,ht.isList.typeIs,?_⟩;refine wpAny_getItem_list_slice ht.isList hs G pu .none (by simp) ?_ (by rw[aau]<;>lia)
 rw[xm,<-hlen];refine⟨.ref s.heap.objs.size,_,I.laid (t':=s.toks) (o:=.lst (xj xs lo hi)) (λb ob q=>aak _ q) (aaf _) ?_,rfl,q _ (I.hok.fresh (aaf _))⟩
 exact⟨aaE (A2 xs lo hi) hz,_,0,(r.drop (HT.tE xs.length 0 lo)).take (HT.tE xs.length xs.length hi-HT.tE xs.length 0 lo),aaB _ rfl⟩
def p5:V->Bool
 | .eE=>true
 | .bl _=>true
 | .int _=>true
 | .str _=>true
 | _=>false
def Ny:V->V->Bool
 | .eE,.eE=>true
 | .bl a,.bl b=>a==b
 | .bl a,.int b=>(if a then 1 else 0)==b
 | .int a,.bl b=>a==(if b then 1 else 0)
 | .int a,.int b=>a==b
 | .str a,.str b=>a==b
 | _,_=>false
def Qk{A:Around}{s:Shared}{y x:V}{u v:Value}(ry:RelV y u)(rx:RelV x v)(fy:p5 y=true)(fx:p5 x=true):SeqAt.EqAt A s u v (Ny y x):=by
 cases y with
 | eE =>
   cases ry;cases x with
   | eE=>cases rx;exact SeqAt.EqAt.same _
   | bl b=>cases rx;exact SeqAt.EqAt.none_bool b
   | int b=>obtain⟨t,rfl⟩:=rx;exact SeqAt.EqAt.none_int b t
   | str b=>obtain⟨t,rfl⟩:=rx;exact SeqAt.EqAt.none_str b t
   | _=>exact absurd (show false=true from fx) aan
 | bl a =>
   cases ry;cases x with
   | eE=>cases rx;exact SeqAt.EqAt.bool_none a
   | bl b=>cases rx;exact SeqAt.EqAt.bool_bool a b
   | int b=>obtain⟨t,rfl⟩:=rx;exact SeqAt.EqAt.bool_int a b t
   | str b=>obtain⟨t,rfl⟩:=rx;exact SeqAt.EqAt.bool_str a b t
   | _=>exact absurd (show false=true from fx) aan
 | int a =>
   obtain⟨G,rfl⟩:=ry;cases x with
   | eE=>cases rx;exact SeqAt.EqAt.int_none a G
   | bl b=>cases rx;exact SeqAt.EqAt.int_bool a G b
   | int b=>obtain⟨t,rfl⟩:=rx;exact SeqAt.EqAt.int_int a G b t
   | str b=>obtain⟨t,rfl⟩:=rx;exact SeqAt.EqAt.int_str a G b t
   | _=>exact absurd (show false=true from fx) aan
 | str a =>
   obtain⟨G,rfl⟩:=ry;cases x with
   | eE=>cases rx;exact SeqAt.EqAt.str_none a G
   | bl b=>cases rx;exact SeqAt.EqAt.str_bool a G b
   | int b=>obtain⟨t,rfl⟩:=rx;exact SeqAt.EqAt.str_int a G b t
   | str b=>obtain⟨t,rfl⟩:=rx;exact SeqAt.EqAt.str_str a G b t
   | _=>exact absurd (show false=true from fx) aan
 | _=>exact absurd (show false=true from fy) aan
def DE(x:V)(u:Value):Bool:=match u with
 | .none=>Ny .eE x
 | .bool b=>Ny (.bl b) x
 | .int i _=>Ny (.int i) x
 | .str z _=>Ny (.str z) x
 | _=>false
def JI{x y:V}{u:Value}(r:RelV y u)(f:p5 y=true):DE x u=Ny y x:=by
 cases y with
 | eE=>cases r;rfl
 | bl b=>cases r;rfl
 | int i=>obtain⟨t,rfl⟩:=r;rfl
 | str z=>obtain⟨t,rfl⟩:=r;rfl
 | _=>exact absurd (show false=true from f) aan
def p7{x:V}:∀{xs:List V} {us:List Value},Vals xs us->xs.all p5=true->us.any (DE x)=xs.any λy=>Ny y x
 | _,_,.nil,_=>rfl
 | y::xs,u::us,.cons r t,f=>by
   rw[List.all_cons,aaH]at f;rw[ac3,ac3,JI r f.1,p7 t f.2]
def m6{A:Around}{s:Shared}{x:V}{v:Value}(rx:RelV x v)(fx:p5 x=true):∀{xs:List V} {us:List Value},Vals xs us->xs.all p5=true->∀u∈us,SeqAt.EqAt A s u v (DE x u)
 | _,_,.nil,_=>λu G=>by cases G
 | y::xs,u::us,.cons r t,f=>λI G=>by
   rw[List.all_cons,aaH]at f;rcases aaq.mp G with rfl|G
   ·rw[JI r f.1];exact Qk r rx f.1 fx
   ·exact m6 rx fx t f.2 I G
def O7(x:V)(xs:List V):Bool:=xs.any λy=>Ny y x
def VA(K:bN)(neg:Bool):R2:=λx y H Q=>∃p xs,y = .ref p/\(aM K H p xs\/aR K H p xs)/\p5 x=true/\xs.all p5=true/\Q (.bl (if neg then !O7 x xs else O7 x xs)) H
def GL:lC X (compareOp .In) (VA X.K false):=by
 intro pq s σ H x y v u Q I rx Z h;obtain⟨p,xs,rfl,O,Y,fs,q⟩:=h;cases Z;rcases O with O|O
 ·obtain⟨G,r,U,hz⟩:=I.list O;refine SeqAt.in_listAt (DE x) U.isList (λw hw=>m6 rx Y r fs w (by simpa using hw)) ⟨.bl _,H,I,rfl,?_⟩
  rw[show G.toArray.any (DE x)=G.any (DE x) by simp,p7 r fs]
  exact q
 ·obtain⟨G,r,U,hz⟩:=I.tuple O;refine SeqAt.in_tupleAt (DE x) U (λw hw=>m6 rx Y r fs w (by simpa using hw)) ⟨.bl _,H,I,rfl,?_⟩
  rw[show G.toArray.any (DE x)=G.any (DE x) by simp,p7 r fs]
  exact q
def zd:lC X (compareOp .NotIn) (VA X.K true):=by
 intro pq s σ H x y v u Q I rx Z h;obtain⟨p,xs,rfl,O,Y,fs,q⟩:=h;cases Z;rcases O with O|O
 ·obtain⟨G,r,U,hz⟩:=I.list O;refine SeqAt.notIn_listAt (DE x) U.isList (λw hw=>m6 rx Y r fs w (by simpa using hw)) ⟨.bl _,H,I,rfl,?_⟩
  rw[show G.toArray.any (DE x)=G.any (DE x) by simp,p7 r fs]
  exact q
 ·obtain⟨G,r,U,hz⟩:=I.tuple O;refine SeqAt.notIn_tupleAt (DE x) U (λw hw=>m6 rx Y r fs w (by simpa using hw)) ⟨.bl _,H,I,rfl,?_⟩
  rw[show G.toArray.any (DE x)=G.any (DE x) by simp,p7 r fs]
  exact q
def ze:fJ X (.builtin "len") (λxs H Q=>∃p ys,xs=[.ref p]/\(aM X.K H p ys\/aR X.K H p ys)/\Q (.int ys.length) H):=by
 intro pq s σ H xs us Q I r h;obtain⟨p,ys,rfl,G,q⟩:=h;obtain⟨u,rfl,rx⟩:=vals1 r;cases rx;have hn:=uX;rcases G with G|G
 ·obtain⟨O,U,Y,hz⟩:=I.list G;have hlen:=U.length;exact Calls.call_len_list Y.isList (by simp only[aau]<;>lia) ⟨.int ys.length,H,I.tok _,⟨s.toks+1,by rw[aau,hlen]⟩,q⟩
 ·obtain⟨O,U,Y,hz⟩:=I.tuple G;have hlen:=U.length;exact len_tuple Y (by simp only[aau]<;>lia) ⟨.int ys.length,H,I.tok _,⟨s.toks+1,by rw[aau,hlen]⟩,q⟩
def xn:fJ X (.type "tuple") (λxs H Q=>∃p ys,xs=[.ref p]/\((aM X.K H p ys/\∀l,H l=none->Q (.ref l) (upd H l (.tup ys)))\/(aR X.K H p ys/\Q (.ref p) H))):=by
 intro pq s σ H xs us Q I r h;obtain⟨p,ys,rfl,h⟩:=h;obtain⟨u,rfl,rx⟩:=vals1 r;cases rx;rcases h with⟨O,q⟩|⟨O,q⟩
 ·obtain⟨G,U,Y,hz⟩:=I.list O;have hlen:=U.length;refine call_tuple_list Y.isList (λh' kp=>?_) (by simp only[aau]<;>lia)
  have Z:Inv X pq σ H { s with heap:=h'}:=I.kept (t':=s.toks) kp
  have I2:Inv X pq σ (upd H h'.objs.size (.tup ys)) { s with heap:=h'.push { cls:=.type "tuple",data:=.seq G.toArray}} :=
   Z.laid (t':=s.toks) (λb o e=>aak _ e) (aaf _) (show bg X.prog X.w _ _ _ (.tup ys) from⟨hz,G,U,IsTup.new _ _⟩)
  exact⟨.ref h'.objs.size,_,I2,rfl,q _ (Z.hok.fresh (aaf _))⟩
 ·obtain⟨G,U,Y,hz⟩:=I.tuple O;exact call_tuple_same Y ⟨.ref p,H,I,rfl,q⟩
def WR(K:bN)(T:String)(x:V)(H:Hp):Prop:=match x with
 | .str _=>T="str"
 | .int _=>T="int"
 | .ref p=>(T="list"/\∃xs,aM K H p xs)\/(T="tuple"/\∃o,K.lookup p=some o/\o.cls = .type "tuple"/\o.dict=none)\/
  (T="dict"/\((∃kvs,H p=some (.dK kvs))\/∃kvs,H p=some (.dT kvs)))\/(T="set"/\∃S n,H p=some (.set S n))
 | _=>False
def JJ{pq:aQ}{σ:St}{H:Hp}{s:Shared}{T:String}{x:V}{v:Value}(I:Inv X pq σ H s)(r:RelV x v)(ty:WR X.K T x H):
 s.TypeIs v T/\∀a,v = .ref a->∃ob,s.heap.get? a=some ob/\ob.dict=none:=by
 cases x with
 | str z =>
   obtain⟨t,rfl⟩:=r;cases(show T="str" from ty)
   exact⟨typeIs_str s z t,λ_ e=>nomatch e⟩
 | int i =>
   obtain⟨t,rfl⟩:=r;cases(show T="int" from ty)
   exact⟨typeIs_int s i t,λ_ e=>nomatch e⟩
 | ref p =>
   cases r;rcases ty with⟨rfl,xs,U⟩|⟨rfl,o,hk,hc,hd⟩|⟨rfl,hk⟩|⟨rfl,S,n,hk⟩
   ·obtain⟨Y,_,O,_⟩:=I.list U;refine⟨O.isList.typeIs,λa e=>?_⟩
    cases e;obtain⟨o,n,e,c,hd,_⟩:=O;exact⟨o,e,hd⟩
   ·refine⟨⟨o,I.o5 p o hk,hc⟩,λa e=>?_⟩
    cases e;exact⟨o,I.o5 _ o hk,hd⟩
   ·have z:∃o,s.heap.get? p=some o/\o.ExactDict:=by
     rcases hk with⟨kvs,hk⟩|⟨kvs,hk⟩
     ·obtain⟨_,_,_,_,o,_,_,e,ex,_⟩:=I.hok p _ hk;exact⟨o,e,ex⟩
     ·obtain⟨_,_,_,_,o,_,_,e,ex,_⟩:=I.hok p _ hk;exact⟨o,e,ex⟩
    obtain⟨o,e,ex⟩:=z;refine⟨⟨o,e,ex.1⟩,λa G=>?_⟩
    cases G;exact⟨o,e,ex.2.1⟩
   ·obtain⟨o,_,_,_,e,ex,_⟩:=I.hok p _ hk;refine⟨⟨o,e,ex.1⟩,λa G=>?_⟩
    cases G;exact⟨o,e,ex.2.1⟩
 | _=>exact False.elim ty
def WS(K:bN)(T:String)(r:V->List V->Hp->VK->Prop)(to:TE):TE:=λσ H Q=>to σ H λx H1=>WR K T x H1/\r x [] H1 Q
def WT(K:bN)(T:String)(r:V->List V->Hp->VK->Prop)(to:TE)(t:TA):TE:=λσ H Q=>to σ H λx H1=>WR K T x H1/\t σ H1 λxs H2=>r x xs H2 Q
variable {o e:Expr}{es:List Expr}{to:TE}{t:TA}{name:Str}{apos cpos:Pos}{T id:String}{r:V->List V->Hp->VK->Prop}
def JK(pa:PlainAttrs T)(slot:Slot T name id)(hty:typeOf (.builtin id)=pure (.type "method_descriptor"))(hm:WQ X id r)(ho:PE X o to)
 (hbase:attributeBase o name X.env (eval o X.env)=eval o X.env:=by rfl) (hline:(apos.endLine==cpos.line)=true:=by rfl):PE X (.Call (.Attribute o name apos) [] [] cpos) (WS X.K T r to):=by
 intro pq s σ H Q I h;refine wpAny_Call_method0_late hbase hline (dP (ho pq s σ H _ I h) λv s1 ⟨x,H1,G,O,ty,U⟩=>?_)
 obtain⟨h1,h2⟩:=JJ G O ty;exact⟨T,id,pa,slot,hty,h1,h2,Calls.callWith_builtin rfl (PySem.evalArgs_none (hm pq s1 σ H1 x [] v [] Q G O .nil U))⟩
def mR(pa:PlainAttrs T)(slot:Slot T name id)(hty:typeOf (.builtin id)=pure (.type "method_descriptor"))(hm:WQ X id r)(ho:PE X o to)(ha:PA X (e::es) t)
 (hbase:attributeBase o name X.env (eval o X.env)=eval o X.env:=by rfl)
 (hfew:((backTo cpos (starEach (e::es) X.env)).all (λx=>!x.1)&&(backToKw cpos (keywordEach [] X.env)).all (λx=>x.1.isSome)
  && decide ((e::es).length+([]:List Keyword).length+(if([]:List Keyword).isEmpty then 0 else 1)<30))=true:=by rfl)
 (hline:(apos.endLine==cpos.line)=true:=by rfl) (hs:starEach (e::es) X.env=(false,eval e X.env)::starEach es X.env:=by rfl) (hplain:(backTo cpos (starEach es X.env)).any (·.1)=false:=by rfl) :
 PE X (.Call (.Attribute o name apos) (e::es) [] cpos) (WT X.K T r to t):=by
 intro pq s σ H Q I h;refine wpAny_Call_method_late hbase hfew hline rfl (dP (ho pq s σ H _ I h) λv s1 ⟨x,H1,G,O,ty,Y⟩=>?_)
 obtain⟨h1,h2⟩:=JJ G O ty;refine⟨T,id,pa,slot,hty,h1,h2,?_⟩;have U:=ha cpos pq s1 σ H1 _ G Y;rw[hs]at U ⊢;refine Calls.callWith_builtin (by show(false || (backTo cpos (starEach es X.env)).any (·.1))=false;rw[hplain]<;>rfl) (Calls.evalArgs_plain ?_)
 exact dP U λus s2 ⟨vs,H2,Z,r2,q2⟩=>hm pq s2 σ H2 x vs v us Q Z O r2 q2
end
def YT(X:Cx)(id:String)(r:V->List V->Hp->VK->Prop):Prop :=
 ∀(pq:aQ) (s:Shared) (σ:St) (H:Hp) (x:V) (xs:List V) (v:Value) (us:List Value) (Q:VK),Inv X pq σ H s->RelV x v->Vals xs us->r x xs H Q->
  wpAny (model X.prog X.w) X.A (call (.builtin id) (v::us)) (EP X pq σ Q) X.xe s
def Vals.one:∀{x:V} {us:List Value},Vals [x] us->∃u,us=[u]/\RelV x u
 | _,_,.cons r .nil=>⟨_,rfl,r⟩
def Vals.rep{xs:List V}{us:List Value}(h:Vals xs us):∀k:Nat,Vals (List.replicate k xs).flatten (List.replicate k us).flatten
 | 0=>.nil
 | k+1=>by
   rw[abP,abP,acr,acr];exact Vals.append h (Vals.rep h k)
def foldl_rep(its:List Value):∀(k:Nat) (acc:List Value),
 List.foldl (λG I=>G++I) acc.toArray (List.replicate k its.toArray)=(acc++(List.replicate k its).flatten).toArray
 | 0,acc=>by simp
 | k+1,acc=>by
   have e:acc.toArray++its.toArray=(acc++its).toArray:=by simp
   have O:(acc++its)++(List.replicate k its).flatten=acc++(List.replicate (k+1) its).flatten:=by
    rw[abP,acr,List.append_assoc]
   rw[<-O,<-foldl_rep its k (acc++its),<-e,abP,ab8]
section
variable {X:Cx}{pq:aQ}{σ:St}{H:Hp}{s:Shared}{l b:Addr}{xs ys zs:List V}
def Inv.Tj{its its' : List Value}{n:Nat}{f:Array Value->Array Value}{t' : Nat}(I:Inv X pq σ H s)(hH:H l=some (.lst xs))
 (e:s.heap.get? l=some { cls:=.type "list",data:=.seq its.toArray n}) (hf:f its.toArray=its'.toArray) (hv:Vals ys its') (hz:ys.length<=sizeLine) :
 Inv X pq σ (upd H l (.lst ys)) { s with heap:=s.heap.update l (Obj.mapSeq f),toks:=t'}:=by
 have q:=PySem.IsL.update e f;rw[hf]at q;refine I.write (x:=l) (e:=l) (by rw[hH];exact trivial) (.inl rfl) (λO u hb G=>(abr s.heap (Obj.mapSeq f) (aba hb)).trans G) ⟨_,q⟩ ?_
 exact⟨hz,its',_,hv,q⟩
def Inv.Tn{its:List Value}{t' : Nat}(I:Inv X pq σ H s)(hv:Vals ys its)(hz:ys.length<=sizeLine):
 Inv X pq σ (upd H s.heap.objs.size (.lst ys)) { s with heap:=s.heap.push { cls:=.type "list",data:=.seq its.toArray},toks:=t'} :=
 I.laid (λ_ _ q=>aak _ q) (aaf _) ⟨hz,its,0,hv,aaB _ rfl⟩
def Inv.fresh(I:Inv X pq σ H s):H s.heap.objs.size=none:=I.hok.fresh (aaf _)
def Inv.Nz(I:Inv X pq σ H s)(hH:H l=some (.lst xs)):xs.length<=sizeLine/\∃(G:List Value) (n:Nat),Vals xs G/\xs.length=G.length/\s.heap.get? l=some { cls:=.type "list",data:=.seq G.toArray n}:=by
 obtain⟨z,G,n,r,e⟩:=I.hok l _ hH;exact⟨z,G,n,r,r.length,e⟩
def A3{n:Nat}(h:n<=sizeLine):Builtin.List.listTooLong n=false:=by
 unfold Builtin.List.listTooLong;exact dO (by lia)
end
section
variable {X:Cx}
def NB:V->List V->Hp->VK->Prop:=λx vs H Q=>∃l xs y,x = .ref l/\vs=[y]/\H l=some (.lst xs)/\xs.length<sizeLine/\Q .eE (upd H l (.lst (xs++[y])))
def c9:YT X "list.append" NB:=by
 intro pq s σ H x vs v us Q I rx O h;obtain⟨l,xs,y,rfl,rfl,G,hz,q⟩:=h;cases rx;obtain⟨u,rfl,ru⟩:=O.one;obtain⟨z,its,n,r,hl,e⟩:=I.Nz G;refine call_meets F.slot_list_append ⟨_,e,rfl⟩ F.entry_list_append (F.args_list_append_2 _ _) (PySem.list_append l its.toArray n u (by rw[aau];lia)) ⟨e,?_⟩
 refine⟨.eE,_,I.Tj (its':=its++[u]) G e (by simp) (r.append (.cons ru .nil)) ?_,rfl,q⟩
 rw[aao,abb]
 lia
def NC:V->List V->Hp->VK->Prop:=λx vs H Q=>∃l b xs zs,x = .ref l/\vs=[.ref b]/\H l=some (.lst xs)/\H b=some (.lst zs)/\xs.length+zs.length<=sizeLine/\Q .eE (upd H l (.lst (xs++zs)))
def GN:YT X "list.extend" NC:=by
 intro pq s σ H x vs v us Q I rx U h;obtain⟨l,b,xs,zs,rfl,rfl,O,Y,hz,q⟩:=h;cases rx;obtain⟨u,rfl,ru⟩:=U.one;cases ru;obtain⟨z,its,n,r,hl,e⟩:=I.Nz O;obtain⟨z2,its2,n2,r2,hl2,e2⟩:=I.Nz Y;have G:its.toArray.size+its2.toArray.size<=sizeLine:=by rw[aau,aau];lia
 have Z : ¬(!its.toArray.isEmpty&&Builtin.List.listTooLong (its.toArray.size+its2.toArray.size))=true:=by
  rw[A3 G,abE];exact aan
 refine call_meets F.slot_list_extend ⟨_,e,rfl⟩ F.entry_list_extend (F.args_list_extend_2 _ _)
  (AutoSeq1.list_extend_list_list_0 l its.toArray n b its2.toArray n2 Z (by rw[aau];lia) (by lia)) ⟨e,e2,?_⟩
 refine⟨.eE,_,I.Tj (its':=its++its2) O e (by simp) (r.append r2) ?_,rfl,q⟩
 rw[aao]
 lia
def WU:R2:=λx y H Q=>∃l k xs,x = .ref l/\y = .int k/\H l=some (.lst xs)/\-(2^63)<=k/\k<2^63/\xs.length*k.toNat<=sizeLine/\
 ∀p,H p=none->Q (.ref p) (upd H p (.lst (List.replicate k.toNat xs).flatten))
def len_rep{α:Type}(xs:List α)(k:Nat):(List.replicate k xs).flatten.length=k*xs.length:=by
 induction k with
 | zero=>simp
 | succ k G=>rw[abP,acr,aao,G,Nat.succ_mul,Nat.add_comm]
def DF:lC X (binaryOp .Mult) WU:=by
 intro pq s σ H x y v u Q I rx ry h;obtain⟨l,k,xs,rfl,rfl,hH,h1,h2,hz,q⟩:=h;cases rx;obtain⟨t,rfl⟩:=ry;obtain⟨z,its,n,r,hl,e⟩:=I.Nz hH;have hlen:its.toArray.size*k.toNat<=sizeLine:=by rw[aau,<-hl];exact hz
 have WV : ¬ its.toArray.size*k.toNat > (2^63-1)/8:=by
  have:(sizeLine:Nat)<=(2^63-1)/8:=by decide
  lia
 have G : ¬(!Builtin.List.listFitsIndex k)=true:=by
  rw[fitsIndex_both h1 h2];exact aan
 have JL : ¬ Builtin.List.listTooLong (its.toArray.size*k.toNat)=true:=by
  rw[A3 hlen];exact aan
 have O:List.foldl (λY Z=>Y++Z) #[] (List.replicate (if its.toArray.isEmpty=true then 0 else k.toNat) its.toArray)=(List.replicate k.toNat its).flatten.toArray:=by
  have f0:∀m:Nat,List.foldl (λY Z=>Y++Z) #[] (List.replicate m its.toArray)=(List.replicate m its).flatten.toArray:=λm=>by
   have:=foldl_rep its m [];rw[List.nil_append]at this;exact this
  rw[f0];cases its with
  | nil=>simp
  | cons a r'=>rw[aab (by simp)]
 refine wpAny_binaryOp_repeat_ref (T:="list") (U:="int") (by decide) ⟨_,e,rfl⟩ (λs'=>typeIs_int s' k t) noFill_list_mul F.fills_int_mul F.slot_int_rmul repeat_list F.slot_int_index.lookup
  (call_meets F.slot_int_rmul (typeIs_int s k t) F.entry_int_rmul (F.args_int_rmul_2 _ _) (int___rmul___int_list k t l its.toArray n)
   ⟨e,rfl,⟨_,e,rfl⟩,call_meets F.slot_list_mul ⟨_,e,rfl⟩ F.entry_list_mul (F.args_list_mul_2 _ _) (AutoListH.list___mul___list_int_3 l its.toArray n k t G WV JL) ⟨e,?_⟩⟩)
 rw[O];exact⟨.ref _,_,I.Tn (t':=s.toks) (r.rep k.toNat) (by rw[len_rep,Nat.mul_comm];exact hz),rfl,q _ I.fresh⟩
end
end L2
namespace Att
open PySem PySem.W PySem.Calls PyProof.Rows
def tW{P:Params}{h:Heap}:∀(ns:List Int) (vs:List Value),WellAll P h vs (ns.map WData.int)->IntsAre vs ns:=by
 intro ns
 induction ns with
 | nil =>
   intro vs w;rw[List.map_nil]at w;cases w;exact .nil
 | cons n ns G =>
   intro vs w;rw[aaN]at w;cases w with
   | cons a b =>
     cases a;exact .cons _ _ (G _ b)
def GO{l:OpenLaw}{n:Nat}(hn:l.most=some n){P:Params}{h:Heap}{args:List WData}{vals:List Value}
 (hpre:l.row.toRowW.claim.pre args=true) (WW:WellAll P h vals args) :
 ∃a vs ns,vals=[Value.ref a]/\args=[WData.list (ns.map WData.int)]/\h.get? a=some { cls:=.type "list",data:=.seq vs.toArray}/\IntsAre vs ns/\ns.length<=n:=by
 have O:WShape.hasAll [] args [.list .int]=true:=(pre_splitW hpre).1;have hc:l.pre.holds [] { args:=args}=true:=(pre_splitW hpre).2;obtain⟨d,r,rfl,h1,h2⟩:=hasAllW_cons O;obtain rfl:=hasAllW_nil h2;obtain⟨xs,rfl,h3⟩:=hasW_list h1;obtain⟨ns,rfl⟩:=items_int h3;have hlen:ns.length<=n:=by
  unfold OpenLaw.pre at hc;have G:(WTm.not (.lt (.lit (.int (n:Int))) (.len (.arg 0)))).holds [] { args:=[.list (ns.map .int)]}=true:=by
   have G:=(holds_andW hc).1;rw[hn]at G;exact G
  have I:=condW_of G (w_not (w_lt w_lit (w_len_list (w_arg rfl))));rw[aaa]at I;refine Nat.le_of_not_lt λq=>?_
  have q' : (n:Int)<((ns.length:Nat):Int):=by lia
  first
   | (rw[cD q']at I;exact absurd I (by decide))
   | (simp at I;lia)
 cases WW with
 | cons U Y =>
   cases Y;cases U with
   | list ho hall=>exact⟨_,_,ns,rfl,rfl,ho,tW ns _ hall,hlen⟩
def GP(l:OpenLaw)(args:List WData):l.row.toRowW.claim.post args (.bool true) args=true :=
 postW_of (r:=l.row.toRowW) (X:=(true==true))
  (show WShape.has [] (.bool true) .bool=true by first | rfl | decide | simp[WShape.has,WShape.arms,WShape.armsAll])
  (show(WTm.eq .res (.lit (.bool true))).value [] { args:=args,res:=some (.bool true),after:=args}=some (.bool (true==true)) from w_eq_bool (w_res rfl) w_lit) rfl
def A4{l:OpenLaw}{n:Nat}{q:Program}{loose:List Str}{XP:(Str->Option Value)->Heap->Prop}{YP:World->Heap->Prop}{d:DefRec}
 (hn:l.most=some n) (To:d.params.defaults=[])
 (call:∀(w:World) (s₀ I:Shared) (mg mb:mQ) (fa:Addr) (o:Obj) (pm cd doc:Value) (a:Addr) (vs:List Value) (ns:List Int),
  Ground q loose [] XP w s₀ mg mb I.heap->YP w I.heap->
  I.heap.get? fa=some o->o.data = .func (docDef d.name d.params d.body d.scope pm cd doc)->I.heap.CodeRec cd d.name->mg d.name=some (.ref fa)->
  I.heap.get? a=some { cls:=.type "list",data:=.seq vs.toArray}->IntsAre vs ns->ns.length<=n->I.gens = #[]->
  codeAny (model l.prog w) callerA (.call (.ref fa) ⟨[.ref a],[]⟩) (λr s'=>r = .ok (.ret (.bool true))/\OldK I.heap s'.heap/\s'.os=I.os/\AllBare s'.gens) I) :
 WalkO q loose XP YP l.row.toRowW d [] (λf vs=>PySem.call f vs):=by
 intro w s₀ I mg mb G Y fa o pm cd doc dV kV ho hd U hD Z hg args vals as O ag ar WW aw;obtain rfl:dV = .none:=Dflts.none hD To;obtain rfl:kV = .none:=Dflts.noKw hD;obtain⟨a,vs,ns,rfl,rfl,hobj,hints,hlen⟩:=GO hn O WW;refine enter_call (codeAny_mono (call w s₀ I mg mb fa o pm cd doc a vs ns G Y ho (fd_plain hd) U Z hobj hints hlen hg) λr s' hq=>?_)
 obtain⟨rfl,h2,h3,h4⟩:=hq;exact⟨.inl ⟨.bool true,.bool true,[],rfl,λ_=>rfl,.bool true,GP l _,λ_=>⟨List.Pairwise.nil,λ_ hm=>(nomatch hm)⟩⟩,h2,h3,h4⟩
end Att
namespace L2
open PySem PySem.Spec PyProof.Rows
def yg:∀{vs:List Value} {ns:List Int},IntsAre vs ns->Vals (ns.map V.int) vs
 | _,_,.nil=>.nil
 | _,_,.cons n t h=>.cons ⟨t,rfl⟩ (yg h)
end L2
namespace L2
open PySem PySem.Spec PyProof.Rows
def inClass(s:Stmt)(j:Nat):Stmt:=match s with
 | .ClassDef _ _ _ body _ _ _ _ _ _ _=>body.getD j (.Pass ⟨0,0,0,0⟩)
 | _=>.Pass ⟨0,0,0,0⟩
def eT(s:Stmt):Arguments:=match s with
 | .FunctionDef _ a _ _ _ _ _ _ _ _=>a
 | _=>{ posonlyargs:=[],args:=[],vararg:=none,kwonlyargs:=[],kw_defaults:=[],kwarg:=none,defaults:=[]}
def cE(s:Stmt):List Stmt:=match s with
 | .FunctionDef _ _ b _ _ _ _ _ _ _=>b
 | _=>[]
def aj(s:Stmt):Scope:=match s with
 | .FunctionDef _ _ _ _ _ _ sc _ _ _=>sc
 | _=>{ kind:=.function,names:=[],isGenerator:=false,isCoroutine:=false}
abbrev De:Jb:=λ_ _ _ _ _ _=>False
abbrev E0:XK:=λ_ _ _=>False
def aK{X:Cx}:Passes De X E0:=λ_ _ _ _ _ _ _ h=>h.elim
structure JM(K:bN)(x qual:Str)(st:Stmt)(f:Addr)(fd:FuncData):Prop where
 ex:∃(oc:Value) (od:Option Addr) (kV doc pm:Value) (an:Option Addr) (cdv ct:Value) (osl:Array (Option Value)),
  fd=PySem.W.fnOf x qual (eT st) (cE st) (aj st) .none kV doc pm an cdv ct/\K.lookup f=some ⟨oc,od,.func fd,osl⟩/\PySem.W.codeIn K cdv qual=true
 kp:PySem.W.keepIn K (.ref f)=true
section
variable {P:Program}{w:World}{K:bN}{mg:mQ}{base:Heap}
def JM.ok{x qual:Str}{st:Stmt}{f:Addr}{fd:FuncData}{N ps:List Str}{k:Nat}{sp:Sp}(F:JM K x qual st f fd)(S:aE N ps (aj st))(len:∀vs H Q E,sp vs H Q E->vs.length=ps.length)
 (hbody:∀(cdv:Value) (A:Around) (outer:List Env) (s:Shared) (H:Hp) (vs:List V) (Q:VK) (E:XK),eN k (A.deeper (envOfC qual (aj st) s.heap.objs.size f cdv))->sp vs H Q E->
  ∃t,uw (tU De P w K mg base N qual (aj st) f cdv A outer s H E).Dd (cE st) t/\t { nx:=λ_ H'=>Q .eE H',rt:=Q} (start N vs) H):lE P w K mg base De (k+1) f fd ps sp:=by
 obtain⟨oc,od,kV,doc,pm,an,cdv,ct,osl,rfl,I,G⟩:=F.ex;refine JD I G S len λA outer s H vs Q E hr O=>?_
 obtain⟨t,h,q⟩:=hbody cdv A outer s H vs Q E hr O;exact⟨t,h.Dd,q⟩
def JM.binds{x qual:Str}{st:Stmt}{f:Addr}{fd:FuncData}{ps:List Str}(F:JM K x qual st f fd)
 (h:∀(kV doc pm:Value) (an:Option Addr) (cdv ct:Value) (us:List Value),us.length=ps.length->bindArgs (PySem.W.fnOf x qual (eT st) (cE st) (aj st) .none kV doc pm an cdv ct) ⟨us,[]⟩=pure (ps.zip us)):Binds K fd ps []:=by
 obtain⟨oc,od,kV,doc,pm,an,cdv,ct,osl,rfl,I,G⟩:=F.ex;exact .all (h kV doc pm an cdv ct)
def JN{x qual:Str}{st:Stmt}{f:Addr}{oc:Value}{od an:Option Addr}{osl:Array (Option Value)}{kV doc pm cdv ct:Value}(l:K.lookup f=some ⟨oc,od,.func (PySem.W.fnOf x qual (eT st) (cE st) (aj st) .none kV doc pm an cdv ct),osl⟩)
 (c:PySem.W.codeIn K cdv qual=true) (k:PySem.W.keepIn K (.ref f)=true):JM K x qual st f (PySem.W.fnOf x qual (eT st) (cE st) (aj st) .none kV doc pm an cdv ct):=⟨⟨oc,od,kV,doc,pm,an,cdv,ct,osl,rfl,l,c⟩,k⟩
end
def A5{A:Around}{k:Nat}(hr:eN k A):A.units+1<cLine:=ab5 (Nat.add_le_add_left (by decide:1<=64) _) hr.units
def kT{n:Nat}(h:n<=1000):n<sizeLine:=ab5 h (by decide)
section
variable {X:Cx}
def pv(i:Nat){x:Str}{pos:Pos}(hN:X.N[i]?=some x:=by rfl)(hv:Vv X.env.scope x:=by first | exact Or.inl rfl | exact Or.inr (Or.inl rfl) | exact Or.inr (Or.inr rfl))(hd:(x==("__debug__":Str))=false:=by decide)
 (hcd:(x==("__classdict__":Str))=false:=by decide):PE X (.Name x pos) (SD i):=P8 hN hv hd hcd
end
def dN{A B:Prop}(h:B):if false=true then A else B:=by
 rw[aab aan];exact h
def fK{A B:Prop}(h:A):if true=true then A else B:=by
 rw[aac rfl];exact h
def oG{c A B:Prop}[Decidable c](h1:c->A)(h2 : ¬ c->B):if c then A else B:=by
 by_cases h:c
 ·rw[aac h];exact h1 h
 ·rw[aab h];exact h2 h
def O8{c A B:Prop}[Decidable c](hc:c)(h:B):if(!decide c)=true then A else B:=by
 rw[cD hc];exact dN h
def au(H H' : Hp):Prop:=∀b o,H b=some o->H' b=some o
def au.refl(H:Hp):au H H:=λ_ _ h=>h
def au.trans{H H1 H2:Hp}(a:au H H1)(b:au H1 H2):au H H2:=λc o h=>b c o (a c o h)
def au.free{H H' : Hp}(e:au H H'){l:Addr}(h:H' l=Option.none):H l=Option.none:=by
 cases q:H l with
 | none=>rfl
 | some o =>
   rw[e l o q]at h;cases h
def au.seq{K:bN}{H H' : Hp}{a:Addr}{xs:List V}(e:au H H')(h:aM K H a xs):aM K H' a xs:=by
 rcases h with(h|⟨o,h⟩) | h
 ·exact .inl (.inl (e _ _ h))
 ·exact .inl (.inr ⟨o,e _ _ h⟩)
 ·exact .inr h
def dQ(cells:List (Str×Addr)):List (Str×NameKind)->List (Str×Addr)->List (Str×Addr)
 | [],cs=>cs
 | (n,k)::r,cs=>dQ cells r (if(k==NameKind.free)=true then(n,(cells.lookup n).getD 0)::cs else cs)
def uZ{env:Env}{f:Str×NameKind->List (Str×Addr)->Sem (ForInStep (List (Str×Addr)))}
 (hf1:∀n k cs c,(k==NameKind.free)=true->env.cells.lookup n=some c->f (n,k) cs=pure (.yield ((n,c)::cs)))
 (hf2:∀n k cs,(k==NameKind.free)=false->f (n,k) cs=pure (.yield cs)) :
 ∀(names:List (Str×NameKind)) (cs:List (Str×Addr)),(∀n k,(n,k)∈names->(k==NameKind.free)=true->∃c,env.cells.lookup n=some c)->
  forIn names cs f=(pure (dQ env.cells names cs):Sem (List (Str×Addr)))
 | [],cs,_=>by rw[List.forIn_nil];rfl
 | (n,k)::r,cs,h=>by
   have G:=λcs=>uZ hf1 hf2 r cs λm j hm=>h m j (jt _ hm)
   rw[List.forIn_cons];cases e:(k==NameKind.free) with
   | true =>
     obtain⟨c,hc⟩:=h n k aam e;rw[hf1 n k cs c e hc,pure_bind];show forIn r ((n,c)::cs) f=_;rw[G]
     conv=>rhs;unfold dQ
     rw[aac e,hc];rfl
   | false =>
     rw[hf2 n k cs e,pure_bind];show forIn r cs f=_;rw[G]
     conv=>rhs;unfold dQ
     rw[aab (by rw[e];exact aan)]
def pe{scope:Scope}{env:Env}(h:∀n k,(n,k)∈scope.names->(k==NameKind.free)=true->∃c,env.cells.lookup n=some c):closureFor scope env=pure (dQ env.cells scope.names []):=by
 simp only[closureFor];rw[uZ (env:=env) ?_ ?_ scope.names [] h]
 ·rfl
 ·intro n k cs c e hc;show(if(k==NameKind.free)=true then _ else _)=_
  rw[aac e];unfold cellOf;rw[hc];rfl
 ·intro n k cs e;show(if(k==NameKind.free)=true then _ else _)=_
  rw[aab (by rw[e];exact aan)]
def jW{cells:List (Str×Addr)}{x:Str}{c:Addr}:∀{names:List (Str×NameKind)} {cs:List (Str×Addr)},(dQ cells names cs).lookup x=some c->cs.lookup x=some c\/((x,NameKind.free)∈names/\(cells.lookup x).getD 0=c)
 | [],cs,h=>.inl h
 | (n,k)::r,cs,h=>by
   unfold dQ at h;rcases jW h with q|⟨G,I⟩
   ·by_cases e:(k==NameKind.free)=true
    ·rw[aac e]at q
     by_cases hx:x=n
     ·subst hx;rw[ade]at q;have hk:k=NameKind.free:=eq_of_beq e;exact .inr ⟨by rw[hk];exact aam,Option.some.inj q⟩
     ·have hb:(x==n)=false:=beq_eq_false_iff_ne.mpr hx;simp only[abk,hb]at q;exact .inl q
    ·rw[aab e]at q;exact .inl q
   ·exact .inr ⟨jt _ G,I⟩
def jy{cells:List (Str×Addr)}{x:Str}:∀{names:List (Str×NameKind)} {cs:List (Str×Addr)},((x,NameKind.free)∈names\/∃c,cs.lookup x=some c)->∃c,(dQ cells names cs).lookup x=some c
 | [],cs,h=>by
   rcases h with h|h
   ·cases h
   ·exact h
 | (n,k)::r,cs,h=>by
   unfold dQ;apply jy;rcases h with h|⟨c,h⟩
   ·rcases aaq.mp h with h|h
    ·cases h
     right
     rw[aac (by rfl)]
     exact⟨_,ade⟩
    ·exact .inl h
   ·right
    by_cases e:(k==NameKind.free)=true
    ·rw[aac e]
     by_cases hx:x=n
     ·subst hx;exact⟨_,ade⟩
     ·have hb:(x==n)=false:=beq_eq_false_iff_ne.mpr hx;exact⟨c,by simp only[abk,hb];exact h⟩
    ·rw[aab e];exact⟨c,h⟩
def lF{env:Env}{x:Str}{k:NameKind}:∀{names:List (Str×NameKind)},
 (names.map λ(n,k)=>if(k==NameKind.free&&env.scope.kind == .function&&env.kindOf n==some .cell) then(n,NameKind.cell) else(n,k)).lookup x=some k->
  ∃k0,names.lookup x=some k0/\(k=k0\/(k0 = .free/\k = .cell))
 | [],h=>by cases h
 | (n,j)::r,h=>by
   have G:=@lF env x k r
   replace h:List.lookup x ((if(j==NameKind.free&&env.scope.kind == .function&&env.kindOf n==some .cell)=true then(n,NameKind.cell) else(n,j))::_)=some k:=h
   cases hx:x==n with
   | true =>
     by_cases hc:(j==NameKind.free&&env.scope.kind == .function&&env.kindOf n==some .cell)=true
     ·rw[aac hc]at h;simp only[abk,hx]at h ⊢;have hj:j=NameKind.free:=by
       rw[aaH,aaH]at hc;exact eq_of_beq hc.1.1
      exact⟨j,rfl,.inr ⟨hj,(Option.some.inj h).symm⟩⟩
     ·rw[aab hc]at h;simp only[abk,hx]at h ⊢;exact⟨j,rfl,.inl (Option.some.inj h).symm⟩
   | false =>
     by_cases hc:(j==NameKind.free&&env.scope.kind == .function&&env.kindOf n==some .cell)=true
     ·rw[aac hc]at h;simp only[abk,hx]at h ⊢;exact G h
     ·rw[aab hc]at h;simp only[abk,hx]at h ⊢;exact G h
def p8{env:Env}{x:Str}:∀{names:List (Str×NameKind)},names.lookup x=some .free->
 (names.map λ(n,k)=>if(k==NameKind.free&&env.scope.kind == .function&&env.kindOf n==some .cell) then(n,NameKind.cell) else(n,k)).lookup x=some .cell\/
 (names.map λ(n,k)=>if(k==NameKind.free&&env.scope.kind == .function&&env.kindOf n==some .cell) then(n,NameKind.cell) else(n,k)).lookup x=some .free
 | [],h=>by cases h
 | (n,j)::r,h=>by
   have G:=@p8 env x r;show List.lookup x ((if(j==NameKind.free&&env.scope.kind == .function&&env.kindOf n==some .cell)=true then(n,NameKind.cell) else(n,j))::_)=_\/
    List.lookup x ((if(j==NameKind.free&&env.scope.kind == .function&&env.kindOf n==some .cell)=true then(n,NameKind.cell) else(n,j))::_)=_
   cases hx:x==n with
   | true =>
     simp only[abk,hx]at h;cases h
     by_cases hc:(NameKind.free==NameKind.free&&env.scope.kind == .function&&env.kindOf n==some .cell)=true
     ·rw[aac hc];simp only[abk,hx];exact .inl trivial
     ·rw[aab hc];simp only[abk,hx];exact .inr trivial
   | false =>
     simp only[abk,hx]at h
     by_cases hc:(j==NameKind.free&&env.scope.kind == .function&&env.kindOf n==some .cell)=true
     ·rw[aac hc];simp only[abk,hx];exact G h
     ·rw[aab hc];simp only[abk,hx];exact G h
def dR(X:Cx)(N:List Str)(scope:Scope)(xe:dh)(C:Addr)(s:Shared)(H:Hp)(fp:List Addr):Cx where
 prog:=X.prog
 w:=X.w
 K:=X.K
 mg:=X.mg
 base:=X.base
 A:=X.A
 N:=N
 s₀:=s
 H₀:=H
 env:=compEnvC scope (dQ X.env.cells scope.names []) C X.env
 outer:=X.stack
 stack:=X.stack
 ex:=fp
 fn:=λ_=>false
 calm:=X.calm
 pn:=[]
 xe:=xe
def fL(σ:St)(js:List Nat):St:=js.map λj=>(σ[j]?).getD none
structure eg(X:Cx)(scope:Scope)(own fq:List Str)(js:List Nat):Prop where
 kind:scope.kind = .function
 zf:∀y∈scope.names,y.2≠.cell
 names:∀y∈scope.names,y.2 = .local->scope.names.lookup y.1=some .local
 free:∀y∈scope.names,y.2 = .free->X.env.scope.names.lookup y.1=some .cell\/X.env.scope.names.lookup y.1=some .free
 at_:js.map (λj=>X.N[j]?)=fq.map some
 fr:∀x∈fq,scope.names.lookup x=some .free
def u4{σ:St}{js:List Nat}{i:Nat}{v:V}(h:(fL σ js)[i]?=some (some v)):∃j,js[i]?=some j/\σ[j]?=some (some v):=by
 unfold fL at h;rw[aai]at h;cases e:js[i]? with
 | none=>rw[e]at h;cases h
 | some j =>
   rw[e]at h;have h' : (σ[j]?).getD none=some v:=Option.some.inj h;refine⟨j,rfl,?_⟩;cases q:σ[j]? with
   | none=>rw[q]at h';cases h'
   | some o=>rw[q]at h';rw[show o=some v from h']
section
variable {X:Cx}
def g9{pq:aQ}{σ:St}{H:Hp}{s:Shared}{scope:Scope}{own fq:List Str}{js:List Nat}(I:Inv X pq σ H s)(T:eg X scope own fq js):
 ∀n k,(n,k)∈scope.names->(k==NameKind.free)=true->∃c,X.env.cells.lookup n=some c:=λn k hm e=>by
 have hk:k=NameKind.free:=eq_of_beq e;exact I.ok.has n (T.free (n,k) hm hk)
def JO{pq:aQ}{σ:St}{H:Hp}{s:Shared}{scope:Scope}{own fq:List Str}{js:List Nat}{fp:List Addr}{D C:Addr}{h1:Heap}{t1:Nat}{m:mQ}{xe:dh}
 (I:Inv X pq σ H s) (T:eg X scope own fq js) (hf:∀b∈fp,o7 X pq H b) (hfo:∀b∈fp,∃o,s.heap.get? b=some o) (hD:s.heap.objs.size<=D) (hC:s.heap.objs.size<=C) (hDC:D≠C)
 (old:∀b o,s.heap.get? b=some o->h1.get? b=some o) (hl:h1.get? D=some { cls:=.type "list",data:=.seq ([]:List Value).toArray 0}) (hn:h1.Ns C m) :
 Inv (dR X (own++fq) scope xe C s H fp) [] (List.replicate own.length none++fL σ js) (upd H D (.lst [])) { s with heap:=h1,toks:=t1}:=by
 have cells:∀x c,(dQ X.env.cells scope.names []).lookup x=some c->X.env.cells.lookup x=some c:=λx c h=>by
  rcases jW h with q|⟨q1,q2⟩
  ·cases q
  ·obtain⟨c',G⟩:=g9 I T x .free q1 rfl;rw[G]at q2;rw[G];exact aaU some q2
 have Tp:∀b o,s.heap.get? b=some o->b<s.heap.objs.size:=λb o e=>aal e
 have ag:∀x c,X.env.cells.lookup x=some c->c<s.heap.objs.size:=λx c e=>by
  obtain⟨v,q⟩:=I.cell x c e;exact q.lt
 have ax:∀b∈frs X.stack,b<s.heap.objs.size:=λb hb=>by
  obtain⟨_,o,ho,_⟩:=I.stack.mem hb;exact aal ho
 have ar:H D=none:=I.hok.fresh hD;have Ql:H C=none:=I.hok.fresh hC;refine⟨⟨I.ok.mod,T.kind,I.ok.glob,I.ok.blt,hC,λx y c a b=>I.ok.inj x y c (cells x c a) (cells y c b),λx hx=>?_,λx c z _=>(nomatch z),I.ok.hd,I.ok.frames,.inl rfl,λb hb=>⟨?_,λx c e z=>?_⟩,
  λb o e=>I.bs b o e,aaE I.ok.Jm I.sz,λb o e hb=>?_,λb hb z=>?_,I.stack,I.ur⟩,
  rfl,I.bare,Un.laid old hD ar,⟨m,hn,λi x v U Z e3=>?_⟩,λx c e=>?_,?_,λx c e=>?_,λp hp=>absurd (show p∈([]:aQ) from hp) (by simp),?_,?_⟩
 ·
  have hx:(relabel scope X.env).names.lookup x=some .cell\/(relabel scope X.env).names.lookup x=some .free:=hx;have aw:(x,NameKind.free)∈scope.names:=by
   rcases hx with hx|hx
   ·obtain⟨k0,q,r⟩:=lF hx;have hm:=abj q;rcases r with r|⟨r,_⟩
    ·exact absurd r.symm (T.zf _ hm)
    ·rw[r]at hm;exact hm
   ·obtain⟨k0,q,r⟩:=lF hx;have hm:=abj q;rcases r with r|⟨_,r⟩
    ·rw[<-r]at hm;exact hm
    ·cases r
  exact jy (.inl aw)
 ·
  obtain⟨o,ho⟩:=hfo b hb;exact aay (aap (Tp b o ho) hC)
 ·exact(hf b hb).2.2.2.2.1 x c (cells x c e) z
 ·
  obtain⟨_,_,_,f3,_,_⟩:=hf b hb;rcases f3 with z|z
  ·exact I.ok.Gz b o e z
  ·exact absurd (aap (aal (I.ok.bs b o e).1) z) (aa8 _)
 ·
  obtain⟨_,f1,f2,_⟩:=hf b hb;rcases aaq.mp (I.uO b z) with q|q
  ·exact f1 q
  ·exact f2 q
 ·
  by_cases hi:i<own.length
  ·rw[aaK (by simpa using hi),abZ,aac hi]at Z
   cases Z
  ·rw[aaQ (by simpa using hi),abv]at Z
   replace U:(own++fq)[i]?=some x:=U
   rw[aaQ (by lia)]at U
   obtain⟨j,hj,hσ⟩:=u4 Z;have hN:X.N[j]?=some x:=by
    have q:=aaU (λl=>l[i-own.length]?) T.at_
    simp only[aai,hj,U,abX]at q;exact Option.some.inj q
   have Y:=T.fr x (iV U);have hm:=abj Y;have hk:=T.free (x,.free) hm rfl;obtain⟨m0,aT,FD⟩:=I.loc;obtain⟨u,r,l⟩:=FD j x v hN hσ (by rcases hk with k|k;exact .inr (.inl k);exact .inr (.inr k))
   refine⟨u,r,.inr ⟨p8 Y,?_⟩⟩;rcases l with⟨mV,_⟩|⟨_,c,hc,O⟩
   ·have mV:X.env.scope.names.lookup x=some .local:=mV;rcases hk with k|k<;>(rw[mV]at k;cases k)
   ·obtain⟨c',G⟩:=jy (cells:=X.env.cells) (names:=scope.names) (cs:=[]) (x:=x) (.inl hm);have q:=cells x c' G;rw[hc]at q;cases q;exact⟨c,G,O.keeps old⟩
 ·
  obtain⟨v,q⟩:=I.cell x c (cells x c e);exact⟨v,q.keeps old⟩
 ·
  show upd H D (.lst []) C=none;rw[ao (aba hDC)];exact Ql
 ·show upd H D (.lst []) c=none;have e:=cells x c e;rw[ao (aay (aap (ag x c e) hD))];exact I.ee x c e
 ·exact I.hok.laid old hD ⟨aaL _,[],0,.nil,hl⟩
 ·show _=(own++fq).length;have q:=aaU List.length T.at_;rw[aaa,aaa]at q;rw[aao,aao,abv];unfold fL;rw[aaa,q]
def oO{pq:aQ}{σ σ' : St}{H H' : Hp}{s s' : Shared}{scope:Scope}{N:List Str}{fp:List Addr}{C:Addr}{h' : Heap}{xe:dh}
 (I:Inv X pq σ H s) (hf:∀b∈fp,o7 X pq H b) (hC:s.heap.objs.size<=C) (J:Inv (dR X N scope xe C s H fp) [] σ' H' s') (sb:Heap.SameBut C s'.heap h'):Inv X pq σ H' { s' with heap:=h'}:=by
 have G:H' C=none:=J.free;refine I.Jp (ch:=fp) J.os ?_ ?_ J.bare (λb hb=>?_)
 ·have u:Un (frs X.stack) fp H H' s.heap s'.heap:=J.base;have ne:∀b o,s.heap.get? b=some o->b≠C:=λb o e=>aay (aap (aal e) hC)
  refine⟨λb o e n hb hx=>(sb.2 b (ne b o e)).trans (u.keep b o e n hb hx),λb o e n hb hx=>?_,u.free,λb o e hx=>?_,u.tups,u.jS,u.kR⟩
  ·obtain⟨sl,q⟩:=u.slot b o e n hb hx;exact⟨sl,(sb.2 b (ne b o e)).trans q⟩
  ·obtain⟨o',q⟩:=u.there b o e hx;exact⟨o',(sb.2 b (ne b o e)).trans q⟩
 ·intro b ob e;refine(J.hok b ob e).stay (λc O hc q=>(sb.2 c ?_).trans q) (λ_ q=>q) λ_ _ q=>q
  rintro rfl;rcases hc with rfl|hc
  ·rw[G]at e;cases e
  ·rw[G]at hc;cases hc
 ·obtain⟨_,f1,_,f3,f4,f5⟩:=hf b hb;exact⟨f3,f1,f4,f5⟩
end
section
variable {prog:Program}{w:World}{A:Around}{R:Result->Shared->Prop}{s:Shared}
abbrev FE(ifs:List Expr)(env:Env):Sem Bool:=forIn ifs true λc r=>if r=true then do let ok←isTrue c env (eval c env);pure (ForInStep.yield ok) else pure (ForInStep.yield r)
def zg{elt target iter:Expr}{ifs:List Expr}{scope:Scope}{pos:Pos}{it acc:Value}{env:Env}(I:Nat->Shared->Prop)
 (turn:∀n s,I n s->wpAny (model prog w) A (pyNext it) (λr G=>match r with
  | none=>R (.ok .next) G
  | some v=>wpAny (model prog w) A (letOwnedTupleGo target it v) (λ_ s₀=>wpAny (model prog w) A (assign target env v) (λ_ U =>
   wpAny (model prog w) A (FE ifs env) (λok O =>
    if ok=true then wpAny (model prog w) A (eval elt env) (λx Y =>
     wpAny (model prog w) A (call (.builtin "list.append") [acc,x]) (λ_ Z=>∃m,m<n/\I m Z) (notedBy (model prog w) A env λe s'=>R (.error e) s') Y) (notedBy (model prog w) A env λe s'=>R (.error e) s') O
    else ∃m,m<n/\I m O) (notedBy (model prog w) A env λe s'=>R (.error e) s') U) (notedBy (model prog w) A env λe s'=>R (.error e) s') s₀) (notedBy (model prog w) A env λe s'=>R (.error e) s') G) (notedBy (model prog w) A env λe s'=>R (.error e) s') s)
 (n:Nat) (h:I n s) :
 codeAny (model prog w) A (.compLoop (.ListComp elt [⟨target,iter,ifs,0⟩] scope pos) 0 it acc env) R s:=by
 refine codeAny_loop rfl I (λn s hI=>?_) n h
 show wpAny _ A ((compTurn (.ListComp elt [⟨target,iter,ifs,0⟩] scope pos) 0 it acc env).onRaise (λx=>do noteFrame x env;theTreesLotGoes x)) _ _ s
 refine wpAny_noted ?_;rw[compTurn_list];refine aN (wpAny_standAt (aN (aaD (turn n s hI) (λr G h₁=>?_) λ_ _ h'=>h')))
 cases r with
 | none=>exact aah h₁
 | some v =>
   refine aN (aaD h₁ (λ_ s₀ h₀=>?_) λ_ _ h'=>h')
   refine aN (aaD h₀ (λ_ U h₂=>aN (aaD h₂ (λok O h₃=>?_) λ_ _ h'=>h')) λ_ _ h'=>h')
   cases ok with
   | false=>exact aah ⟨rfl,h₃⟩
   | true =>
     exact aN (aN (aaD h₃ (λx Y h₄=>aN (aaD h₄ (λ_ Z h₅=>aah (aah ⟨rfl,h₅⟩)) λ_ _ h'=>h')) λ_ _ h'=>h'))
end
def Tq(X:Cx)(ifs:List Expr)(t:TT):Prop :=
 ∀(pq:aQ) (s:Shared) (σ:St) (H:Hp) (Q:Bool->Hp->Prop),Inv X pq σ H s->t σ H Q->wpAny (model X.prog X.w) X.A (FE ifs X.env) (TP X pq σ Q) X.xe s
def Tr:TT:=λ_ H Q=>Q true H
def bX{X:Cx}:Tq X [] Tr:=λ_ _ _ H _ I h=>wpAny_tests_nil ⟨H,I,h⟩
def dw{X:Cx}{c:Expr}{t:TT}(h:PT X c t):Tq X [c] t:=λpq s σ H Q I q=>wpAny_tests_one (h pq s σ H Q I q)
def jz(J:It)(g:TG)(tt:TT)(te:TE)(n:Nat)(fr:St)(D:Addr)(Q:Hp->Prop)(H1:Hp):Prop :=
 ∃W:Nat->Nat->List V->Hp->Prop,(∃m,W 0 m [] H1)/\∀i m acc H,W i m acc H->H D=some (.lst acc)/\
   ((J.stop i H/\Q H)\/(J.go i H/\acc.length<sizeLine/\∃N:List V->Hp->Prop,(∀G H',N G H'->∃I,I<m/\W (i+1) I G H')/\
     ∀x H',J.MU i H x H'->g x (List.replicate n none++fr) H' λσ2 H2=>σ2.drop n=fr/\tt σ2 H2 λb H3 =>
     if b=true then te σ2 H3 λv H4=>H4 D=some (.lst acc)/\N (acc++[v]) (upd H4 D (.lst (acc++[v])))
     else N acc H3))
def O9(wi:TI)(g:TG)(tt:TT)(te:TE)(n:Nat)(js:List Nat):TE:=λσ H Q=>wi σ H λJ H1=>∀D,H1 D=none->jz J g tt te n (fL σ js) D (λH2=>Q (.ref D) H2) (upd H1 D (.lst []))
structure Pa(A:Around)(cm:Bool)(P:Program)(w:World)(K:bN)(tg:Expr)(J:It)(fp:List Addr)(it:Addr)(tn:Nat->Heap->Prop):Prop where
 mem:it∈fp
 obj:∀i h,tn i h->∀b∈fp,∃o,h.get? b=some o/\∀v,o.data≠.cell v
 keep:∀i h h',tn i h->(∀b∈fp,∀o,h.get? b=some o->h'.get? b=some o)->tn i h'
 item:∀(X:Cx),X.prog=P->X.w=w->X.K=K->X.A=A->X.calm=cm->∀(i:Nat) (pq:aQ) (s:Shared) (σ:St) (H:Hp) (E:dh),Inv X pq σ H s->(∀b∈fp,o7 X pq H b)->tn i s.heap->J.go i H->
  wpAny (model P w) X.A (pyNext (.ref it)) (λr s1=>∃u,r=some u/\
   wpAny (model P w) X.A (letOwnedTupleGo tg (.ref it) u) (λ_ s2=>∃x H',Inv X pq σ H' s2/\RelV x u/\J.MU i H x H'/\tn (i+1) s2.heap/\∀b∈fp,H' b=none) E s1) E s
 done:∀(X:Cx),X.prog=P->X.w=w->X.K=K->X.A=A->X.calm=cm->∀(i:Nat) (pq:aQ) (s:Shared) (σ:St) (H:Hp) (E:dh),Inv X pq σ H s->(∀b∈fp,o7 X pq H b)->tn i s.heap->J.stop i H->
  wpAny (model P w) X.A (pyNext (.ref it)) (λr s1=>r=none/\Inv X pq σ H s1) E s
 self:∀(A:Around) (i:Nat) (s:Shared) (Q:dh) (E:dh),tn i s.heap->Q (.ref it) s->wpAny (model P w) A (pyIter (.ref it)) Q E s
def Turn.x{A:Around}{cm:Bool}{P:Program}{w:World}{K:bN}{tg:Expr}{J:It}{fp:List Addr}{it:Addr}{tn:Nat->Heap->Prop}(T:Turn P w K tg J fp it tn)(hc:cm=true):Pa A cm P w K tg J fp it tn :=
 ⟨T.mem,T.obj,T.keep,λX a b c _ d=>T.item X a b c (d.trans hc),λX a b c _ d=>T.done X a b c (d.trans hc),T.self⟩
section
variable {X:Cx}{elt iter tg:Expr}{ifs:List Expr}{scope:Scope}{pos:Pos}{own fq:List Str}{js:List Nat}{wi:TI}{g:TG}{tt:TT}{te:TE}
def u6{pq:aQ}{σ:St}{H2:Hp}{s2:Shared}{it:Addr}{fp:List Addr}{tn:Nat->Heap->Prop}{J:It}{E:dh}{RR:Value->Addr->Result->Shared->Prop}{QQ:Addr->Hp->Prop}
 (T:eg X scope own fq js)
 (hg:∀C s H fp,PG (dR X (own++fq) scope (λ_ _=>False) C s H fp) tg g)
 (ht:∀C s H fp,Tq (dR X (own++fq) scope (λ_ _=>False) C s H fp) ifs tt)
 (he:∀C s H fp,PE (dR X (own++fq) scope (λ_ _=>False) C s H fp) elt te)
 (I2:Inv X pq σ H2 s2) (Jd:Pa X.A X.calm X.prog X.w X.K tg J fp it tn) (st2:tn 0 s2.heap) (f2:∀b∈fp,o7 X pq H2 b)
 (hl:∀D,H2 D=none->jz J g tt te own.length (fL σ js) D (QQ D) (upd H2 D (.lst [])))
 (hRR:∀D C σ' H' s',s2.heap.objs.size<=C->Inv (dR X (own++fq) scope (λ_ _=>False) C s2 H2 fp) [] σ' H' s'->QQ D H'->RR (.ref D) C (.ok .next) s') :
 wpAny (model X.prog X.w) X.A (newList []) (λacc U=>wpAny (model X.prog X.w) X.A (newFunctionEnv scope X.env.globals (dQ X.env.cells scope.names []) [] X.env.qual none .none (some X.env)) (λG s₄ =>
  codeAny (model X.prog X.w) X.A (.compStart (.ListComp elt [⟨tg,iter,ifs,0⟩] scope pos) 0 (.ref it) acc { G with scope:=relabel scope X.env}) (RR acc G.locals) s₄) E U) E s2:=by
 refine wpAny_newObj_type (wpAny_newFunctionEnv T.zf (by intro y hy;simp at hy) (λh₁ Qm ND=>?_) T.kind)
 dsimp only at Qm ND ⊢;generalize NF:s2.heap.push { cls:=.type "list",dict:=none,data:=.seq ([]:List Value).toArray}=G2 at Qm ND ⊢;have hC:G2.objs.size=s2.heap.objs.size+1:=by rw[<-NF,Heap.size_push]
 have Y:s2.heap.objs.size≠G2.objs.size:=by rw[hC];exact aay (acf _)
 have Tt:s2.heap.objs.size<=G2.objs.size:=by rw[hC];exact abF _
 have below:∀b,b<s2.heap.objs.size->b≠G2.objs.size:=λb hb=>by rw[hC];exact aay (abu hb)
 have old:∀b o,s2.heap.get? b=some o->h₁.get? b=some o:=λb o e=>ND.extBut b o (below b (aal e)) (aak _ (NF▸aak _ e))
 have Z:h₁.get? s2.heap.objs.size=some { cls:=.type "list",data:=.seq ([]:List Value).toArray 0}:=ND.extBut _ _ Y (aak _ (NF▸aaB _ rfl));have WX:∀b∈fp,∃o,s2.heap.get? b=some o:=λb hb=>let⟨o,e,_⟩:=Jd.obj _ _ st2 b hb;⟨o,e⟩
 have ag:tn 0 h₁:=Jd.keep _ _ _ st2 λb _ o e=>old b o e
 obtain⟨W,⟨m0,w0⟩,turn⟩:=hl s2.heap.objs.size (I2.hok.fresh (aaf _));have I:∀{H' : Hp},(∀b∈fp,H' b=none)->∀b∈fp,o7 (dR X (own++fq) scope (λ_ _=>False) G2.objs.size s2 H2 fp) [] H' b:=λ{H'} hn b hb=>by
  obtain⟨_,f1,ax,_,f4,_⟩:=f2 b hb;obtain⟨o,ho⟩:=WX b hb;refine⟨hn b hb,below b (aal ho),λz=>?_,.inl hb,λx c e=>?_,λp hp=>absurd (show p∈([]:aQ) from hp) (by simp)⟩
  ·rcases aaq.mp (I2.uO b z) with q|q
   ·exact f1 q
   ·exact ax q
  ·rcases jW (show(dQ X.env.cells scope.names []).lookup x=some c from e) with q|⟨q1,q2⟩
   ·cases q
   ·obtain⟨c',ar⟩:=g9 I2 T x .free q1 rfl;rw[ar]at q2;have q2:c' = c:=q2;rw[<-q2];exact f4 x c' ar
 have aT:∀b∈fp,upd H2 s2.heap.objs.size (.lst []) b=none:=λb hb=>by
  obtain⟨o,ho⟩:=WX b hb;rw[ao (aay (aal ho))];exact(f2 b hb).1
 have back:∀{σ6:St} {p6:aQ} {H6:Hp} {s6:Shared},Inv (dR X (own++fq) scope (λ_ _=>False) G2.objs.size s2 H2 fp) p6 σ6 H6 s6->σ6.drop own.length=fL σ js->
  Inv (dR X (own++fq) scope (λ_ _=>False) G2.objs.size s2 H2 fp) [] (List.replicate own.length none++fL σ js) H6 s6:=λ{σ6 p6 H6 s6} I6 hd=>by
  have a3:σ6.length=(own++fq).length:=I6.len;have J6:=I6.gG (uv:=[]) λp hp=>absurd hp (by simp)
  refine J6.weak ?_ λi v e=>?_
  ·have q:=aaU List.length hd;rw[acA]at q;rw[aao]at a3;rw[aao,abv]
   lia
  ·by_cases hi:i<own.length
   ·rw[aaK (by simpa using hi),abZ,aac hi]at e
    cases e
   ·rw[aaQ (by simpa using hi),abv,<-hd,List.getElem?_drop]at e
    rw[show own.length+(i-own.length)=i by lia]at e
    exact e
 have loop:∀U:Shared,U={ s2 with heap:=h₁,toks:=s2.toks+([]:List (Str×Value)).length}->
  codeAny (model X.prog X.w) X.A (.compLoop (.ListComp elt [⟨tg,iter,ifs,0⟩] scope pos) 0 (.ref it) (.ref s2.heap.objs.size) (compEnvC scope (dQ X.env.cells scope.names []) G2.objs.size X.env))
   (RR (.ref s2.heap.objs.size) G2.objs.size) U:=by
  rintro U rfl;refine zg (λn s'=>∃i acc H',Inv (dR X (own++fq) scope (λ_ _=>False) G2.objs.size s2 H2 fp) [] (List.replicate own.length none++fL σ js) H' s'/\tn i s'.heap/\(∀b∈fp,H' b=none)/\W i n acc H') ?_ m0
   ⟨0,[],upd H2 s2.heap.objs.size (.lst []),JO I2 T f2 WX (aaf _) Tt Y old Z Qm,ag,aT,w0⟩
  rintro n s3 ⟨i,acc,H3,I3,aw,O2,w3⟩;obtain⟨xo,Tu⟩:=turn i n acc H3 w3;rcases Tu with⟨stop,qn⟩|⟨go,hz,NN,YU,step⟩
  ·refine aaD (Jd.done (dR X (own++fq) scope (λ_ _=>False) G2.objs.size s2 H2 fp) rfl rfl rfl rfl rfl i [] s3 _ H3 (λ_ _=>False) I3 (I O2) aw stop) (λr s4 ⟨hr,I4⟩=>?_) λ_ _ z=>z.elim
   subst hr;exact hRR _ _ _ H3 s4 Tt I4 qn
  ·refine aaD (Jd.item (dR X (own++fq) scope (λ_ _=>False) G2.objs.size s2 H2 fp) rfl rfl rfl rfl rfl i [] s3 _ H3 (λ_ _=>False) I3 (I O2) aw go) (λr s4 ⟨u,hr,h4⟩=>?_) λ_ _ z=>z.elim
   subst hr;refine aaD h4 (λ_ s5 ⟨x,H5,I5,r5,y5,Ju,SW⟩=>?_) λ_ _ z=>z.elim
   have SX:=I5.pinned (I SW) (Jd.obj _ _ Ju);refine aaD (hg _ _ _ _ _ s5 _ H5 x u _ SX r5 (step x H5 y5)) (λ_ s6 ⟨σ6,H6,I6,YV,q6⟩=>?_) λ_ _ z=>z.elim
   refine aaD (ht _ _ _ _ _ s6 σ6 H6 _ I6 q6) (λok s7 ⟨H7,I7,q7⟩=>?_) λ_ _ z=>z.elim
   have again:∀{O:Hp} {s8:Shared},Inv (dR X (own++fq) scope (λ_ _=>False) G2.objs.size s2 H2 fp) ([]++qU fp s5.heap) σ6 O s8->tn (i+1) s8.heap/\∀b∈fp,O b=none:=λ{O s8} I8=>by
    refine⟨Jd.keep _ _ _ Ju λb hb o e=>(I8.pin (b,o) (iO _ (iO _ (g7 hb e)))).1,λb hb=>?_⟩
    obtain⟨o,e,d⟩:=Jd.obj _ _ Ju b hb;exact(I8.pin (b,o) (iO _ (iO _ (g7 hb e)))).2.1
   cases ok with
   | false =>
     rw[aab aan];obtain⟨m',hm,w7⟩:=YU _ _ q7;obtain⟨t7,n7⟩:=again I7;exact⟨m',hm,i+1,acc,H7,back I7 YV,t7,n7,w7⟩
   | true =>
     rw[aac rfl];refine aaD (he _ _ _ _ _ s7 σ6 H7 _ I7 q7) (λxv s8 ⟨v,O,I8,r8,a4,q8⟩=>?_) λ_ _ z=>z.elim
     obtain⟨m',hm,w8⟩:=YU _ _ q8;refine aaD (c9 (X:=dR X (own++fq) scope (λ_ _=>False) G2.objs.size s2 H2 fp) _ s8 σ6 O (.ref s2.heap.objs.size) [v] (.ref s2.heap.objs.size) [xv] (λy H9=>y = .eE/\H9=upd O s2.heap.objs.size (.lst (acc++[v]))) I8 rfl (.cons r8 .nil) ⟨_,acc,v,rfl,rfl,a4,hz,rfl,rfl⟩)
      (λ_ s9 ⟨y,H9,I9,_,_,e9⟩=>?_) λ_ _ z=>z.elim
     subst e9;obtain⟨t9,n9⟩:=again I9;exact⟨m',hm,i+1,acc++[v],_,back I9 YV,t9,n9,w8⟩
 exact codeAny_compStart_list (loop _ rfl) (Jd.self _ 0 _ _ _ ag (loop _ rfl))
def bB(T:eg X scope own fq js)(hc:X.calm=true)(hi:PI X tg iter wi)
 (hg:∀C s H fp,PG (dR X (own++fq) scope (λ_ _=>False) C s H fp) tg g)
 (ht:∀C s H fp,Tq (dR X (own++fq) scope (λ_ _=>False) C s H fp) ifs tt)
 (he:∀C s H fp,PE (dR X (own++fq) scope (λ_ _=>False) C s H fp) elt te)
 (hs:∀x,foldedSetIterable iter X.env x=pure x:=by intro _;rfl) :
 PE X (.ListComp elt [⟨tg,iter,ifs,0⟩] scope pos) (O9 wi g tt te own.length js):=by
 intro pq s σ H Q I h;rw[eval_ListComp];refine wpAny_comprehension_free (use:=none) rfl hs (pe (g9 I T)) T.kind T.names ?_;refine aaD (hi pq s σ H _ I h) (λv s1 h1=>aaD h1 (λY s2 h2=>?_) λ_ _ z=>z) λ_ _ z=>z
 obtain⟨it,fp,tn,J,H2,e,O,Z,G,f2,hl⟩:=h2;subst e;refine u6 (QQ:=λD H'=>Q (.ref D) H') T hg ht he O (Z.x hc) G f2 hl λD C σ' H' s' hC U q=>?_
 obtain⟨m,hn,_⟩:=U.loc;exact⟨m,hn,λh' sb=>⟨.ref D,H',oO O f2 hC U sb,rfl,q⟩⟩
def JP(i:Nat)(wi:TI)(g:TG)(tt:TT)(te:TE)(n:Nat)(js:List Nat):TS:=λD σ H=>O9 wi g tt te n js σ H λv H1=>D.nx (σ.set i (some v)) H1
def ff{i:Nat}{x:Str}{pos' spos:Pos}(hN:X.N.Nodup)(hix:X.N[i]?=some x)(hx:X.env.scope.names.lookup x=some .local)(T:eg X scope own fq js)(hc:X.calm=true)(hi:PI X tg iter wi)
 (hg:∀C s H fp,PG (dR X (own++fq) scope (λ_ _=>False) C s H fp) tg g)
 (ht:∀C s H fp,Tq (dR X (own++fq) scope (λ_ _=>False) C s H fp) ifs tt)
 (he:∀C s H fp,PE (dR X (own++fq) scope (λ_ _=>False) C s H fp) elt te)
 (hsw:swapsWith (.ListComp elt [⟨tg,iter,ifs,0⟩] scope pos) (some (.Name x pos')) spos.line X.env=pure true:=by rfl)
 (hs:∀x,foldedSetIterable iter X.env x=pure x:=by intro _;rfl) :
 PS X (.Assign [.Name x pos'] (.ListComp elt [⟨tg,iter,ifs,0⟩] scope pos) spos) (JP i wi g tt te own.length js):=by
 intro pq s σ H D I h;rw[exec_Assign_Name_used _ _ _ _ hsw];refine aN (wpAny_standAt (aN ?_));show wpAny _ X.A (do let _←comprehension (.ListComp elt [⟨tg,iter,ifs,0⟩] scope pos) scope X.env _ (newList []) false (eval iter X.env) (some (assign (.Name x pos') X.env))) _ _ s
 refine aN (aaD (wpAny_comprehension_free (use:=some (assign (.Name x pos') X.env)) (Q:=λ_ s'=>SP X pq D .next s') rfl hs (pe (g9 I T)) T.kind T.names ?_) (λ_ s' hq=>aah (aah hq)) λ_ _ e=>e)
 refine aaD (hi pq s σ H _ I h) (λv s1 h1=>aaD h1 (λar s2 h2=>?_) λ_ _ z=>z) λ_ _ z=>z
 obtain⟨it,fp,tn,J,H2,e,G,Jd,Y,f2,hl⟩:=h2;subst e;refine u6 (QQ:=λU H'=>D.nx (σ.set i (some (.ref U))) H') T hg ht he G (Jd.x hc) Y f2 hl λU C σ' H' s' O Z q=>?_
 have I3:Inv X pq σ H' s':=by
  obtain⟨hh,gg,dd,aw,oo⟩:=s';exact oO G f2 O Z (Heap.SameBut.refl ..)
 obtain⟨m,hn,_⟩:=Z.loc;obtain⟨oC,es,ep,hoC,YW,rest⟩:=id hn;have Ql:H' C=none:=Z.free;have YX:C≠X.env.locals:=abC (aap G.lt O);have ag:C∉X.fs:=λz=>by
  obtain⟨_,o,ho,_⟩:=G.funs.mem z;exact absurd (aap (aal ho) O) (aa8 _)
 have I4:Inv X (pq++[(C,oC)]) σ H' s':=I3.gG λp hp=>(aaw.mp hp).elim (λz=>I3.pin p (iO _ z)) λz=>by
  have e:p=(C,oC):=by simpa using z
  subst e;exact⟨hoC,Ql,YX,ag,λv z=>by have z' : oC.data = .cell v:=z;rw[YW]at z';cases z'⟩
 show wpAny _ X.A (assign (.Name x pos') X.env (.ref U)) _ _ _;refine wpAny_assign_Name (mZ (v:=.ref U) I4 hN hix (.inl hx) rfl (λs5 I5=>?_) (.inr hx))
 have e5:s5.heap.get? C=some oC:=(I5.pin (C,oC) (iO _ (iO _ (by simp)))).1
 refine⟨m,⟨oC,es,ep,e5,YW,rest⟩,λh' sb=>⟨_,H',?_,q⟩⟩
 have I6:Inv X pq (σ.set i (some (.ref U))) H' s5:=I5.jw;refine I6.turned (t':=s5.toks) (λb o hb e=>(sb.2 b hb).trans e) Ql YX (.inr (aaE G.sz O)) (λy c e=>?_) (λp hp z=>?_)
 ·obtain⟨v,qc⟩:=G.cell y c e;exact aay (aap qc.lt O)
 ·have MV:=(G.pin p hp).1;exact absurd (aap (aal MV) (by rw[z];exact O)) (aa8 _)
end
section
variable {K:bN}{a:Addr}{xs:List V}{g:TG}{tt:TT}{te:TE}{n:Nat}{fr:St}{D:Addr}{Q:Hp->Prop}{H1:Hp}
def bu(Pv:Nat->List V->Hp->Prop)(h0:Pv 0 [] H1)(hl:∀i acc H,i<=xs.length->Pv i acc H->aM K H a xs/\H D=some (.lst acc)/\acc.length<=i)(hz:xs.length<=sizeLine)
 (hs:∀i x acc H,xs[i]?=some x->Pv i acc H->g x (List.replicate n none++fr) H λσ2 H2=>σ2.drop n=fr/\tt σ2 H2 λb H3 =>
  if b=true then te σ2 H3 λv H4=>H4 D=some (.lst acc)/\Pv (i+1) (acc++[v]) (upd H4 D (.lst (acc++[v]))) else Pv (i+1) acc H3)
 (hd:∀acc H,Pv xs.length acc H->Q H):jz (Nj K a) g tt te n fr D Q H1:=by
 refine⟨λi m acc H=>m=xs.length-i/\i<=xs.length/\Pv i acc H,⟨xs.length,by simp,aaL _,h0⟩,?_⟩
 rintro i m acc H ⟨rfl,hi,p⟩;obtain⟨q,O,ha⟩:=hl i acc H hi p;refine⟨O,?_⟩
 by_cases G:i<xs.length
 ·refine .inr ⟨⟨xs,xs[i],q,by simp[G]⟩,by lia,Pv (i+1),λI H' U=>⟨xs.length-(i+1),by lia,rfl,G,U⟩,λx H' y=>?_⟩
  obtain⟨e,y⟩:=y;subst e;exact hs i x acc _ (y xs q) p
 ·have e:i=xs.length:=by lia
  subst e;exact .inl ⟨⟨xs,q,aaf _⟩,hd acc H p⟩
def bY{lo:Int}{m:Nat}(Pv:Nat->List V->Hp->Prop)(h0:Pv 0 [] H1)(hl:∀i acc H,i<=m->Pv i acc H->H D=some (.lst acc)/\acc.length<=i)(hz:m<=sizeLine)
 (hs:∀i acc H,i<m->Pv i acc H->g (.int (lo+i)) (List.replicate n none++fr) H λσ2 H2=>σ2.drop n=fr/\tt σ2 H2 λb H3 =>
  if b=true then te σ2 H3 λv H4=>H4 D=some (.lst acc)/\Pv (i+1) (acc++[v]) (upd H4 D (.lst (acc++[v]))) else Pv (i+1) acc H3)
 (hd:∀acc H,Pv m acc H->Q H):jz (Jt lo m) g tt te n fr D Q H1:=by
 refine⟨λi k acc H=>k=m-i/\i<=m/\Pv i acc H,⟨m,by simp,aaL _,h0⟩,?_⟩
 rintro i k acc H ⟨rfl,hi,p⟩;obtain⟨O,ha⟩:=hl i acc H hi p;refine⟨O,?_⟩
 by_cases G:i<m
 ·refine .inr ⟨G,by lia,Pv (i+1),λI H' U=>⟨m-(i+1),by lia,rfl,G,U⟩,λx H' y=>?_⟩
  obtain⟨e,y⟩:=y;subst e y;exact hs i acc _ G p
 ·have e:i=m:=by lia
  subst e;exact .inl ⟨aaf _,hd acc H p⟩
end
def A6(scope Tv:Scope)(N fq:List Str)(js:List Nat):Bool :=
 decide (scope.kind = .function)&&scope.names.all (λy=>decide (y.2≠.cell))&&scope.names.all (λy=>decide (y.2 = .local->scope.names.lookup y.1=some .local)) &&
 scope.names.all (λy=>decide (y.2 = .free->Tv.names.lookup y.1=some .cell\/Tv.names.lookup y.1=some .free))&&decide (js.map (λj=>N[j]?)=fq.map some)&&fq.all (λx=>decide (scope.names.lookup x=some .free))
def az{X:Cx}{scope:Scope}{own fq:List Str}{js:List Nat}(Tv:Scope)(N:List Str)(h1:X.env.scope=Tv:=by rfl)(h2:X.N=N:=by rfl)(h:A6 scope Tv N fq js=true:=by decide +kernel):eg X scope own fq js:=by
 unfold A6 at h;simp only[aaH,decide_eq_true_eq,acg]at h;obtain⟨⟨⟨⟨⟨a,b⟩,c⟩,d⟩,e⟩,f⟩:=h;exact⟨a,b,c,by rw[h1];exact d,by rw[h2];exact e,f⟩
mutual
inductive p9(K:bN)(H:Hp):V->PyData->Prop
 | eE:p9 K H .eE .none
 | bl (b:Bool):p9 K H (.bl b) (.bool b)
 | int (i:Int):p9 K H (.int i) (.int i)
 | str (x:Str):p9 K H (.str x) (.str x)
 | lst {a:Addr} {xs:List V} {ds:List PyData} (h:aM K H a xs) (r:DatVs K H xs ds):p9 K H (.ref a) (.list ds)
 | tup {a:Addr} {xs:List V} {ds:List PyData} (h:aR K H a xs) (r:DatVs K H xs ds):p9 K H (.ref a) (.tuple ds)
inductive DatVs(K:bN)(H:Hp):List V->List PyData->Prop
 | nil:DatVs K H [] []
 | cons {x:V} {d:PyData} {xs:List V} {ds:List PyData} (h:p9 K H x d) (r:DatVs K H xs ds):DatVs K H (x::xs) (d::ds)
end
section
variable {X:Cx}{pq:aQ}{σ:St}{H:Hp}{s:Shared}
mutual
def p9.reads(I:Inv X pq σ H s):∀{v:V} {d:PyData} {u:Value},p9 X.K H v d->RelV v u->∃as,Reads s.heap u d as
 | _,_,u,.eE,r=>by cases(show u=Value.none from r);exact⟨_,.none⟩
 | _,_,u,.bl b,r=>by cases(show u=Value.bool b from r);exact⟨_,.bool b⟩
 | _,_,u,.int i,r=>by obtain⟨t,rfl⟩:=(show ∃t,u=Value.int i t from r);exact⟨_,.int i t⟩
 | _,_,u,.str x,r=>by obtain⟨t,rfl⟩:=(show ∃t,u=Value.str x t from r);exact⟨_,.str x t⟩
 | _,_,u,.lst (a:=a) h rs,r=>by
   cases(show u=Value.ref a from r)
   obtain⟨G,O,⟨o,n,e,c,_,d⟩,_⟩:=I.list h;obtain⟨as,q⟩:=DatVs.reads I rs O;exact⟨_,.list e c d (by simpa using q)⟩
 | _,_,u,.tup (a:=a) h rs,r=>by
   cases(show u=Value.ref a from r)
   obtain⟨G,O,⟨o,e,c,n,d⟩,_⟩:=I.tuple h;obtain⟨as,q⟩:=DatVs.reads I rs O;exact⟨_,.tuple e c d (by simpa using q)⟩
def DatVs.reads(I:Inv X pq σ H s):∀{vs:List V} {ds:List PyData} {us:List Value},DatVs X.K H vs ds->Vals vs us->∃as,ReadsAll s.heap us ds as
 | _,_,_,.nil,.nil=>⟨_,.nil⟩
 | _,_,_,.cons h r,.cons rv rr=>by
   obtain⟨as,q⟩:=p9.reads I h rv;obtain⟨bs,q2⟩:=DatVs.reads I r rr;exact⟨_,.cons q q2⟩
end
end
section
variable {X:Cx}
def Tw(K:bN):R2:=λx y H Q=>∃d e,p9 K H x d/\p9 K H y e/\SeqAt.shaped d=true/\SeqAt.shaped e=true/\Q (.bl (PyData.eqv d e)) H
def Tz(K:bN):R2:=λx y H Q=>∃d e,p9 K H x d/\p9 K H y e/\SeqAt.shaped d=true/\SeqAt.shaped e=true/\Q (.bl (!PyData.eqv d e)) H
def Qn(hu:X.A.units+64<cLine):lC X (compareOp .Eq) (Tw X.K):=by
 intro pq s σ H x y v u Q I rx G h;obtain⟨d,e,h1,h2,s1,s2,q⟩:=h;obtain⟨as,ra⟩:=h1.reads I rx;obtain⟨bs,rb⟩:=h2.reads I G;exact eq_dataH ra rb s1 s2 hu ⟨.bl _,H,I,rfl,q⟩
def Qo(hu:X.A.units+64<cLine):lC X (compareOp .NotEq) (Tz X.K):=by
 intro pq s σ H x y v u Q I rx G h;obtain⟨d,e,h1,h2,s1,s2,q⟩:=h;obtain⟨as,ra⟩:=h1.reads I rx;obtain⟨bs,rb⟩:=h2.reads I G;exact ne_dataH ra rb s1 s2 hu ⟨.bl _,H,I,rfl,q⟩
def Qp:V->Option Value
 | .ty n=>some (.type n)
 | .ref a=>some (.ref a)
 | _=>none
def FF{c:V}{u w:Value}(h:Qp c=some u)(r:RelV c w):w=u:=by
 cases c with
 | ty n=>exact(show w=Value.type n from r).trans (Option.some.inj h)
 | ref a=>exact(show w=Value.ref a from r).trans (Option.some.inj h)
 | _=>cases h
def TF(K:bN):List V->Hp->VK->Prop:=λxs H Q=>∃x c t u b,xs=[x,c]/\Qp c=some u/\qW K H x t/\PySem.W.kitOne K t u=some b/\Q (.bl b) H
def JQ:fJ X (.builtin "isinstance") (TF X.K):=by
 intro pq s σ H xs us Q I r h;obtain⟨x,c,t,u,b,rfl,rc,ty,e,q⟩:=h;cases r with
 | cons O G =>
   cases G with
   | cons G U =>
     cases U;cases FF rc G;exact GJ I O ty e λtk=>⟨.bl b,H,I.tok tk,rfl,q⟩
def Qq(K:bN):PySem.W.kitOne K (.type "int") (.type "int")=some true:=by with_unfolding_all rfl
def JR(K:bN):PySem.W.kitOne K (.type "int") (.type "bool")=some false:=by with_unfolding_all rfl
def Qs(K:bN):PySem.W.kitOne K (.type "list") (.type "list")=some true:=by with_unfolding_all rfl
def FG:WQ X "int.bit_length" (λx xs H Q=>∃i,x = .int i/\xs=[]/\Q (.int (Builtin.Int.intBits i)) H):=by
 intro pq s σ H x xs v us Q I rx rs h;obtain⟨i,rfl,rfl,q⟩:=h;obtain⟨t,rfl⟩:=rx;cases rs;exact call_int_bit_length ⟨.int _,H,I.tok _,⟨_,rfl⟩,q⟩
end
def dl{n:Nat}(h:Nat.ble n 1000=true):n<=sizeLine:=aaO (kT (Nat.le_of_ble_eq_true h))
def kU{j:Int}(h:decide (0<j)=true):0<j:=jR h
def zh{c A B:Prop}[Decidable c](h : ¬ c)(hb:B):if decide c=true then A else B:=by
 rw[dO h];exact dN hb
def TH{c A B:Prop}[Decidable c](h:c)(ha:A):if decide c=true then A else B:=by
 rw[cD h];exact fK ha
def au.new{H:Hp}{p:Addr}{o:HO}(h:H p=none):au H (upd H p o):=λb u e=>by
 rw[ao (bj e h)];exact e
def au.put{H H2:Hp}{D:Addr}{o:HO}(s:au H H2)(h:H D=none):au H (upd H2 D o):=λb u e=>by
 rw[ao (bj e h)];exact s b u e
def au.sqT{K:bN}{H H' : Hp}{a:Addr}{xs:List V}(e:au H H')(h:aR K H a xs):aR K H' a xs:=by
 rcases h with(h|⟨o,h⟩) | h
 ·exact .inl (.inl (e _ _ h))
 ·exact .inl (.inr ⟨o,e _ _ h⟩)
 ·exact .inr h
def dI(H H' : Hp):Prop:=∀b xs,H b=some (.tup xs)->H' b=some (.tup xs)
def au.tups{H H' : Hp}(s:au H H'):dI H H':=λb xs e=>s b _ e
def dI.trans{H H1 H2:Hp}(a:dI H H1)(b:dI H1 H2):dI H H2:=λc xs e=>b c xs (a c xs e)
def dI.put{H:Hp}{D:Addr}{o:HO}{ys:List V}(h:H D=some (.lst ys)):dI H (upd H D o):=λb xs e=>by
 rw[ao (aW e h (by intro z;cases z))]
 exact e
def Paired.pA{α β:Type}{F:α->β->Prop}:∀{l:List α} {r:List β} {i:Nat} {x:α},Paired F l r->l[i]?=some x->∃y,r[i]?=some y/\F x y
 | _,_,_,_,.nil,e=>by simp at e
 | _,_,0,_,.cons h _,e=>by
   simp at e;subst e;exact⟨_,rfl,h⟩
 | _,_,i+1,x,.cons _ t,e=>by
   obtain⟨y,h1,h2⟩:=Paired.pA (i:=i) (x:=x) t (by simpa using e)
   exact⟨y,by simpa using h1,h2⟩
def A7(ns:List Int)(lo hi:Option Int):xj (ns.map V.int) lo hi=((ns.drop (HT.tE ns.length 0 lo)).take (HT.tE ns.length ns.length hi-HT.tE ns.length 0 lo)).map V.int:=by
 unfold xj;rw[aaa,<-List.map_drop,<-List.map_take]
section
variable {X:Cx}{l:Expr}{tl:TE}{tg a b o e:Expr}{ta tb to:TE}{es:List Expr}
def JS(K:bN)(hu:X.A.units+64<cLine)(h:X.K=K:=by rfl):lC X (compareOp .Eq) (Tw K):=by subst h;exact Qn hu
def DG(K:bN)(hu:X.A.units+64<cLine)(h:X.K=K:=by rfl):lC X (compareOp .NotEq) (Tz K):=by subst h;exact Qo hu
def NG(K:bN)(h:X.K=K:=by rfl):fJ X (.builtin "isinstance") (TF K):=by subst h;exact JQ
def TJ(K:bN):List V->Hp->VK->Prop:=λxs H Q=>∃p ys,xs=[.ref p]/\(aM K H p ys\/aR K H p ys)/\Q (.int ys.length) H
def WY(K:bN)(h:X.K=K:=by rfl):fJ X (.builtin "len") (TJ K):=by subst h;exact ze
def TL(K:bN):List V->Hp->VK->Prop:=λxs H Q=>∃p ys,xs=[.ref p]/\((aM K H p ys/\∀l,H l=none->Q (.ref l) (upd H l (.tup ys)))\/(aR K H p ys/\Q (.ref p) H))
def A8(K:bN)(h:X.K=K:=by rfl):fJ X (.type "tuple") (TL K):=by subst h;exact xn
def jA(K:bN)(h:X.K=K:=by rfl):R1 X (Tf K):=by subst h;exact Nv
def cf(K:bN)(h:X.K=K:=by rfl):R1 X (Tg K):=by subst h;exact Qi
def VB(K:bN)(h:X.K=K:=by rfl):WO X (Ti K):=by subst h;exact Nx
def VC(K:bN)(h:X.K=K:=by rfl):lC X (compareOp .In) (VA K false):=by subst h;exact GL
def DH(K:bN)(h:X.K=K:=by rfl):lC X (compareOp .NotIn) (VA K true):=by subst h;exact zd
def oH(K:bN)(hl:PE X l tl)(h:X.K=K:=by rfl):PI X tg l (O1 K tl):=by subst h;exact Nk hl
def Je(K:bN){k:Nat}{t:MT}{n:Nat}{pos:Pos}(hc:X.calm=true)(hp:RZ X es t)(hn:(assignEach es X.env).length=n:=by rfl)(hst:(assignEach es X.env).findIdx? (·.1)=none:=by rfl)(h:X.K=K:=by rfl):
 PG X (.Tuple es k pos) (SM K n t):=by subst h;exact Qc hc hp hn hst
def A9{x:Str}{T:String}{pos:Pos}(hg:Gl X x)(hm:X.mg x=none)(hv:bootBuiltins x=some (.type T))(hn:x≠"__name__":=by decide)(hd:(x==("__debug__":Str))=false:=by decide):PE X (.Name x pos) (tC (.ty T)) :=
 Nf hg hm hv rfl hn hd
end
def xq(od:Option Addr)(c:Value)(e:Addr)(h:Heap):Prop:=∃G vs,h.get? e=some G/\G.data = .fields vs/\vs[2]?=some c/\G.dict=od
def JT(o:Obj)(f):(o.mapFields f).dict=o.dict:=by
 obtain⟨c,d,dt,sl⟩:=o;cases dt<;>rfl
section
variable {M:Model}{A:Around}{E:dh}{s:Shared}{B:Heap}{env:Env}{outer l:List Env}{L e:Addr}{cls a0:Value}{Q:Unit->Shared->Prop}{od:Option Addr}{c:Value}
def zj{h:Heap}{T:Addr}{oT:Obj}{ts:Array Value}(f:Obj->Obj)(hT:h.get? T=some oT)(hd:oT.data = .fields ts):h.UpToSlots (h.update T f):=λb o hb hn=>by
 have ne:T≠b:=λz=>by
  rw[<-z,hT]at hb;cases hb;exact hn ts hd
 exact⟨o.slots,(abr h f ne).trans hb⟩
def qX{h:Heap}{T:Addr}(f:Obj->Obj)(k:B.StaysIn h)(n:B.get? T=none):B.StaysIn (h.update T f):=λb o hb=>by
 have ne:T≠b:=λz=>by
  rw[<-z,n]at hb;cases hb
 exact(abr h f ne).trans (k b o hb)
def lG{h h' : Heap}(x:h.FunFrames B l)(u:h.UpToSlots h'):h'.FunFrames B l:=x.of_keeps λb o hb hn =>
 let⟨_,q⟩:=u b o hb hn
 ⟨_,q,rfl⟩
def FH{fl:Value}(hk:B.StaysIn s.heap)(hn:B.get? e=none)(hl:s.heap.FunFrames B l)(ht:s.heap.TracedAtW B e cls a0 fl)(h2:xq od c e s.heap)
 (q:∀h',Heap.FlyingW B l e cls a0 h'->xq od c e h'->s.heap.UpToSlots h'->Q () { s with heap:=h'}):wpAny M A (setFlight (.ref e) none) Q E s:=by
 obtain⟨I,vs,T,oT,ts,ge,hc,O,f1,U,Y,G,dT,f3⟩:=ht;have Z:3<ts.size:=(abS.mp f3).1;rw[setFlight];refine aN (wpAny_field ge O f1 ?_);rw[aac (by simp)]
 refine wpAny_setField G dT Z ?_;have up:=zj (Obj.mapFields (·.setIfInBounds 3 ((none:Option Addr).elim Value.none λf=>rawInt f))) G dT
 have VD:=(abr s.heap (Obj.mapFields (·.setIfInBounds 3 ((none:Option Addr).elim Value.none λf=>rawInt f))) Y).trans ge
 have YY:=acm dT (·.setIfInBounds 3 ((none:Option Addr).elim Value.none λf=>rawInt f))
 refine q _ ⟨qX _ hk U,hn,lG hl up,I,vs,T,_,_,VD,hc,O,f1,U,Y,abn _ G (acu YY),YY,by simp[Z]⟩ ?_ up
 obtain⟨o2,v2,g2,d2,k2,z2⟩:=h2;rw[ge]at g2;cases g2;exact⟨I,v2,VD,d2,k2,z2⟩
def JU{oe:Obj}{vs:Array Value}{head:Value}{hadNext:Bool}(hfr:A.frames=some (env::outer))(hl:s.heap.FunFrames B (env::outer))(hf:env.frame=some L)(ge:s.heap.get? e=some oe)(hk:B.StaysIn s.heap)(hn:B.get? e=none)
 (de:oe.data = .fields vs) (hz:1<vs.size) (h0:vs[0]?=some a0) (h2:vs[2]?=some c) (hz2:oe.dict=od)
 (q:∀h',Heap.HeldW B (env::outer) e oe.cls a0 L h'->xq od c e h'->s.heap.UpToSlots h'->Q () { s with heap:=h'}) :
 wpAny M A (do let a←frameOf env;let G←entryPlaceOf L hadNext;let b←EntryCells.newEntry head a .none (rawInt L) .none G;setField (.ref e) 1 b) Q E s:=by
 have WZ:e∉(env::outer).filterMap (·.frame):=λz=>by
  obtain⟨_,o,ho,nf⟩:=hl.mem z;rw[ge]at ho;cases ho;exact nf vs de
 refine aN (wpAny_frameOf_fun hfr hl hf λh1 O=>aN (wpAny_entryPlaceOf λG ip=>?_))
 rw[EntryCells.newEntry,newFields];refine aN (wpAny_newObj_type ?_ (ip.sizeOk5 _ _ _ _ _));generalize I:({ cls:=.type "traceback",dict:=none,data:=.fields ([head,.ref L,.none,rawInt L,.none]++(if G.isEmpty then List.replicate 6 Value.none else G)).toArray}:Obj)=nw
 have dn:nw.data = .fields ([head,.ref L,.none,rawInt L,.none]++(if G.isEmpty then List.replicate 6 Value.none else G)).toArray:=by rw[<-I]
 have ge1:h1.get? e=some oe:=(O.2.1 e WZ).trans ge;have U:=aak (h:=h1) nw ge1;have Te:h1.objs.size≠e:=abC (aal ge1);refine wpAny_setField U de hz ?_;have Y:=acm de (·.setIfInBounds 1 (Value.ref h1.objs.size));have YZ:=abn (Obj.mapFields (·.setIfInBounds 1 (Value.ref h1.objs.size))) U (acu Y);have Z:=(abr (h1.push nw) (Obj.mapFields (·.setIfInBounds 1 (Value.ref h1.objs.size))) (aba Te)).trans (aaB h1 (by rw[<-I];rfl))
 have up:s.heap.UpToSlots ((h1.push nw).update e (Obj.mapFields (·.setIfInBounds 1 (Value.ref h1.objs.size)))):=by
  have u1:s.heap.UpToSlots h1:=λb o hb _=>O.2.2 b o hb
  exact(u1.trans (.of_keeps λb o hb=>aak nw hb)).trans (zj _ U de)
 have k1:B.StaysIn h1:=λb o hb=>(O.2.1 b λz=>by rw[(hl.mem z).1]at hb;cases hb).trans (hk b o hb)
 have k2:B.StaysIn (h1.push nw):=λb o hb=>aak nw (k1 b o hb)
 refine q _ ⟨qX _ k2 hn,hn,lG hl up,_,_,h1.objs.size,nw,_,YZ,⟨Obj.cls_mapFields _ _,by rw[adj (by decide)];exact h0⟩,Y,by simp[hz],k1.fresh,Te,Z,dn,?_⟩ ?_ up
 ·first | (simp;done) | (rcases ip with rfl | ⟨_,_,_,_,_,_,_,rfl⟩<;>simp)
 ·exact⟨_,_,YZ,Y,by rw[adj (by decide)];exact h2,(JT _ _).trans hz2⟩
def Pb(hfr:A.frames=some (env::outer))(hf:env.frame=some L)(fl:Heap.FlyingW B (env::outer) e cls a0 s.heap)(h2:xq od c e s.heap)
 (q:∀h',Heap.HeldW B (env::outer) e cls a0 L h'->xq od c e h'->s.heap.UpToSlots h'->Q () { s with heap:=h'}):wpAny M A (noteFrame (.ref e) env) Q E s:=by
 obtain⟨hk,hn,O,oe,vs,T,oT,ts,ge,⟨hc,h0⟩,G,f1,U,Y,I,dT,f3⟩:=fl;obtain⟨o2,v2,g2,d2,k2,z2⟩:=h2;rw[ge]at g2;cases g2;rw[G]at d2;cases d2;cases hc;rw[noteFrame];simp only[hf];refine aN (wpAny_field ge G f1 ?_);rw[aac (by simp)]
 refine aN (wpAny_field I dT f3 ?_);rw[aab (by simp[rawInt])]
 refine aN (wpAny_setField I dT (abS.mp f3).1 ?_);have up:=zj (Obj.mapFields (·.setIfInBounds 3 Value.none)) I dT;have Z:=(abr s.heap (Obj.mapFields (·.setIfInBounds 3 Value.none)) Y).trans ge;exact JU (s:={ s with heap:=s.heap.update T (Obj.mapFields (·.setIfInBounds 3 Value.none))}) hfr (lG O up) hf Z (qX _ hk U) hn G (abS.mp f1).1 h0 k2 z2 λh' x1 x2 x3=>q h' x1 x2 (up.trans x3)
def TM(x:Heap.FlyingW B (env::outer) e cls a0 s.heap):Heap.FlyingW B outer e cls a0 s.heap :=
 let⟨k1,k2,⟨_,_,k3⟩,k4⟩:=x
 ⟨k1,k2,k3,k4⟩
def leave_on2(hfr:A.frames=some (env::outer))(hf:env.frame=some L)(fl:Heap.FlyingW B (env::outer) e cls a0 s.heap)(h2:xq od c e s.heap)
 (q:∀h',Heap.FlyingW B outer e cls a0 h'->xq od c e h'->s.heap.UpToSlots h'->Q () { s with heap:=h'}):wpAny M A (leaving env (.ref e)) Q E s:=by
 rw[leaving];refine aN (Pb hfr hf fl h2 λh' I O U=>?_)
 obtain⟨Y,Z,y3,y4⟩:=I;exact FH (s:={ s with heap:=h'}) Y Z y3 y4 O λG z1 z2 z3=>q G (TM (s:={ s with heap:=G}) z1) z2 (U.trans z3)
def leave_new{oe:Obj}{vs:Array Value}(hfr:A.frames=some (env::outer))(hf:env.frame=some L)(hk:B.StaysIn s.heap)(hn:B.get? e=none)(hl:s.heap.FunFrames B (env::outer))(ge:s.heap.get? e=some oe)(de:oe.data = .fields vs)
 (h0:vs[0]?=some a0) (h1:vs[1]?=some .none) (h2:vs[2]?=some c) (hz2:oe.dict=od)
 (q:∀h',Heap.FlyingW B outer e oe.cls a0 h'->xq od c e h'->s.heap.UpToSlots h'->Q () { s with heap:=h'}):wpAny M A (leaving env (.ref e)) Q E s:=by
 rw[leaving,noteFrame];simp only[hf];refine aN (aN (wpAny_field ge de h1 ?_));rw[aab (by decide)]
 refine JU (a0:=a0) hfr hl hf ge hk hn de (abS.mp h1).1 h0 h2 hz2 λh' I O U=>?_
 obtain⟨Y,Z,y3,y4⟩:=I;exact FH (s:={ s with heap:=h'}) Y Z y3 y4 O λG z1 z2 z3=>q G (TM (s:={ s with heap:=G}) z1) z2 (U.trans z3)
end
section
variable {P:Program}{w:World}{H H0 H1:Hp}{h h0 h1 h2:Heap}{a:Addr}{o:HO}{fs:List Addr}{B:Heap}
def bg.thing(x:bg P w H h a o):∃ob,h.get? a=some ob:=by
 cases o with
 | lst xs=>obtain⟨_,_,_,_,e⟩:=x;exact⟨_,e⟩
 | tup xs=>obtain⟨_,_,_,ob,e,_⟩:=x;exact⟨ob,e⟩
 | dK kvs=>obtain⟨_,_,_,_,ob,_,_,e,_⟩:=x;exact⟨ob,e⟩
 | dT kvs=>obtain⟨_,_,_,_,ob,_,_,e,_⟩:=x;exact⟨ob,e⟩
 | set S n=>obtain⟨ob,_,_,_,e,_⟩:=x;exact⟨ob,e⟩
 | ins C dx fs=>obtain⟨_,_,_,e,_⟩:=x;exact⟨_,e⟩
 | own y=>exact x
 | xd fs=>obtain⟨_,⟨ob,_,_,e,_⟩,_⟩:=x;exact⟨ob,e⟩
 | Gx lo hi=>obtain⟨_,_,_,e⟩:=x;exact⟨_,e⟩
 | lB ob u=>obtain⟨e,_⟩:=x;exact⟨_,e⟩
 | jV ps=>obtain⟨_,e,_⟩:=x;exact⟨_,e⟩
 | met f y=>exact⟨_,(show h.get? a=some _ from x)⟩
 | ext φ=>obtain⟨_,e,_⟩:=x;exact e
def NH(B:Heap)(fs:List Addr)(h0:Heap)(H:Hp)(h:Heap):Prop:=∀b o,h.get? b=some o->(H b≠none\/∃o',h0.get? b=some o')->b∉fs->B.get? b=some o
def Ba(un:Un fs [] H0 H1 h0 h1)(hok:mY P w H1 h1)(W3:∀b∈fs,H1 b=none)(fr:∀b∈fs,∀ob,h1.get? b=some ob->∀vs,ob.data≠.fields vs)(JV:NH B fs h0 H1 h1)
 (hB:B.StaysIn h2) (up:h1.UpToSlots h2):Un fs [] H0 H1 h0 h2/\mY P w H1 h2/\NH B fs h0 H1 h2:=by
 have I:∀b ob,h1.get? b=some ob->(H1 b≠none\/∃o',h0.get? b=some o')->b∉fs->h2.get? b=some ob:=λb ob e c n=>hB b ob (JV b ob e c n)
 have RX:∀b u,H1 b=some u->b∉fs:=λb u e z=>by
  rw[W3 b z]at e;cases e
 refine⟨⟨λb ob e n hb hx=>I b ob (un.keep b ob e n hb hx) (.inr ⟨ob,e⟩) hb,λb ob e n hb hx=>?_,un.free,λb ob e hx=>?_,un.tups,un.jS,un.kR⟩,λb u e=>?_,λb ob e c n=>?_⟩
 ·obtain⟨sl,q⟩:=un.slot b ob e n hb hx;obtain⟨U,q'⟩:=up b _ q (fr b hb _ q);exact⟨U,q'⟩
 ·obtain⟨o',q⟩:=un.there b ob e hx
  by_cases hb:b∈fs
  ·obtain⟨U,q'⟩:=up b _ q (fr b hb _ q);exact⟨_,q'⟩
  ·exact⟨o',I b o' q (.inr ⟨ob,e⟩) hb⟩
 ·refine(hok b u e).stay (λc v hc q=>?_) (λ_ q=>q) λ_ _ q=>q
  have O:∃z,H1 c=some z:=by
   rcases hc with hc|hc
   ·rw[hc];exact⟨u,e⟩
   ·exact⟨_,hc⟩
  obtain⟨z,hz⟩:=O;exact I c v q (.inl (by rw[hz];simp)) (RX c z hz)
 ·have ht:∃G,h1.get? b=some G:=by
   rcases c with c|⟨o',c⟩
   ·cases hz:H1 b with
    | none=>exact absurd hz c
    | some z=>exact(hok b z hz).thing
   ·exact un.there b o' c (by simp)
  obtain⟨G,q⟩:=ht;have Y:=JV b G q c n;have Z:=hB b G Y;rw[e]at Z;rw[Option.some.inj Z];exact Y
end
def W4(ea:Addr)(cls:Value):HO:=.ext λh=>∃G vs,h.get? ea=some G/\G.cls=cls/\G.data = .fields vs/\vs[2]?=some .none
def Qt(E:XK)(cls:Value)(od:Option Addr)(c:Value)(H:Hp):Prop:=(c = .none/\(∃G:Addr,cls = .ref G)/\E cls od H)\/∃C e' I,cls = .ref C/\od=none/\c = .ref e'/\H e' = some (W4 e' I)/\E (.int (C:Int) e') none H
def Df(P:Program)(w:World):Jb:=λouter H s E e s'=>∃(G:Addr) (cls a0:Value) (od:Option Addr) (c:Value) (H' : Hp) (B:Heap),e = .ref G/\s'.os=s.os/\AllBare s'.gens/\Un (frs outer) [] H H' s.heap s'.heap/\mY P w H' s'.heap/\H' G=none/\
 NH B (frs outer) s.heap H' s'.heap/\Heap.FlyingW B outer G cls a0 s'.heap/\xq od c G s'.heap/\Qt E cls od c H'
structure Out(X:Cx)(E:XK):Prop where
 MS:X.stack=X.env::X.outer
 fr:X.env.frame=some X.env.locals
 ex:X.ex=[]
 xe:∀e s',wpAny (model X.prog X.w) X.A (leaving X.env e) (λ_ s''=>Df X.prog X.w X.outer X.H₀ X.s₀ E e s'') (λe' s''=>Df X.prog X.w X.outer X.H₀ X.s₀ E e' s'') s'->X.xe e s'
def Y0(X:Cx)(E:XK):Prop:=∀(pq:aQ) (σ:St) (H:Hp) (s:Shared) (h1:Heap) (G I:Addr) (vs:List Value),Inv X pq σ H s->Heap.MadeExcOf s.heap h1 G (.ref I) vs->E (.ref I) none H->X.xe (.ref G) { s with heap:=h1}
section
variable {X:Cx}{E:XK}{pq:aQ}{σ:St}{H:Hp}{s:Shared}
def Inv.Qu(I:Inv X pq σ H s):∀b∈X.fs,∀ob,s.heap.get? b=some ob->∀vs,ob.data≠.fields vs:=λb hb ob e=>by
 obtain⟨_,o,O,G⟩:=I.funs.mem hb;rw[e]at O;cases O;exact G
def Inv.Qv(I:Inv X pq σ H s)(hx:X.ex=[]):∀b∈X.fs,H b=none:=λb hb=>by
 obtain⟨_,o,G,_⟩:=I.ok.funs.mem hb;exact I.base.free b o G (I.ok.Nb b hb) (by rw[hx];simp)
def NH.outer{B h0:Heap}{h:Heap}(I:Inv X pq σ H s)(JV:NH B (frs X.stack) h0 H h)(k:∀b o,X.s₀.heap.get? b=some o->∃o',h0.get? b=some o'):NH B X.fs X.s₀.heap H h:=λb o e c n=>by
 refine JV b o e (c.imp id λ⟨o',q⟩=>k b o' q) λz=>?_
 rcases aaq.mp (I.uO b z) with q|q
 ·subst q;rcases c with c|⟨o',c⟩
  ·exact c I.free
  ·exact absurd (aap (aal c) I.ok.above) (aa8 _)
 ·exact n q
def FI(O:Out X E)(I:Inv X pq σ H s){B:Heap}{ea:Addr}{cls a0:Value}{od:Option Addr}{c:Value}{h2:Heap}(JV:NH B X.fs X.s₀.heap H s.heap)(fl:Heap.FlyingW B X.outer ea cls a0 h2)(sc:xq od c ea h2)(up:s.heap.UpToSlots h2)(hn:H ea=none)(q:Qt E cls od c H):
 Df X.prog X.w X.outer X.H₀ X.s₀ E (.ref ea) { s with heap:=h2}:=by
 have un:Un X.fs [] X.H₀ H X.s₀.heap s.heap:=by
  have u:=I.base;rw[O.ex]at u;exact u
 obtain⟨G,U,Y⟩:=Ba un I.hok (I.Qv O.ex) I.Qu JV fl.1 up;exact⟨ea,cls,a0,od,c,H,B,rfl,I.os,I.bare,G,U,hn,Y,fl,sc,q⟩
def Out.W6(O:Out X E){ea:Addr}{oe:Obj}{vs:Array Value}{a0 c:Value}(I:Inv X pq σ H s)(ge:s.heap.get? ea=some oe)(de:oe.data = .fields vs)(h0:vs[0]?=some a0)(h1:vs[1]?=some .none)(h2:vs[2]?=some c)
 (hn:H ea=none) (new:X.s₀.heap.get? ea=none) (q:Qt E oe.cls oe.dict c H):X.xe (.ref ea) s:=by
 refine O.xe _ _ ?_;have G:X.A.frames=some (X.env::X.outer):=by rw[I.ok.frames,O.MS]
 have U:s.heap.FunFrames (PySem.W.hideAll s.heap (ea::frs X.stack)) (X.env::X.outer):=by
  have z:=PySem.W.funFrames_hide (as:=ea::frs X.stack) I.stack λenv he b hb=>jt _ (abU.mpr ⟨env,he,hb⟩)
  rw[O.MS]at z ⊢;exact z
 refine leave_new G O.fr (λb o e=>PySem.W.of_hideAll _ e) (PySem.W.hideAll_none _ (aam ..)) U ge de h0 h1 h2 rfl λZ Y sc up=>?_
 refine FI O I (NH.outer I (h0:=X.s₀.heap) (λb o e c n=>?_) λb o e=>⟨o,e⟩) Y sc up hn q
 refine PySem.W.hideAll_get _ e λz=>?_
 rcases aaq.mp z with z|z
 ·subst z;rcases c with c|⟨o',c⟩
  ·exact c hn
  ·rw[new]at c;cases c
 ·exact n z
def Out.TQ(O:Out X E){ea:Addr}{oe:Obj}{vs:Array Value}{a0:Value}(I:Inv X pq σ H s)(ge:s.heap.get? ea=some oe)(de:oe.data = .fields vs)(h0:vs[0]?=some a0)(h1:vs[1]?=some .none)(h2:vs[2]?=some .none)
 (hn:H ea=none) (new:X.s₀.heap.get? ea=none) (hcl:∃G:Addr,oe.cls = .ref G) (q:E oe.cls oe.dict H):X.xe (.ref ea) s:=O.W6 I ge de h0 h1 h2 hn new (.inl ⟨rfl,hcl,q⟩)
def Out.W9(O:Out X E):Y0 X E:=by
 intro pq σ H s h1 G Y vs I mk q;have U:Inv X pq σ H { s with heap:=h1}:=I.kept (t':=s.toks) mk.keeps
 have hn:H G=none:=by
  cases hz:H G with
  | none=>rfl
  | some z =>
    obtain⟨ob,e⟩:=(I.hok G z hz).thing;rw[mk.new]at e;cases e
 obtain⟨t,ge,_,_⟩:=mk.there;refine O.TQ U (a0:=.ref t) ge rfl rfl rfl rfl hn ?_ ⟨_,rfl⟩ q;cases hz:X.s₀.heap.get? G with
 | none=>rfl
 | some o =>
   obtain⟨o',e⟩:=I.base.there G o hz (by rw[O.ex];simp)
   rw[mk.new]at e;cases e
def Inv.JW{H' : Hp}{s' : Shared}(I:Inv X pq σ H s)(os:s'.os=s.os)(bare:AllBare s'.gens)(un:Un (frs X.stack) [] H H' s.heap s'.heap)(hok:mY X.prog X.w H' s'.heap):Inv X pq σ H' s' :=
 I.Jp (ch:=[]) os un hok bare λb z=>absurd z (by simp)
def Out.passes(O:Out X E):Passes (Df X.prog X.w) X E:=by
 intro pq σ H s e s' I q;obtain⟨ea,cls,a0,od,c,H',B,rfl,os,bare,un,hok,hn,JV,Y,sc,qE⟩:=q;have Z:=I.JW os bare un hok;refine O.xe _ _ ?_;have G:X.A.frames=some (X.env::X.outer):=by rw[I.ok.frames,O.MS]
 rw[O.MS]at Y;refine leave_on2 G O.fr Y sc λh2 U R3 up=>?_
 exact FI O Z (NH.outer Z JV λb o e=>I.base.there b o e (by rw[O.ex];simp)) U R3 up hn qE
end
def eV{P:Program}{w:World}{K:bN}{mg:mQ}{base:Heap}{N:List Str}{qual:Str}{scope:Scope}{f:Addr}{cd:Value}{A:Around}{outer:List Env}{s:Shared}{H:Hp}{E:XK}:
 Out (tU (Df P w) P w K mg base N qual scope f cd A outer s H E) E:=⟨rfl,rfl,rfl,λ_ _ h=>h⟩
def JM.DI{P:Program}{w:World}{K:bN}{mg:mQ}{base:Heap}{x qual:Str}{st:Stmt}{f:Addr}{fd:FuncData}{N ps:List Str}{k:Nat}{sp:Sp}(F:JM K x qual st f fd)(S:aE N ps (aj st))
 (len:∀vs H Q E,sp vs H Q E->vs.length=ps.length)
 (hbody:∀(cdv:Value) (A:Around) (outer:List Env) (s:Shared) (H:Hp) (vs:List V) (Q:VK) (E:XK),eN k (A.deeper (envOfC qual (aj st) s.heap.objs.size f cdv))->sp vs H Q E->
  ∃t,uw (tU (Df P w) P w K mg base N qual (aj st) f cdv A outer s H E) (cE st) t/\t { nx:=λ_ H'=>Q .eE H',rt:=Q} (start N vs) H):lE P w K mg base (Df P w) (k+1) f fd ps sp:=by
 obtain⟨oc,od,kV,doc,pm,an,cdv,ct,osl,rfl,I,G⟩:=F.ex;exact JD I G S len λA outer s H vs Q E hr O=>hbody cdv A outer s H vs Q E hr O
section
variable {X:Cx}{E:XK}
def Qw(C:Addr)(E:XK)(t:TA):TS:=λ_ σ H=>t σ H λvs H1=>vs.length<=sizeLine/\E (.ref C) none H1
def u9{x:Str}{C:Addr}{bm:List Value}{B newId initId:String}{e:Expr}{es:List Expr}{ta:TA}{np cpos pos:Pos}(th:Y0 X E)(hc:X.calm=true)(hg:Gl X x)(O:∀h,X.K.In h->h.Ns mainGlobals X.mg->OwnCls x C bm newId X.mg h)
 (FB:ExcBaseFacts B newId initId bm) (ha:PA X (e::es) ta) (he:starEach (e::es) X.env=(false,eval e X.env)::starEach es X.env:=by rfl) (hpl:(backTo cpos (starEach es X.env)).any (·.1)=false:=by rfl)
 (hd:(x==("__debug__":Str))=false:=by decide):PS X (.Raise (some (.Call (.Name x np) (e::es) [] cpos)) none pos) (Qw C E ta):=by
 intro pq s σ H D I h;have Y:=O _ I.mod.Sy I.mod.glob;obtain⟨tl,N,nm,q,bs,hdct,sn,sub,ab,col,dd,k0,k1,k2,k3,k5,mN,hC,hN,U,T⟩:=Y.obj;refine wpAny_Raise_call_subT (C:=C) (nm:=nm) (q:=q) (N:=N) (bs:=bs) (bm:=tl) (hdct:=hdct) (sn:=sn) (sub:=sub) (ab:=ab) (col:=col) (dd:=dd) (k0:=k0) (k1:=k1) (k2:=k2) (k3:=k3) (k5:=k5)
  FB (mN:=mN) (T.hasType FB.hasBase) (I.ok.hd hc) (by rw[he];show(false || (backTo cpos (starEach es X.env)).any (·.1))=false;rw[hpl];rfl) U (nS I hg Y.bound ⟨rfl,?_⟩ hd)
 have Z:=ha cpos pq s σ H _ I h;rw[he]at Z ⊢;refine Calls.evalArgs_plain (aaD Z (λus s1 ⟨vs,H1,G,r1,z,q1⟩=>?_) λ_ _ y=>y)
 exact⟨rfl,by rw[<-r1.length];exact z,G.bk _ _ hC,hN.keeps G.bk,T.keeps G.bk,λh' ea hm=>th pq σ H1 s1 h' ea _ us G hm q1⟩
end
def Qx(K:bN)(i:Int)(n:Nat)(v:Value):PySem.W.exmOne K (.int i n) v≠some true:=by
 unfold PySem.W.exmOne
 split
 ·unfold PySem.W.kitCls
  split
  ·split<;>simp[PySem.W.subIn]
  ·split<;>simp[PySem.W.subIn]
  ·simp
 ·simp
def qY(ea:Addr)(cls:Value)(od:Option Addr):HO:=.ext λh=>∃G vs,h.get? ea=some G/\G.cls=cls/\G.data = .fields vs/\vs[2]?=some .none/\G.dict=od
def NI{P:Program}{w:World}{H:Hp}{h:Heap}{ea:Addr}{cls:Value}{od:Option Addr}(q:∃G vs,h.get? ea=some G/\G.cls=cls/\G.data = .fields vs/\vs[2]?=some .none/\G.dict=od):bg P w H h ea (qY ea cls od) :=
 ⟨q,let⟨G,_,e,_⟩:=q;⟨G,e⟩,λh1 h2 ⟨G,vs,e,c,d,z,y⟩ k=>⟨G,vs,k G e,c,d,z,y⟩⟩
section
variable {X:Cx}{pq:aQ}{σ:St}{H:Hp}{s:Shared}
def Inv.JX{ea:Addr}{o:HO}(I:Inv X pq σ H s)(hn:H ea=none)(h0:X.s₀.heap.get? ea=none)(hL:ea≠X.env.locals)(hC:∀x c,X.env.cells.lookup x=some c->c≠ea)(hp:∀p∈X.pn++pq,p.1≠ea)
 (ok:bg X.prog X.w (upd H ea o) s.heap ea o):Inv X pq σ (upd H ea o) s:=by
 have ne:∀b u,H b=some u->b≠ea:=λb u e z=>by rw[z,hn]at e;cases e
 refine⟨I.ok,I.os,I.bare,⟨I.base.keep,I.base.slot,λb ob e n hx=>?_,I.base.there,λb xs e=>?_,λb ob u e=>?_,λb ps e=>?_⟩,I.loc,I.cell,?_,λx c e=>?_,λp G=>?_,λb u e=>?_,I.len⟩
 ·rw[ao (λz=>by rw[z,h0]at e;cases e)]
  exact I.base.free b ob e n hx
 ·have q:=I.base.tups b xs e;rw[ao (ne b _ q)];exact q
 ·have q:=I.base.jS b ob u e;rw[ao (ne b _ q)];exact q
 ·obtain⟨more,q⟩:=I.base.kR b ps e;exact⟨more,by rw[ao (ne b _ q)];exact q⟩
 ·rw[ao (aba hL)];exact I.free
 ·rw[ao (hC x c e)];exact I.ee x c e
 ·obtain⟨a1,a2,O⟩:=I.pin p G;exact⟨a1,by rw[ao (hp p G)];exact a2,O⟩
 ·by_cases hb:b=ea
  ·subst hb;rw[ae]at e;cases e;exact ok
  ·rw[ao hb]at e;exact(I.hok b u e).stay (λ_ _ _ q=>q) (λc q=>by rw[ao (ne c _ q)];exact q) λc xs q=>by rw[ao (ne c _ q)];exact q
def Inv.DJ{A' : Around}{R4 uv:aQ}{cm:Bool}{Qy:dh}(I:Inv X pq σ H s)(hA:A'.frames=X.A.frames)(hcm:cm=true->A'.handled=none)(hp:∀p∈R4++uv,p∈X.pn++pq):
 Inv { X with A:=A',calm:=cm,pn:=R4,xe:=Qy} uv σ H s :=
 ⟨⟨I.ok.mod,I.ok.kind,I.ok.glob,I.ok.blt,I.ok.above,I.ok.inj,I.ok.has,I.ok.RY,hcm,hA.trans I.ok.frames,I.ok.MS,I.ok.Wr,I.ok.bs,I.ok.Jm,I.ok.Gz,I.ok.Jo,I.ok.funs,I.ok.Nb⟩,
   I.os,I.bare,I.base,I.loc,I.cell,I.free,I.ee,λp z=>I.pin p (hp p z),I.hok,I.len⟩
def GQ{M:Model}{A:Around}{E:dh}{i:Nat}{x:Str}{pos:Pos}{Q:Unit->Shared->Prop}(I:Inv X pq σ H s)(hN:X.N.Nodup)(hi:X.N[i]?=some x)(hx:X.env.scope.names.lookup x=some .local)
 (h:∀s',Inv X pq (σ.set i none) H s'->Q () s'):wpAny M A (do bindName X.env x .none;unbindBehindTheSuite X.env x pos) Q E s:=by
 obtain⟨m,hn,hl⟩:=id I.loc;have O:(X.env.scope.kind == .class || (X.env.scope.kind == .module&&X.env.locals != X.env.globals))=false:=by rw[I.ok.kind];rfl
 refine wpAny_nameGoes_keeps hx hn O λh' v Y hs=>?_
 have below:∀b ob,X.s₀.heap.get? b=some ob->b≠X.env.locals:=λb ob e=>aay (aap (aal e) I.ok.above)
 refine h _ ⟨I.ok,I.os,I.bare,⟨λb ob e n hb hx=>(hs.2 b (below b ob e)).trans (I.base.keep b ob e n hb hx),λb ob e n hb hx=>?_,I.base.free,λb ob e hx=>?_,I.base.tups,I.base.jS,I.base.kR⟩,
  ⟨_,Y,λj y v' G U e3=>?_⟩,λy c e=>?_,I.free,I.ee,λp hp=>?_,λb ob e=>?_,by rw[List.length_set];exact I.len⟩
 ·obtain⟨sl,G⟩:=I.base.slot b ob e n hb hx;exact⟨sl,(hs.2 b (below b ob e)).trans G⟩
 ·obtain⟨o',G⟩:=I.base.there b ob e hx;exact⟨o',(hs.2 b (below b ob e)).trans G⟩
 ·by_cases hj:j=i
  ·subst hj;have Z:j<σ.length:=by rw[I.len];exact(ju.mp hi).1
   rw[acq Z]at U;cases U
  ·rw[acz (aba hj)]at U;obtain⟨u',r',q⟩:=hl j y v' G U e3;refine⟨u',r',?_⟩;rcases q with⟨k,e⟩|⟨k,c,e,z⟩
   ·have ag:y≠x:=λe'=>hj (uP hN G (e'▸hi))
    exact .inl ⟨k,by simp[ag,e]⟩
   ·exact .inr ⟨k,c,e,z.sameBut hs (I.Nc y c e)⟩
 ·obtain⟨w',z⟩:=I.cell y c e;exact⟨w',z.sameBut hs (I.Nc y c e)⟩
 ·obtain⟨e,n,ne,nf,d⟩:=I.pin p hp;exact⟨(hs.2 p.1 ne).trans e,n,ne,nf,d⟩
 ·refine(I.hok b ob e).stay (λc v hc q=>(hs.2 c ?_).trans q) (λ_ q=>q) λ_ _ q=>q
  intro z;subst z;have hf:H X.env.locals=none:=I.free;rcases hc with hc|hc
  ·rw[<-hc,hf]at e;cases e
  ·rw[hf]at hc;cases hc
end
def Pc(o:Addr->Value->Option Addr->HO)(K:bN)(C i k:Nat)(tb:XK->TS)(th:Addr->TS):TS:=λD σ H=>∃E:XK,tb E D σ H/\∀cls od H',E cls od H'->PySem.W.exmOne K cls (.ref C)=some true/\
 ∀G,H' G=none->th G { nx:=λσ2 H2=>D.nx (σ2.set i none) H2,rt:=λ_ _=>False} ((List.replicate k none).set i (some (.ref G))) (upd H' G (o G cls od))
abbrev TR:=Pc qY
section
variable {X:Cx}
def NJ(oo:Addr->Value->Option Addr->HO)(hoo:∀{H:Hp} {h:Heap} {ea:Addr} {cls:Value} {od:Option Addr},(∃G vs,h.get? ea=some G/\G.cls=cls/\G.data = .fields vs/\vs[2]?=some .none/\G.dict=od)->bg X.prog X.w H h ea (oo ea cls od))
 {x n:Str} {i:Nat} {C:Addr} {body rest:List Stmt} {b0:Stmt} {np hpos pos:Pos} {tb:XK->TS} {th:Addr->TS} (K:bN) (hst:X.stack=X.env::X.outer) (hf:X.env.frame=some X.env.locals) (Qz:X.ex=[]) (hN:X.N.Nodup) (hi:X.N[i]?=some n)
 (hx:X.env.scope.names.lookup n=some .local) (hg:Gl X x) (hm:X.mg x=some (.ref C))
 (hb:∀E pn xe,Passes (Df X.prog X.w) { X with pn:=pn,xe:=xe} E->uw { X with pn:=pn,xe:=xe} body (tb E))
 (hh:∀ea pn,uw { X with A:=X.A.mark (some (.ref ea)),calm:=false,pn:=pn,xe:=λ_ _=>False} (b0::rest) (th ea)) (hK:X.K=K:=by rfl) (hdb:(x==("__debug__":Str))=false:=by decide) :
 PS X (.Try body [.ExceptHandler (some (.Name x np)) (some n) (b0::rest) hpos] [] [] pos) (Pc oo K C i X.N.length tb th):=by
 subst hK;intro pq s σ H D I h;obtain⟨E,ar,hE⟩:=h;refine wpAny_Try_except ?_;have aw:X.A.frames=some (X.env::X.outer):=by rw[I.ok.frames,hst]
 have I' : Inv { X with pn:=X.pn++pq,xe:=λe s1=>∃uv σ' H0 s0,Inv { X with pn:=X.pn++pq} uv σ' H0 s0/\Df X.prog X.w X.stack H0 s0 E e s1} [] σ H s :=
  I.DJ (A':=X.A) (cm:=X.calm) rfl I.ok.hd λp hp=>by simpa using hp
 have U:Passes (Df X.prog X.w) { X with pn:=X.pn++pq,xe:=λe s1=>∃uv σ' H0 s0,Inv { X with pn:=X.pn++pq} uv σ' H0 s0/\Df X.prog X.w X.stack H0 s0 E e s1} E:=by
  intro uv σ' H0 s0 e s1 J q;exact⟨uv,σ',H0,s0,J.DJ (A':=X.A) (cm:=X.calm) (R4:=X.pn++pq) rfl J.ok.hd λp hp=>hp,q⟩
 have ax:∀{uv σ' H' s'},Inv { X with pn:=X.pn++pq} uv σ' H' s'->Inv X pq σ' H' s':=λ{uv σ' H' s'} J=>by
  have z:=J.DJ (A':=X.A) (cm:=X.calm) (R4:=X.pn) (uv:=pq) (Qy:=X.xe) rfl J.ok.hd λp hp=>C7 _ hp
  exact z
 have NK:∀{uv σ' H' s'} {Qy:dh},Inv { X with pn:=X.pn++pq,xe:=Qy} uv σ' H' s'->Inv X pq σ' H' s':=λ{uv σ' H' s' Qy} J=>by
  have z:=J.DJ (A':=X.A) (cm:=X.calm) (R4:=X.pn) (uv:=pq) (Qy:=X.xe) rfl J.ok.hd λp hp=>C7 _ hp
  exact z
 refine aaD (hb E _ _ U [] s σ H D I' ar) (λf s1 q=>?_) λe s1 q=>?_
 ·cases f with
  | next =>
    obtain⟨σ',H',J,q⟩:=q;exact wpAny_execs_nil ⟨σ',H',NK J,q⟩
  | brk =>
    obtain⟨σ',H',J,q⟩:=q;exact⟨σ',H',NK J,q⟩
  | cont =>
    obtain⟨σ',H',J,q⟩:=q;exact⟨σ',H',NK J,q⟩
  | ret u =>
    obtain⟨v,σ',H',J,r,q⟩:=q;exact⟨v,σ',H',NK J,r,q⟩
 ·obtain⟨uv,σ',H0,s0,I0,ea,cls,a0,od,c,H1,B,rfl,os,bare,un,hok,hn,JV,Z,sc,qE⟩:=q;rcases qE with⟨rfl,_,qE⟩|⟨C9,e9,C8,rfl,rfl,rfl,_,qE⟩
  case inr=>exact absurd (hE _ _ _ qE).1 (Qx _ _ _ _)
  obtain⟨hex,aT⟩:=hE cls od H1 qE;have J1:Inv { X with pn:=X.pn++pq} uv σ' H1 s1:=I0.JW os bare un hok
  have W3:∀b∈frs X.stack,H1 b=none:=J1.ur;have Y3:∀{h' : Heap},s1.heap.UpToSlots h'->∀b∈frs X.stack,∀ob,h'.get? b=some ob->∀vs,ob.data≠.fields vs:=λ{h'} up b hb ob e vs z=>by
   obtain⟨_,o,O,ag⟩:=J1.stack.mem hb;obtain⟨sl,q⟩:=up b o O ag;rw[e]at q;cases q;exact ag vs z
  have at_:∀{h' : Heap},B.StaysIn h'->s1.heap.UpToSlots h'->Inv X pq σ' H1 { s1 with heap:=h'}:=λ{h'} hB up=>by
   obtain⟨u2,W5,_⟩:=Ba un hok W3 (Y3 (Heap.UpToSlots.refl _)) JV hB up;exact ax (I0.JW (s':={ s1 with heap:=h'}) os bare u2 W5)
  have a3:ea∉frs X.stack:=λz=>by
   obtain⟨G,vs,e,_,d,_⟩:=Z.first;exact Y3 (Heap.UpToSlots.refl _) ea z G e vs d
  have GR:s0.heap.get? ea=none:=by
   cases hz:s0.heap.get? ea with
   | none=>rfl
   | some o =>
     obtain⟨G,vs,e,_⟩:=Z.first;have q:=JV ea G e (.inr ⟨o,hz⟩) a3;rw[Z.2.1]at q;cases q
  have a4 : Heap.FlyingW B (X.env::X.outer) ea cls a0 s1.heap:=by
   rw[hst]at Z;exact Z
  refine Pb aw hf a4 sc λh4 TU a5 a6=>?_
  obtain⟨g1,g2,g3,g4⟩:=TU;refine FH (s:={ s1 with heap:=h4}) g1 g2 g3 g4 a5 λh5 Xa a7 a8=>?_
  have TV:=a6.trans a8;have J5:=at_ Xa.1 TV;have Y:(X.A.mark (some (.ref ea))).frames=X.A.frames:=rfl;have a9 : Inv { X with A:=X.A.mark (some (.ref ea)),calm:=false,pn:=X.pn,xe:=λ_ _=>False} pq σ' H1 { s1 with heap:=h5}:=J5.DJ Y (λz=>nomatch z) λp hp=>hp
  refine wpAny_handleBy_cons (codeAny_handlers_test (nS a9 hg hm ?_ hdb)) (by intro q;cases q)
  obtain⟨ob,hob,Xb⟩:=Xa.there;have LT:PySem.W.Looks (model X.prog X.w) h5 (typeOf (.ref ea)) cls:=Xb▸(PySem.W.Looks.ld hob).andThen .now;refine PySem.W.Looks.here (s:={ s1 with heap:=h5}) (PySem.W.exm_one (K:=X.K) J5.o5 LT hex) ?_
  refine codeAny_handlers_suite_as ?_;obtain⟨k1,k2,k3,k4⟩:=Xa;refine FH (s:={ s1 with heap:=h5}) k1 k2 k3 k4.at a7 λh6 Y4 ba bb=>?_
  have Xc:=TV.trans bb;have J6:=at_ Y4.1 Xc;obtain⟨G,vs,e6,c6,d6,_⟩:=Y4.first;have z6:vs[2]?=some .none/\G.dict=od:=by
   obtain⟨o2,v2,g2,d2,z2,y2⟩:=ba;rw[e6]at g2;cases g2;rw[d6]at d2;cases d2;exact⟨z2,y2⟩
  have bc:ea≠X.env.locals:=λz=>by
   obtain⟨m,⟨o,_,_,O,hd,_⟩,_⟩:=J6.loc;rw[<-z]at O;rw[e6]at O;cases O;rw[d6]at hd;cases hd
  have J7:Inv X pq σ' (upd H1 ea (oo ea cls od)) { s1 with heap:=h6}:=by
   refine J6.JX hn ?_ bc (λy c e z=>?_) (λp hp z=>?_) (hoo ⟨G,vs,e6,c6,d6,z6.1,z6.2⟩)
   ·cases hz:X.s₀.heap.get? ea with
    | none=>rfl
    | some o =>
      obtain⟨o',q⟩:=I0.base.there ea o hz (show ea∉X.ex by rw[Qz];simp)
      rw[GR]at q;cases q
   ·obtain⟨v,o,O,hd⟩:=J6.cell y c e;rw[z,e6]at O;cases O;rw[d6]at hd;cases hd
   ·have q:=(I0.pin p (C7 _ hp)).1;rw[z,GR]at q;cases q
  have J8:Inv { X with A:=X.A.mark (some (.ref ea)),calm:=false,pn:=X.pn,xe:=λ_ _=>False} pq (List.replicate X.N.length none) (upd H1 ea (oo ea cls od)) { s1 with heap:=h6}:=by
   have z:Inv X pq (List.replicate X.N.length none) (upd H1 ea (oo ea cls od)) { s1 with heap:=h6}:=J7.weak (by rw[abv,J7.len]) λj v e=>by
    rw[abZ]at e
    split at e<;>cases e
   exact z.DJ Y (λz=>nomatch z) λp hp=>hp
  refine mZ (X:={ X with A:=X.A.mark (some (.ref ea)),calm:=false,pn:=X.pn,xe:=λ_ _=>False}) (v:=.ref ea) J8 hN hi (.inl hx) rfl (λs9 J9=>?_) (.inr hx)
  refine aaD (hh _ _ pq s9 _ _ _ J9 (aT ea hn)) (λf Pd q=>?_) λ_ _ z=>z.elim
  cases f with
  | next =>
    obtain⟨σ2,H2,bo,q⟩:=q;have bp:Inv X pq σ2 H2 Pd:=by
     have z:=bo.DJ (A':=X.A) (cm:=X.calm) (R4:=X.pn) (uv:=pq) (Qy:=X.xe) Y.symm I.ok.hd λp hp=>hp
     exact z
    exact GQ bp hN hi hx λbw bt=>⟨_,H2,bt,q⟩
  | brk=>obtain⟨_,_,_,q⟩:=q;exact q.elim
  | cont=>obtain⟨_,_,_,q⟩:=q;exact q.elim
  | ret u=>obtain⟨_,_,_,_,_,q⟩:=q;exact q.elim
def NL{x n:Str}{i:Nat}{C:Addr}{body rest:List Stmt}{b0:Stmt}{np hpos pos:Pos}{tb:XK->TS}{th:Addr->TS}(K:bN)(hst:X.stack=X.env::X.outer)(hf:X.env.frame=some X.env.locals)(Qz:X.ex=[])(hN:X.N.Nodup)(hi:X.N[i]?=some n)
 (hx:X.env.scope.names.lookup n=some .local) (hg:Gl X x) (hm:X.mg x=some (.ref C))
 (hb:∀E pn xe,Passes (Df X.prog X.w) { X with pn:=pn,xe:=xe} E->uw { X with pn:=pn,xe:=xe} body (tb E))
 (hh:∀G pn,uw { X with A:=X.A.mark (some (.ref G)),calm:=false,pn:=pn,xe:=λ_ _=>False} (b0::rest) (th G)) (hK:X.K=K:=by rfl) (hdb:(x==("__debug__":Str))=false:=by decide) :
 PS X (.Try body [.ExceptHandler (some (.Name x np)) (some n) (b0::rest) hpos] [] [] pos) (TR K C i X.N.length tb th):=NJ qY (λq=>NI q) K hst hf Qz hN hi hx hg hm hb hh hK hdb
end
open PySem PySem.Spec PySem.Calls PyProof.Rows PySem.W PySem.Builtin PySem.Builtin.ObjectAttr PySem.Builtin.Getset_descriptor
structure pB(K:Frag)(D:Addr):Prop where
 ga:findIn K (.ref D) "__getattribute__"=some (some (.builtin "BaseException.__getattribute__"))
 gh:findIn K (.ref D) "__getattr__"=some none
 cl:findIn K (.ref D) "__class__"=some (some (.builtin "object.__class__"))
 gt:specialIn K (.builtin "object.__class__") "__get__"=some (some (.builtin "getset_descriptor.__get__"))
 tk:takesIn K (.builtin "object.__class__")=some true
 mr:mroIn K D (.type "object")=some true
 mb:mroIn K D (.type "BaseException")=some true
 Y5:(clsIn K D).isSome=true
def ExcAt(x:Addr)(D:Value)(h:Heap):Prop:=∃G,h.get? x=some G/\G.cls=D
section
variable {K:Frag}{x D:Addr}
def ExcAt.ty{M:Model}{h:Heap}{V:Value}(q:ExcAt x V h):Looks M h (typeOf (.ref x)) V:=by
 obtain⟨G,e,c⟩:=q;exact c▸(Looks.ld e).andThen .now
def DK{M:Model}{h:Heap}{C:Addr}{name:Str}{at_ g:Value}(X:K.In h)(ha:findIn K (.ref C) name=some (some at_))(hg:specialIn K at_ "__get__"=some (some g))(hd:takesIn K at_=some true):
 Looks M h (find (.ref x) (.ref C) name) (.bind g at_):=by
 refine(looks_findIn X ha).andThen (Looks.andThen (show Looks M h (getOf (some at_)) (some g) from looks_specialIn X hg) ?_)
 have G:=looks_takesIn (M:=M) X hd;have I:Looks M h (dataDescriptor? (some at_) (some g)) (some (g,at_)):=G.andThen .now;exact I.andThen (Looks.tag .now)
section
variable {prog:Program}{w:World}{A:Around}{E:dh}{s:Shared}
def vc{M:Model}{nameV:Value}{Q:Unit->Shared->Prop}{hh:Heap}{gg:Array GenState}{dd:Drawn}{tt:Nat}{oo:OsState}(S:Looks M hh (isInstance (.ref x) (.type "BaseException")) true)(hq:Q () ⟨hh,gg,dd,tt,oo⟩):
 wpAny M A (checkBuiltinCall "BaseException.__getattribute__" ⟨[.ref x,nameV],[]⟩) Q E ⟨hh,gg,dd,tt,oo⟩:=by
 have hk:builtinKind "BaseException.__getattribute__"=some .slot:=by decide +kernel
 have G:splitId "BaseException.__getattribute__"=some ("BaseException","__getattribute__"):=by decide +kernel
 have ha:=F.args_bexc_ga (.ref x) nameV;simp only[checkBuiltinCall,hk,G];refine aN (S.at ?_)
 repeat (first | wp_step)
 exact hq
def GS{Q:Option Value->Shared->Prop}(C:pB K D)(X:K.In s.heap)(q:ExcAt x (.ref D) s.heap)(h:Q (some (.ref D)) { s with toks:=s.toks+1}):wpAny (model prog w) A (getAttr? (.ref x) "__class__") Q E s:=by
 obtain⟨hh,gg,dd,tt,oo⟩:=s;have G:=q.ty (M:=model prog w);have I:=looks_findIn (M:=model prog w) X C.ga;have O:=DK (M:=model prog w) (x:=x) X C.cl C.gt C.tk;have U:=looks_findIn (M:=model prog w) X C.gh;have L4:=looks_mroIn (M:=model prog w) X C.mr;have Y:=looks_mroIn (M:=model prog w) X C.mb;have Z:Looks (model prog w) hh (isInstance (.ref x) (.type "BaseException")) true:=G.andThen Y;unfold getAttr? getAttrBy? getAttrBy;refine aN (wpAny_mkText (aN (wpAny_attempt (aaF (aN (G.at (aN (I.at ?_))))))));show wpAny _ _ (getAttrByItsOwn (.ref x) (.str "__class__" tt) (.ref D) (.builtin "BaseException.__getattribute__") false false) _ _ _;unfold getAttrByItsOwn;refine aN (Looks.at (show Looks (model prog w) hh (hookBefore (.ref D)) none from U) ?_)
 refine aN (wpAny_attempt (aaF ?_));show wpAny _ _ (boundAndCalled _ _ _) _ _ _;unfold boundAndCalled;rw[F.attrBase_ValueError.ga.bind (.ref x)];refine aN (aah ?_);show wpAny _ _ (call (.builtin "BaseException.__getattribute__") [.ref x,.str "__class__" tt]) _ _ _;refine wpAny_call (codeAny_call_builtin F.attrBase_ValueError.ga.plain F.entry_bexc_ga ?_);refine vc Z ?_;refine aN (aah (aN (aah (aN (G.at (aN (O.at ?_)))))));show wpAny _ _ (holding [_] (call (.builtin "getset_descriptor.__get__") [.builtin "object.__class__",.ref x,.ref D]) >>= ret) _ _ _;refine aN (aaF (wpAny_call ?_));refine codeAny_call_builtin KF.slot_gs.plain KF.entry_gs (KF.slot_gs.check _ _ _ _ _ _ _ _ KF.type_class (KF.args_gs _ _ _) ?_)
 (unfold Builtin.«getset_descriptor.__get__» descrGet;rw[dga_obj])
 refine aN (aah ?_)
 (unfold descrGetter descrCheckInstance descrNameAndClass isInstance;simp only[KF.owner_class])
 repeat lk
 refine⟨Code.quiet_builtin _ (by decide +kernel),codeAny_builtin KF.entry_class ?_⟩
 (unfold Builtin.«object.__class__» shownTypeOf)
 repeat lk
 exact h
end
def JY(C:pB K D):KitX K (.ref x) (.ref D) (ExcAt x (.ref D)) where
 ty:=λ_ _ _ q=>q.ty
 it:=λM h X _=>by
  have z:=C.Y5;unfold clsIn at z
  split at z
  ·rename_i G
   intro U Y Z s1 k q
   (unfold isType;unfold loadHead)
   exact aN (wpAny_loadPart (k _ _ (X _ _ G)) (aah q))
  ·cases z
 ne:=λh tp dd O n sl X I=>by
  have z:=C.Y5;refine RV.mpr λq=>?_
  cases Value.ref.inj (beq_iff_eq.mp q);unfold clsIn at z
  split at z
  ·rename_i G
   cases(X _ _ G).symm.trans I
  ·cases z
 ca:=λX q k=>GS C X q k
end
section
variable {X:Cx}
def TX(K:bN):V->V->Hp->VK->Prop:=λo i H Q=>∃p xs j v,o = .ref p/\i = .int ((j:Nat):Int)/\aM K H p xs/\xs[j]?=some v/\Q v H
def getL(K:bN)(hK:X.K=K:=by rfl):SR X (TX K):=by
 subst hK;intro pq s σ H o i U Y Q I G ri h;obtain⟨p,xs,j,v,rfl,rfl,O,e,q⟩:=h;cases G;obtain⟨t,rfl⟩:=ri;obtain⟨its,r,pl,hz⟩:=I.list O;obtain⟨u,eu,ru⟩:=r.get e;have hj:j<xs.length:=(ju.mp e).1;have hn:=uX;exact wpAny_getItem_list pl.isList (by lia) (by lia) (by simpa using eu) ⟨v,H,I,ru,q⟩
def TY(K:bN):R2:=λx y H Q=>∃l b xs zs,x = .ref l/\y = .ref b/\aM K H l xs/\aM K H b zs/\xs.length+zs.length<=sizeLine/\∀p,H p=none->Q (.ref p) (upd H p (.lst (xs++zs)))
def Xd(K:bN)(hK:X.K=K:=by rfl):lC X (binaryOp .Add) (TY K):=by
 subst hK;intro pq s σ H x y v u Q I rx G h;obtain⟨l,b,xs,zs,rfl,rfl,O,U,hz,q⟩:=h;cases rx;cases G;obtain⟨its,r,pl,_⟩:=I.list O;obtain⟨its2,r2,VE,_⟩:=I.list U;obtain⟨⟨cls,dd,data,sl⟩,n,e,hc,_,hd⟩:=pl;obtain⟨⟨S9,dd2,data2,sl2⟩,n2,e2,hc2,_,hd2⟩:=VE;simp only at hc hd hc2 hd2;subst hc hd hc2 hd2;have l1:=r.length;have Z:=r2.length;have Y:its.toArray++its2.toArray=(its++its2).toArray:=by simp
 refine concat_meets ⟨_,e,rfl⟩ ⟨_,e2,rfl⟩ noFill_list_add seq_list_add PySem.F.slot_list_add PySem.F.entry_list_add (PySem.F.args_list_add_2 _ _)
  (list_addW l b its.toArray its2.toArray n n2 dd dd2 sl sl2 (by rw[aau,aau];lia)) ⟨e,e2,?_⟩
 rw[Y];exact⟨.ref _,_,I.Tn (t':=s.toks) (r.append r2) (by rw[aao];lia),rfl,q _ I.fresh⟩
end
section
variable {X:Cx}{tg:Expr}
def uy{iter:Expr}{body:List Stmt}{wi:TI}{g:TG}{tb:TS}{pos:Pos}(hc:X.calm=true)(hi:PI X tg iter wi)(hg:PG X.Dd tg g)(hb:uw X.Dd body tb)(hs:∀x,foldedSetIterable iter X.env x=pure x:=by intro _;rfl):
 PS X (.For tg iter body [] pos) (dM wi g tb):=by
 intro pq s σ H D I h;refine wpAny_For (dP (hi pq s σ H _ I h) λv s1 h1=>dP h1 λar s2 h2=>?_) hs
 obtain⟨it,fp,tn,J,H2,e,I2,T,ag,f2,W,⟨m0,w0⟩,turn⟩:=h2;subst e;have Dt:∀{H' : Hp},(∀b∈fp,H' b=none)->∀b∈fp,o7 X.Dd pq H' b:=λhn b hb=>⟨hn b hb,(f2 b hb).2⟩
 refine codeAny_forLoop_any (λn s'=>∃i σ' H',Inv X.Dd pq σ' H' s'/\tn i s'.heap/\(∀b∈fp,H' b=none)/\W i n σ' H') ?_ m0 ⟨0,σ,H2,I2.uT _,ag,λb hb=>(f2 b hb).1,w0⟩
 rintro n s3 ⟨i,σ3,H3,I3,Y,O2,w3⟩;rcases turn i n σ3 H3 w3 with⟨stop,qn⟩|⟨go,N,hN,step⟩
 ·refine aaD (T.done X.Dd rfl rfl rfl hc i pq s3 σ3 H3 (λ_ _=>False) I3 (Dt O2) Y stop) (λr s4 ⟨hr,I4⟩=>?_) λ_ _ z=>z.elim
  subst hr;exact wpAny_execs_nil ⟨σ3,H3,I4.jv,qn⟩
 ·refine aaD (T.item X.Dd rfl rfl rfl hc i pq s3 σ3 H3 (λ_ _=>False) I3 (Dt O2) Y go) (λr s4 ⟨u,hr,h4⟩=>?_) λ_ _ z=>z.elim
  subst hr;refine aaD h4 (λ_ s5 ⟨x,H5,I5,r5,y5,Ju,SW⟩=>?_) λ_ _ z=>z.elim
  have SX:=I5.pinned (Dt SW) (T.obj _ _ Ju);refine aaD (hg _ s5 σ3 H5 x u _ SX r5 (step x H5 y5)) (λ_ s6 ⟨σ6,H6,I6,q6⟩=>?_) λ_ _ z=>z.elim
  refine aaD (hb _ s6 σ6 H6 _ I6 q6) (λf s7 U=>?_) λ_ _ z=>z.elim
  have again:∀{σ7:St} {G:Hp},Inv X.Dd (pq++qU fp s5.heap) σ7 G s7->N σ7 G->∃m,m<n/\∃i σ' H',Inv X.Dd pq σ' H' s7/\tn i s7.heap/\(∀b∈fp,H' b=none)/\W i m σ' H':=λ{σ7 G} O Z=>by
   obtain⟨m',hm,w7⟩:=hN σ7 G Z;refine⟨m',hm,i+1,σ7,G,O.jw,T.keep _ _ _ Ju λb hb o e=>(O.pin (b,o) (iO _ (iO _ (g7 hb e)))).1,λb hb=>?_,w7⟩
   obtain⟨o,e,d⟩:=T.obj _ _ Ju b hb;exact(O.pin (b,o) (iO _ (iO _ (g7 hb e)))).2.1
  cases f with
  | next=>obtain⟨σ7,G,O,Z⟩:=U;exact again O Z
  | cont=>obtain⟨σ7,G,O,Z⟩:=U;exact again O Z
  | brk=>obtain⟨σ7,G,O,U⟩:=U;exact⟨σ7,G,O.jw.jv,U⟩
  | ret v=>obtain⟨x7,σ7,G,O,r7,U⟩:=U;exact⟨x7,σ7,G,O.jw.jv,r7,U⟩
def tF{P:Program}{w:World}{X:Cx}:Passes (Df P w) X (λ_ _ _=>False):=by
 intro pq σ H s e s' I q;obtain⟨_,_,_,_,_,_,_,_,_,_,_,_,_,_,_,_,z⟩:=q;rcases z with⟨_,_,z⟩|⟨_,_,_,_,_,_,_,z⟩
 ·exact z.elim
 ·exact z.elim
end
def DL{X:Cx}{x:Str}{C:Addr}{pos:Pos}(hg:Gl X x)(hm:X.mg x=some (.ref C))(hd:(x==("__debug__":Str))=false:=by decide):PE X (.Name x pos) (tC (.ref C)):=Nd hg hm rfl hd
def zk{K:bN}{h:Heap}{mg:mQ}{x:Str}{C:Addr}{bmB:List Value}{newId:String}(X:K.In h)(G:h.Ns mainGlobals mg)(e:PySem.W.nsIn K mainGlobals x=some (some (.ref C)))(q:PySem.W.excIn K C bmB newId=true):
 OwnCls x C bmB newId mg h:=by
 refine⟨PySem.W.mg_of X G e,?_⟩;unfold PySem.W.excIn at q
 split at q
 ·rename_i od cd sl look
  split at q
  ·rename_i Cx bm Z j1 j2 j3 nw j5 I O
   simp only[aaH,beq_iff_eq,acs]at q;obtain⟨⟨⟨⟨⟨rfl,rfl⟩,TZ⟩,ht⟩,hok⟩,U⟩:=q;obtain⟨nm,bs,mro,ns,qn,hd,sn,sub,ab,col,del⟩:=cd
   (dsimp only at I TZ hok U;subst I TZ)
   have Y:sl = #[Z,j1,j2,j3,some (.builtin nw),j5]:=by
    obtain⟨l⟩:=sl;simp only at O;rw[O]
   subst Y;exact⟨bm,ns,nm,qn,bs,hd,sn,sub,ab,col,od,Z,j1,j2,j3,j5,_,X _ _ look,.of_isNs (PySem.W.isNs_of_in X hok),PySem.W.nsMap_none_of_in X hok U,PySem.W.tail_of_in X ht⟩
  ·cases q
 ·cases q
def JZ{K:bN}{C:PySem.Addr}(h:PySem.W.hasDictIn K C=true):(PySem.W.clsIn K C).isSome=true:=by
 obtain⟨cd,e,_⟩:=PySem.W.any_some h;rw[e];rfl
def Xe{α:Type}:∀us:List α,us.length=1->∃a,us=[a]
 | [_],_=>⟨_,rfl⟩
def Xf{α:Type}:∀us:List α,us.length=2->∃a b,us=[a,b]
 | [_,_],_=>⟨_,_,rfl⟩
def T3{α:Type}:∀us:List α,us.length=3->∃a b c,us=[a,b,c]
 | [_,_,_],_=>⟨_,_,_,rfl⟩
section
variable {X:Cx}{pq:aQ}{σ:St}{H:Hp}{s:Shared}{h' : Heap}
def Inv.yields{t' : Nat}{wr:List Addr}{T:Addr}{o:HO}(I:Inv X pq σ H s)(k:∀b u,b∉wr->s.heap.get? b=some u->h'.get? b=some u)(hf:∀b∈wr,o7 X pq H b)(hT:s.heap.objs.size<=T)
 (new:bg X.prog X.w (upd H T o) h' T o):Inv X pq σ (upd H T o) { s with heap:=h',toks:=t'}:=by
 have O:H T=none:=I.hok.fresh hT;have G:∀b u,H b=some u->b≠T:=λb u e=>bj e O
 have nw:∀b u,H b=some u->b∉wr:=λb u e hb=>by rw[(hf b hb).1]at e;cases e
 refine I.step (g':=s.gens) (d':=s.drawn) (ch:=wr) (λb hb=>?_) (λb o _ _ hc e _=>k b o hc e) (λb o _ _ hc e _=>⟨o.slots,k b o hc e⟩) (λb u hc e n=>?_)
  (λb o hc e=>⟨o,k b o hc e⟩) (λb xs e=>?_) (λb ob xs e=>?_) (λb ps e=>⟨#[],?_⟩) (λm hm=>?_) (λb u e=>?_) I.bare
 ·obtain⟨_,f1,_,f3,f4,f5⟩:=hf b hb;exact⟨f3,f1,f4,f5⟩
 ·rw[ao (aay (aap (aal e) hT))];exact n
 ·rw[ao (G b _ e)];exact e
 ·rw[ao (G b _ e)];exact e
 ·rw[ao (G b _ e),e];simp
 ·obtain⟨o,es,ep,U,r⟩:=hm;exact⟨o,es,ep,k _ o (λhb=>(hf _ hb).2.1 rfl) U,r⟩
 ·by_cases hb:b=T
  ·subst hb;rw[ae]at e;cases e;exact new
  ·rw[ao hb]at e;refine(I.hok b u e).stay (λc v hc q=>k c v ?_ q) (λc q=>by rw[ao (G c _ q)];exact q) λc xs q=>by rw[ao (G c _ q)];exact q
   rcases hc with z|z
   ·rw[z];exact nw b u e
   ·exact nw c _ z
def Inv.NO{t' : Nat}{wr:List Addr}(I:Inv X pq σ H s)(k:∀b u,b∉wr->s.heap.get? b=some u->h'.get? b=some u)(hf:∀b∈wr,o7 X pq H b):Inv X pq σ H { s with heap:=h',toks:=t'}:=by
 have nw:∀b u,H b=some u->b∉wr:=λb u e hb=>by rw[(hf b hb).1]at e;cases e
 refine I.step (g':=s.gens) (d':=s.drawn) (ch:=wr) (λb hb=>?_) (λb o _ _ hc e _=>k b o hc e) (λb o _ _ hc e _=>⟨o.slots,k b o hc e⟩) (λ_ _ _ _ n=>n)
  (λb o hc e=>⟨o,k b o hc e⟩) (λ_ _ e=>e) (λ_ _ _ e=>e) (λb ps e=>⟨#[],by rw[e];simp⟩) (λm hm=>?_) (λb u e=>?_) I.bare
 ·obtain⟨_,f1,_,f3,f4,f5⟩:=hf b hb;exact⟨f3,f1,f4,f5⟩
 ·obtain⟨o,es,ep,G,r⟩:=hm;exact⟨o,es,ep,k _ o (λhb=>(hf _ hb).2.1 rfl) G,r⟩
 ·refine(I.hok b u e).stay (λc v hc q=>k c v ?_ q) (λ_ q=>q) λ_ _ q=>q
  rcases hc with z|z
  ·rw[z];exact nw b u e
  ·exact nw c _ z
end
def R5(K:bN)(a:Addr):It :=
 ⟨λi H=>∃xs x,aM K H a xs/\xs[i]?=some x,λi H v H'=>∃T x,v = .ref T/\H T=none/\H' = upd H T (.tup [.int (i:Int),x])/\∀xs,aM K H a xs->xs[i]?=some x,λi H=>∃xs,aM K H a xs/\xs.length<=i⟩
def GU{P:Program}{w:World}{K:bN}{elts:List Expr}{k:Nat}{pos:Pos}(a e it:Addr)(hne:e≠it):
 Turn P w K (.Tuple elts k pos) (R5 K a) [e,it] e (λi h=>(∃old,IsEnum h e it (i:Int) old)/\h.IsListIter it a i) where
 mem:=by simp
 obj:=λi h st b hb=>by
  obtain⟨⟨old,he⟩,o,Y,c,d⟩:=st;have G : b=e\/b=it:=by simpa using hb
  rcases G with rfl|rfl
  ·exact⟨_,he,λv z=>by cases z⟩
  ·exact⟨o,Y,λv z=>by rw[d]at z;cases z⟩
 keep:=λi h h' st k=>by
  obtain⟨⟨old,he⟩,hit⟩:=st;exact⟨⟨old,k e (by simp) _ he⟩,hit.at λo x=>k it (by simp) o x⟩
 item:=by
  intro X Z hw hK hc i pq s σ H E I hf st hg;subst Z hw hK;obtain⟨xs,x,U,hx⟩:=hg;obtain⟨its,rv,p,hz⟩:=I.list U;obtain⟨u,hu,ru⟩:=rv.get hx;obtain⟨⟨old,he⟩,hit⟩:=st;refine wpAny_pyNext_enum_item he hit p.isList (x:=u) (by simpa using hu) hne λh1 Y QA hT ar hk=>?_
  refine⟨_,rfl,wpAny_letOwnedTupleGo_enum Y λh2 NP O=>?_⟩
  have T4:s.heap.objs.size≠e:=abC (aal he);have ag:h2.get? s.heap.objs.size=some { cls:=.type "tuple",data:=.seq #[.int i s.toks,u]}:=(O.2 _ T4).trans hT;refine⟨.ref s.heap.objs.size,upd H s.heap.objs.size (.tup [.int (i:Int),x]),I.yields (wr:=[e,it]) (t':=s.toks+1) (λb o hb q=>?_) hf (aaf _) ?_,rfl,⟨_,x,rfl,I.fresh,rfl,λys hy=>by rw[I.pX hy U];exact hx⟩,⟨⟨u,by simpa using NP⟩,?_⟩,λb hb=>?_⟩
  ·have J0:b≠e:=λz=>hb (by simp[z])
   have QB:b≠it:=λz=>hb (by simp[z])
   exact(O.2 b J0).trans (hk b o J0 QB q)
  ·exact⟨dl rfl,[.int i s.toks,u],.cons ⟨_,rfl⟩ (.cons ru .nil),⟨_,ag,rfl,_,rfl⟩⟩
  ·exact QA.at λo q=>(O.2 it (aba hne)).trans q
  ·rw[ao]
   ·exact(hf b hb).1
   ·have G : b=e\/b=it:=by simpa using hb
    rcases G with rfl|rfl
    ·exact aba T4
    ·obtain⟨o,q,_⟩:=hit;exact aay (aal q)
 done:=by
  intro X Z hw hK hc i pq s σ H E I hf st hg;subst Z hw hK;obtain⟨xs,U,hx⟩:=hg;obtain⟨its,rv,p,hz⟩:=I.list U;obtain⟨⟨old,he⟩,hit⟩:=st;obtain⟨f0,f1,f2,f3,f4,f5⟩:=hf it (by simp)
  have hl:=rv.length;exact wpAny_pyNext_enum_end (I.ok.hd hc) he hit p.isList (by simp;lia) λh' eb=>⟨rfl,I.turned (t':=s.toks) (λb o hb e=>eb b o hb e) f0 f1 f3 f4 f5⟩
 self:=λ_ _ _ _ _ st h=>by
  obtain⟨⟨old,he⟩,_⟩:=st;exact wpAny_pyIter_enum he h
def Xg(K:bN)(a b:Addr):It :=
 ⟨λi H=>∃xs ys x y,aM K H a xs/\aM K H b ys/\xs[i]?=some x/\ys[i]?=some y,
  λi H v H'=>∃T x y,v = .ref T/\H T=none/\H' = upd H T (.tup [x,y])/\(∀xs,aM K H a xs->xs[i]?=some x)/\∀ys,aM K H b ys->ys[i]?=some y,
  λi H=>∃xs ys,aM K H a xs/\aM K H b ys/\(xs.length<=i\/ys.length<=i)⟩
def Ka{P:Program}{w:World}{K:bN}{elts:List Expr}{k:Nat}{pos:Pos}(a b z TI TO i1 i2:Addr)(D:ZipApart z TI TO i1 i2 a b):
 Turn P w K (.Tuple elts k pos) (Xg K a b) [z,TI,TO,i1,i2] z (λi h=>IsZip h z TI TO .none/\IsPair h TI (.ref i1) (.ref i2)/\(∃u v,IsPair h TO u v)/\h.IsListIter i1 a i/\h.IsListIter i2 b i) where
 mem:=by simp
 obj:=λi h st c hc=>by
  obtain⟨hz,U,⟨u,v,Z⟩,⟨o1,MW,_,d1⟩,o2,ag,_,d2⟩:=st;have G : c=z\/c=TI\/c=TO\/c=i1\/c=i2:=by simpa using hc
  rcases G with rfl|rfl|rfl|rfl|rfl
  ·exact⟨_,hz,λv z=>by cases z⟩
  ·exact⟨_,U,λv z=>by cases z⟩
  ·exact⟨_,Z,λv z=>by cases z⟩
  ·exact⟨o1,MW,λv z=>by rw[d1]at z;cases z⟩
  ·exact⟨o2,ag,λv z=>by rw[d2]at z;cases z⟩
 keep:=λi h h' st k=>by
  obtain⟨hz,U,⟨u,v,Z⟩,h1,h2⟩:=st;exact⟨k z (by simp) _ hz,k TI (by simp) _ U,⟨u,v,k TO (by simp) _ Z⟩,h1.at λo e=>k i1 (by simp) o e,h2.at λo e=>k i2 (by simp) o e⟩
 item:=by
  intro X hP hw hK hc i pq s σ H E I hf st hg;subst hP hw hK;obtain⟨xs,ys,x,y,hq,Y,hx,hy⟩:=hg;obtain⟨its,rv,p,hzl⟩:=I.list hq;obtain⟨its2,VF,p2,Xh⟩:=I.list Y;obtain⟨u,hu,ru⟩:=rv.get hx;obtain⟨u2,hu2,ru2⟩:=VF.get hy;obtain⟨hz,U,⟨v1,v2,Z⟩,h1,h2⟩:=st;refine wpAny_pyNext_zip_item D hz U Z h1 h2 p.isList p2.isList (x:=u) (y:=u2) (by simpa using hu) (by simpa using hu2) λh3 ar aw ax aT hT a4 hk=>?_
  refine⟨_,rfl,wpAny_letOwnedTupleGo_zip ar λh4 a3 Kc=>?_⟩
  have lt:∀{c o},s.heap.get? c=some o->s.heap.objs.size≠c:=λe=>abC (aal e)
  have VG:h4.get? s.heap.objs.size=some { cls:=.type "tuple",data:=.seq #[u,u2]}:=(Kc.2 _ (lt hz)).trans hT;have kk:∀c o,c∉[z,TO,i1,i2]->s.heap.get? c=some o->h4.get? c=some o:=λc o hc q=>by
   have c1:c≠z:=λe=>hc (by simp[e])
   exact(Kc.2 c c1).trans (hk c o c1 (λe=>hc (by simp[e])) (λe=>hc (by simp[e])) (λe=>hc (by simp[e])) q)
  have O:∀c∈[z,TO,i1,i2],c∈[z,TI,TO,i1,i2]:=λc hc=>by
   have G : c=z\/c=TO\/c=i1\/c=i2:=by simpa using hc
   rcases G with rfl|rfl|rfl|rfl<;>simp
  refine⟨.ref s.heap.objs.size,upd H s.heap.objs.size (.tup [x,y]),I.yields (wr:=[z,TO,i1,i2]) (t':=s.toks) kk (λc hc=>hf c (O c hc)) (aaf _) ?_,rfl,
   ⟨_,x,y,rfl,I.fresh,rfl,λzs hy=>by rw[I.pX hy hq];exact hx,λzs hz=>by rw[I.pX hz Y];exact hy⟩,⟨a3,(Kc.2 _ D.TIz).trans (hk _ _ D.TIz D.TITO D.TIi1 D.TIi2 U),⟨u,u2,(Kc.2 _ D.TOz).trans aw⟩,?_,?_⟩,λc hc=>?_⟩
  ·exact⟨dl rfl,[u,u2],.cons ru (.cons ru2 .nil),⟨_,VG,rfl,_,rfl⟩⟩
  ·exact ax.at λo q=>(Kc.2 _ D.i1z).trans q
  ·exact aT.at λo q=>(Kc.2 _ D.i2z).trans q
  ·rw[ao]
   ·exact(hf c hc).1
   ·have G : c=z\/c=TI\/c=TO\/c=i1\/c=i2:=by simpa using hc
    rcases G with rfl|rfl|rfl|rfl|rfl
    ·exact aba (lt hz)
    ·exact aba (lt U)
    ·exact aba (lt Z)
    ·obtain⟨o,q,_⟩:=h1;exact aba (lt q)
    ·obtain⟨o,q,_⟩:=h2;exact aba (lt q)
 done:=by
  intro X hP hw hK hc i pq s σ H E I hf st hg;subst hP hw hK;obtain⟨xs,ys,hq,Y,hx⟩:=hg;obtain⟨its,rv,p,hzl⟩:=I.list hq;obtain⟨its2,VF,p2,Xh⟩:=I.list Y;obtain⟨hz,U,⟨v1,v2,Z⟩,h1,h2⟩:=st;have hl:=rv.length;have a5:=VF.length;have O:∀c∈[z,TO,i1,i2],c∈[z,TI,TO,i1,i2]:=λc hc=>by
   have G : c=z\/c=TO\/c=i1\/c=i2:=by simpa using hc
   rcases G with rfl|rfl|rfl|rfl<;>simp
  refine wpAny_pyNext_zip_end (I.ok.hd hc) D hz U Z h1 h2 p.isList p2.isList (hx.imp (λq=>by simp;lia) λq=>by simp;lia) λh' kk=>⟨rfl,I.NO (wr:=[z,TO,i1,i2]) (t':=s.toks) (λc o hc q=>?_) λc hc=>hf c (O c hc)⟩
  exact kk c o (λe=>hc (by simp[e])) (λe=>hc (by simp[e])) (λe=>hc (by simp[e])) (λe=>hc (by simp[e])) q
 self:=λ_ _ _ _ _ st h=>wpAny_pyIter_zip st.1 h
def GV{n a b:Nat}(la:a<n)(lb:b<n):ZipApart (n+4) (n+2) (n+3) n (n+1) a b:=by
 have k:∀{x y:Nat},x<y\/y<x->x≠y:=λh=>by lia
 constructor<;>exact k (by lia)
section
variable {X:Cx}{elts:List Expr}{n:Nat}{tp:Pos}
def T5(K:bN)(ta:TA):TI:=λσ H R=>ta σ H λvs H1=>∃a,vs=[.ref a]/\(∃xs,aM K H1 a xs)/\R (R5 K a) H1
def Xi(K:bN)(ta:TA):TI:=λσ H R=>ta σ H λvs H1=>∃a b,vs=[.ref a,.ref b]/\(∃xs,aM K H1 a xs)/\(∃ys,aM K H1 b ys)/\R (Xg K a b) H1
def FJ(K:bN){a:Expr}{ta:TA}{p pos:Pos}(hg:Gl X "enumerate")(hm:X.mg "enumerate"=none)(ha:PA X [a] ta)(hs:starEach [a] X.env=[(false,eval a X.env)]:=by rfl)(hK:X.K=K:=by rfl):
 PI X (.Tuple elts n tp) (.Call (.Name "enumerate" p) [a] [] pos) (T5 K ta):=by
 subst hK;intro pq s σ H R I h;refine Call_ (kA I hg hm boot_enumerate (abz (dP (ha pos pq s σ H _ I h) λus s1 ⟨vs,H1,G,Y,Z⟩=>?_) hs rfl))
 obtain⟨a,e,⟨xs,hq⟩,q⟩:=Z;subst e;cases Y with
 | cons r rr =>
   cases rr;cases r;obtain⟨ag,rv,pl,hz⟩:=G.list hq;refine call_enumerate_list pl.isList λh' he hit ar hk=>?_
   have I2:Inv X pq σ H1 { s1 with heap:=h'}:=G.kept (t':=s1.toks) hk
   refine wpAny_pyIter_enum he ⟨_,[s1.heap.objs.size+1,s1.heap.objs.size],_,_,H1,rfl,I2,GU a _ _ (ac5 _),⟨⟨_,he⟩,hit⟩,λb hb=>?_,q⟩
   have O : b=s1.heap.objs.size+1\/b=s1.heap.objs.size:=by simpa using hb
   have U:s1.heap.objs.size<=b:=by
    rcases O with rfl|rfl
    ·exact abF _
    ·exact aaf _
   exact G.GC U (G.hok.fresh U)
def Kd(K:bN){a b:Expr}{ta:TA}{p pos:Pos}(hg:Gl X "zip")(hm:X.mg "zip"=none)(ha:PA X [a,b] ta)(hs:starEach [a,b] X.env=[(false,eval a X.env),(false,eval b X.env)]:=by rfl)(hs2:starEach [b] X.env=[(false,eval b X.env)]:=by rfl)(hK:X.K=K:=by rfl):
 PI X (.Tuple elts n tp) (.Call (.Name "zip" p) [a,b] [] pos) (Xi K ta):=by
 subst hK;intro pq s σ H R I h;refine Call_ (kA I hg hm boot_zip (abz (dP (ha pos pq s σ H _ I h) λus s1 ⟨vs,H1,G,r1,q1⟩=>?_) (by rw[hs,hs2]) (by rw[hs2];rfl)))
 obtain⟨a,b,e,⟨xs,hq⟩,⟨ys,U⟩,q⟩:=q1;subst e;cases r1 with
 | cons r Y =>
   cases Y with
   | cons r' Y =>
     cases Y;cases r;cases r';obtain⟨ag,rv,pl,hz⟩:=G.list hq;obtain⟨its2,VF,VE,hz2⟩:=G.list U;refine call_zip_2 pl.isList VE.isList λh' Y7 hI hO h1 h2 ar hk=>?_
     have I2:Inv X pq σ H1 { s1 with heap:=h'}:=G.kept (t':=s1.toks) hk
     have la:a<s1.heap.objs.size:=by obtain⟨_,q,_⟩:=pl.isList;exact aal q
     have lb:b<s1.heap.objs.size:=by obtain⟨_,q,_⟩:=VE.isList;exact aal q
     refine wpAny_pyIter_zip Y7 ⟨_,[s1.heap.objs.size+4,s1.heap.objs.size+2,s1.heap.objs.size+3,s1.heap.objs.size,s1.heap.objs.size+1],_,_,H1,rfl,I2,
      Ka a b _ _ _ _ _ (GV la lb),⟨Y7,hI,⟨_,_,hO⟩,h1,h2⟩,λc hc=>?_,q⟩
     have Z : c=s1.heap.objs.size+4\/c=s1.heap.objs.size+2\/c=s1.heap.objs.size+3\/c=s1.heap.objs.size\/c=s1.heap.objs.size+1:=by simpa using hc
     have O:s1.heap.objs.size<=c:=by
      rcases Z with rfl|rfl|rfl|rfl|rfl
      ·exact ach _ _
      ·exact ach _ _
      ·exact ach _ _
      ·exact aaf _
      ·exact ach _ _
     exact G.GC O (G.hok.fresh O)
end
section
variable {K:bN}{a b:Addr}{xs ys:List V}{g:TG}{tt:TT}{te:TE}{n:Nat}{fr:St}{D:Addr}{Q:Hp->Prop}{H1:Hp}
def Ke{tb:TS}{D:Ends}{σ:St}{H:Hp}(Pv:Nat->St->Hp->Prop)(h0:Pv 0 σ H)(hl:∀i σ H,i<=xs.length->Pv i σ H->aM K H a xs)
 (hs:∀i x T σ H,xs[i]?=some x->Pv i σ H->H T=none->g (.ref T) σ (upd H T (.tup [.int (i:Int),x])) λσ2 H2=>tb { D with nx:=Pv (i+1),ct:=Pv (i+1),bk:=D.nx} σ2 H2) (hd:∀σ H,Pv xs.length σ H->D.nx σ H) :
 ∃W:Nat->Nat->St->Hp->Prop,(∃m,W 0 m σ H)/\∀i m σ H,W i m σ H->
   ((R5 K a).stop i H/\D.nx σ H)\/((R5 K a).go i H/\∃N:St->Hp->Prop,(∀σ' H',N σ' H'->∃I,I<m/\W (i+1) I σ' H')/\∀x H',(R5 K a).MU i H x H'->g x σ H' λσ2 H2=>tb { D with nx:=N,ct:=N,bk:=D.nx} σ2 H2):=by
 refine⟨λi m σ H=>m=xs.length-i/\i<=xs.length/\Pv i σ H,⟨xs.length,by simp,aaL _,h0⟩,?_⟩
 rintro i m σ H ⟨rfl,hi,p⟩;have q:=hl i σ H hi p
 by_cases G:i<xs.length
 ·refine .inr ⟨⟨xs,xs[i],q,by simp[G]⟩,Pv (i+1),λσ' H' O=>⟨xs.length-(i+1),by lia,rfl,G,O⟩,λv H' y=>?_⟩
  obtain⟨T,x,rfl,U,rfl,y⟩:=y;exact hs i x T σ _ (y xs q) p U
 ·have e:i=xs.length:=by lia
  subst e;exact .inl ⟨⟨xs,q,aaf _⟩,hd σ H p⟩
def Bb(hxy:xs.length=ys.length)(Pv:Nat->List V->Hp->Prop)(h0:Pv 0 [] H1)(hl:∀i acc H,i<=xs.length->Pv i acc H->aM K H a xs/\aM K H b ys/\H D=some (.lst acc)/\acc.length<=i)(hz:xs.length<=sizeLine)
 (hs:∀i x y T acc H,xs[i]?=some x->ys[i]?=some y->Pv i acc H->H T=none->g (.ref T) (List.replicate n none++fr) (upd H T (.tup [x,y])) λσ2 H2=>σ2.drop n=fr/\tt σ2 H2 λb H3 =>
  if b=true then te σ2 H3 λv H4=>H4 D=some (.lst acc)/\Pv (i+1) (acc++[v]) (upd H4 D (.lst (acc++[v]))) else Pv (i+1) acc H3)
 (hd:∀acc H,Pv xs.length acc H->Q H):jz (Xg K a b) g tt te n fr D Q H1:=by
 refine⟨λi m acc H=>m=xs.length-i/\i<=xs.length/\Pv i acc H,⟨xs.length,by simp,aaL _,h0⟩,?_⟩
 rintro i m acc H ⟨rfl,hi,p⟩;obtain⟨q,I,U,ha⟩:=hl i acc H hi p;refine⟨U,?_⟩
 by_cases G:i<xs.length
 ·have Y:i<ys.length:=by lia
  refine .inr ⟨⟨xs,ys,xs[i],ys[i],q,I,by simp[G],by simp[Y]⟩,by lia,Pv (i+1),λO H' Z=>⟨xs.length-(i+1),by lia,rfl,G,Z⟩,λv H' y=>?_⟩
  obtain⟨T,x,z,rfl,hT,rfl,y1,y2⟩:=y;exact hs i x z T acc _ (y1 xs q) (y2 ys I) p hT
 ·have e:i=xs.length:=by lia
  subst e;exact .inl ⟨⟨xs,ys,q,I,.inl (aaf _)⟩,hd acc H p⟩
end
section
variable {X:Cx}
def Bc:fJ X (.type "range") (λxs H Q=>∃j:Int,xs=[.int j]/\∀p,H p=none->Q (.ref p) (upd H p (.Gx 0 j))):=by
 intro pq s σ H xs us Q I r h;obtain⟨j,rfl,q⟩:=h;obtain⟨u,rfl,t,rfl⟩:=vals1 r;refine call_range_1 ⟨.ref s.heap.objs.size,_,I.laid (t':=s.toks+1+1) (λb o e=>aak _ e) (aaf _) ?_,rfl,q _ I.fresh⟩
 exact⟨_,_,_,aaB _ rfl⟩
def xr(n:Nat):List V:=(List.range n).map λi=>V.int ((i:Nat):Int)
def Pe(hc:X.calm=true):fJ X (.type "list") (λxs H Q=>∃p,∃n:Nat,xs=[.ref p]/\H p=some (.Gx 0 (n:Int))/\n<=900/\∀l,H l=none->Q (.ref l) (upd H l (.lst (xr n)))):=by
 intro pq s σ H xs us Q I r h;obtain⟨p,n,rfl,hp,hn,q⟩:=h;obtain⟨u,rfl,rx⟩:=vals1 r;cases rx;obtain⟨t,u,v,e⟩:=(show bg X.prog X.w H s.heap p (.Gx 0 (n:Int)) from I.hok p _ hp)
 have O:Builtin.Range.rangeSize 0 (n:Int) 1=(n:Int):=by rw[rangeSize_one];split<;>lia
 refine call_list_range (I.ok.hd hc) e (small_one (by lia) (by lia) (by lia) (by lia)) O (aaE hn (by decide)) λh' tk acc c kp e' G=>?_
 refine⟨.ref s.heap.objs.size,_,I.laid (t':=tk) kp (aaf _) ?_,rfl,q _ I.fresh⟩;have hl:acc.toList.length=n:=by rw[acj];exact G.1
 have hz:(xr n).length<=sizeLine:=by
  unfold xr;rw[aaa,aav];exact aaO (kT (by lia))
 refine⟨hz,acc.toList,c,?_,by simpa using e'⟩
 have key:∀(ys:List Value) (k:Nat),(∀j v,ys[j]?=some v->∃t,v=Value.int (((k+j:Nat)):Int) t)->Vals ((List.range' k ys.length).map λi=>V.int ((i:Nat):Int)) ys:=by
  intro ys
  induction ys with
  | nil=>intro k _;exact .nil
  | cons y r ih =>
    intro k Z;obtain⟨t,ht⟩:=Z 0 y rfl;refine .cons ⟨t,by simpa using ht⟩ (ih (k+1) λj v U=>?_)
    obtain⟨t',Y⟩:=Z (j+1) v (by simpa using U)
    exact⟨t',by rw[Y];congr 2;lia⟩
 have z:=key acc.toList 0 λj v U=>by
  obtain⟨t,ht⟩:=G.2 j v (by simpa using U)
  exact⟨t,by rw[ht];congr 1;lia⟩
 rw[hl]at z;unfold xr;rw[List.range_eq_range'];exact z
def sumK(K:bN)(hc:X.calm=true)(hK:X.K=K:=by rfl):fJ X (.builtin "sum") (λxs H Q=>∃(p:Addr) (ns:List Int),xs=[.ref p]/\aM K H p (ns.map V.int)/\Q (.int ns.sum) H):=by
 subst hK;intro pq s σ H xs us Q I r h;obtain⟨p,ns,rfl,Y,q⟩:=h;obtain⟨u,rfl,rx⟩:=vals1 r;cases rx;obtain⟨G,rv,pl,hz⟩:=I.list Y;have hi:∀{ns:List Int} {G:List Value},Vals (ns.map V.int) G->∃xs:Array (Int×Tok),G.toArray=intItems xs/\xs.toList.map (·.1)=ns:=by
  intro ns
  induction ns with
  | nil=>intro G r;cases r;exact⟨#[],by simp[intItems],rfl⟩
  | cons a l Z =>
    intro G r;cases r with
    | cons r1 r2 =>
      obtain⟨t,rfl⟩:=r1;obtain⟨xs,h1,h2⟩:=Z r2;refine⟨#[(a,t)]++xs,?_,by simp[h2]⟩
      have U:=aaU Array.toList h1;simp only[intItems,Array.toList_map,List.toList_toArray]at U;simp[intItems,U,Array.map_append]
 obtain⟨O,e1,e2⟩:=hi rv;have hl:s.heap.IsList p (intItems O):=e1▸pl.isList;refine sum_intListG (I.ok.hd hc) hl λh' tk t' hk=>?_
 have e3:preSum (numAt O) O.size=ns.sum:=by rw[preSum_eq,acZ (by simp),e2]
 rw[e3];exact⟨.int ns.sum,H,I.kept hk,⟨t',rfl⟩,q⟩
def Xk(K:bN)(hc:X.calm=true)(hK:X.K=K:=by rfl):fJ X (.type "set") (λxs H Q=>∃(p:Addr) (ns:List Int),xs=[.ref p]/\aM K H p (ns.map V.int)/\ns.length<=900/\
 ∀(l:Addr) (S:Int->Bool),H l=none->Q (.ref l) (upd H l (.set S (firstMet (λi=>ns.getD i 0) ns.length).length))):=by
 subst hK;intro pq s σ H xs us Q I r h;obtain⟨p,ns,rfl,U,hn,q⟩:=h;obtain⟨u,rfl,rx⟩:=vals1 r;cases rx;obtain⟨its,rv,pl,hz⟩:=I.list U;have Y:=rv.length;rw[aaa]at Y;have G:its.toArray.size=ns.length:=by rw[aau];lia
 refine PySem.call_set_list (I.ok.hd hc) pl.isList (ns:=ns) (by simpa using intsAre_of rv) (by rw[G];show ns.length+1<4096;lia) λh' tk O hk=>?_
 rw[G]at O;exact⟨.ref s.heap.objs.size,_,I.laid (t':=tk) (o:=.set (λZ=>(firstMet (λi=>ns.getD i 0) ns.length).any λx=>x==Z) (firstMet (λi=>ns.getD i 0) ns.length).length) (λb o e=>hk b o (aal e) e) (aaf _) O,rfl,q _ _ I.fresh⟩
def QC:fJ X (.builtin "len") (λxs H Q=>∃(p:Addr) (S:Int->Bool) (n:Nat),xs=[.ref p]/\H p=some (.set S n)/\Q (.int (n:Int)) H):=by
 intro pq s σ H xs us Q I r h;obtain⟨p,S,n,rfl,hp,q⟩:=h;obtain⟨u,rfl,rx⟩:=vals1 r;cases rx;obtain⟨o,es,ep,t,ho,hex,hd,_,_,hb,hf,rfl⟩:=(show bg X.prog X.w H s.heap p (.set S n) from I.hok p _ hp)
 refine call_len_set ho hex hd hf (by have:es.size<4096:=hb;lia) ⟨.int _,H,I.tok _,⟨_,rfl⟩,q⟩
end
end L2
namespace Ring
open PySem
abbrev eO:=Int×Int×Int
def bit(S:Int)(k:Nat):Bool:=decide (S/2^k%2=1)
def bC(S:Int):List Nat:=(List.range (Builtin.Int.intBits S)).filter (bit S)
def bump(e:List Int)(i:Int):List Int:=e.set i.toNat (e.getD i.toNat 0+1)
def step(ts:List eO)(e:List Int)(k:Nat):List Int:=match ts[k]? with
 | some t=>bump (bump e t.1) t.2.1
 | none=>e
def kC(p:Nat)(ts:List eO)(S:Int):List Int:=(bC S).foldl (step ts) (List.replicate p 0)
def i0(p:Nat)(ts:List eO)(S:Int):List Nat:=(List.range p).filter λi=>decide ((kC p ts S).getD i 0%2=1)
def MX(ts:List eO)(k i:Nat):Int:=match ts[k]? with
 | some t=>(if t.1=(i:Int) then 1 else 0)+(if t.2.1=(i:Int) then 1 else 0)
 | none=>0
def kW(e:List Int)(i:Int):(bump e i).length=e.length:=by unfold bump;rw[List.length_set]
def Kf(ts:List eO)(e:List Int)(k:Nat):(step ts e k).length=e.length:=by
 unfold step
 split
 ·rw[kW,kW]
 ·rfl
def Bd(e:List Int)(j:Int)(i:Nat)(h0:0<=j)(h1:j<e.length):(bump e j).getD i 0=e.getD i 0+if j=(i:Int) then 1 else 0:=by
 unfold bump;rw[aae,aae,aae]
 by_cases h:j=(i:Int)
 ·have hi:j.toNat=i:=by lia
  rw[aac h,hi,acq (by lia)]
  rfl
 ·have hi:j.toNat≠i:=by lia
  rw[aab h,acz hi]
  lia
structure FL(p:Nat)(ts:List eO):Prop where
 ends:∀t∈ts,0<=t.1/\t.1<(p:Int)/\0<=t.2.1/\t.2.1<(p:Int)
def step_get{p:Nat}{ts:List eO}(W:FL p ts)(e:List Int)(k i:Nat)(he:e.length=p):(step ts e k).getD i 0=e.getD i 0+MX ts k i:=by
 unfold step MX;cases h:ts[k]? with
 | none=>simp
 | some t =>
   obtain⟨a0,a1,b0,b1⟩:=W.ends t (iV h);dsimp only;rw[Bd _ _ _ b0 (by rw[kW,he];exact b1),Bd _ _ _ a0 (by rw[he];exact a1)]
   lia
def qZ(ts:List eO)(ks:List Nat)(i:Nat):Int:=(ks.map λk=>MX ts k i).sum
def Be{p:Nat}{ts:List eO}(W:FL p ts)(i:Nat):∀(ks:List Nat) (e:List Int),e.length=p->(ks.foldl (step ts) e).getD i 0=e.getD i 0+qZ ts ks i
 | [],e,_=>by simp[qZ]
 | k::r,e,he=>by
   rw[ab8,Be W i r _ (by rw[Kf,he]),step_get W e k i he]
   unfold qZ;rw[aaN,List.sum_cons]
   lia
def Kg{p:Nat}{ts:List eO}(W:FL p ts)(S:Int)(i:Nat):(kC p ts S).getD i 0=qZ ts (bC S) i:=by
 unfold kC;rw[Be W i _ _ (by simp)]
 have e:(List.replicate p (0:Int)).getD i 0=0:=by
  rw[aae,abZ]
  split<;>rfl
 rw[e]
 lia
def fW(m k:Nat):bit (m:Int) k=m.testBit k:=by
 unfold bit;rw[ac6];have e:((m:Int)/2^k%2=1)↔(m/2^k%2=1):=by
  have h2:((2:Int)^k)=((2^k:Nat):Int):=by simp
  rw[h2,<-Int.natCast_ediv]
  lia
 simp only[e]
def vd(m:Nat):Builtin.Int.intBits (m:Int)=if m=0 then 0 else m.log2+1:=by
 unfold Builtin.Int.intBits
 by_cases h:m=0
 ·simp[h]
 ·simp[h]
def bits_le{m n:Nat}(h:m<2^n):Builtin.Int.intBits (m:Int)<=n:=by
 rw[vd]
 split
 ·exact aaL _
 ·rename_i h0
  exact(Nat.log2_lt h0).mpr h
def Bf{m k:Nat}(h:Builtin.Int.intBits (m:Int)<=k):bit (m:Int) k=false:=by
 rw[fW];rw[vd]at h
 by_cases h0:m=0
 ·simp[h0]
 ·rw[aab h0]at h;exact aaX (aap ac7 (abf (by decide) h))
def qa(f:Nat->Bool)(a:Nat):∀d,(∀k,a<=k->f k=false)->(List.range (a+d)).filter f=(List.range a).filter f
 | 0,_=>rfl
 | d+1,h=>by
   rw[<-Nat.add_assoc,abG,abV,qa f a d h];have e:[a+d].filter f=[]:=by rw[aaR,aab (by rw[h _ (by lia)];simp)];rfl
   rw[e,aby]
def jB{m n:Nat}(h:m<2^n):bC (m:Int)=(List.range n).filter λk=>m.testBit k:=by
 unfold bC;have hb:=bits_le h;obtain⟨d,hd⟩:=acU hb;have e:(λk=>m.testBit k)=bit (m:Int):=funext λk=>(fW m k).symm
 rw[e]
 conv=>rhs;rw[hd]
 exact(qa _ _ d λk hk=>Bf hk).symm
def uz{m n:Nat}(h:m<2^n){k:Nat}(hk:k∈bC (m:Int)):k<n:=by
 rw[jB h]at hk;exact aaA.mp (aas.mp hk).1
def sum_filter(ts:List eO)(i:Nat)(f:Nat->Bool):∀ks:List Nat,qZ ts (ks.filter f) i=(ks.map λk=>if f k=true then MX ts k i else 0).sum
 | []=>rfl
 | k::r=>by
   have G:=sum_filter ts i f r;rw[aaN,List.sum_cons,<-G];cases h:f k with
   | true =>
     rw[aaR,aac h];unfold qZ;rw[aaN,List.sum_cons];simp
   | false =>
     rw[aaR,aab (by rw[h];simp)]
     simp
def Kh{a b x y:Nat}(q:x/2+2*(y/2)=a/2+b/2)(h:x%2+2*(y%2)=a%2+b%2):x+2*y=a+b:=by lia
def mod_one{u v:Nat}(hu:u=0\/u=1)(hv:v=0\/v=1):(u^^^v)+2*(u&&&v)=u+v:=by
 rcases hu with rfl|rfl<;>rcases hv with rfl|rfl<;>rfl
def zl:∀a b:Nat,(a^^^b)+2*(a&&&b)=a+b:=by
 intro a
 induction a using Nat.strongRecOn with
 | ind a ih =>
   intro b
   by_cases h:a=0
   ·subst h;simp
   ·have q:=ih (a/2) (by lia) (b/2)
    rw[<-Nat.xor_div_two,<-Nat.and_div_two]at q;refine Kh q ?_;have G:(a^^^b)%2=a%2^^^b%2:=Nat.xor_mod_two_pow (n:=1);have I:(a&&&b)%2=a%2&&&b%2:=Nat.and_mod_two_pow (n:=1);rw[G,I];exact mod_one (ab9 a) (ab9 b)
def xor_int(a b:Nat):Builtin.bitXor (a:Int) (b:Int)=((a^^^b:Nat):Int):=by
 have h:(a:Int)+b-2*((a&&&b:Nat):Int)=((a^^^b:Nat):Int):=by
  have q:=zl a b
  lia
 have e:=PyProof.Rows.bitXor_and (a:Int) (b:Int);rw[e,ac0 (by lia) (by lia)]
 simpa using h
open PySem L2
def NQ(t:eO):List V:=[.int t.1,.int t.2.1,.int t.2.2]
def TupAt(H:Hp)(x:V)(t:eO):Prop:=∃b,x = .ref b/\H b=some (.tup (NQ t))
structure bz(H:Hp)(w:Addr)(p:Nat)(ts:List eO):Prop where
 ex:∃b xs,H w=some (.tup [.int (p:Int),.ref b])/\H b=some (.tup xs)/\Paired (TupAt H) xs ts
structure NR(p:Nat)(ts:List eO):Prop where
 Y8:FL p ts
 len:ts.length<=24
 VH:p<=10
def TupAt.tups{H H' : Hp}(s:dI H H'){x:V}{t:eO}(h:TupAt H x t):TupAt H' x t:=by
 obtain⟨b,e,h⟩:=h;exact⟨b,e,s _ _ h⟩
def bz.tups{H H' : Hp}{w:Addr}{p:Nat}{ts:List eO}(s:dI H H')(h:bz H w p ts):bz H' w p ts:=by
 obtain⟨b,xs,h1,h2,G⟩:=h.ex;exact⟨b,xs,s _ _ h1,s _ _ h2,Paired.imp' (λ_ _ z=>z.tups s) G⟩
def bz.same{H H' : Hp}{w:Addr}{p:Nat}{ts:List eO}(s:au H H')(h:bz H w p ts):bz H' w p ts:=h.tups s.tups
def aA(l:List Nat):List V:=l.map λk=>V.int ((k:Nat):Int)
def cH(l:List Nat)(k:Nat):aA (l++[k])=aA l++[.int (k:Int)]:=by unfold aA;rw[aax];rfl
def aC(l:List Nat):(aA l).length=l.length:=by unfold aA;rw[aaa]
def gr{l:List Nat}{i:Nat}{x:V}(h:(aA l)[i]?=some x):∃k,l[i]?=some k/\x = .int (k:Int):=by
 unfold aA at h;rw[aai]at h;obtain⟨k,e,q⟩:=tD.mp h;exact⟨k,e,q.symm⟩
def bf(f:Nat->Bool)(i:Nat):(List.range (i+1)).filter f=(List.range i).filter f++(if f i=true then[i] else[]):=by
 rw[abG,abV]
 congr 1
 cases h:f i with
 | true=>rw[aaR,aac h,aac rfl];rfl
 | false=>rw[aaR,aab (by rw[h];simp),aab (by simp)];rfl
def lH(f:Nat->Bool)(H:Hp)(D:Addr)(i:Nat)(acc:List V)(H2:Hp):Prop:=au H H2/\H2 D=some (.lst acc)/\acc=aA ((List.range i).filter f)
section
variable {f:Nat->Bool}{H H2 H3:Hp}{D:Addr}{i:Nat}{acc:List V}
def lH.start(hD:H D=none):lH f H D 0 [] (upd H D (.lst [])):=⟨au.new hD,ae,rfl⟩
def lH.len(p:lH f H D i acc H2):H2 D=some (.lst acc)/\acc.length<=i:=by
 refine⟨p.2.1,?_⟩;rw[p.2.2,aC];exact aaE (aaP _ _) (by rw[aav];exact aaf _)
def lH.yes(p:lH f H D i acc H2)(hD:H D=none)(s:au H2 H3)(hf:f i=true):H3 D=some (.lst acc)/\lH f H D (i+1) (acc++[.int (i:Int)]) (upd H3 D (.lst (acc++[.int (i:Int)]))):=by
 refine⟨s _ _ p.2.1,(p.1.trans s).put hD,ae,?_⟩;rw[bf,aac hf,cH,<-p.2.2]
def lH.no(p:lH f H D i acc H2)(s:au H2 H3)(hf:f i=false):lH f H D (i+1) acc H3:=by
 refine⟨p.1.trans s,s _ _ p.2.1,?_⟩;rw[bf,aab (by rw[hf];simp),aby]
 exact p.2.2
end
def b7(ts:List eO)(k:Nat):eO:=ts.getD k (0,0,0)
def stepT(e:List Int)(t:eO):List Int:=bump (bump e t.1) t.2.1
def yh{ts:List eO}:∀(ks:List Nat) (e:List Int),(∀k∈ks,k<ts.length)->(ks.map (b7 ts)).foldl stepT e=ks.foldl (step ts) e
 | [],_,_=>rfl
 | k::r,e,h=>by
   rw[aaN,ab8,ab8,yh r _ λj hj=>h j (jt _ hj)]
   have hk:=h k aam;have G:ts[k]?=some (b7 ts k):=by
    unfold b7;rw[aae];simp[hk]
   have I:step ts e k=stepT e (b7 ts k):=by
    unfold step stepT;rw[G]
   rw[I]
def yi{p:Nat}{ts:List eO}{m:Nat}(h:m<2^ts.length):kC p ts (m:Int)=((bC (m:Int)).map (b7 ts)).foldl stepT (List.replicate p 0):=by
 unfold kC;rw[yh _ _ λk hk=>uz h hk]
def GW(e:List Int)(t:eO):(stepT e t).length=e.length:=by unfold stepT;rw[kW,kW]
def q9:∀(l:List eO) (e:List Int),(l.foldl stepT e).length=e.length
 | [],_=>rfl
 | t::r,e=>by rw[ab8,q9 r,GW]
def m7(l:List Int):List V:=l.map V.int
def rf{l:List Int}{i:Nat}(h:i<l.length):(m7 l)[i]?=some (.int (l.getD i 0)):=by
 unfold m7;rw[aai,aae];simp[h]
def ve(l:List Int)(i:Nat):(m7 l).set i (.int (l.getD i 0+1))=m7 (bump l (i:Int)):=by
 unfold m7 bump;rw[aaj,List.map_set]
def Kl(p:Nat):(List.replicate p [V.int 0]).flatten=m7 (List.replicate p 0):=by
 induction p with
 | zero=>rfl
 | succ p G=>rw[abP,acr,G,abP];rfl
def qb{n j:Nat}(h:j<n):Nu n (j:Int)=some j:=by
 unfold Nu;rw[aac (by lia),aac (by lia),aaj]
def rh(k:Nat):PyData:=.int (k:Int)
def m8{K:bN}{H:Hp}:∀l:List Nat,DatVs K H (aA l) (l.map rh)
 | []=>.nil
 | _::r=>.cons (.int _) (m8 r)
def vf:∀l:List Nat,PyData.canLayAll0 (l.map rh)=true
 | []=>rfl
 | _::r=>by
   have G:=vf r;simp only[aaN,PyData.canLayAll0,G,acC];rfl
def yj:∀l:List Nat,PyData.depthAll (l.map rh)=0
 | []=>rfl
 | _::r=>by
   have G:=yj r;show max (PyData.depth (PyData.int _)) (PyData.depthAll (r.map _))=0;rw[G];rfl
def jX(l:List Nat):SeqAt.shaped (.list (l.map rh))=true:=by
 unfold SeqAt.shaped;have e:(PyData.list (l.map rh)).canLay0=PyData.canLayAll0 (l.map rh):=by simp[PyData.canLay0]
 rw[e,vf,abo];refine cD ?_;have G:PyData.depth (PyData.list (l.map rh))=PyData.depthAll (l.map rh)+1:=by simp[PyData.depth]
 rw[G,yj]
 decide
def FN(l:List Nat):PyData.eqv (.list (l.map rh)) (.list [])=decide (l=[]):=by
 cases l with
 | nil=>rfl
 | cons a r=>rfl
def QD(S:Int)(k:Nat):decide (V.int (Builtin.bitAnd (S/2^k) 1)=V.int 1)=bit S k:=by
 unfold bit;rw[PyProof.Rows.bitAnd_m1];rw[abd];simp
def DM(S:Int)(k:Nat):decide (V.int (S/2^k%2)=V.int 1)=bit S k:=by
 unfold bit;rw[abd];simp
def NS(x:Int):decide (V.int x=V.int 1)=decide (x=1):=by
 rw[abd];simp
structure qf(p:Int)(t:eO):Prop where
 a0:0<=t.1
 a1:t.1<p
 b0:0<=t.2.1
 b1:t.2.1<p
 ne:t.1≠t.2.1
 l0:1<=t.2.2
 l1:t.2.2<=1000000000000000000000000000000
structure aD(p:Nat)(ts:List eO):Prop where
 p1:1<=p
 p2:p<=10
 len:ts.length<=24
 zo:∀t∈ts,qf (p:Int) t
def aD.Jf{p:Nat}{ts:List eO}(g:aD p ts):NR p ts:=⟨⟨λt ht=>let z:=g.zo t ht;⟨z.a0,z.a1,z.b0,z.b1⟩⟩,g.len,g.p2⟩
def tX(p:Int)(H:Hp)(D:Addr)(n:Nat)(H2:Hp):Prop:=au H H2/\∃acc ts,H2 D=some (.lst acc)/\Paired (TupAt H2) acc ts/\acc.length=n/\∀t∈ts,qf p t
section
variable {p:Int}{H H2 H3:Hp}{D b:Addr}{n:Nat}{t:eO}
def tX.start(hD:H D=none):tX p H D 0 (upd H D (.lst [])):=⟨au.new hD,[],[],ae,.nil,rfl,λt ht=>nomatch ht⟩
def tX.push(h:tX p H D n H2)(hD:H D=none)(s:au H2 H3)(g:qf p t)(hb:H3 b=some (.tup (NQ t))):
 ∃acc,H3 D=some (.lst acc)/\acc.length=n/\tX p H D (n+1) (upd H3 D (.lst (acc++[.ref b]))):=by
 obtain⟨s2,acc,ts,hd,pr,hn,gt⟩:=h;have I:H3 D=some (.lst acc):=s _ _ hd;refine⟨acc,I,hn,(s2.trans s).put hD,acc++[.ref b],ts++[t],ae,?_,by rw[aao,abb,hn],λu G=>?_⟩
 ·exact Paired.snoc (Paired.imp' (λ_ _ z=>z.tups (s.tups.trans (dI.put I))) pr) ⟨b,rfl,dI.put I _ _ hb⟩
 ·rcases aaw.mp G with G|G
  ·exact gt u G
  ·cases aat.mp G;exact g
def tX.fin{q:Nat}(h:tX (q:Int) H D n H2):∃acc ts,H2 D=some (.lst acc)/\ts.length=n/\(∀t∈ts,qf (q:Int) t)/\∀l,H2 l=none->∀w,upd H2 l (.tup acc) w=none->
 au H (upd (upd H2 l (.tup acc)) w (.tup [.int (q:Int),.ref l]))/\bz (upd (upd H2 l (.tup acc)) w (.tup [.int (q:Int),.ref l])) w q ts:=by
 obtain⟨s2,acc,ts,hd,pr,hn,gt⟩:=h;refine⟨acc,ts,hd,by rw[<-pr.length,hn],gt,λl I w hw=>?_⟩
 have O:au H2 (upd H2 l (.tup acc)):=au.new I;have G:=O.trans (au.new (o:=.tup [.int (q:Int),.ref l]) hw);refine⟨s2.trans G,l,acc,ae,?_,Paired.imp' (λ_ _ z=>z.tups G.tups) pr⟩
 rw[ao (bj ae hw),ae]
end
def Km{p o r:Int}(h:0<=o)(h1:o<p)(r0:0<=r)(r1:r<p-1):0<=(o+1+r)%p/\(o+1+r)%p<p/\o≠(o+1+r)%p:=by
 have hp:0<p:=by lia
 refine⟨acE _ (by lia),acH _ hp,?_⟩
 by_cases G:o+1+r<p
 ·rw[Int.emod_eq_of_lt (by lia) G]
  lia
 ·have e:(o+1+r)%p=o+1+r-p:=by
   rw[<-Int.sub_emod_right,Int.emod_eq_of_lt (by lia) (by lia)]
  rw[e]
  lia
def c5{n:Nat}(h:n<=24):n<=sizeLine:=aaO (kT (by lia))
def dS{n:Nat}(h:n<=900):n<sizeLine:=kT (by lia)
def NT{ns:List Int}{k:Nat}(h:k<ns.length):(ns.map V.int)[k]?=some (.int (ns.getD k 0)):=by
 rw[aai,aae];simp[h]
def oQ(x m:Int)(h:0<m):0<=x%m/\x%m<m:=⟨acE _ (by lia),acH _ h⟩
end Ring
namespace RM
def bQ(f:Nat->Bool):Nat->Bool
 | 0=>false
 | n+1=>bQ f n^^f n
def bF{f g:Nat->Bool}:∀{n:Nat},(∀k,k<n->f k=g k)->bQ f n=bQ g n
 | 0,_=>rfl
 | n+1,h=>by
   unfold bQ;rw[bF λk hk=>h k (by lia),h n (by lia)]
def iP(f g:Nat->Bool):∀n,bQ (λk=>f k^^g k) n=(bQ f n^^bQ g n)
 | 0=>rfl
 | n+1=>by
   unfold bQ;rw[iP f g n];cases bQ f n<;>cases bQ g n<;>cases f n<;>cases g n<;>rfl
def pC:∀n,bQ (λ_=>false) n=false
 | 0=>rfl
 | n+1=>by unfold bQ;rw[pC n];rfl
def jC(c:Bool)(f:Nat->Bool):∀n,bQ (λk=>c&&f k) n=(c&&bQ f n)
 | 0=>by cases c<;>rfl
 | n+1=>by
   unfold bQ;rw[jC c f n];cases c<;>simp
def rm(f:Nat->Nat->Bool)(n:Nat):∀m,bQ (λx=>bQ (λk=>f x k) n) m=bQ (λk=>bQ (λx=>f x k) m) n
 | 0=>by
   show false=_;rw[<-pC n];rfl
 | m+1=>by
   show(bQ (λx=>bQ (λk=>f x k) n) m^^bQ (λk=>f m k) n)=_
   rw[rm f n m,<-iP];rfl
def hU{f:Nat->Bool}{n:Nat}(h:∀k,k<n->f k=false):bQ f n=false:=by
 rw[bF (g:=λ_=>false) h,pC]
def qg{f:Nat->Bool}{a:Nat}:∀{n:Nat},a<n->(∀k,k<n->k≠a->f k=false)->bQ f n=f a
 | 0,h,_=>absurd h (abg _)
 | n+1,h,z=>by
   unfold bQ
   by_cases e:a=n
   ·subst e;rw[hU λk hk=>z k (by lia) (by lia)]
    simp
   ·rw[qg (a:=a) (by lia) λk hk hn=>z k (by lia) hn,z n (by lia) (λq=>e q.symm)]
    simp
def gj(C:Nat->Bool){a m:Nat}(h:a<m):bQ (λx=>C x&&decide (a=x)) m=C a:=by
 rw[qg h λk _ hk=>by simp[aba hk]]
 simp
structure Net where
 p:Nat
 n:Nat
 a:Nat->Nat
 b:Nat->Nat
 al:∀k,k<n->a k<p
 bl:∀k,k<n->b k<p
 ne:∀k,k<n->a k≠b k
variable (N:Net)
def Net.inc(k x:Nat):Bool:=decide (N.a k=x)^^decide (N.b k=x)
def Net.bd(m x:Nat):Bool:=bQ (λk=>m.testBit k&&N.inc k x) N.n
def Net.bL(m:Nat):Prop:=∀x,x<N.p->N.bd m x=false
variable {N}
def gm(m q x:Nat):N.bd (m^^^q) x=(N.bd m x^^N.bd q x):=by
 unfold Net.bd;rw[<-iP];refine bF λk _=>?_
 rw[aag];cases m.testBit k<;>cases q.testBit k<;>cases N.inc k x<;>rfl
def nU(x:Nat):N.bd 0 x=false:=by
 unfold Net.bd;exact hU λk _=>by simp
def kD{k:Nat}(h:k<N.n)(x:Nat):N.bd (2^k) x=N.inc k x:=by
 unfold Net.bd;rw[qg h λj _ hj=>by simp[aar,aba hj]]
 simp[aar]
def bL.xor{m q:Nat}(h:N.bL m)(h' : N.bL q):N.bL (m^^^q):=λx hx=>by rw[gm,h x hx,h' x hx];rfl
def bL.zero:N.bL 0:=λx _=>nU x
def Kn{m:Nat}(C:Nat->Bool)(h:∀k,k<N.n->m.testBit k=true->C (N.a k)=C (N.b k)):bQ (λx=>C x&&N.bd m x) N.p=false:=by
 have e:bQ (λx=>C x&&N.bd m x) N.p=bQ (λx=>bQ (λk=>C x&&(m.testBit k&&N.inc k x)) N.n) N.p :=
  bF λx _=>(jC (C x) _ N.n).symm
 rw[e,rm];refine hU λk hk=>?_
 have G:bQ (λx=>C x&&(m.testBit k&&N.inc k x)) N.p=(m.testBit k&&(C (N.a k)^^C (N.b k))):=by
  rw[<-gj C (N.al k hk),<-gj C (N.bl k hk),<-iP,<-jC];refine bF λx _=>?_
  unfold Net.inc;cases C x<;>cases m.testBit k<;>cases decide (N.a k=x)<;>cases decide (N.b k=x)<;>rfl
 rw[G];cases hb:m.testBit k with
 | false=>rfl
 | true=>rw[h k hk hb];simp
def join(L:Nat->Nat)(u v:Nat):Nat->Nat:=λx=>if L x=max (L u) (L v) then min (L u) (L v) else L x
def join_eq{L:Nat->Nat}{u v x y:Nat}(h:L x=L y):join L u v x=join L u v y:=by unfold join;rw[h]
def yk(L:Nat->Nat)(u v:Nat):join L u v u=join L u v v:=by
 unfold join
 split<;>split<;>lia
def ym{L:Nat->Nat}{u v:Nat}(h:L u=L v):join L u v=L:=by
 funext x
 unfold join;rw[h]
 split<;>lia
def vg{L:Nat->Nat}{u v x y:Nat}(h:join L u v x=join L u v y):L x=L y\/(L x=L u/\L y=L v)\/(L x=L v/\L y=L u):=by
 unfold join at h;have U:(max (L u) (L v)=L u/\min (L u) (L v)=L v)\/(max (L u) (L v)=L v/\min (L u) (L v)=L u):=by
  rcases acI (L u) (L v) with q|q
  ·exact .inr ⟨ac8 q,acF q⟩
  ·exact .inl ⟨adl q,ac9 q⟩
 rcases U with⟨I,O⟩|⟨I,O⟩
 ·rw[I,O]at h
  split at h
  ·rename_i hx
   split at h
   ·rename_i G
    exact .inl (hx.trans G.symm)
   ·exact .inr (.inl ⟨hx,h.symm⟩)
  ·split at h
   ·rename_i G
    exact .inr (.inr ⟨h,G⟩)
   ·exact .inl h
 ·rw[I,O]at h
  split at h
  ·rename_i hx
   split at h
   ·rename_i G
    exact .inl (hx.trans G.symm)
   ·exact .inr (.inr ⟨hx,h.symm⟩)
  ·split at h
   ·rename_i G
    exact .inr (.inl ⟨h,G⟩)
   ·exact .inl h
def join_le{L:Nat->Nat}{u v x:Nat}(h:L x<=x):join L u v x<=x:=by
 unfold join
 split<;>lia
def GX{L:Nat->Nat}{u v:Nat}(h:∀x,L (L x)=L x)(x:Nat):join L u v (join L u v x)=join L u v x:=by
 have I:=h u;have O:=h v;have hx:=h x;have G:L (min (L u) (L v))=min (L u) (L v):=by
  rcases acI (L u) (L v) with q|q
  ·rw[acF q];exact I
  ·rw[ac9 q];exact O
 unfold join
 split
 ·rw[G]
  split<;>lia
 ·rw[hx]
  split<;>lia
def Net.aL(N:Net)(S:Nat->Bool):Nat->Nat->Nat
 | 0=>λx=>x
 | k+1=>if S k=true then join (Net.aL N S k) (N.a k) (N.b k) else Net.aL N S k
variable {S:Nat->Bool}
def qh:∀(k x:Nat),N.aL S k x<=x
 | 0,_=>aaf _
 | k+1,x=>by
   unfold Net.aL
   split
   ·exact join_le (qh k x)
   ·exact qh k x
def cu:∀(k x:Nat),N.aL S k (N.aL S k x)=N.aL S k x
 | 0,_=>rfl
 | k+1,x=>by
   by_cases hs:S k=true
   ·have e:N.aL S (k+1)=join (N.aL S k) (N.a k) (N.b k):=by
     conv=>lhs;unfold Net.aL
     rw[aac hs]
    rw[e];exact GX (cu k) x
   ·have e:N.aL S (k+1)=N.aL S k:=by
     conv=>lhs;unfold Net.aL
     rw[aab hs]
    rw[e];exact cu k x
def yn{x y k:Nat}(h:N.aL S k x=N.aL S k y):∀d,N.aL S (k+d) x=N.aL S (k+d) y
 | 0=>h
 | d+1=>by
   have G:=yn h d;show N.aL S (k+d+1) x=N.aL S (k+d+1) y;unfold Net.aL
   split
   ·exact join_eq G
   ·exact G
def iQ{j k:Nat}(h:j<k)(hs:S j=true):N.aL S k (N.a j)=N.aL S k (N.b j):=by
 obtain⟨d,rfl⟩:=acU (Nat.succ_le_of_lt h);refine yn ?_ d;show N.aL S (j+1) (N.a j)=N.aL S (j+1) (N.b j);unfold Net.aL;rw[aac hs];exact yk _ _ _
inductive Net.mT(N:Net)(S:Nat->Bool)(k u:Nat):Nat->Prop
 | refl:Net.mT N S k u u
 | fwd {j:Nat} (h:Net.mT N S k u (N.a j)) (hj:j<k) (hs:S j=true):Net.mT N S k u (N.b j)
 | bwd {j:Nat} (h:Net.mT N S k u (N.b j)) (hj:j<k) (hs:S j=true):Net.mT N S k u (N.a j)
def Net.mT.trans{k u v w:Nat}(h:N.mT S k u v)(h' : N.mT S k v w):N.mT S k u w:=by
 induction h' with
 | refl=>exact h
 | fwd _ hj hs ih=>exact .fwd ih hj hs
 | bwd _ hj hs ih=>exact .bwd ih hj hs
def Net.mT.mono{k l u v:Nat}(h:N.mT S k u v)(mV:k<=l):N.mT S l u v:=by
 induction h with
 | refl=>exact .refl
 | fwd _ hj hs ih=>exact .fwd ih (by lia) hs
 | bwd _ hj hs ih=>exact .bwd ih (by lia) hs
def bS:∀(k u v:Nat),N.aL S k u=N.aL S k v->N.mT S k u v
 | 0,u,v,h=>by
   have e:u=v:=h;subst e;exact .refl
 | k+1,u,v,h=>by
   unfold Net.aL at h
   split at h
   ·rename_i hs
    rcases vg h with q|⟨G,I⟩|⟨G,I⟩
    ·exact(bS k u v q).mono (by lia)
    ·have O:=(bS k u _ G).mono (abF k);have U:=(bS k _ v I.symm).mono (abF k);exact Net.mT.trans (.fwd O (by lia) hs) U
    ·have O:=(bS k u _ G).mono (abF k);have U:=(bS k _ v I.symm).mono (abF k);exact Net.mT.trans (.bwd O (by lia) hs) U
   ·exact(bS k u v h).mono (by lia)
def Net.fg(N:Net)(k:Nat):Nat->Nat:=N.aL (λ_=>true) k
def Net.jT(N:Net)(k:Nat):Bool:=!decide (N.fg k (N.a k)=N.fg k (N.b k))
def Bg(k:Nat):N.fg (k+1)=if N.jT k=true then join (N.fg k) (N.a k) (N.b k) else N.fg k:=by
 show N.aL (λ_=>true) (k+1)=_
 unfold Net.aL;rw[aac rfl];unfold Net.jT
 by_cases h:N.fg k (N.a k)=N.fg k (N.b k)
 ·rw[aab (by simp[h])]
  exact ym h
 ·rw[aac (by simp[h])]
  rfl
def gJ{m:Nat}(hf:∀k,m.testBit k=true->k<N.n/\N.jT k=true)(he:N.bL m):m=0:=by
 by_cases h0:m=0
 ·exact h0
 exfalso
 have U:m.testBit m.log2=true:=adx h0;obtain⟨I,O⟩:=hf _ U;generalize Y:m.log2=K at U I O;have Z:m<2^(K+1):=by rw[<-Y];exact ac7
 have G:=Kn (N:=N) (m:=m^^^2^K) (λx=>decide (N.fg K x=N.fg K (N.a K))) λk hk hb=>by
  have ag:k<K:=by
   rw[aag,aar]at hb
   by_cases e:K=k
   ·subst e;simp[U]at hb
   ·have ar : m.testBit k=true:=by simpa[e]using hb
    have:k<K+1:=by
     by_cases q:k<K+1
     ·exact q
     ·have z:=aaX (aap Z (abf (by decide) (show K+1<=k by lia)))
      rw[ar]at z;cases z
    lia
  have e:N.fg K (N.a k)=N.fg K (N.b k):=iQ (S:=λ_=>true) ag rfl
  show decide (N.fg K (N.a k)=_)=decide (N.fg K (N.b k)=_);rw[e]
 have e:bQ (λx=>decide (N.fg K x=N.fg K (N.a K))&&N.bd (m^^^2^K) x) N.p=bQ (λx=>decide (N.fg K x=N.fg K (N.a K))&&N.inc K x) N.p :=
  bF λx hx=>by rw[gm,he x hx,kD I];simp
 rw[e]at G;have e2:bQ (λx=>decide (N.fg K x=N.fg K (N.a K))&&N.inc K x) N.p=(decide (N.fg K (N.a K)=N.fg K (N.a K))^^decide (N.fg K (N.b K)=N.fg K (N.a K))):=by
  rw[<-gj (λx=>decide (N.fg K x=N.fg K (N.a K))) (N.al K I),<-gj (λx=>decide (N.fg K x=N.fg K (N.a K))) (N.bl K I),<-iP]
  refine bF λx _=>?_
  unfold Net.inc;cases decide (N.fg K x=N.fg K (N.a K))<;>cases decide (N.a K=x)<;>cases decide (N.b K=x)<;>rfl
 rw[e2]at G;unfold Net.jT at O;have aw : ¬ N.fg K (N.b K)=N.fg K (N.a K):=λq=>by rw[q]at O;simp at O
 simp[aw]at G
def Net.trail(N:Net):Nat->Nat->Nat
 | 0=>λ_=>0
 | k+1=>if N.jT k=true then λv=>if N.fg k v=max (N.fg k (N.a k)) (N.fg k (N.b k)) then Net.trail N k v^^^(Net.trail N k (N.a k)^^^Net.trail N k (N.b k)^^^2^k) else Net.trail N k v
   else Net.trail N k
def ez:∀(k v j:Nat),(N.trail k v).testBit j=true->j<k/\N.jT j=true
 | 0,v,j,h=>by simp[Net.trail]at h
 | k+1,v,j,h=>by
   have G:=ez k;unfold Net.trail at h
   split at h
   ·rename_i hf
    dsimp only at h
    split at h
    ·rw[aag,aag,aag,aar]at h
     by_cases e:k=j
     ·subst e;exact⟨by lia,hf⟩
     ·have z : ¬((N.trail k v).testBit j=false/\(N.trail k (N.a k)).testBit j=false/\(N.trail k (N.b k)).testBit j=false):=by
       rintro⟨I,O,U⟩;simp[I,O,U,e]at h
      cases h1:(N.trail k v).testBit j with
      | true=>obtain⟨q,r⟩:=G v j h1;exact⟨by lia,r⟩
      | false=>cases h2:(N.trail k (N.a k)).testBit j with
        | true=>obtain⟨q,r⟩:=G _ j h2;exact⟨by lia,r⟩
        | false=>cases h3:(N.trail k (N.b k)).testBit j with
          | true=>obtain⟨q,r⟩:=G _ j h3;exact⟨by lia,r⟩
          | false=>exact absurd ⟨h1,h2,h3⟩ z
    ·obtain⟨q,r⟩:=G v j h;exact⟨by lia,r⟩
   ·obtain⟨q,r⟩:=G v j h;exact⟨by lia,r⟩
def Ko(a b c d e f g h:Bool)(hlh:(d^^f)=(g^^h)):((a^^g)^^(((c^^d)^^(e^^f))^^(c^^e)))=(a^^h):=by
 have G:(((c^^d)^^(e^^f))^^(c^^e))=(d^^f):=by cases c<;>cases d<;>cases e<;>cases f<;>rfl
 rw[G,hlh];cases a<;>cases g<;>cases h<;>rfl
def m9:∀(k:Nat),k<=N.n->∀v x,N.bd (N.trail k v) x=(decide (v=x)^^decide (N.fg k v=x))
 | 0,_,v,x=>by
   show N.bd 0 x=(decide (v=x)^^decide (v=x));rw[nU];simp
 | k+1,hk,v,x=>by
   have G:=m9 k (by lia)
   rw[Bg];unfold Net.trail
   by_cases hf:N.jT k=true
   ·rw[aac hf,aac hf]
    by_cases hm:N.fg k v=max (N.fg k (N.a k)) (N.fg k (N.b k))
    ·have e:join (N.fg k) (N.a k) (N.b k) v=min (N.fg k (N.a k)) (N.fg k (N.b k)):=by unfold join;rw[aac hm]
     show N.bd (if N.fg k v=_ then _ else _) x=_
     rw[aac hm,e,gm,gm,gm,kD (by lia),G,G,G]
     unfold Net.inc;refine Ko _ false _ _ _ _ _ _ ?_;rw[hm];rcases acI (N.fg k (N.a k)) (N.fg k (N.b k)) with q|q
     ·rw[ac8 q,acF q,Bool.xor_comm]
     ·rw[adl q,ac9 q]
    ·have e:join (N.fg k) (N.a k) (N.b k) v=N.fg k v:=by unfold join;rw[aab hm]
     show N.bd (if N.fg k v=_ then _ else _) x=_
     rw[aab hm,e,G]
   ·rw[aab hf,aab hf];exact G v x
def Net.ring(N:Net)(c:Nat):Nat:=N.trail N.n (N.a c)^^^N.trail N.n (N.b c)^^^2^c
def Kq{c:Nat}(h:c<N.n):N.fg N.n (N.a c)=N.fg N.n (N.b c):=iQ (S:=λ_=>true) h rfl
def h8{c:Nat}(h:c<N.n):N.bL (N.ring c):=λx _=>by
 unfold Net.ring;rw[gm,gm,kD h,m9 _ (aaf _),m9 _ (aaf _),Kq h];unfold Net.inc;cases decide (N.a c=x)<;>cases decide (N.b c=x)<;>cases decide (N.fg N.n (N.b c)=x)<;>rfl
def kX{c j:Nat}(h:(N.ring c).testBit j=true):j=c\/(j<N.n/\N.jT j=true):=by
 unfold Net.ring at h;rw[aag,aag,aar]at h
 by_cases e:c=j
 ·exact .inl e.symm
 ·right
  cases h1:(N.trail N.n (N.a c)).testBit j with
  | true=>exact ez _ _ _ h1
  | false=>cases h2:(N.trail N.n (N.b c)).testBit j with
    | true=>exact ez _ _ _ h2
    | false=>simp[h1,h2,e]at h
def qi{c:Nat}(hf:N.jT c=false):(N.ring c).testBit c=true:=by
 unfold Net.ring;rw[aag,aag,aar];cases h1:(N.trail N.n (N.a c)).testBit c with
 | true=>obtain⟨_,q⟩:=ez _ _ _ h1;rw[hf]at q;cases q
 | false=>cases h2:(N.trail N.n (N.b c)).testBit c with
   | true=>obtain⟨_,q⟩:=ez _ _ _ h2;rw[hf]at q;cases q
   | false=>simp
def GY{j:Nat}(h:j<N.n)(hf:N.jT j=true):(N.trail N.n (N.a j)).testBit j=true\/(N.trail N.n (N.b j)).testBit j=true:=by
 have z:N.ring j=0:=gJ (λk hk=>by
  rcases kX hk with rfl|q
  ·exact⟨h,hf⟩
  ·exact q) (h8 h)
 have b:(N.ring j).testBit j=false:=by rw[z];simp
 unfold Net.ring at b;rw[aag,aag,aar]at b;cases h1:(N.trail N.n (N.a j)).testBit j with
 | true=>exact .inl rfl
 | false=>cases h2:(N.trail N.n (N.b j)).testBit j with
   | true=>exact .inr rfl
   | false=>simp[h1,h2]at b
def cnt(f:Nat->Bool):Nat->Nat
 | 0=>0
 | n+1=>cnt f n+(if f n=true then 1 else 0)
def fh{f g:Nat->Bool}:∀{n:Nat},(∀k,k<n->f k=g k)->cnt f n=cnt g n
 | 0,_=>rfl
 | n+1,h=>by
   unfold cnt;rw[fh λk hk=>h k (by lia),h n (by lia)]
def vh{f g:Nat->Bool}{h:Nat}(hg:g h=true):∀{p:Nat},h<p->(∀x,x<p->f x=(g x && !decide (x=h)))->cnt g p=cnt f p+1
 | 0,hh,_=>absurd hh (abg _)
 | p+1,hh,e=>by
   unfold cnt
   by_cases q:h=p
   ·subst q;have z:cnt g h=cnt f h:=fh λk hk=>by rw[e k (by lia)];simp[show k≠h by lia]
    rw[z,aac hg,e h (by lia)]
    simp
   ·rw[vh hg (by lia) λx hx=>e x (by lia),e p (by lia)]
    simp[aba q]
    lia
def ia(f:Nat->Bool):∀n,((List.range n).filter f).length=cnt f n
 | 0=>rfl
 | n+1=>by
   rw[abG,abV,aao,ia f n];show _=cnt f n+(if f n=true then 1 else 0)
   cases h:f n with
   | true=>rw[aaR,aac h];rfl
   | false=>rw[aaR,aab (by rw[h];simp)];rfl
def jY(f:Nat->Bool):∀n,cnt f n+cnt (λk=>!f k) n=n
 | 0=>rfl
 | n+1=>by
   have G:=jY f n;unfold cnt;cases h:f n<;>simp<;>lia
def zp{f:Nat->Bool}:∀{n:Nat},(∀k,k<n->f k=true)->cnt f n=n
 | 0,_=>rfl
 | n+1,h=>by
   unfold cnt;rw[zp λk hk=>h k (by lia),aac (h n (by lia))]
variable {N:Net}{S:Nat->Bool}
def Net.root(N:Net)(S:Nat->Bool)(k x:Nat):Bool:=decide (N.aL S k x=x)
def gv(k:Nat):N.aL S (k+1)=if S k=true then join (N.aL S k) (N.a k) (N.b k) else N.aL S k:=by
 conv=>lhs;unfold Net.aL
def jZ{k x:Nat}(h:x<N.p):N.aL S k x<N.p:=ab5 (qh k x) h
def GZ{L:Nat->Nat}{u v:Nat}(hr:∀x,L (L x)=L x)(hne:L u≠L v)(x:Nat):decide (join L u v x=x)=(decide (L x=x) && !decide (x=max (L u) (L v))):=by
 have G:L (max (L u) (L v))=max (L u) (L v):=by
  rcases acI (L u) (L v) with q|q
  ·rw[ac8 q];exact hr v
  ·rw[adl q];exact hr u
 have I:L (min (L u) (L v))=min (L u) (L v):=by
  rcases acI (L u) (L v) with q|q
  ·rw[acF q];exact hr u
  ·rw[ac9 q];exact hr v
 unfold join
 by_cases h:L x=max (L u) (L v)
 ·rw[aac h];have h1 : ¬ min (L u) (L v)=x:=λz=>by
   rw[<-z,I]at h
   lia
  by_cases h2:x=max (L u) (L v)
  ·simp[h1,h2]
   lia
  ·have O : ¬ L x=x:=λz=>h2 (z.symm.trans h)
   simp[h1,O]
 ·rw[aab h];have h2 : ¬ x=max (L u) (L v):=λz=>h (by rw[z];exact G)
  simp[h2]
def vj{k:Nat}(hk:k<N.n):cnt (N.root S k) N.p=cnt (N.root S (k+1)) N.p+(if(S k && !decide (N.aL S k (N.a k)=N.aL S k (N.b k)))=true then 1 else 0):=by
 cases hs:S k with
 | false =>
   have e:N.root S (k+1)=N.root S k:=by unfold Net.root;rw[gv,aab (by rw[hs];simp)]
   rw[e];simp
 | true =>
   by_cases h:N.aL S k (N.a k)=N.aL S k (N.b k)
   ·have e:N.root S (k+1)=N.root S k:=by unfold Net.root;rw[gv,aac hs,ym h]
    rw[e];simp[h]
   ·have G:N.aL S k (max (N.aL S k (N.a k)) (N.aL S k (N.b k)))=max (N.aL S k (N.a k)) (N.aL S k (N.b k)):=by
     rcases acI (N.aL S k (N.a k)) (N.aL S k (N.b k)) with q|q
     ·rw[ac8 q];exact cu _ _
     ·rw[adl q];exact cu _ _
    have h1:=jZ (S:=S) (k:=k) (N.al k hk);have h2:=jZ (S:=S) (k:=k) (N.bl k hk);rw[vh (f:=N.root S (k+1)) (g:=N.root S k) (h:=max (N.aL S k (N.a k)) (N.aL S k (N.b k))) (cD G) (by lia) λx _=>by
     unfold Net.root;rw[gv,aac hs];exact GZ (cu k) h x]
    simp[h]
def qj:∀k,k<=N.n->cnt (N.root (λ_=>true) k) N.p+cnt N.jT k=N.p
 | 0,_=>by
   show cnt (N.root (λ_=>true) 0) N.p+0=N.p
   rw[zp (f:=N.root (λ_=>true) 0) λx _=>cD rfl]
   rfl
 | k+1,hk=>by
   have G:=qj k (by lia)
   have st:=vj (N:=N) (S:=λ_=>true) (k:=k) (by lia)
   have e:((λ_=>true:Nat->Bool) k && !decide (N.aL (λ_=>true) k (N.a k)=N.aL (λ_=>true) k (N.b k)))=N.jT k:=by rw[abo];rfl
   rw[e]at st;show cnt (N.root (λ_=>true) (k+1)) N.p+(cnt N.jT k+if N.jT k=true then 1 else 0)=N.p
   lia
def Bh:(N.n:Int)-N.p+cnt (N.root (λ_=>true) N.n) N.p=(cnt (λk=>!N.jT k) N.n:Nat):=by
 have h:=qj (N:=N) N.n (aaf _);have h2:=jY N.jT N.n
 lia
def Net.aB(N:Net):List Nat:=(List.range N.n).filter λk=>!N.jT k
def bh{c:Nat}:c∈N.aB↔c<N.n/\N.jT c=false:=by
 unfold Net.aB;rw[aas,aaA];simp
def DN:N.aB.length=cnt (λk=>!N.jT k) N.n:=ia _ _
def cI{m n:Nat}(h:∀k,m.testBit k=true->k<n):m<2^n:=Nat.lt_pow_two_of_testBit m λk hk=>by
 cases q:m.testBit k with
 | false=>rfl
 | true=>exact absurd (h k q) (by lia)
def b8{m n k:Nat}(h:m<2^n)(hb:m.testBit k=true):k<n:=by
 by_cases q:k<n
 ·exact q
 ·have z:=aaX (aap h (abf (by decide) (show n<=k by lia)))
  rw[hb]at z;cases z
def kY{m q:Nat}(hm:m<2^N.n)(hq:q<2^N.n)(em:N.bL m)(eq:N.bL q)(h:∀c,c<N.n->N.jT c=false->m.testBit c=q.testBit c):m=q:=by
 have z:m^^^q=0:=gJ (N:=N) (λk hk=>by
  have G:=b8 (aaJ hm hq) hk;refine⟨G,?_⟩;cases hf:N.jT k with
  | true=>rfl
  | false =>
    rw[aag,h k G hf]at hk;simp at hk) (bL.xor em eq)
 have e:m=m^^^q^^^q:=by rw[aa9,abD,abp]
 rw[e,z,abc]
def lJ{c:Nat}(h:c<N.n):N.ring c<2^N.n:=cI λk hk=>by
 rcases kX hk with rfl|⟨q,_⟩
 ·exact h
 ·exact q
def gp{c d:Nat}(hc:N.jT c=false)(hd:N.jT d=false):(N.ring c).testBit d=decide (c=d):=by
 by_cases e:c=d
 ·subst e;rw[qi hc];simp
 ·cases q:(N.ring c).testBit d with
  | false=>simp[e]
  | true=>rcases kX q with rfl | ⟨_,r⟩
          ·exact absurd rfl e
          ·rw[hd]at r;cases r
def Net.fM(N:Net)(number:Nat):List Nat->Nat->Nat
 | [],_=>0
 | c::r,i=>(if number.testBit i=true then N.ring c else 0)^^^Net.fM N number r (i+1)
def nV{number:Nat}:∀{l:List Nat} {i:Nat},(∀c∈l,c<N.n)->N.bL (N.fM number l i)/\N.fM number l i<2^N.n
 | [],_,_=>⟨bL.zero,aa2 _⟩
 | c::r,i,h=>by
   obtain⟨h1,h2⟩:=nV (number:=number) (l:=r) (i:=i+1) λd hd=>h d (jt _ hd)
   have hc:=h c aam;unfold Net.fM
   split
   ·exact⟨bL.xor (h8 hc) h1,aaJ (lJ hc) h2⟩
   ·rw[abc];exact⟨h1,h2⟩
def Bj{number d:Nat}(hd:N.jT d=false):∀{l:List Nat} {i:Nat},(∀c∈l,N.jT c=false)->d∉l->(N.fM number l i).testBit d=false
 | [],_,_,_=>by simp[Net.fM]
 | c::r,i,h,hn=>by
   have G:=Bj (number:=number) (d:=d) hd (l:=r) (i:=i+1) (λe he=>h e (jt _ he)) λq=>hn (jt _ q)
   unfold Net.fM;rw[aag,G]
   split
   ·rw[gp (h c aam) hd];have:c≠d:=λq=>hn (by rw[q];exact aam)
    simp[this]
   ·simp
def Bk{number:Nat}:∀{l:List Nat} {i j:Nat} {d:Nat},l.Nodup->(∀c∈l,N.jT c=false)->l[j]?=some d->(N.fM number l i).testBit d=number.testBit (i+j)
 | [],_,_,_,_,_,h=>by simp at h
 | c::r,i,0,d,hn,hf,h=>by
   have e:c=d:=by simpa using h
   subst e;have hc:=hf c aam;unfold Net.fM;rw[aag,Bj hc (λe he=>hf e (jt _ he)) (aaV.mp hn).1]
   cases q:number.testBit (i+0) with
   | true=>rw[aac (by simpa using q),qi hc];rfl
   | false=>rw[aab (by simpa using q)];simp
 | c::r,i,j+1,d,hn,hf,h=>by
   have h' : r[j]?=some d:=by simpa using h
   have hd:d∈r:=iV h';have I:=Bk (number:=number) (l:=r) (i:=i+1) (j:=j) (d:=d) (aaV.mp hn).2 (λe he=>hf e (jt _ he)) h'
   unfold Net.fM;rw[aag,I];have G:c≠d:=λq=>(aaV.mp hn).1 (q▸hd)
   have z:(if number.testBit i=true then N.ring c else 0).testBit d=false:=by
    split
    ·rw[gp (hf c aam) (hf d (jt _ hd))];simp[G]
    ·simp
   rw[z,show i+1+j=i+(j+1) by lia]
   simp
end RM
namespace Ring
open PySem L2
def maskOf(f:Nat->Bool):Nat->Nat
 | 0=>0
 | n+1=>(if f n=true then 2^n else 0)+maskOf f n
def mask_lt(f:Nat->Bool):∀n,maskOf f n<2^n
 | 0=>by show 0<1;decide
 | n+1=>by
   have G:=mask_lt f n;have e:2^(n+1)=2^n+2^n:=by rw[abH];lia
   unfold maskOf
   split<;>lia
def mask_bit(f:Nat->Bool)(j:Nat):∀n,(maskOf f n).testBit j=(decide (j<n)&&f j)
 | 0=>by simp[maskOf]
 | n+1=>by
   have G:=mask_bit f j n;have I:=mask_lt f n;unfold maskOf
   by_cases h:f n=true
   ·rw[aac h];rcases Nat.lt_trichotomy j n with q|q|q
    ·rw[Nat.testBit_two_pow_add_gt q,G];simp[q,show j<n+1 by lia]
    ·subst q;rw[Nat.testBit_two_pow_add_eq,G];simp[h]
    ·have z:2^n+maskOf f n<2^j:=aap (show 2^n+maskOf f n<2^(n+1) by rw[abH];lia) (abf (by decide) q)
     rw[aaX z];simp[show ¬ j<n+1 by lia]
   ·rw[aab h,acK,G]
    by_cases q:j=n
    ·subst q;have h' : f j=false:=by simpa using h
     simp[h']
    ·by_cases r:j<n
     ·simp[r,show j<n+1 by lia]
     ·simp[r,show ¬ j<n+1 by lia]
def Ks(n:Nat):maskOf (λ_=>true) n=2^n-1:=by
 induction n with
 | zero=>rfl
 | succ n G =>
   unfold maskOf;rw[G,aac rfl,abH];have:=aa2 n
   lia
def FO(n j:Nat):(2^n-1).testBit j=decide (j<n):=by
 rw[<-Ks,mask_bit];simp
def QE{a b x y:Nat}(q:x/2+y/2=a/2+b/2)(h:x%2+y%2=a%2+b%2):x+y=a+b:=by lia
def QF{u v:Nat}(hu:u=0\/u=1)(hv:v=0\/v=1):(u ||| v)+(u&&&v)=u+v:=by
 rcases hu with rfl|rfl<;>rcases hv with rfl|rfl<;>rfl
def QG:∀a b:Nat,(a ||| b)+(a&&&b)=a+b:=by
 intro a
 induction a using Nat.strongRecOn with
 | ind a ih =>
   intro b
   by_cases h:a=0
   ·subst h;simp
   ·have q:=ih (a/2) (by lia) (b/2)
    rw[<-Nat.or_div_two,<-Nat.and_div_two]at q;refine QE q ?_;have G:(a ||| b)%2=a%2 ||| b%2:=Nat.or_mod_two_pow (n:=1)
    have I:(a&&&b)%2=a%2&&&b%2:=Nat.and_mod_two_pow (n:=1);rw[G,I];exact QF (ab9 a) (ab9 b)
def or_int(a b:Nat):Builtin.bitOr (a:Int) (b:Int)=((a ||| b:Nat):Int):=by
 have q:=QG a b;rw[PyProof.Rows.bitOr_and,ac0 (by lia) (by lia)]
 have h:(a:Int)+b-((a&&&b:Nat):Int)=((a ||| b:Nat):Int):=by lia
 simpa using h
def i9(k:Nat):(1:Int)*2^(k:Int).toNat=((2^k:Nat):Int):=by
 rw[aaj,Int.one_mul];simp
def gw{ts:List eO}{k:Nat}(h:k<ts.length):b7 ts k∈ts:=by
 unfold b7;rw[aae];simp[h]
def rq{ts:List eO}{k:Nat}(h:k<ts.length):ts[k]?=some (b7 ts k):=by
 unfold b7;rw[aae];simp[h]
def aD.N{p:Nat}{ts:List eO}(g:aD p ts):RM.Net where
 p:=p
 n:=ts.length
 a:=λk=>(b7 ts k).1.toNat
 b:=λk=>(b7 ts k).2.1.toNat
 al:=λk hk=>by
  have z:=g.zo _ (gw hk);have G:=z.a0;have I:=z.a1
  lia
 bl:=λk hk=>by
  have z:=g.zo _ (gw hk);have G:=z.b0;have I:=z.b1
  lia
 ne:=λk hk e=>by
  have z:=g.zo _ (gw hk);have G:=z.a0;have I:=z.b0;exact z.ne (by lia)
def FP{p:Nat}{ts:List eO}{g:aD p ts}{k:Nat}(h:k<ts.length):(b7 ts k).1=((g.N.a k:Nat):Int):=by
 have z:=(g.zo _ (gw h)).a0;show _=(((b7 ts k).1.toNat:Nat):Int)
 lia
def FQ{p:Nat}{ts:List eO}{g:aD p ts}{k:Nat}(h:k<ts.length):(b7 ts k).2.1=((g.N.b k:Nat):Int):=by
 have z:=(g.zo _ (gw h)).b0;show _=(((b7 ts k).2.1.toNat:Nat):Int)
 lia
def NU{p:Nat}{ts:List eO}{g:aD p ts}{k:Nat}(h:k<ts.length)(x:Nat):MX ts k x%2=if g.N.inc k x=true then 1 else 0:=by
 unfold MX RM.Net.inc;rw[rq h];dsimp only;rw[FP (g:=g) h,FQ (g:=g) h];generalize g.N.a k=u;generalize g.N.b k=v
 by_cases h1:u=x
 ·by_cases h2:v=x
  ·simp[h1,h2]
  ·have G : ¬((v:Int)=(x:Int)):=by lia
   simp[h1,h2,G]
 ·have I : ¬((u:Int)=(x:Int)):=by lia
  by_cases h2:v=x
  ·simp[h1,h2,I]
  ·have G : ¬((v:Int)=(x:Int)):=by lia
   simp[h1,h2,I,G]
def Ku{p:Nat}{ts:List eO}{g:aD p ts}(m x:Nat):∀n,n<=ts.length->((List.range n).map λk=>if m.testBit k=true then MX ts k x else 0).sum%2=if RM.bQ (λk=>m.testBit k&&g.N.inc k x) n=true then 1 else 0
 | 0,_=>rfl
 | n+1,h=>by
   have G:=Ku (g:=g) m x n (by lia)
   have hd:=NU (g:=g) (k:=n) (by lia) x
   rw[abG,aax,List.sum_append];show(_+((if m.testBit n=true then MX ts n x else 0)+0))%2=if(RM.bQ _ n^^(m.testBit n&&g.N.inc n x))=true then 1 else 0
   generalize ((List.range n).map λk=>if m.testBit k=true then MX ts k x else 0).sum=u at G ⊢
   generalize RM.bQ (λk=>m.testBit k&&g.N.inc k x) n=v at G ⊢
   generalize g.N.inc n x=i at hd ⊢;generalize MX ts n x=d at hd ⊢;cases m.testBit n<;>cases v<;>cases i<;>simp at G hd ⊢ <;> lia
def zq{p:Nat}{ts:List eO}(g:aD p ts){m:Nat}(hm:m<2^ts.length){x:Nat}:decide ((kC p ts (m:Int)).getD x 0%2=1)=g.N.bd m x:=by
 rw[Kg g.Jf.Y8,jB hm,sum_filter];have h:=Ku (g:=g) m x ts.length (aaf _);rw[h];show _=RM.bQ _ ts.length;generalize RM.bQ (λk=>m.testBit k&&g.N.inc k x) ts.length=v
 cases v<;>simp
def qm{p:Nat}{ts:List eO}(g:aD p ts){m:Nat}(hm:m<2^ts.length):i0 p ts (m:Int)=[]↔g.N.bL m:=by
 unfold i0;rw[List.filter_eq_nil_iff]
 constructor
 ·intro h x hx;have q:=h x (aaA.mpr hx);rw[zq g hm]at q
  simpa using q
 ·intro h x hx;rw[zq g hm,h x (aaA.mp hx)];simp
def cK(f:Nat->Nat)(n:Nat):List V:=(List.range n).map λx=>V.int ((f x:Nat):Int)
def bZ(f:Nat->Nat)(n:Nat):(cK f n).length=n:=by unfold cK;rw[aaa,aav]
def bJ{f:Nat->Nat}{n x:Nat}(h:x<n):(cK f n)[x]?=some (.int ((f x:Nat):Int)):=by
 unfold cK;rw[aai,abQ h];rfl
def j6{f:Nat->Nat}{n x:Nat}{v:V}(h:(cK f n)[x]?=some v):x<n/\v = .int ((f x:Nat):Int):=by
 have hx:x<n:=by
  have:=(ju.mp h).1
  rwa [bZ]at this
 rw[bJ hx]at h;exact⟨hx,(Option.some.inj h).symm⟩
def yo(f:Nat->Nat)(n:Nat):cK f (n+1)=cK f n++[.int ((f n:Nat):Int)]:=by
 unfold cK;rw[abG,aax];rfl
def vm{f g:Nat->Nat}{n:Nat}(h:∀x,x<n->f x=g x):cK f n=cK g n:=by
 unfold cK;refine acD λx hx=>?_
 rw[h x (aaA.mp hx)]
def Bl(p:Nat):(List.replicate p [V.int 0]).flatten=cK (λ_=>0) p:=by
 induction p with
 | zero=>rfl
 | succ p G =>
   rw[yo,<-G,List.replicate_succ',List.flatten_append];rfl
def vn(f:Nat->Nat)(H:Hp)(D:Addr)(i:Nat)(acc:List V)(H2:Hp):Prop:=au H H2/\H2 D=some (.lst acc)/\acc=cK f i
section
variable {f:Nat->Nat}{H H2 H3:Hp}{D:Addr}{i:Nat}{acc:List V}{v:V}
def vn.start(hD:H D=none):vn f H D 0 [] (upd H D (.lst [])):=⟨au.new hD,ae,rfl⟩
def vn.len(p:vn f H D i acc H2):H2 D=some (.lst acc)/\acc.length<=i:=⟨p.2.1,by rw[p.2.2,bZ];exact aaf _⟩
def vn.next(p:vn f H D i acc H2)(hD:H D=none)(s:au H2 H3)(hv:v = .int ((f i:Nat):Int)):H3 D=some (.lst acc)/\vn f H D (i+1) (acc++[v]) (upd H3 D (.lst (acc++[v]))):=by
 refine⟨s _ _ p.2.1,(p.1.trans s).put hD,ae,?_⟩;rw[yo,<-p.2.2,hv]
end
def yp{N:RM.Net}{m:Nat}:∀n,((List.range n).filter λk=>m.testBit k).foldl (λL k=>RM.join L (N.a k) (N.b k)) (λx=>x)=N.aL (λk=>m.testBit k) n
 | 0=>rfl
 | n+1=>by
   rw[bf,acd,yp n,RM.gv]
   split<;>rfl
end Ring
namespace RM
def vo{N:Net}{S S' : Nat->Bool}:∀{n:Nat},(∀k,k<n->S k=S' k)->N.aL S n=N.aL S' n
 | 0,_=>rfl
 | n+1,h=>by rw[gv,gv,vo λk hk=>h k (by lia),h n (by lia)]
end RM
namespace Ring
open PySem L2
def pieceOf(L:Nat->Nat)(p s:Nat):List Nat:=(List.range p).filter λx=>decide (L x=s)
def fj(L:Nat->Nat)(p:Nat):List Nat:=(List.range p).filter λx=>decide (L x=x)
def Pg(D:Addr)(H0 H:Hp)(y:V)(l:List Nat):Prop:=∃b,y = .ref b/\b≠D/\H0 b=none/\H b=some (.lst (aA l))
def vp(L:Nat->Nat)(p:Nat)(H:Hp)(D:Addr)(i:Nat)(H2:Hp):Prop:=au H H2/\∃ys,H2 D=some (.lst ys)/\Paired (Pg D H H2) ys ((fj L i).map (pieceOf L p))/\ys.length<=i
section
variable {L:Nat->Nat}{p i:Nat}{H H2 H3:Hp}{D b:Addr}
def vp.start(hD:H D=none):vp L p H D 0 (upd H D (.lst [])):=⟨au.new hD,[],ae,.nil,aaf _⟩
def vq:fj L (i+1)=fj L i++(if L i=i then[i] else[]):=by
 unfold fj;rw[bf]
 by_cases h:L i=i<;>simp[h]
def vp.skip(h:vp L p H D i H2)(hn : ¬ L i=i):vp L p H D (i+1) H2:=by
 obtain⟨s,ys,hd,pr,G⟩:=h;refine⟨s,ys,hd,?_,by lia⟩
 rw[vq,aab hn,aby];exact pr
def vp.push(h:vp L p H D i H2)(hD:H D=none)(hr:L i=i)(s:au H2 H3)(hb:H2 b=none)(Xl:H3 b=some (.lst (aA (pieceOf L p i)))):
 ∃ys,H3 D=some (.lst ys)/\ys.length<=i/\vp L p H D (i+1) (upd H3 D (.lst (ys++[.ref b]))):=by
 obtain⟨s2,ys,hd,pr,I⟩:=h;have O:=s _ _ hd;have G:b≠D:=λe=>by rw[e,hd]at hb;cases hb
 refine⟨ys,O,I,(s2.trans s).put hD,ys++[.ref b],ae,?_,by rw[aao,abb];lia⟩
 rw[vq,aac hr,aax];refine Paired.snoc (Paired.imp' (λ_ _ ⟨e,he,hn,h0,q⟩=>⟨e,he,hn,h0,by rw[ao hn];exact s _ _ q⟩) pr) ?_
 exact⟨b,rfl,G,s2.free hb,by rw[ao G];exact Xl⟩
end
def tG(p:Nat)(ts:List eO)(g:aD p ts)(ks:List Nat):Nat->Nat:=ks.foldl (λL k=>RM.join L (g.N.a k) (g.N.b k)) λx=>x
def DO{p:Nat}{ts:List eO}{g:aD p ts}{ks:List Nat}{k:Nat}:tG p ts g (ks++[k])=RM.join (tG p ts g ks) (g.N.a k) (g.N.b k):=by
 unfold tG;rw[acd];rfl
def bT(p:Nat)(ts:List eO)(g:aD p ts)(m:Nat):Nat->Nat:=g.N.aL (λk=>m.testBit k) ts.length
def DQ{p:Nat}{ts:List eO}{g:aD p ts}{m:Nat}(hm:m<2^ts.length):tG p ts g (bC (m:Int))=bT p ts g m:=by
 unfold tG bT;rw[jB hm];exact yp _
def NV{p:Nat}{ts:List eO}{g:aD p ts}:bT p ts g (2^ts.length-1)=g.N.fg ts.length:=by
 unfold bT RM.Net.fg;exact RM.vo λk hk=>by rw[FO];simp[hk]
def NW{p:Nat}{ts:List eO}{g:aD p ts}:(ts.length:Int)-(p:Int)+(fj (bT p ts g (2^ts.length-1)) p).length=(g.N.aB.length:Int):=by
 have h:=RM.Bh (N:=g.N);rw[RM.DN];unfold fj;rw[RM.ia,NV];exact h
def FT(a b:Nat):(if(b:Int)<(a:Int) then(b:Int) else(a:Int))=((min a b:Nat):Int):=by
 split<;>lia
def FU(a b:Nat):(if(b:Int) > (a:Int) then(b:Int) else(a:Int))=((max a b:Nat):Int):=by
 split<;>lia
def j7(a b:Nat):decide (V.int (a:Int)=V.int (b:Int))=decide (a=b):=by
 rw[abd];simp
 lia
end Ring
namespace RM
variable {N:Net}{S:Nat->Bool}
variable {pt r j:Nat}{l:List Nat}
def Kv{l:List Nat}:∀{p:Nat},l.Nodup->(∀x∈l,x<p)->l.length<=p:=by
 intro p hn G;have hp:l.Perm ((List.range p).filter λx=>decide (x∈l)):=by
  refine(List.perm_ext_iff_of_nodup hn (abJ _ acB)).mpr λa=>?_
  rw[aas,aaA];simp;exact λh=>G a h
 rw[hp.length_eq];have:=aaP (λx=>decide (x∈l)) (List.range p)
 rwa [aav]at this
end RM
namespace Ring
open PySem L2
def DR{p:Nat}{f:Nat->Bool}:((List.range p).filter f).Pairwise (· < ·):=abJ _ List.pairwise_lt_range
def ic(l:List Nat):aA l=(l.map λx=>((x:Nat):Int)).map V.int:=by unfold aA;rw[abl];rfl
def nc(u:Nat)(l:List Nat):O7 (.int (u:Int)) (aA l)=decide (u∈l):=by
 unfold O7 aA;rw[List.any_map,abd,ady];simp only[Function.comp,decide_eq_true_eq]
 constructor
 ·rintro⟨x,hx,h⟩;have e:((x:Nat):Int)=(u:Int):=eq_of_beq h;have:x=u:=by lia
  exact this▸hx
 ·intro h;exact⟨u,h,by simp[Ny]⟩
def nW(l:List Nat):(aA l).all p5=true:=by
 unfold aA;rw[List.all_map,acg];intro x _;rfl
def and_int(a b:Nat):Builtin.bitAnd (a:Int) (b:Int)=((a&&&b:Nat):Int):=by
 rw[ac0 (by lia) (by lia)]
 simp
end Ring
namespace RM
variable {N:Net}
def Kw{L:Nat->Nat}{u v x y:Nat}:join L u v x=join L u v y↔(L x=L y\/(L x=L u/\L y=L v)\/(L x=L v/\L y=L u)):=by
 constructor
 ·exact vg
 ·have e:=yk L u v;rintro(h|⟨h1,h2⟩|⟨h1,h2⟩)
  ·exact join_eq h
  ·rw[join_eq h1,join_eq h2,e]
  ·rw[join_eq h1,join_eq h2,e]
def QH(L:Nat->Nat)(u v:Nat):Nat->Nat:=λx=>if L x=L v then L u else L x
def NX{L:Nat->Nat}{u v x y:Nat}:QH L u v x=QH L u v y↔(L x=L y\/(L x=L u/\L y=L v)\/(L x=L v/\L y=L u)):=by
 unfold QH
 split<;>split<;>lia
end RM
namespace Ring
open PySem L2
def R6(T:Nat->Nat):Nat->Nat
 | 0=>0
 | n+1=>R6 T n ||| T n
def FW(T:Nat->Nat)(j:Nat):∀n,(R6 T n).testBit j=true↔∃x,x<n/\(T x).testBit j=true
 | 0=>by simp[R6]
 | n+1=>by
   unfold R6;rw[Nat.testBit_or,Bool.or_eq_true,FW T j n]
   constructor
   ·rintro(⟨x,hx,h⟩|h)
    ·exact⟨x,by lia,h⟩
    ·exact⟨n,by lia,h⟩
   ·rintro⟨x,hx,h⟩
    by_cases e:x=n
    ·subst e;exact .inr h
    ·exact .inl ⟨x,by lia,h⟩
section
variable {p:Nat}{ts:List eO}{g:aD p ts}
def j8(p:Nat)(ts:List eO)(g:aD p ts):Nat:=maskOf g.N.jT ts.length
def DS:R6 (g.N.trail ts.length) p=j8 p ts g:=by
 refine aaG λj=>?_
 unfold j8;rw[mask_bit,abd,FW];simp only[aaH,decide_eq_true_eq]
 constructor
 ·rintro⟨x,_,h⟩;exact RM.ez _ _ _ h
 ·rintro⟨h1,h2⟩;rcases RM.GY (N:=g.N) h1 h2 with h|h
  ·exact⟨_,g.N.al j h1,h⟩
  ·exact⟨_,g.N.bl j h1,h⟩
def DT(j:Nat):((2^ts.length-1)^^^j8 p ts g).testBit j=(decide (j<ts.length) && !g.N.jT j):=by
 unfold j8;rw[aag,FO,mask_bit];cases decide (j<ts.length)<;>cases g.N.jT j<;>rfl
def yq:(2^ts.length-1)^^^j8 p ts g<2^ts.length:=aaJ (by have:=aa2 ts.length;lia) (mask_lt _ _)
def Bm:bC (((2^ts.length-1)^^^j8 p ts g:Nat):Int)=g.N.aB:=by
 rw[jB yq];unfold RM.Net.aB;refine acX λk hk=>?_
 have:=aaA.mp hk;rw[DT];simp[this]
end
def NY(n:Nat):((2:Int)^n-1)=((2^n-1:Nat):Int):=by
 have h:((2:Int)^n)=((2^n:Nat):Int):=by simp
 have:=aa2 n
 lia
def QI{S:Int}{l:List Nat}(h:∀c∈l,S≠((c:Nat):Int)):O7 (.int S) (aA l)=false:=by
 unfold O7 aA;rw[List.any_map,List.any_eq_false];intro x hx z;exact h x hx (eq_of_beq z).symm
def oR{c:Nat}:∀{n:Nat},c<n->(List.range n).filter (λk=>decide (k=c))=[c]
 | 0,h=>absurd h (abg _)
 | n+1,h=>by
   rw[bf]
   by_cases e:c=n
   ·subst e;have z:(List.range c).filter (λk=>decide (k=c))=[]:=by
     rw[List.filter_eq_nil_iff];intro x hx;have:=aaA.mp hx;simp
     lia
    rw[z];simp
   ·rw[oR (by lia)]
    simp[aba e]
def lK{l:List Nat}{i:Nat}{k:Nat}(h:l[i]?=some k):(aA l)[i]?=some (.int (k:Int)):=by
 unfold aA;rw[aai,h];rfl
def Kx(l:List Nat):PyData.eqv (.list (l.map rh)) (.list (l.map rh))=true:=SeqAt.eqv_refl _ (by
 have e:(PyData.list (l.map rh)).canLay0=PyData.canLayAll0 (l.map rh):=by simp[PyData.canLay0]
 rw[e,vf])
def xu(f:Nat->Int)(l:List Nat)(H:Hp)(D:Addr)(i:Nat)(acc:List V)(H2:Hp):Prop:=au H H2/\H2 D=some (.lst acc)/\acc=((l.take i).map f).map V.int
section
variable {f:Nat->Int}{l:List Nat}{H H2 H3:Hp}{D:Addr}{i k:Nat}{acc:List V}{v:V}
def xu.start(hD:H D=none):xu f l H D 0 [] (upd H D (.lst [])):=⟨au.new hD,ae,rfl⟩
def xu.len(p:xu f l H D i acc H2):H2 D=some (.lst acc)/\acc.length<=i:=by
 refine⟨p.2.1,?_⟩;rw[p.2.2,aaa,aaa,aa0]
 lia
def xu.next(p:xu f l H D i acc H2)(hD:H D=none)(s:au H2 H3)(hk:l[i]?=some k)(hv:v = .int (f k)):H3 D=some (.lst acc)/\xu f l H D (i+1) (acc++[v]) (upd H3 D (.lst (acc++[v]))):=by
 refine⟨s _ _ p.2.1,(p.1.trans s).put hD,ae,?_⟩;rw[aaW,hk,aax,aax,<-p.2.2,hv];rfl
def xu.fin(p:xu f l H D l.length acc H2):H2 D=some (.lst ((l.map f).map V.int)):=by rw[p.2.1,p.2.2,aaM]
end
end Ring
namespace RM
def vt(f:Nat->Bool):∀n,bQ f n=decide (cnt f n%2=1)
 | 0=>rfl
 | n+1=>by
   unfold bQ cnt;rw[vt f n]
   by_cases h:f n=true
   ·rw[h,aac rfl]
    by_cases q:cnt f n%2=1
    ·have q' : ¬(cnt f n+1)%2=1:=by lia
     simp[q,q']
    ·have q' : (cnt f n+1)%2=1:=by lia
     simp[q,q']
   ·have h' : f n=false:=by simpa using h
    rw[h',aab (by decide)]
    simp
end RM
namespace Ring
open PySem L2
def lenOf(ts:List eO)(m:Nat):Int:=((bC (m:Int)).map λk=>(b7 ts k).2.2).sum
def G0(ts:List eO)(f:Nat->Bool):Nat->Int
 | 0=>0
 | n+1=>G0 ts f n+(if f n=true then(b7 ts n).2.2 else 0)
def tH(ts:List eO)(f:Nat->Bool):∀n,(((List.range n).filter f).map λk=>(b7 ts k).2.2).sum=G0 ts f n
 | 0=>rfl
 | n+1=>by
   rw[bf,aax,List.sum_append,tH ts f n];show _=G0 ts f n+(if f n=true then(b7 ts n).2.2 else 0)
   split<;>simp
def G3{ts:List eO}{m:Nat}(hm:m<2^ts.length):lenOf ts m=G0 ts (λk=>m.testBit k) ts.length:=by
 unfold lenOf;rw[jB hm];exact tH ts _ _
section
variable {p:Nat}{ts:List eO}(g:aD p ts)
include g
def DU{m:Nat}(hm:m<2^ts.length):i0 p ts (m:Int)=(List.range p).filter (g.N.bd m):=by
 unfold i0;refine acX λx _=>?_
 exact zq g hm
end
end Ring
namespace RM
def sm(f:Nat->Nat):Nat->Nat
 | 0=>0
 | n+1=>sm f n+f n
def fO{f g:Nat->Nat}:∀{n:Nat},(∀k,k<n->f k=g k)->sm f n=sm g n
 | 0,_=>rfl
 | n+1,h=>by
   show sm f n+f n=sm g n+g n;rw[fO λk hk=>h k (by lia),h n (by lia)]
def rA(f g:Nat->Nat):∀n,sm (λk=>f k+g k) n=sm f n+sm g n
 | 0=>rfl
 | n+1=>by
   show sm (λk=>f k+g k) n+(f n+g n)=sm f n+f n+(sm g n+g n)
   rw[rA f g n]
   lia
def uA:∀n,sm (λ_=>0) n=0
 | 0=>rfl
 | n+1=>by
   show sm (λ_=>0) n+0=0
   rw[uA n]
def FY(f:Nat->Nat->Nat)(n:Nat):∀p,sm (λx=>sm (λk=>f x k) n) p=sm (λk=>sm (λx=>f x k) p) n
 | 0=>(uA n).symm
 | p+1=>by
   show sm (λx=>sm (λk=>f x k) n) p+sm (λk=>f p k) n=sm (λk=>sm (λx=>f x k) p+f p k) n
   rw[FY f n p,rA]
def iX(f:Nat->Bool):∀n,cnt f n=sm (λk=>if f k=true then 1 else 0) n
 | 0=>rfl
 | n+1=>by
   show cnt f n+(if f n=true then 1 else 0)=sm (λk=>if f k=true then 1 else 0) n+(if f n=true then 1 else 0)
   rw[iX f n]
def FZ{f g:Nat->Nat}:∀{n:Nat},(∀k,k<n->f k<=g k)->sm f n<=sm g n
 | 0,_=>aaf _
 | n+1,h=>by
   have h1:=FZ (f:=f) (g:=g) (n:=n) λk hk=>h k (by lia)
   have h2:=h n (by lia)
   show sm f n+f n<=sm g n+g n
   lia
def Ky{f g:Nat->Nat}{n:Nat}(h:∀k,k<n->f k<=g k)(e:sm f n=sm g n):∀k,k<n->f k=g k:=by
 induction n with
 | zero=>exact λk hk=>absurd hk (abg _)
 | succ n I =>
   intro k hk;have h1:=FZ (f:=f) (g:=g) (n:=n) λk hk=>h k (by lia)
   have h2:=h n (by lia)
   have e:sm f n+f n=sm g n+g n:=e
   by_cases G:k=n
   ·subst G
    lia
   ·exact I (λj hj=>h j (by lia)) (by lia) k (by lia)
def pD{f g:Nat->Bool}{n:Nat}(h:∀k,k<n->f k=true->g k=true):cnt f n<=cnt g n:=by
 rw[iX,iX];refine FZ λk hk=>?_
 by_cases hf:f k=true
 ·rw[aac hf,aac (h k hk hf)];exact aaf _
 ·rw[aab hf];exact aaL _
def Bo{f g:Nat->Bool}{n:Nat}(h:∀k,k<n->f k=true->g k=true)(e:cnt f n=cnt g n):∀k,k<n->g k=true->f k=true:=λk hk G=>by
 rw[iX,iX]at e;have q:=Ky (n:=n) (λk hk=>by
  by_cases hf:f k=true
  ·rw[aac hf,aac (h k hk hf)];exact aaf _
  ·rw[aab hf];exact aaL _) e k hk
 rw[aac G]at q
 by_cases hf:f k=true
 ·exact hf
 ·rw[aab hf]at q
  lia
def ng{f:Nat->Bool}:∀{n:Nat},0<cnt f n->∃k,k<n/\f k=true
 | 0,h=>absurd h (aa8 _)
 | n+1,h=>by
   by_cases hf:f n=true
   ·exact⟨n,by lia,hf⟩
   ·have h:0<cnt f n+(if f n=true then 1 else 0):=h
    rw[aab hf]at h;obtain⟨k,hk,q⟩:=ng (f:=f) (n:=n) (by lia)
    exact⟨k,by lia,q⟩
def nX{f:Nat->Bool}{k:Nat}(hf:f k=true):∀{n:Nat},k<n->0<cnt f n
 | 0,h=>absurd h (abg _)
 | n+1,h=>by
   show 0<cnt f n+(if f n=true then 1 else 0)
   by_cases hk:k=n
   ·subst hk;rw[aac hf]
    lia
   ·have:=nX hf (n:=n) (by lia)
    lia
def nY{f:Nat->Bool}:∀{n:Nat},2<=cnt f n->∃c d,c<d/\d<n/\f c=true/\f d=true
 | 0,h=>absurd h (by show ¬ 2<=0;lia)
 | n+1,h=>by
   have h:2<=cnt f n+(if f n=true then 1 else 0):=h
   by_cases hf:f n=true
   ·rw[aac hf]at h;obtain⟨k,hk,q⟩:=ng (f:=f) (n:=n) (by lia)
    exact⟨k,n,hk,by lia,q,hf⟩
   ·rw[aab hf]at h;obtain⟨c,d,h1,h2,G,I⟩:=nY (f:=f) (n:=n) (by lia)
    exact⟨c,d,h1,by lia,G,I⟩
def uB{f:Nat->Bool}{u v:Nat}(hu:f u=true)(hv:f v=true)(ne:u≠v):∀{n:Nat},u<n->v<n->2<=cnt f n
 | 0,h,_=>absurd h (abg _)
 | n+1,h1,h2=>by
   show 2<=cnt f n+(if f n=true then 1 else 0)
   by_cases G:u=n
   ·subst G;have:=nX hv (n:=u) (by lia)
    rw[aac hu]
    lia
   ·by_cases I:v=n
    ·subst I;have:=nX hu (n:=v) (by lia)
     rw[aac hv]
     lia
    ·have:=uB hu hv ne (n:=n) (by lia) (by lia)
     lia
def vy(a:Nat):∀n,cnt (λx=>decide (a=x)) n=if a<n then 1 else 0
 | 0=>rfl
 | n+1=>by
   show cnt (λx=>decide (a=x)) n+(if decide (a=n)=true then 1 else 0)=_
   rw[vy a n]
   by_cases e:a=n
   ·subst e;simp
   ·have d:(if decide (a=n)=true then 1 else 0)=0:=aab (by simpa using e)
    rw[d]
    by_cases h:a<n
    ·rw[aac h,aac (by lia)]
    ·rw[aab h,aab (by lia)]
def vz{f g:Nat->Bool}:∀{n:Nat},(∀x,x<n->¬(f x=true/\g x=true))->cnt (λx=>f x^^g x) n=cnt f n+cnt g n
 | 0,_=>rfl
 | n+1,h=>by
   show cnt (λx=>f x^^g x) n+(if(f n^^g n)=true then 1 else 0)=cnt f n+(if f n=true then 1 else 0)+(cnt g n+(if g n=true then 1 else 0))
   rw[vz λx hx=>h x (by lia)]
   have q:=h n (by lia)
   cases hf:f n<;>cases hg:g n
   ·simp
   ·simp
    lia
   ·simp
    lia
   ·exact absurd ⟨hf,hg⟩ q
variable {N:Net}
def Net.dg(N:Net)(m x:Nat):Nat:=cnt (λk=>m.testBit k&&N.inc k x) N.n
def yr(m x:Nat):N.bd m x=decide (N.dg m x%2=1):=vt _ _
def uC{m x:Nat}(e:N.bL m)(hx:x<N.p):N.dg m x%2=0:=by
 have h:=e x hx;rw[yr]at h;have:=of_decide_eq_false h
 lia
def uD{k x:Nat}(hk:k<N.n):N.inc k x=true↔(N.a k=x\/N.b k=x):=by
 have ne:=N.ne k hk;unfold Net.inc
 by_cases h1:N.a k=x
 ·have h2 : ¬ N.b k=x:=λz=>ne (h1.trans z.symm)
  simp[h1,h2]
 ·by_cases h2:N.b k=x
  ·simp[h1,h2]
  ·simp[h1,h2]
def NZ{k:Nat}(hk:k<N.n):cnt (N.inc k) N.p=2:=by
 have ne:=N.ne k hk;have e:cnt (N.inc k) N.p=cnt (λx=>decide (N.a k=x)^^decide (N.b k=x)) N.p:=rfl
 rw[e,vz λx _ ⟨h1,h2⟩=>ne ((jR h1).trans (jR h2).symm),vy,vy,aac (N.al k hk),aac (N.bl k hk)]
def zu(m:Nat):sm (λx=>N.dg m x) N.p=2*cnt (λk=>m.testBit k) N.n:=by
 have e:sm (λx=>N.dg m x) N.p=sm (λx=>sm (λk=>if(m.testBit k&&N.inc k x)=true then 1 else 0) N.n) N.p:=fO λx _=>iX _ _
 rw[e,FY,iX];have d:∀n,2*sm (λk=>if m.testBit k=true then 1 else 0) n=sm (λk=>(if m.testBit k=true then 1 else 0)+(if m.testBit k=true then 1 else 0)) n:=λn=>by
  rw[rA]
  lia
 rw[d];refine fO λk hk=>?_
 by_cases h:m.testBit k=true
 ·rw[aac h];have q:=NZ hk;rw[iX]at q;show _=2;exact(fO λx _=>by rw[h,abo]).trans q
 ·rw[aab h];have h' : m.testBit k=false:=by simpa using h
  have:sm (λx=>if(m.testBit k&&N.inc k x)=true then 1 else 0) N.p=sm (λ_=>0) N.p:=fO λx _=>by rw[h'];rfl
  rw[this,uA]
def T7{q m:Nat}(h:∀k,q.testBit k=true->m.testBit k=true)(x:Nat):N.dg q x<=N.dg m x:=pD λk _ G=>by
 rw[aaH]at G ⊢;exact⟨h k G.1,G.2⟩
def vA{m k x:Nat}(hk:k<N.n)(hb:m.testBit k=true)(hx:N.a k=x\/N.b k=x):0<N.dg m x:=nX (k:=k) (by rw[hb,abo];exact(uD hk).mpr hx) hk
def qo{m x:Nat}(h:0<N.dg m x):∃k,k<N.n/\m.testBit k=true/\(N.a k=x\/N.b k=x):=by
 obtain⟨k,hk,q⟩:=ng h;rw[aaH]at q;exact⟨k,hk,q.1,(uD hk).mp q.2⟩
def alone{m x y:Nat}(h:N.dg m x=0)(c:N.mT (λk=>m.testBit k) N.n x y):y=x:=by
 induction c with
 | refl=>rfl
 | fwd _ hj hs ih=>exact absurd (vA hj hs (.inl ih)) (by lia)
 | bwd _ hj hs ih=>exact absurd (vA hj hs (.inr ih)) (by lia)
def G4{S:Nat->Bool}{k u v:Nat}(hk:k<=N.n)(c:N.mT S k u v):∃t,(∀j,t.testBit j=true->j<k/\S j=true)/\∀x,N.bd t x=(decide (u=x)^^decide (v=x)):=by
 induction c with
 | refl=>exact⟨0,λj hj=>by simp at hj,λx=>by rw[nU];simp⟩
 | fwd _ hj hs ih =>
   rename_i j _
   obtain⟨t,h1,h2⟩:=ih;refine⟨t^^^2^j,λi hi=>?_,λx=>?_⟩
   ·rw[aag,aar]at hi
    by_cases e:j=i
    ·subst e;exact⟨hj,hs⟩
    ·rw[dO e,aa7]at hi;exact h1 i hi
   ·rw[gm,h2,kD (by lia)]
    unfold Net.inc;cases decide (u=x)<;>cases decide (N.a j=x)<;>cases decide (N.b j=x)<;>rfl
 | bwd _ hj hs ih =>
   rename_i j _
   obtain⟨t,h1,h2⟩:=ih;refine⟨t^^^2^j,λi hi=>?_,λx=>?_⟩
   ·rw[aag,aar]at hi
    by_cases e:j=i
    ·subst e;exact⟨hj,hs⟩
    ·rw[dO e,aa7]at hi;exact h1 i hi
   ·rw[gm,h2,kD (by lia)]
    unfold Net.inc;cases decide (u=x)<;>cases decide (N.a j=x)<;>cases decide (N.b j=x)<;>rfl
def Net.Ring(N:Net)(m:Nat):Prop:=m≠0/\N.bL m/\∀q,(∀k,q.testBit k=true->m.testBit k=true)->N.bL q->q=0\/q=m
section
variable {m s:Nat}
def F0(hm:m<2^N.n)(ev:N.bL m)(C:Nat->Bool)(hC:∀x,x<N.p->C x=decide (N.aL (λk=>m.testBit k) N.n x=s))(h2:2<=cnt C N.p)
 (Xm:∀k,k<N.n->m.testBit k=true->C (N.a k)=true) (hl:cnt C N.p=cnt (λk=>m.testBit k) N.n):N.Ring m:=by
 have Ph:∀k,k<N.n->m.testBit k=true->C (N.a k)=true/\C (N.b k)=true:=λk hk hb=>by
  have h:=Xm k hk hb;refine⟨h,?_⟩;rw[hC _ (N.al k hk)]at h;rw[hC _ (N.bl k hk)];rw[iQ (S:=λk=>m.testBit k) hk hb]at h
  exact h
 have pos:∀x,x<N.p->C x=true->0<N.dg m x:=λx hx hc=>by
  cases hz:N.dg m x with
  | succ d=>lia
  | zero =>
    exfalso
    obtain⟨y,hy,Pj,Y⟩:∃y,y<N.p/\C y=true/\y≠x:=by
     obtain⟨c,d,h1,Z,U,h5⟩:=nY h2
     by_cases e:c=x
     ·exact⟨d,Z,h5,by lia⟩
     ·exact⟨c,by lia,U,e⟩
    rw[hC x hx]at hc;rw[hC y hy]at Pj;exact Y (alone hz (bS _ _ _ ((jR hc).trans (jR Pj).symm)))
 have two:∀x,x<N.p->(if C x=true then 2 else 0)=N.dg m x:=by
  refine Ky (λx hx=>?_) ?_
  ·by_cases hc:C x=true
   ·rw[aac hc];have h1:=pos x hx hc;have Z:=uC ev hx
    lia
   ·rw[aab hc];exact aaL _
  ·rw[zu,<-hl,iX];have d:∀n,2*sm (λk=>if C k=true then 1 else 0) n=sm (λk=>(if C k=true then 1 else 0)+(if C k=true then 1 else 0)) n:=λn=>by
    rw[rA]
    lia
   rw[d];exact fO λx _=>by split<;>rfl
 obtain⟨c0,ag,ar⟩:=ng (f:=C) (n:=N.p) (by lia)
 refine⟨λz=>?_,ev,λq O eq=>?_⟩
 ·have h:=pos c0 ag ar;obtain⟨k,_,hb,_⟩:=qo h;rw[z]at hb;simp at hb
 ·by_cases DV:q=0
  ·exact .inl DV
  ·right
   have full:∀x,x<N.p->0<N.dg q x->∀k,k<N.n->m.testBit k=true->(N.a k=x\/N.b k=x)->q.testBit k=true:=λx hx h k hk hb Jg=>by
    have h1:=T7 (N:=N) O x;have Z:=uC eq hx;have U:=two x hx;have h5:N.dg q x=N.dg m x:=by
     by_cases hc:C x=true
     ·rw[aac hc]at U
      lia
     ·rw[aab hc]at U
      lia
    have h6:=Bo (f:=λk=>q.testBit k&&N.inc k x) (g:=λk=>m.testBit k&&N.inc k x) (n:=N.n) (λk _ z=>by
     rw[aaH]at z ⊢;exact⟨O k z.1,z.2⟩) h5 k hk (by rw[hb,abo];exact(uD hk).mpr Jg)
    rw[aaH]at h6;exact h6.1
   obtain⟨k0,G⟩:∃k,q.testBit k=true:=abt DV;have I:k0<N.n:=b8 hm (O k0 G);have spread:∀{y},N.mT (λk=>m.testBit k) N.n (N.a k0) y->0<N.dg q y:=λ{y} c=>by
    induction c with
    | refl=>exact vA I G (.inl rfl)
    | fwd _ hj hs ih=>exact vA hj (full _ (N.al _ hj) ih _ hj hs (.inl rfl)) (.inr rfl)
    | bwd _ hj hs ih=>exact vA hj (full _ (N.bl _ hj) ih _ hj hs (.inr rfl)) (.inl rfl)
   refine aaG λk=>?_
   cases hb:m.testBit k with
   | false =>
     cases hz:q.testBit k with
     | false=>rfl
     | true =>
       have:=O k hz;rw[hb]at this;cases this
   | true =>
     have hk:=b8 hm hb;have e1:=(Ph k hk hb).1;have e2:=(Ph k0 I (O k0 G)).1;rw[hC _ (N.al k hk)]at e1;rw[hC _ (N.al k0 I)]at e2;exact full _ (N.al k hk) (spread (bS _ _ _ ((jR e2).trans (jR e1).symm))) k hk hb (.inl rfl)
def pF(hm:m<2^N.n)(r:N.Ring m):∃k0,k0<N.n/\m.testBit k0=true/\∀k,k<N.n->m.testBit k=true->N.aL (λk=>m.testBit k) N.n (N.a k)=N.aL (λk=>m.testBit k) N.n (N.a k0):=by
 obtain⟨h0,ev,I⟩:=r;obtain⟨k0,hb0⟩:=abt h0;have G:=b8 hm hb0;refine⟨k0,G,hb0,?_⟩;generalize hs:N.aL (λk=>m.testBit k) N.n (N.a k0)=s
 have bit:∀k,(Ring.maskOf (λk=>m.testBit k&&decide (N.aL (λk=>m.testBit k) N.n (N.a k)=s)) N.n).testBit k=(decide (k<N.n)&&(m.testBit k&&decide (N.aL (λk=>m.testBit k) N.n (N.a k)=s))):=λk=>Ring.mask_bit _ k _
 have sub:∀k,(Ring.maskOf (λk=>m.testBit k&&decide (N.aL (λk=>m.testBit k) N.n (N.a k)=s)) N.n).testBit k=true->m.testBit k=true:=λk hk=>by
  rw[bit,aaH,aaH]at hk;exact hk.2.1
 have O:N.bL (Ring.maskOf (λk=>m.testBit k&&decide (N.aL (λk=>m.testBit k) N.n (N.a k)=s)) N.n):=λx hx=>by
  have e:N.bd (Ring.maskOf (λk=>m.testBit k&&decide (N.aL (λk=>m.testBit k) N.n (N.a k)=s)) N.n) x=(decide (N.aL (λk=>m.testBit k) N.n x=s)&&N.bd m x):=by
   unfold Net.bd;rw[<-jC];refine bF λk hk=>?_
   rw[bit,cD hk,abo];cases hb:m.testBit k with
   | false=>simp
   | true =>
     cases hi:N.inc k x with
     | false=>simp
     | true =>
       have U:N.aL (λk=>m.testBit k) N.n (N.a k)=N.aL (λk=>m.testBit k) N.n x:=by
        rcases(uD hk).mp hi with z|z
        ·rw[z]
        ·rw[<-z];exact iQ (S:=λk=>m.testBit k) hk hb
       rw[U];simp
  rw[e,ev x hx,abE]
 rcases I _ sub O with q|q
 ·have:=bit k0;rw[q,hb0,hs,cD G]at this;simp at this
 ·intro k hk hb;have h:=bit k;rw[q,hb,cD hk]at h;exact jR (by simpa using h.symm)
def yt(S:Nat->Bool):∀k,k<=N.n->cnt (N.root S k) N.p+cnt (λj=>S j && !decide (N.aL S j (N.a j)=N.aL S j (N.b j))) k=N.p
 | 0,_=>by
   show cnt (N.root S 0) N.p+0=N.p;rw[zp (f:=N.root S 0) λx _=>cD rfl]
   rfl
 | k+1,hk=>by
   have G:=yt S k (by lia)
   have st:=vj (N:=N) (S:=S) (k:=k) (by lia)
   show cnt (N.root S (k+1)) N.p+(cnt (λj=>S j && !decide (N.aL S j (N.a j)=N.aL S j (N.b j))) k+if(S k && !decide (N.aL S k (N.a k)=N.aL S k (N.b k)))=true then 1 else 0)=N.p
   lia
def Bp(hm:m<2^N.n)(r:N.Ring m)(C:Nat->Bool)(hC:∀x,x<N.p->C x=decide (N.aL (λk=>m.testBit k) N.n x=s))
 (Xm:∀k,k<N.n->m.testBit k=true->C (N.a k)=true):2<=cnt C N.p/\cnt C N.p=cnt (λk=>m.testBit k) N.n/\∀x,x<N.p->C x=false->N.aL (λk=>m.testBit k) N.n x=x/\∀y,N.aL (λk=>m.testBit k) N.n y=x->y=x:=by
 obtain⟨h0,ev,mn⟩:=r;obtain⟨k0,hb0⟩:=abt h0;have G:=b8 hm hb0;have O:∀k,k<N.n->m.testBit k=true->C (N.a k)=true/\C (N.b k)=true:=λk hk hb=>by
  have h:=Xm k hk hb;refine⟨h,?_⟩;rw[hC _ (N.al k hk)]at h;rw[hC _ (N.bl k hk),<-iQ (S:=λk=>m.testBit k) hk hb]
  exact h
 have h2:2<=cnt C N.p:=uB (O k0 G hb0).1 (O k0 G hb0).2 (N.ne k0 G) (N.al k0 G) (N.bl k0 G);have none:∀x,x<N.p->C x=false->N.dg m x=0:=λx hx hc=>by
  cases hz:N.dg m x with
  | zero=>rfl
  | succ d =>
    exfalso
    obtain⟨k,hk,hb,Jg⟩:=qo (N:=N) (m:=m) (x:=x) (by lia)
    rcases Jg with e|e
    ·have:=(O k hk hb).1;rw[e,hc]at this;cases this
    ·have:=(O k hk hb).2;rw[e,hc]at this;cases this
 have G5:∀x,x<N.p->C x=false->N.aL (λk=>m.testBit k) N.n x=x/\∀y,N.aL (λk=>m.testBit k) N.n y=x->y=x:=λx hx hc=>by
  have hz:=none x hx hc;have r1:N.aL (λk=>m.testBit k) N.n x=x:=alone hz (bS _ _ _ (cu _ _).symm)
  exact⟨r1,λy hy=>alone hz (bS _ _ _ (r1.trans hy.symm))⟩
 refine⟨h2,?_,G5⟩;have pos:∀x,x<N.p->C x=true->0<N.dg m x:=λx hx hc=>by
  cases hz:N.dg m x with
  | succ d=>lia
  | zero =>
    exfalso
    obtain⟨y,hy,Pj,ar⟩:∃y,y<N.p/\C y=true/\y≠x:=by
     obtain⟨c,d,h1,h3,h4,h5⟩:=nY h2
     by_cases e:c=x
     ·exact⟨d,h3,h5,by lia⟩
     ·exact⟨c,by lia,h4,e⟩
    rw[hC x hx]at hc;rw[hC y hy]at Pj;exact ar (alone hz (bS _ _ _ ((jR hc).trans (jR Pj).symm)))
 have ge:cnt C N.p<=cnt (λk=>m.testBit k) N.n:=by
  have h:sm (λx=>if C x=true then 2 else 0) N.p<=sm (λx=>N.dg m x) N.p:=FZ λx hx=>by
   by_cases hc:C x=true
   ·rw[aac hc];have h1:=pos x hx hc;have h3:=uC ev hx
    lia
   ·rw[aab hc];exact aaL _
  rw[zu]at h;have d:sm (λx=>if C x=true then 2 else 0) N.p=2*cnt C N.p:=by
   rw[iX];have d:∀n,2*sm (λk=>if C k=true then 1 else 0) n=sm (λk=>(if C k=true then 1 else 0)+(if C k=true then 1 else 0)) n:=λn=>by
    rw[rA]
    lia
   rw[d];exact fO λx _=>by split<;>rfl
  lia
 refine Nat.le_antisymm ge (Nat.le_of_not_lt λmore=>?_)
 have Xo:=yt (N:=N) (λk=>m.testBit k) N.n (aaf _)
 have hr:cnt (N.root (λk=>m.testBit k) N.n) N.p+cnt C N.p=N.p+1:=by
  have U:=(O k0 G hb0).1;rw[hC _ (N.al k0 G)]at U;have hs:=jR U;have tV:s<N.p:=by rw[<-hs];exact jZ (N.al k0 G)
  have Y:N.aL (λk=>m.testBit k) N.n s=s:=by rw[<-hs];exact cu _ _
  have e:cnt (N.root (λk=>m.testBit k) N.n) N.p=cnt (λx=>!C x^^decide (s=x)) N.p:=fh λx hx=>by
   unfold Net.root;cases hc:C x with
   | false =>
     have ne : ¬ s=x:=λz=>by
      have:=hC x hx;rw[hc,<-z,Y]at this;simp at this
     rw[cD (G5 x hx hc).1,dO ne];rfl
   | true =>
     have h:=hC x hx;rw[hc]at h;have h:=jR h.symm;rw[h];simp
  rw[e,vz λx hx ⟨Z,I⟩=>by
   have I:=jR I;have:=hC x hx;rw[<-I,Y]at this;rw[<-I,this]at Z;simp at Z,vy,aac tV]
  have:=jY C N.p
  lia
 have split:cnt (λk=>m.testBit k) N.n=cnt (λj=>m.testBit j && !decide (N.aL (λk=>m.testBit k) j (N.a j)=N.aL (λk=>m.testBit k) j (N.b j))) N.n+cnt (λj=>m.testBit j&&decide (N.aL (λk=>m.testBit k) j (N.a j)=N.aL (λk=>m.testBit k) j (N.b j))) N.n:=by
  rw[<-vz λx _ ⟨Z,I⟩=>by
   rw[aaH]at Z I;have:=Z.2;rw[I.2]at this;cases this]
  refine fh λk _=>?_
  cases m.testBit k<;>cases decide (N.aL (λk=>m.testBit k) k (N.a k)=N.aL (λk=>m.testBit k) k (N.b k))<;>rfl
 obtain⟨c,d,ax,hd,aw,ag⟩:=nY (f:=λj=>m.testBit j&&decide (N.aL (λk=>m.testBit k) j (N.a j)=N.aL (λk=>m.testBit k) j (N.b j))) (n:=N.n) (by lia)
 have whole:∀j,j<N.n->(m.testBit j&&decide (N.aL (λk=>m.testBit k) j (N.a j)=N.aL (λk=>m.testBit k) j (N.b j)))=true->∀i,m.testBit i=true->i<=j:=λj hj h i hi=>by
  rw[aaH]at h;obtain⟨t,t1,t2⟩:=G4 (aaO hj) (bS _ _ _ (jR h.2));have own:(t^^^2^j).testBit j=true:=by
   rw[aag,aar,cD rfl];cases hz:t.testBit j with
   | false=>rfl
   | true=>exact absurd (t1 j hz).1 (aa8 _)
  have sub:∀k,(t^^^2^j).testBit k=true->m.testBit k=true:=λk hk=>by
   rw[aag,aar]at hk
   by_cases e:j=k
   ·subst e;exact h.1
   ·rw[dO e,aa7]at hk;exact(t1 k hk).2
  have Xn:N.bL (t^^^2^j):=λx hx=>by
   rw[gm,t2,kD hj];unfold Net.inc;cases decide (N.a j=x)<;>cases decide (N.b j=x)<;>rfl
  rcases mn _ sub Xn with q|q
  ·rw[q]at own;simp at own
  ·rw[<-q,aag,aar]at hi
   by_cases e:j=i
   ·lia
   ·rw[dO e,aa7]at hi;exact aaO (t1 i hi).1
 have h1:m.testBit d=true:=by
  rw[aaH]at ag;exact ag.1
 have:=whole c (by lia) aw d h1
 lia
end
end RM
namespace Ring
open PySem L2
def eF(L:Nat->Nat)(p:Nat):List Nat:=(fj L p).filter λs=>decide (1<(pieceOf L p s).length)
def QJ(L:Nat->Nat)(p k:Nat):List Nat->Bool
 | [s]=>decide ((pieceOf L p s).length=k)
 | _=>false
def tI(p:Nat)(ts:List eO)(g:aD p ts)(m:Nat):Bool:=decide (i0 p ts (m:Int)=[])&&QJ (bT p ts g m) p (bC (m:Int)).length (eF (bT p ts g m) p)
def jl(L:Nat->Nat)(p s:Nat):(pieceOf L p s).length=RM.cnt (λx=>decide (L x=s)) p:=RM.ia _ _
def vB{m n:Nat}(hm:m<2^n):(bC (m:Int)).length=RM.cnt (λk=>m.testBit k) n:=by
 rw[jB hm];exact RM.ia _ _
def G6{f:Nat->Bool}{n c:Nat}(hc:c<n)(h:∀k,k<n->f k=decide (k=c)):(List.range n).filter f=[c]:=by
 rw[<-oR hc];exact acX λk hk=>h k (aaA.mp hk)
def G7{p:Nat}{ts:List eO}(g:aD p ts){m:Nat}(hm:m<2^ts.length):tI p ts g m=true↔g.N.Ring m:=by
 have O:bT p ts g m=g.N.aL (λk=>m.testBit k) g.N.n:=rfl
 have ep:g.N.p=p:=rfl
 constructor
 ·intro h;unfold tI at h;rw[aaH]at h;obtain⟨h1,h2⟩:=h;have ev:=(qm g hm).mp (jR h1);unfold QJ at h2
  split at h2
  ·rename_i s hs
   have h2:=jR h2;have G:s∈eF (bT p ts g m) p:=by rw[hs];exact aat.mpr rfl
   unfold eF at G;have hlen:=jR (aas.mp G).2;refine RM.F0 (s:=s) hm ev (λx=>decide (bT p ts g m x=s)) (λx _=>by rw[O]) ?_ (λk hk hb=>?_) ?_
   ·rw[ep,<-jl];exact hlen
   ·
    have Za:=g.N.al k hk;have U:=g.N.bl k hk;have e:bT p ts g m (g.N.b k)=bT p ts g m (g.N.a k):=(RM.iQ (S:=λk=>m.testBit k) hk hb).symm
    have hr:bT p ts g m (bT p ts g m (g.N.a k))=bT p ts g m (g.N.a k):=RM.cu _ _;have Y:bT p ts g m (g.N.a k)<p:=RM.jZ Za;have ht:bT p ts g m (g.N.a k)∈eF (bT p ts g m) p:=by
     unfold eF fj;refine aas.mpr ⟨aas.mpr ⟨aaA.mpr Y,cD hr⟩,cD ?_⟩;rw[jl];exact RM.uB (u:=g.N.a k) (v:=g.N.b k) (cD rfl) (cD e) (g.N.ne k hk) Za U
    rw[hs]at ht;exact cD (aat.mp ht)
   ·rw[ep,<-jl,h2];exact vB hm
  ·cases h2
 ·intro r;obtain⟨k0,Z,ar,I⟩:=RM.pF hm r;generalize hs:g.N.aL (λk=>m.testBit k) g.N.n (g.N.a k0)=s at I
  obtain⟨h2,hl,G5⟩:=RM.Bp (s:=s) hm r (λx=>decide (bT p ts g m x=s)) (λx _=>by rw[O]) (λk hk hb=>cD (I k hk hb))
  have tV:s<p:=by rw[<-hs];exact RM.jZ (g.N.al k0 Z)
  have ag:bT p ts g m s=s:=by rw[O,<-hs];exact RM.cu _ _
  have ht:eF (bT p ts g m) p=[s]:=by
   unfold eF fj;rw[List.filter_filter];refine G6 tV λx hx=>?_
   by_cases e:x=s
   ·subst e;rw[cD ag,jl,cD rfl,acC];exact cD h2
   ·rw[dO e]
    by_cases Jg:bT p ts g m x=x
    ·have hc:decide (bT p ts g m x=s)=false:=dO (by rw[Jg];exact e)
     obtain⟨_,q⟩:=G5 x hx hc;have : ¬ 1<(pieceOf (bT p ts g m) p x).length:=λz=>by
      rw[jl]at z;obtain⟨c,d,h1,_,h3,h4⟩:=RM.nY z;have h3:=q c (jR h3);have h4:=q d (jR h4)
      lia
     rw[dO this,acQ]
    ·rw[dO Jg,abE]
  unfold tI;rw[cD ((qm g hm).mpr r.2.1),ht,abo];refine cD ?_;rw[jl,vB hm];exact hl
def DW{p:Nat}{ts:List eO}{g:aD p ts}{m:Nat}(ev:i0 p ts (m:Int)=[]):tI p ts g m=QJ (bT p ts g m) p (bC (m:Int)).length (eF (bT p ts g m) p):=by
 unfold tI;rw[cD ev,abo]
def QK(H:Hp)(y:V)(l:List Nat):Prop:=∃b,y = .ref b/\H b=some (.lst (aA l))
def vC(f:List Nat->Bool)(ls:List (List Nat))(H:Hp)(D:Addr)(i:Nat)(acc:List V)(H2:Hp):Prop:=au H H2/\H2 D=some (.lst acc)/\Paired (QK H) acc ((ls.take i).filter f)
section
variable {f:List Nat->Bool}{ls:List (List Nat)}{H H2 H3:Hp}{D:Addr}{i:Nat}{acc:List V}{y:V}{l:List Nat}
def vC.start(hD:H D=none):vC f ls H D 0 [] (upd H D (.lst [])):=⟨au.new hD,ae,.nil⟩
def vC.len(h:vC f ls H D i acc H2):H2 D=some (.lst acc)/\acc.length<=i:=⟨h.2.1,by
 rw[h.2.2.length];exact aaE (aaP _ _) (by rw[aa0];lia)⟩
def vC.yes(h:vC f ls H D i acc H2)(hD:H D=none)(hl:ls[i]?=some l)(hf:f l=true)(hy:QK H y l):H2 D=some (.lst acc)/\vC f ls H D (i+1) (acc++[y]) (upd H2 D (.lst (acc++[y]))):=by
 refine⟨h.2.1,h.1.put hD,ae,?_⟩;rw[aaW,hl,abV];show Paired _ _ (_++List.filter f [l]);rw[aaR,aac hf];exact Paired.snoc h.2.2 hy
def vC.no(h:vC f ls H D i acc H2)(hl:ls[i]?=some l)(hf:f l=false):vC f ls H D (i+1) acc H2:=by
 refine⟨h.1,h.2.1,?_⟩;rw[aaW,hl,abV];show Paired _ _ (_++List.filter f [l]);rw[aaR,aab (by rw[hf];exact aan)]
 simpa using h.2.2
end
end Ring
namespace L2
open PySem PySem.Spec PyProof.Rows
section
variable {prog:Program}{w:World}{A:Around}{E:dh}{s:Shared}
def DX{it t:Addr}{i:Nat}{items:Array Value}{x:Value}{Q:dh}(hit:s.heap.IsTupleIter it t i)(ht:s.heap.IsTuple t items)(hx:items[i]?=some x)
 (q:∀h',h'.IsTupleIter it t (i+1)->Heap.SameBut it s.heap h'->Q x { s with heap:=h'}):wpAny (model prog w) A (Builtin.SmallTypes.nextOf (.ref it)) Q E s:=by
 obtain⟨o,G,hc,hd⟩:=id hit;obtain⟨ot,Xp,_,nt,hdt⟩:=ht;rw[Builtin.SmallTypes.nextOf];refine aN (wpAny_callSpecial?_slot (name:=Str.ofString "__next__") hit.typeIs F.slot_tuple_iterator_next (wpAny_call_entry F.slot_tuple_iterator_next hit.typeIs F.entry_tuple_iterator_next ?_ (F.args_tuple_iterator_next_1 _)));show wpAny _ _ (field (.ref it) 0 >>= λ_=>_) _ _ s
 refine aN (wpAny_field G hd (x:=.ref t) rfl ?_);show wpAny _ _ (if(Value.ref t==Value.none)=true then _ else _) _ _ s
 rw[aab (by simp)]
 show wpAny _ _ (field (.ref it) 1 >>= λ_=>_) _ _ s
 refine aN (wpAny_field G hd (x:=.int i 0) rfl ?_);show wpAny _ _ (seqItems? (.ref t) >>= λ_=>_) _ _ s
 refine aN (wpAny_seqItems Xp hdt ?_);simp only[aaj,hx];refine aN (wpAny_setField G hd (by simp) (aah ⟨x,rfl,aah (q _ ?_ (aaY ..))⟩))
 refine⟨_,abn _ G (acu (acm hd _)),(Obj.cls_mapFields ..).trans hc,?_⟩;rw[acm hd];simp[rawInt]
def G8{it t:Addr}{i:Nat}{items:Array Value}{Q:dh}(hh:A.handled=none)(hit:s.heap.IsTupleIter it t i)(ht:s.heap.IsTuple t items)(hx:items[i]?=none)
 (q:∀h' e,Heap.ExtBut it s.heap h'->(∃o,h'.get? e=some o/\o.cls = .type "StopIteration")->E (.ref e) { s with heap:=h'}):wpAny (model prog w) A (Builtin.SmallTypes.nextOf (.ref it)) Q E s:=by
 obtain⟨o,G,hc,hd⟩:=id hit;obtain⟨ot,Xp,_,nt,hdt⟩:=ht;rw[Builtin.SmallTypes.nextOf];refine aN (wpAny_callSpecial?_slot (name:=Str.ofString "__next__") hit.typeIs F.slot_tuple_iterator_next (wpAny_call_entry F.slot_tuple_iterator_next hit.typeIs F.entry_tuple_iterator_next ?_ (F.args_tuple_iterator_next_1 _)));show wpAny _ _ (field (.ref it) 0 >>= λ_=>_) _ _ s
 refine aN (wpAny_field G hd (x:=.ref t) rfl ?_);show wpAny _ _ (if(Value.ref t==Value.none)=true then _ else _) _ _ s
 rw[aab (by simp)]
 show wpAny _ _ (field (.ref it) 1 >>= λ_=>_) _ _ s
 refine aN (wpAny_field G hd (x:=.int i 0) rfl ?_);show wpAny _ _ (seqItems? (.ref t) >>= λ_=>_) _ _ s
 refine aN (wpAny_seqItems Xp hdt ?_);simp only[aaj,hx];refine aN (wpAny_rule (aN (wpAny_setField G hd (by simp) ?_)))
 show wpAny _ _ (newExc (.type "StopIteration") [] >>= λ_=>_) _ _ _
 refine aN ?_;simp only[newExc,newTuple];refine aN (wpAny_newObj_type ?_ (by size_fits))
 refine aN (m:=firstArgMember _ _) (wpAny_of_eq (a:=Value.none) (by first | rfl | (simp only[firstArgMember];rfl)) (wpAny_newObj_type ?_ (by size_fits)))
 exact wpAny_raiseNew_none hh (q _ _ (((aaY ..).extBut.push _).push _) ⟨_,aaB _ rfl,rfl⟩)
def tJ(hh:A.handled=none)(it t:Addr)(hne:t≠it)(items:Array Value):
 Draws prog w A it [it,t] items.size (λi v=>items[i]?=some v) (λi h=>h.IsTupleIter it t i/\h.IsTuple t items) where
 live:=λ_ _ st=>let⟨o,ho,_⟩:=st.1;⟨o,ho⟩
 frame:=λ_ _ _ st hk=>⟨st.1.at λo e=>hk it (by simp) o e,st.2.at λo e=>hk t (by simp) o e⟩
 item:=λi s Q E hi st I=>DX st.1 st.2 (x:=items[i]) (by simp[hi]) λh' O G=>I _ h' s.toks (by simp[hi]) ⟨O,st.2.extBut G.extBut hne⟩ G
 done:=λs Q E st U=>G8 hh st.1 st.2 (by simp) U
end
open AutoSeq1 (wpAny_loadPart') in
def rB(l:Addr)(items:Array Value)(n:Nat)(dct:Option Addr)(sl:Array (Option Value)):
 Meets (Builtin.«enumerate.__new__» ⟨[.type "enumerate",.ref l],[]⟩) (λ_ R s=>s.heap.get? l=some { cls:=.type "tuple",dict:=dct,data:=.seq items n,slots:=sl}/\
  R (.ok (.ret (.ref (s.heap.push { cls:=.type "tuple_iterator",data:=.fields #[.ref l,.int 0 0]}).objs.size)))
    { s with heap:=(s.heap.push { cls:=.type "tuple_iterator",data:=.fields #[.ref l,.int 0 0]}).push { cls:=.type "enumerate",data:=.fields #[.none,.bool false,.ref s.heap.objs.size,rawInt 0,.none,.none]}}) :=
 .of_wp λprog w A R s h=>by
  obtain⟨hp,g,d,tk,os⟩:=s;obtain⟨hl,h⟩:=h;have I:=sub_enumerate;have G:Heap.IsTuple (Shared.heap ⟨hp,g,d,tk,os⟩) l items:=⟨_,hl,rfl,n,rfl⟩
  wp_walk using wpAny_loadPart' hl
  refine wpAny_stack_any λst=>aah ?_
  split
  ·rename_i c _ _ _ _ _
   cases(c==Value.type "enumerate")
   ·wp_walk using wpAny_loadPart' hl,wpAny_pyIter_tuple G
    exact⟨_,rfl,h⟩
   ·wp_walk using wpAny_loadPart' hl,wpAny_pyIter_tuple G
    exact⟨_,rfl,h⟩
  ·wp_walk using wpAny_loadPart' hl,wpAny_pyIter_tuple G
   exact⟨_,rfl,h⟩
section
variable {prog:Program}{w:World}{A:Around}{E:dh}{s:Shared}
def DY{l:Addr}{items:Array Value}{Q:dh}(hL:s.heap.IsTuple l items)
 (h:∀h',IsEnum h' (s.heap.objs.size+1) s.heap.objs.size 0 .none->h'.IsTupleIter s.heap.objs.size l 0->h'.objs.size=s.heap.objs.size+2->(∀b o,s.heap.get? b=some o->h'.get? b=some o)->Q (.ref (s.heap.objs.size+1)) { s with heap:=h'}) :
 wpAny (model prog w) A (call (.type "enumerate") [.ref l]) Q E s:=by
 obtain⟨⟨c,G,dt,sl⟩,I,hc,n,hd⟩:=hL
 replace hc:c = .type "tuple":=hc
 replace hd:dt = .seq items n:=hd
 subst hc hd;refine callType_new F.called_enumerate (by decide) (F.typeCall_enumerate_1 _) (F.newCall_enumerate_1 _) (λobj=>F.args_object_init_2 obj _) F.entry_enumerate_new (rB l items n G sl) ⟨I,?_⟩
 have hz:(s.heap.push { cls:=.type "tuple_iterator",data:=.fields #[.ref l,.int 0 0]}).objs.size=s.heap.objs.size+1:=Heap.size_push ..;show _/\_;rw[hz];have he:IsEnum ((s.heap.push { cls:=.type "tuple_iterator",data:=.fields #[.ref l,.int 0 0]}).push { cls:=.type "enumerate",data:=.fields #[.none,.bool false,.ref s.heap.objs.size,rawInt 0,.none,.none]}) (s.heap.objs.size+1) s.heap.objs.size 0 .none:=by
  have z:=aaB (s.heap.push { cls:=.type "tuple_iterator",data:=.fields #[.ref l,.int 0 0]}) (o:={ cls:=.type "enumerate",data:=.fields #[.none,.bool false,.ref s.heap.objs.size,rawInt 0,.none,.none]}) rfl;rw[hz]at z;exact z
 exact⟨⟨_,he,rfl⟩,h _ he ⟨_,aak _ (aaB _ rfl),rfl,rfl⟩ (by rw[Heap.size_push,hz]) λb o x=>aak _ (aak _ x)⟩
end
def G9(K:bN)(a:Addr):It :=
 ⟨λi H=>∃xs x,aR K H a xs/\xs[i]?=some x,λi H v H'=>∃T x,v = .ref T/\H T=none/\H' = upd H T (.tup [.int (i:Int),x])/\∀xs,aR K H a xs->xs[i]?=some x,λi H=>∃xs,aR K H a xs/\xs.length=i⟩
def DZ{P:Program}{w:World}{K:bN}{elts:List Expr}{k:Nat}{pos:Pos}(a e it:Addr)(hne:e≠it):
 Turn P w K (.Tuple elts k pos) (G9 K a) [e,it] e (λi h=>(∃old,IsEnum h e it (i:Int) old)/\h.IsTupleIter it a i) where
 mem:=by simp
 obj:=λi h st b hb=>by
  obtain⟨⟨old,he⟩,o,ho,c,d⟩:=st;have G : b=e\/b=it:=by simpa using hb
  rcases G with rfl|rfl
  ·exact⟨_,he,λv z=>by cases z⟩
  ·exact⟨o,ho,λv z=>by rw[d]at z;cases z⟩
 keep:=λi h h' st k=>by
  obtain⟨⟨old,he⟩,hit⟩:=st;exact⟨⟨old,k e (by simp) _ he⟩,hit.at λo x=>k it (by simp) o x⟩
 item:=by
  intro X hP hw hK hc i pq s σ H E I hf st hg;subst hP hw hK;obtain⟨xs,x,Z,hx⟩:=hg;obtain⟨its,rv,p,hz⟩:=I.tuple Z;obtain⟨u,hu,ru⟩:=rv.get hx;obtain⟨⟨old,he⟩,hit⟩:=st;have Y:s.heap.IsTuple a its.toArray:=p;have O:a≠it:=λz=>by
   obtain⟨o1,h1,_,_,d1⟩:=Y;obtain⟨o2,h2,_,d2⟩:=hit;rw[z,h2]at h1;cases h1;rw[d2]at d1;cases d1
  have ag:e∉[it,a]:=λz=>by
   have z' : e=it\/e=a:=by simpa using z
   rcases z' with z' | z'
   ·exact hne z'
   ·obtain⟨o1,h1,_,_,d1⟩:=Y;rw[<-z',he]at h1;cases h1;cases d1
  refine wpAny_pyNext_enum_itemD (tJ (A:=X.A.in1) (I.ok.hd hc) it a O its.toArray) he ⟨hit,Y⟩ (by have:=(ju.mp hu).1;simpa using this) hne ag λy h1 tk hy ho QA hT ax hk=>?_
  have ar:y=u:=by
   have z:its.toArray[i]?=some u:=by simpa using hu
   rw[hy]at z;exact Option.some.inj z
  subst ar;refine⟨_,rfl,wpAny_letOwnedTupleGo_enum ho λh2 NP U=>?_⟩
  have T4:s.heap.objs.size≠e:=abC (aal he);have aw:h2.get? s.heap.objs.size=some { cls:=.type "tuple",data:=.seq #[.int i tk,y]}:=(U.2 _ T4).trans hT;refine⟨.ref s.heap.objs.size,upd H s.heap.objs.size (.tup [.int (i:Int),x]),I.yields (wr:=[e,it]) (t':=tk+1) (λb o hb q=>?_) hf (aaf _) ?_,rfl,⟨_,x,rfl,I.fresh,rfl,λys hy=>by rw[I.GB hy Z];exact hx⟩,⟨⟨y,by simpa using NP⟩,?_⟩,λb hb=>?_⟩
  ·have J0:b≠e:=λz=>hb (by simp[z])
   have QB:b≠it:=λz=>hb (by simp[z])
   exact(U.2 b J0).trans (hk b o J0 QB q)
  ·exact⟨dl rfl,[.int i tk,y],.cons ⟨_,rfl⟩ (.cons ru .nil),⟨_,aw,rfl,_,rfl⟩⟩
  ·exact QA.1.at λo q=>(U.2 it (aba hne)).trans q
  ·rw[ao]
   ·exact(hf b hb).1
   ·have G : b=e\/b=it:=by simpa using hb
    rcases G with rfl|rfl
    ·exact aba T4
    ·obtain⟨o,q,_⟩:=hit;exact aay (aal q)
 done:=by
  intro X hP hw hK hc i pq s σ H E I hf st hg;subst hP hw hK;obtain⟨xs,Z,hx⟩:=hg;obtain⟨its,rv,p,hz⟩:=I.tuple Z;obtain⟨⟨old,he⟩,hit⟩:=st;have Y:s.heap.IsTuple a its.toArray:=p;have O:a≠it:=λz=>by
   obtain⟨o1,h1,_,_,d1⟩:=Y;obtain⟨o2,h2,_,d2⟩:=hit;rw[z,h2]at h1;cases h1;rw[d2]at d1;cases d1
  obtain⟨f0,f1,f2,f3,f4,f5⟩:=hf it (by simp)
  have hl:=rv.length;have hi:i=its.toArray.size:=by rw[aau];lia
  subst hi;exact wpAny_pyNext_enum_endD (tJ (A:=X.A.in1) (I.ok.hd hc) it a O its.toArray) he ⟨hit,Y⟩ λh' eb=>⟨rfl,I.turned (t':=s.toks) (λb o hb e=>eb b o hb e) f0 f1 f3 f4 f5⟩
 self:=λ_ _ _ _ _ st h=>by
  obtain⟨⟨old,he⟩,_⟩:=st;exact wpAny_pyIter_enum he h
section
variable {X:Cx}{elts:List Expr}{n:Nat}{tp:Pos}
def QL(K:bN)(ta:TA):TI:=λσ H R=>ta σ H λvs H1=>∃a,vs=[.ref a]/\(∃xs,aR K H1 a xs)/\R (G9 K a) H1
def vD(K:bN){a:Expr}{ta:TA}{p pos:Pos}(hg:Gl X "enumerate")(hm:X.mg "enumerate"=none)(ha:PA X [a] ta)(hs:starEach [a] X.env=[(false,eval a X.env)]:=by rfl)(hK:X.K=K:=by rfl):
 PI X (.Tuple elts n tp) (.Call (.Name "enumerate" p) [a] [] pos) (QL K ta):=by
 subst hK;intro pq s σ H R I h;refine Call_ (kA I hg hm boot_enumerate (abz (dP (ha pos pq s σ H _ I h) λus s1 ⟨vs,H1,G,Z,q1⟩=>?_) hs rfl))
 obtain⟨a,e,⟨xs,hq⟩,q⟩:=q1;subst e;cases Z with
 | cons r rr =>
   cases rr;cases r;obtain⟨O,rv,pl,hz⟩:=G.tuple hq;refine DY (show s1.heap.IsTuple a O.toArray from pl) λh' he hit ag hk=>?_
   have I2:Inv X pq σ H1 { s1 with heap:=h'}:=G.kept (t':=s1.toks) hk
   refine wpAny_pyIter_enum he ⟨_,[s1.heap.objs.size+1,s1.heap.objs.size],_,_,H1,rfl,I2,DZ a _ _ (ac5 _),⟨⟨_,he⟩,hit⟩,λb hb=>?_,q⟩
   have U : b=s1.heap.objs.size+1\/b=s1.heap.objs.size:=by simpa using hb
   have Y:s1.heap.objs.size<=b:=by
    rcases U with rfl|rfl
    ·exact abF _
    ·exact aaf _
   exact G.GC Y (G.hok.fresh Y)
end
section
variable {K:bN}{a:Addr}{xs:List V}{g:TG}{tt:TT}{te:TE}{n:Nat}{fr:St}{D:Addr}{Q:Hp->Prop}{H1:Hp}
def vE(Pv:Nat->List V->Hp->Prop)(h0:Pv 0 [] H1)(hl:∀i acc H,i<=xs.length->Pv i acc H->aR K H a xs/\H D=some (.lst acc)/\acc.length<=i)(hz:xs.length<=sizeLine)
 (hs:∀i x T acc H,xs[i]?=some x->Pv i acc H->H T=none->g (.ref T) (List.replicate n none++fr) (upd H T (.tup [.int (i:Int),x])) λσ2 H2=>σ2.drop n=fr/\tt σ2 H2 λb H3 =>
  if b=true then te σ2 H3 λv H4=>H4 D=some (.lst acc)/\Pv (i+1) (acc++[v]) (upd H4 D (.lst (acc++[v]))) else Pv (i+1) acc H3)
 (hd:∀acc H,Pv xs.length acc H->Q H):jz (G9 K a) g tt te n fr D Q H1:=by
 refine⟨λi m acc H=>m=xs.length-i/\i<=xs.length/\Pv i acc H,⟨xs.length,by simp,aaL _,h0⟩,?_⟩
 rintro i m acc H ⟨rfl,hi,p⟩;obtain⟨q,O,ha⟩:=hl i acc H hi p;refine⟨O,?_⟩
 by_cases G:i<xs.length
 ·refine .inr ⟨⟨xs,xs[i],q,by simp[G]⟩,by lia,Pv (i+1),λI H' U=>⟨xs.length-(i+1),by lia,rfl,G,U⟩,λv H' y=>?_⟩
  obtain⟨T,x,rfl,Y,rfl,y⟩:=y;exact hs i x T acc _ (y xs q) p Y
 ·have e:i=xs.length:=by lia
  subst e;exact .inl ⟨⟨xs,q,rfl⟩,hd acc H p⟩
end
end L2
namespace RM
variable {N:Net}
def Net.cut(N:Net)(C:Nat->Bool):Nat:=Ring.maskOf (λk=>C (N.a k)^^C (N.b k)) N.n
def Net.par(N:Net)(q m:Nat):Bool:=bQ (λk=>q.testBit k&&m.testBit k) N.n
def ja(q r m:Nat):N.par (q^^^r) m=(N.par q m^^N.par r m):=by
 unfold Net.par;rw[<-iP];refine bF λk _=>?_
 rw[aag];cases q.testBit k<;>cases r.testBit k<;>cases m.testBit k<;>rfl
def kZ(m:Nat):N.par 0 m=false:=hU λk _=>by simp
def F1{k:Nat}(h:k<N.n)(m:Nat):N.par (2^k) m=m.testBit k:=by
 unfold Net.par;rw[qg h λj _ hj=>by simp[aar,aba hj]]
 simp[aar]
def uE(C:Nat->Bool)(k:Nat):(N.cut C).testBit k=(decide (k<N.n)&&(C (N.a k)^^C (N.b k))):=Ring.mask_bit _ k _
def Kz(C:Nat->Bool):N.cut C<2^N.n:=Ring.mask_lt _ _
def Hf{C D:Nat->Bool}(h:∀x,x<N.p->C x=D x):N.cut C=N.cut D:=by
 refine aaG λk=>?_
 rw[uE,uE]
 by_cases hk:k<N.n
 ·rw[h _ (N.al k hk),h _ (N.bl k hk)]
 ·rw[dO hk];rfl
def F3{q:Nat}(e:N.bL q)(C:Nat->Bool):N.par q (N.cut C)=false:=by
 have h:N.par q (N.cut C)=bQ (λx=>C x&&N.bd q x) N.p:=by
  have G:bQ (λx=>C x&&N.bd q x) N.p=bQ (λx=>bQ (λk=>C x&&(q.testBit k&&N.inc k x)) N.n) N.p:=bF λx _=>(jC _ _ _).symm
  rw[G,rm];unfold Net.par;refine bF λk hk=>?_
  rw[uE,cD hk,abo];have I:bQ (λx=>C x&&(q.testBit k&&N.inc k x)) N.p=(q.testBit k&&(C (N.a k)^^C (N.b k))):=by
   have O:∀x,(C x&&(q.testBit k&&N.inc k x))=((q.testBit k&&(C x&&decide (N.a k=x)))^^(q.testBit k&&(C x&&decide (N.b k=x)))):=λx=>by
    unfold Net.inc;cases C x<;>cases q.testBit k<;>cases decide (N.a k=x)<;>cases decide (N.b k=x)<;>rfl
   rw[bF λx _=>O x,iP,jC,jC,gj C (N.al k hk),gj C (N.bl k hk)]
   cases q.testBit k<;>rfl
  exact I.symm
 rw[h];exact hU λx hx=>by rw[e x hx,abE]
def Bq{k:Nat}(hk:k<N.n)(hf:N.jT k=true):N.ring k=0:=gJ (λj hj=>by
 rcases kX hj with e|e
 ·subst e;exact⟨hk,hf⟩
 ·exact e) (h8 hk)
def Hg{m:Nat}(k:Nat):(m^^^N.cut λx=>N.par (N.trail N.n x) m).testBit k=if k<N.n then N.par (N.ring k) m else m.testBit k:=by
 rw[aag,uE]
 by_cases hk:k<N.n
 ·rw[aac hk,cD hk,abo];unfold Net.ring;rw[ja,ja,F1 hk];cases m.testBit k<;>cases N.par (N.trail N.n (N.a k)) m<;>cases N.par (N.trail N.n (N.b k)) m<;>rfl
 ·rw[aab hk,dO hk];simp
def Br{m k:Nat}(hm:m<2^N.n)(h:(m^^^N.cut λx=>N.par (N.trail N.n x) m).testBit k=true):k<N.n/\N.jT k=false/\N.par (N.ring k) m=true:=by
 rw[Hg]at h
 by_cases hk:k<N.n
 ·rw[aac hk]at h;refine⟨hk,?_,h⟩;cases hf:N.jT k with
  | false=>rfl
  | true =>
    rw[Bq hk hf,kZ]at h;cases h
 ·rw[aab hk]at h;exact absurd (b8 hm h) hk
end RM
namespace Ring
def orM(ks:List Nat):Nat:=ks.foldl (λm k=>m ||| 2^k) 0
def KA(ks:List Nat)(j:Nat):∀m,(ks.foldl (λm k=>m ||| 2^k) m).testBit j=(m.testBit j || decide (j∈ks)):=by
 induction ks with
 | nil=>intro m;simp
 | cons k r G =>
   intro m;rw[ab8,G,Nat.testBit_or,aar]
   by_cases h:k=j
   ·subst h;simp
   ·have h' : ¬ j=k:=λz=>h z.symm
    simp[h,h']
def jc(ks:List Nat)(j:Nat):(orM ks).testBit j=decide (j∈ks):=by
 unfold orM;rw[KA];simp
def Bs(ks:List Nat){t:Nat}(h:t∉ks):orM (ks++[t])=orM ks^^^2^t:=aaG λj=>by
 rw[aag,jc,jc,aar]
 by_cases e:t=j
 ·subst e;simp[h]
 ·have e' : ¬ j=t:=λz=>e z.symm
  simp[e,e']
def D0(f:Nat->Bool)(n:Nat):orM ((List.range n).filter f)=maskOf f n:=aaG λj=>by
 rw[jc,mask_bit,abd];simp
def QM{ks:List Nat}{n:Nat}(h:∀k∈ks,k<n):orM ks<2^n:=RM.cI λk hk=>by
 rw[jc]at hk;exact h k (jR hk)
end Ring
namespace RM
variable {N:Net}
inductive Net.Walk(N:Net):List Nat->Nat->List Nat->Prop
 | one {v:Nat}:Net.Walk N [] v []
 | snoc {pre ks:List Nat} {v w t:Nat} (h:Net.Walk N pre v ks) (ht:t<N.n) (hn:t∉ks) (j:(N.a t=v/\N.b t=w)\/(N.b t=v/\N.a t=w)):Net.Walk N (pre++[v]) w (ks++[t])
def Net.Walk.len{pre ks:List Nat}{v:Nat}(h:N.Walk pre v ks):pre.length=ks.length:=by
 induction h with
 | one=>rfl
 | snoc _ _ _ _ ih=>rw[aao,aao,ih];rfl
def Net.Walk.lt{pre ks:List Nat}{v:Nat}(h:N.Walk pre v ks):∀t∈ks,t<N.n:=by
 induction h with
 | one=>exact λt ht=>nomatch ht
 | snoc _ ht _ _ ih =>
   intro s hs;rcases aaw.mp hs with q|q
   ·exact ih s q
   ·have e:=aat.mp q;rw[e];exact ht
def Net.Walk.bd{pre ks:List Nat}{v:Nat}(h:N.Walk pre v ks):∀i u,(pre++[v])[i]?=some u->∀x,N.bd (Ring.orM (ks.drop i)) x=(decide (u=x)^^decide (v=x)):=by
 induction h with
 | one =>
   rename_i v
   intro i u G x
   match i,G with
   | 0,G =>
     have e:v=u:=Option.some.inj G;subst e;show N.bd 0 x=_;rw[nU];simp
   | i+1,G=>simp at G
 | snoc hw ht hn j ih =>
   rename_i pre ks v w t
   intro i u G x;have Z:=hw.len
   by_cases hi:i<(pre++[v]).length
   ·rw[aaK hi]at G;have O : i<=ks.length:=by rw[aao]at hi;simp at hi;lia
    rw[List.drop_append_of_le_length O,Ring.Bs _ (λz=>hn (adm z)),gm,ih i u G x,kD ht]
    have e:N.inc t x=(decide (v=x)^^decide (w=x)):=by
     unfold Net.inc;rcases j with⟨U,Y⟩|⟨U,Y⟩
     ·rw[U,Y]
     ·rw[U,Y];exact Bool.xor_comm _ _
    rw[e];cases decide (u=x)<;>cases decide (v=x)<;>cases decide (w=x)<;>rfl
   ·have I:i=(pre++[v]).length:=by
     have:=(ju.mp G).1;rw[aao]at this;simp at this hi ⊢
     lia
    rw[I,aaQ (aaf _),acL]at G;have e:w=u:=Option.some.inj G;subst e;have:(ks++[t]).drop i=[]:=List.drop_eq_nil_of_le (by rw[I,aao,aao];simp;lia)
    rw[this];show N.bd 0 x=_;rw[nU];simp
structure Way(N:Net)(ie:Nat)(pre:List Nat)(v:Nat)(ks:List Nat)(left:Nat):Prop where
 w:N.Walk pre v ks
 lt:ie<2^N.n
 ev:N.bL ie
 sub:∀t∈ks,ie.testBit t=true
 zw:left=ie^^^Ring.orM ks
 nd:pre.Nodup
 Zb:∀x∈pre++[v],x<N.p
 st:pre=[]->∃t,t<N.n/\ie.testBit t=true/\N.a t=v
section
variable {ie left v:Nat}{pre ks:List Nat}
def Way.start{t:Nat}(lt:ie<2^N.n)(ev:N.bL ie)(hb:ie.testBit t=true):Way N ie [] (N.a t) [] ie:=by
 have ht:=b8 lt hb;refine⟨.one,lt,ev,(λ_ z=>nomatch z),?_,List.Pairwise.nil,λx hx=>?_,λ_=>⟨t,ht,hb,rfl⟩⟩
 ·show ie=ie^^^0;simp
 ·have e:x=N.a t:=by simpa using hx
  rw[e];exact N.al t ht
def Way.qp(h:Way N ie pre v ks left)(t:Nat):left.testBit t=(ie.testBit t && !decide (t∈ks)):=by
 rw[h.zw,aag,Ring.jc]
 by_cases hm:t∈ks
 ·rw[h.sub t hm,cD hm];rfl
 ·rw[dO hm];simp
def Way.N1(h:Way N ie pre v ks left):left<2^N.n:=cI λk hk=>by
 rw[h.qp,aaH]at hk;exact b8 h.lt hk.1
def Way.on(h:Way N ie pre v ks left)(hv:v∉pre):∃t,left.testBit t=true/\(N.a t=v\/N.b t=v):=by
 cases pre with
 | nil =>
   obtain⟨t,ht,hb,e⟩:=h.st rfl;have hk:ks=[]:=List.length_eq_zero_iff.mp (by rw[<-h.w.len];rfl)
   refine⟨t,?_,.inl e⟩;rw[h.qp,hb,hk];simp
 | cons u r =>
   have hb:=h.w.bd 0 u rfl v;rw[List.drop_zero]at hb;have U : ¬ u=v:=λz=>hv (by rw[z];exact aam)
   rw[dO U,cD rfl]at hb;have G:v<N.p:=h.Zb v (iO _ (aat.mpr rfl));have O:N.bd left v=true:=by
    rw[h.zw,gm,h.ev v G,hb];rfl
   rw[yr]at O;have hp:=jR O;obtain⟨k,hk,I,hx⟩:=qo (N:=N) (m:=left) (x:=v) (by lia)
   exact⟨k,I,hx⟩
def Way.go(h:Way N ie pre v ks left)(hv:v∉pre){t w:Nat}(hb:left.testBit t=true)(j:(N.a t=v/\N.b t=w)\/(N.b t=v/\N.a t=w)):
 Way N ie (pre++[v]) w (ks++[t]) (left^^^2^t):=by
 rw[h.qp,aaH]at hb;have hn:t∉ks:=by simpa using hb.2
 have ht:=b8 h.lt hb.1;refine⟨.snoc h.w ht hn j,h.lt,h.ev,λs hs=>?_,?_,?_,λx hx=>?_,λz=>?_⟩
 ·rcases aaw.mp hs with q|q
  ·exact h.sub s q
  ·rw[aat.mp q];exact hb.1
 ·rw[Ring.Bs _ hn,h.zw,aa9]
 ·refine adw.mpr ⟨h.nd,by simp,λx hx y I=>?_⟩
  have e:y=v:=by simpa using I
  rw[e];exact λz=>hv (z▸hx)
 ·rcases aaw.mp hx with q|q
  ·exact h.Zb x q
  ·have e:x=w:=by simpa using q
   rw[e];rcases j with⟨_,G⟩|⟨_,G⟩
   ·rw[<-G];exact N.bl t ht
   ·rw[<-G];exact N.al t ht
 ·simp at z
def Way.closes(h:Way N ie pre v ks left){i:Nat}(hi:pre[i]?=some v):Ring.orM (ks.drop i)≠0/\N.bL (Ring.orM (ks.drop i))/\Ring.orM (ks.drop i)<2^N.n/\∀k,(Ring.orM (ks.drop i)).testBit k=true->ie.testBit k=true:=by
 have O:=(ju.mp hi).1;have U:=h.w.len;have I:∀k,(Ring.orM (ks.drop i)).testBit k=true->k∈ks:=λk hk=>by
  rw[Ring.jc]at hk;exact adm (jR hk)
 refine⟨λz=>?_,λx _=>?_,cI λk hk=>h.w.lt k (I k hk),λk hk=>h.sub k (I k hk)⟩
 ·have G:ks.drop i≠[]:=λq=>by
   have:=List.drop_eq_nil_iff.mp q
   lia
  obtain⟨k,hk⟩:=List.exists_mem_of_ne_nil _ G;have:=Ring.jc (ks.drop i) k;rw[z,cD hk]at this;simp at this
 ·rw[h.w.bd i v (by rw[aaK O];exact hi) x]
  simp
end
end RM
namespace Ring
open PySem L2
def zx{p:Nat}{ts:List eO}{g:aD p ts}{q m:Nat}(hm:m<2^ts.length):decide ((bC ((q&&&m:Nat):Int)).length%2=1)=g.N.par q m:=by
 rw[vB (n:=ts.length) (acM q hm)];unfold RM.Net.par;rw[RM.vt];have e:RM.cnt (λk=>(q&&&m).testBit k) ts.length=RM.cnt (λk=>q.testBit k&&m.testBit k) g.N.n:=RM.fh λk _=>by rw[acn]
 rw[e]
def N2(f:Nat->Bool)(n:Nat):maskOf f n ||| (if f n=true then 2^n else 0)=maskOf f (n+1):=aaG λj=>by
 rw[Nat.testBit_or,mask_bit,mask_bit]
 by_cases e:j=n
 ·subst e;cases h:f j with
  | true=>simp[aar]
  | false=>simp
 ·have G:decide (j<n+1)=decide (j<n):=aaS.mpr (by lia)
  rw[G]
  split
  ·have I : ¬ n=j:=λz=>e z.symm
   simp[aar,I]
  ·simp
def xorL(rs:List Nat):Nat:=rs.foldl (λm r=>m^^^r) 0
def Hh(rs:List Nat):∀m,rs.foldl (λm r=>m^^^r) m=m^^^xorL rs:=by
 induction rs with
 | nil=>intro m;show m=m^^^0;simp
 | cons r rs G =>
   intro m;show rs.foldl (λm r=>m^^^r) (m^^^r)=m^^^rs.foldl (λm r=>m^^^r) (0^^^r)
   rw[G,G,abc,aa9]
def xorL_cons(rs:List Nat)(r:Nat):xorL (r::rs)=r^^^xorL rs:=by
 show rs.foldl (λm r=>m^^^r) (0^^^r)=_
 rw[Hh,abc]
def KC(l:List Nat){i:Nat}(h:i<=l.length):xj (aA l) (some (i:Int)) none=aA (l.drop i):=by
 unfold xj;rw[HT.Nr,HT.JH,aC,acF h];unfold aA;rw[<-List.map_drop,<-List.map_take,acZ (by rw[acA];lia)]
end Ring
namespace L2
open PySem PySem.Spec PyProof.Rows
section
variable {κ:Type}[DecidableEq κ]
def eW(kvs:List (κ×V))(k:κ):Option V:=(kvs.find? λkv=>decide (kv.1=k)).map (·.2)
def putK(kvs:List (κ×V))(k:κ)(v:V):List (κ×V) :=
 if(kvs.any λkv=>decide (kv.1=k))=true then kvs.map (λkv=>if kv.1=k then(kv.1,v) else kv) else kvs++[(k,v)]
def eA(kvs:List (κ×V))(k:κ):List (κ×V):=kvs.filter λkv=>decide (kv.1≠k)
def vF{k:κ}:eW ([]:List (κ×V)) k=none:=rfl
def cX{p:κ×V}{r:List (κ×V)}{k:κ}(e:p.1=k):eW (p::r) k=some p.2:=by simp[eW,aco,e]
def cL{p:κ×V}{r:List (κ×V)}{k:κ}(e : ¬ p.1=k):eW (p::r) k=eW r k:=by simp[eW,aco,e]
def iR(k:κ):∀kvs:List (κ×V),(kvs.any λkv=>decide (kv.1=k))=(eW kvs k).isSome
 | []=>rfl
 | p::r=>by
   rw[ac3]
   by_cases e:p.1=k
   ·simp only[cX e,cD e,Bool.true_or,Option.isSome_some]
   ·rw[cL e,dO e,Bool.false_or];exact iR k r
def Bu(k j:κ)(y:V):∀kvs:List (κ×V),eW (kvs.map λkv=>if kv.1=k then(kv.1,y) else kv) j=(eW kvs j).map λx=>if j=k then y else x
 | []=>rfl
 | p::r=>by
   have G:=Bu k j y r;rw[aaN]
   by_cases h:p.1=k
   ·rw[aac h]
    by_cases e:p.1=j
    ·rw[cX (p:=(p.1,y)) e,cX e,abX,aac (e.symm.trans h)]
    ·rw[cL (p:=(p.1,y)) e,cL e,G]
   ·rw[aab h]
    by_cases e:p.1=j
    ·rw[cX (p:=p) e,cX e,abX,aab (λz=>h (e.trans z))]
    ·rw[cL (p:=p) e,cL e,G]
def yu(k j:κ)(y:V):∀kvs:List (κ×V),eW kvs k=none->eW (kvs++[(k,y)]) j=if j=k then some y else eW kvs j
 | [],_=>by
   by_cases e:k=j
   ·rw[aac e.symm];exact cX (p:=(k,y)) e
   ·rw[aab (λz=>e z.symm)];exact cL (p:=(k,y)) e
 | p::r,hn=>by
   rw[List.cons_append];have hk : ¬ p.1=k:=λz=>by rw[cX z]at hn;cases hn
   rw[cL hk]at hn;have G:=yu k j y r hn
   by_cases e:p.1=j
   ·rw[cX e,cX e,aab (λz=>hk (e.trans z))]
   ·rw[cL e,cL e,G]
def KD(kvs:List (κ×V))(k j:κ)(y:V):eW (putK kvs k y) j=if j=k then some y else eW kvs j:=by
 unfold putK
 by_cases a:(kvs.any λkv=>decide (kv.1=k))=true
 ·rw[aac a,Bu];rw[iR]at a
  by_cases e:j=k
  ·obtain⟨x,hx⟩:=Option.isSome_iff_exists.mp a;rw[aac e,e,hx,abX,aac rfl]
  ·rw[aab e];cases eW kvs j with
   | none=>rfl
   | some x=>rw[abX,aab e]
 ·rw[aab a];refine yu k j y kvs ?_;rw[iR]at a;cases q:eW kvs k with
  | none=>rfl
  | some x=>rw[q]at a;exact(a rfl).elim
def tK(kvs:List (κ×V))(k:κ)(v:V):(putK kvs k v).length<=kvs.length+1:=by
 unfold putK
 split
 ·rw[aaa];lia
 ·rw[aao,aa1,ab7];lia
def Bv{kvs:List (κ×V)}{k:κ}(v:V)(h:eW kvs k=none):putK kvs k v=kvs++[(k,v)]:=by
 unfold putK;rw[iR,h];exact aab (by decide)
def oF.Hi{o:Option V}{u:Option Value}(r:oF o u):o.isSome=u.isSome:=by
 cases o with
 | none=>cases u with
   | none=>rfl
   | some _=>exact(show False from r).elim
 | some _=>cases u with
   | none=>exact(show False from r).elim
   | some _=>rfl
def oF.getD{o:Option V}{u:Option Value}{d:V}{d' : Value}(r:oF o u)(rd:RelV d d'):RelV (o.getD d) (u.getD d'):=by
 cases o with
 | none=>cases u with
   | none=>exact rd
   | some _=>exact(show False from r).elim
 | some _=>cases u with
   | none=>exact(show False from r).elim
   | some _=>exact r
def KV.val{kvs:List (κ×V)}{vs:List (κ×Value)}(r:KV kvs vs)(k:κ):oF (eW kvs k) (valueAt vs k):=by
 unfold KV at r
 induction r with
 | nil=>exact True.intro
 | @cons p q ps qs h t ih =>
   obtain⟨h1,h2⟩:=h
   by_cases e:p.1=k
   ·have e' : q.1=k:=h1.symm.trans e;have b:valueAt (q::qs) k=some q.2:=by simp[valueAt,aco,e']
    rw[cX e,b];exact h2
   ·have e' : ¬ q.1=k:=λz=>e (h1.trans z)
    have b:valueAt (q::qs) k=valueAt qs k:=by simp[valueAt,aco,e']
    rw[cL e,b];exact ih
def KV.any{kvs:List (κ×V)}{vs:List (κ×Value)}(r:KV kvs vs)(k:κ):(kvs.any λkv=>decide (kv.1=k))=vs.any λkv=>decide (kv.1=k):=by
 unfold KV at r
 induction r with
 | nil=>rfl
 | cons h t G=>rw[ac3,ac3,G,h.1]
def KV.repl{kvs:List (κ×V)}{vs:List (κ×Value)}(r:KV kvs vs)(k:κ){y:V}{u:Value}(ry:RelV y u):
 KV (kvs.map λkv=>if kv.1=k then(kv.1,y) else kv) (vs.map λkv=>if kv.1=k then(kv.1,u) else kv):=by
 unfold KV at r ⊢
 induction r with
 | nil=>exact .nil
 | @cons p q ps qs h t ih =>
   rw[aaN,aaN];refine .cons ?_ ih;obtain⟨h1,h2⟩:=h
   by_cases e:p.1=k
   ·rw[aac e,aac (h1.symm.trans e)];exact⟨h1,ry⟩
   ·rw[aab e,aab (λz=>e (h1.trans z))];exact⟨h1,h2⟩
def KV.put{kvs:List (κ×V)}{vs:List (κ×Value)}(r:KV kvs vs)(k:κ){y:V}{u:Value}(ry:RelV y u):KV (putK kvs k y) (stored vs k u):=by
 unfold putK stored;rw[r.any k]
 by_cases e:(vs.any λkv=>decide (kv.1=k))=true
 ·rw[aac e,aac e];exact r.repl k ry
 ·rw[aab e,aab e];exact Paired.snoc r ⟨rfl,ry⟩
def KV.length{kvs:List (κ×V)}{vs:List (κ×Value)}(r:KV kvs vs):kvs.length=vs.length:=Paired.length r
def KG(kvs:List (κ×V))(k:κ):(eA kvs k).length<=kvs.length:=aaP _ _
end
def F4{P:Program}{w:World}{k:Key}{u:Value}(r:RelV (kV k) u):(dX P w).is k u=true:=by
 cases k with
 | inl i=>obtain⟨t,e⟩:=(show ∃t,u=Value.int i t from r);subst e;exact AN P w i t
 | inr x=>obtain⟨t,e⟩:=(show ∃t,u=Value.str x t from r);subst e;exact AO P w x t
def yv{P:Program}{w:World}:∀{ks:List Key} {us:List Value},Vals (ks.map kV) us->ItemsAre (dX P w) ks us
 | [],_,r=>by rw[List.map_nil]at r;cases r;exact .nil
 | k::ks,_,r=>by
   rw[aaN]at r;cases r with
   | cons h t=>exact .cons (F4 h) (yv t)
abbrev KT(H:Hp):List (List Key×V)->List (List Key×Addr×Value)->Prop:=Paired λp q=>p.1=q.1/\H q.2.1=some (.tup (p.1.map kV))/\RelV p.2 q.2.2
def KT.val{H:Hp}{kvs:List (List Key×V)}{xs:List (List Key×Addr×Value)}(r:KT H kvs xs)(k:List Key):oF (eW kvs k) ((atKey xs k).map (·.2)):=by
 induction r with
 | nil=>exact True.intro
 | @cons p q ps qs h t ih =>
   obtain⟨h1,_,h2⟩:=h
   by_cases e:p.1=k
   ·have e' : q.1=k:=h1.symm.trans e;have b:atKey (q::qs) k=some q.2:=by simp[atKey,aco,e']
    rw[cX e,b];exact h2
   ·have e' : ¬ q.1=k:=λz=>e (h1.trans z)
    have b:atKey (q::qs) k=atKey qs k:=by simp[atKey,aco,e']
    rw[cL e,b];exact ih
def KT.repl{H:Hp}{kvs:List (List Key×V)}{xs:List (List Key×Addr×Value)}(r:KT H kvs xs)(k:List Key){y:V}{u:Value}(ry:RelV y u):
 KT H (kvs.map λkv=>if kv.1=k then(kv.1,y) else kv) (xs.map (putAt k u)):=by
 induction r with
 | nil=>exact .nil
 | @cons p q ps qs h t ih =>
   rw[aaN,aaN];refine .cons ?_ ih;obtain⟨h1,h2,G⟩:=h;unfold putAt
   by_cases e:p.1=k
   ·rw[aac e,aac (h1.symm.trans e)];exact⟨h1,h2,ry⟩
   ·rw[aab e,aab (λz=>e (h1.trans z))];exact⟨h1,h2,G⟩
def KT.put{H:Hp}{kvs:List (List Key×V)}{xs:List (List Key×Addr×Value)}(r:KT H kvs xs)(k:List Key){b:Addr}{y:V}{u:Value}(hb:H b=some (.tup (k.map kV)))(ry:RelV y u):
 KT H (putK kvs k y) (storedH xs k b u):=by
 have e:(kvs.any λkv=>decide (kv.1=k))=(atKey xs k).isSome:=by
  rw[iR,(r.val k).Hi,Option.isSome_map]
 unfold putK storedH;rw[e]
 by_cases q:(atKey xs k).isSome=true
 ·rw[aac q,aac q];exact r.repl k ry
 ·rw[aab q,aab q];exact Paired.snoc r ⟨rfl,hb,ry⟩
def KT.keeps{H H' : Hp}{kvs:List (List Key×V)}{xs:List (List Key×Addr×Value)}(r:KT H kvs xs)(ht:∀b ys,H b=some (.tup ys)->H' b=some (.tup ys)):KT H' kvs xs :=
 Paired.yY r λ_ _ z=>⟨z.1,ht _ _ z.2.1,z.2.2⟩
section
variable {P:Program}{w:World}{H:Hp}{h:Heap}{a:Addr}
def Pk{u:HO}(ok:mY P w H h)(e:Rd H a u):bg P w H h a u:=e.ok ok
def Bw{kvs:List (Key×V)}(ok:mY P w H h)(e:Rd H a (.dK kvs)):kvs.length<=sizeLine/\(a==sysModules)=false/\∃vs,KV kvs vs/\h.DictOf (dX P w) a vs :=
 show bg P w H h a (.dK kvs) from Pk ok e
def T8{kvs:List (Key×V)}(ok:mY P w H h)(e:H a=some (.dK kvs)):kvs.length<=sizeLine/\(a==sysModules)=false/\∃vs,KV kvs vs/\h.DictOf (dX P w) a vs:=Bw ok (.inl e)
def rC{ks:List Key}(ok:mY P w H h)(e:H a=some (.tup (ks.map kV))):(tupleKind (dX P w)).is h ks a:=by
 obtain⟨_,G,r,o,h1,h2,n,I⟩:=(show bg P w H h a (.tup (ks.map kV)) from ok a _ e)
 exact⟨o,G.toArray,n,h1,h2,I,by simpa using yv r⟩
def Bx{kvs:List (List Key×V)}(ok:mY P w H h)(e:Rd H a (.dT kvs)):kvs.length<=sizeLine/\(a==sysModules)=false/\
 ∃xs,KT H kvs xs/\h.DictOfH (tupleKind (dX P w)) a xs:=by
 obtain⟨z,y,xs,r,o,es,ep,h1,h2,G,I,O⟩:=(show bg P w H h a (.dT kvs) from Pk ok e)
 refine⟨z,y,xs,r,o,es,ep,h1,h2,G,I,λx hx=>?_,O⟩
 have all:∀{l:List (List Key×V)} {m:List (List Key×Addr×Value)},KT H l m->∀x∈m,(tupleKind (dX P w)).is h x.1 x.2.1:=by
  intro l m q
  induction q with
  | nil=>intro x hx;exact nomatch hx
  | @cons p q ps qs hq t ih =>
    intro x hx;rcases aaq.mp hx with e|hx
    ·subst e;exact rC ok (by rw[<-hq.1];exact hq.2.1)
    ·exact ih x hx
 exact all r x hx
def KH{kvs:List (List Key×V)}(ok:mY P w H h)(e:H a=some (.dT kvs)):kvs.length<=sizeLine/\(a==sysModules)=false/\
 ∃xs,KT H kvs xs/\h.DictOfH (tupleKind (dX P w)) a xs:=Bx ok (.inl e)
end
def KI(H:Hp)(a:Addr)(y:V)(r:Option V):Prop :=
 (∃kvs k,Rd H a (.dK kvs)/\y=kV k/\r=eW kvs k)\/∃kvs k b,Rd H a (.dT kvs)/\y = .ref b/\H b=some (.tup (k.map kV))/\r=eW kvs k
def KJ(H:Hp)(a:Addr)(y v:V)(H' : Hp):Prop :=
 (∃kvs k,H a=some (.dK kvs)/\y=kV k/\kvs.length<sizeLine/\H' = upd H a (.dK (putK kvs k v)))\/
 ∃kvs k b,H a=some (.dT kvs)/\y = .ref b/\H b=some (.tup (k.map kV))/\kvs.length<sizeLine/\H' = upd H a (.dT (putK kvs k v))
def KJ.t{H:Hp}{a b:Addr}{kvs:List (List Key×V)}{k:List Key}{v:V}(e:H a=some (.dT kvs))(eb:H b=some (.tup (k.map kV)))(hl:kvs.length<sizeLine):
 KJ H a (.ref b) v (upd H a (.dT (putK kvs k v))):=.inr ⟨kvs,k,b,e,rfl,eb,hl,rfl⟩
section
variable {X:Cx}{pq:aQ}{σ:St}{H:Hp}{s:Shared}{a:Addr}{y v:V}{u r:Value}{o:Option V}{A:Around}{E:dh}
def Inv.big(I:Inv X pq σ H s):sysModules<s.heap.objs.size:=by
 have h:mainGlobals<s.heap.objs.size:=(I.mod.glob.keeps I.bk).lt;exact Nat.lt_trans (by decide) h
def Hj{Q:dh}(hu:A.units+1<cLine)(I:Inv X pq σ H s)(g:KI H a y (some v))(ry:RelV y u)(h:∀G s',Inv X pq σ H s'->RelV v G->Q G s'):
 wpAny (model X.prog X.w) A (getItem (.ref a) u) Q E s:=by
 rcases g with⟨kvs,k,e,O,l⟩|⟨kvs,k,b,e,O,U,l⟩
 ·subst O;obtain⟨z,hd,vs,rel,dd⟩:=Bw I.hok e;obtain⟨G,hw,rw'⟩:=oF.some_of (v:=v) (o:=valueAt vs k) (by rw[l];exact rel.val k)
  exact wpAny_getItem_of (F4 ry) dd.mapOf hw (h G _ (I.tok _) rw')
 ·subst O;cases(show u=Value.ref b from ry)
  obtain⟨z,hd,xs,rel,dd⟩:=Bx I.hok e;obtain⟨G,hw,rw'⟩:=oF.some_of (v:=v) (o:=(atKey xs k).map (·.2)) (by rw[l];exact rel.val k)
  obtain⟨p,hp,Y⟩:=tD.mp hw;refine wpAny_getItem_heap (tupleKind_room_in1 hu) (rC I.hok U) dd hp ?_;rw[Y];exact h G _ (I.tok _) rw'
def uF{h' : Heap}{t' : Nat}{ob:HO}(I:Inv X pq σ H s)(mu:Sw (H a))(hs:Heap.SameBut a s.heap h')(he:∃q,h'.get? a=some q)(new:bg X.prog X.w (upd H a ob) h' a ob):
 Inv X pq σ (upd H a ob) { s with heap:=h',toks:=t'} :=
 I.write (x:=a) (e:=a) mu (.inl rfl) (λb q hb z=>(hs.2 b hb).trans z) he new
def QN{P:Program}{w:World}{H' : Hp}{h' : Heap}{kvs:List (Key×V)}{vs:List (Key×Value)}(z:kvs.length<=sizeLine)(hd:(a==sysModules)=false)(rel:KV kvs vs)(dd:h'.DictOf (dX P w) a vs):
 bg P w H' h' a (.dK kvs):=⟨z,hd,vs,rel,dd⟩
def Hl{H' : Hp}{Q:Unit->Shared->Prop}(hu:A.units+1<cLine)(I:Inv X pq σ H s)(g:KJ H a y v H')(ry:RelV y u)(rv:RelV v r)(h:∀s',Inv X pq σ H' s'->Q () s'):
 wpAny (model X.prog X.w) A (setItem (.ref a) u r) Q E s:=by
 rcases g with⟨kvs,k,e,U,l,Y⟩|⟨kvs,k,b,e,U,eb,l,Y⟩
 ·subst U Y;obtain⟨z,hd,vs,rel,dd⟩:=T8 I.hok e;have hz:vs.length<=sizeLine:=by rw[<-rel.length];exact z
  have Z:(putK kvs k v).length<=sizeLine:=by have:=tK kvs k v;lia
  refine wpAny_setItem_pairs (hsz:=hz) (F4 ry) dd λh' G hs=>h _ ?_
  have he:∃q,h'.get? a=some q:=let⟨q,_,_,O,_⟩:=G;⟨q,O⟩;exact uF I (by rw[e];exact True.intro) hs he (QN Z hd (rel.put k rv) G)
 ·subst U Y;cases(show u=Value.ref b from ry)
  obtain⟨z,hd,xs,rel,dd⟩:=KH I.hok e;have hz:xs.length<=sizeLine:=by rw[<-Paired.length rel];exact z
  have Z:(putK kvs k v).length<=sizeLine:=by have:=tK kvs k v;lia
  refine wpAny_setItem_heap (hsz:=hz) (tupleKind_room_in1 hu) (rC I.hok eb) dd λh' G hs=>h _ ?_
  obtain⟨q,es,ep,O,h2,h3,h4,_,h5⟩:=G;refine uF I (by rw[e];exact True.intro) hs ⟨q,O⟩ ⟨Z,hd,_,(rel.put k eb rv).keeps λc ys ec=>?_,q,es,ep,O,h2,h3,h4,h5⟩
  rw[ao (aW ec e (λz=>nomatch z))]
  exact ec
end
def T9(i:Expr):Prop:=∀G I,subscripted i false G I=operate [G,I] (getItem G I)
def N3{prog:Program}{w:World}{A:Around}{E:dh}{s:Shared}{env:Env}{value slice:Expr}{pos:Pos}{T id:String}{Q:dh}
 (hl:typeLookup (.type T) "__getitem__"=pure (some (.builtin id))) (hs:T9 slice)
 (h:wpAny (model prog w) A (eval value env) (λo O=>wpAny (model prog w) A (eval slice env) (λi G=>G.TypeIs o T/\wpAny (model prog w) A (getItem o i) Q E G) E O) E s) :
 wpAny (model prog w) A (eval (.Subscript value slice pos) env) Q E s:=by
 refine Subscript_ (aaD h (λo O Z=>aaD Z (λi G I=>?_) λ_ _ x=>x) λ_ _ x=>x)
 obtain⟨U,I⟩:=I;unfold subscriptTail;refine aN ?_;rw[getitemInPython_of_ne U.not_modules];refine aN (wpAny_specialOf U hl ?_);have fin:wpAny (model prog w) A (subscripted slice false o i) (λr Y=>wpAny (model prog w) A (letTemporaryGo value o r >>= λ_=>pure r) Q E Y) E G:=by
  rw[hs o i];exact wpAny_operating (aaD I (λr Y h₃=>aN (wpAny_letTemporaryGo (aah h₃))) λ_ _ x=>x)
 first
  | exact aah (aN fin)
  | exact aN (aah (aN fin))
  | exact aN fin
def By{X:Cx}{pq:aQ}{σ:St}{H:Hp}{s:Shared}{a:Addr}{y:V}{o:Option V}(I:Inv X pq σ H s)(g:KI H a y o):s.TypeIs (.ref a) "dict":=by
 rcases g with⟨kvs,k,e,_,_⟩|⟨kvs,k,b,e,_,_,_⟩
 ·obtain⟨_,_,vs,_,dd⟩:=Bw I.hok e;exact dd.typeIs
 ·obtain⟨_,_,xs,_,dd⟩:=Bx I.hok e;exact dd.typeIs
def Ua(td ty:TE):TE:=λσ H Q=>td σ H λx H1=>ty σ H1 λy H2=>∃a v,x = .ref a/\KI H2 a y (some v)/\Q v H2
def Ub(td ty tv:TE):TS:=λD σ H=>tv σ H λv H1=>td σ H1 λx H2=>ty σ H2 λy H3=>∃a H4,x = .ref a/\KJ H3 a y v H4/\D.nx σ H4
section
variable {X:Cx}{o i e value:Expr}{pos pos' tpos:Pos}{td ty tv:TE}
def N4(hu:X.A.units+1<cLine)(ho:PE X o td)(hi:PE X i ty)(hs:T9 i):PE X (.Subscript o i pos) (Ua td ty):=by
 intro pq s σ H Q I h;refine N3 PySem.F.slot_dict_getitem.lookup hs (dP (ho pq s σ H _ I h) λu s1 ⟨x,H1,U,rx,Y⟩=>dP (hi pq s1 σ H1 _ U Y) λiv s2 ⟨y,H2,O,Z,a,v,ex,g,q2⟩=>?_)
 subst ex;obtain rfl:u=Value.ref a:=rx;exact⟨By O g,Hj hu O g Z λw' s3 I3 G=>⟨v,H2,I3,G,q2⟩⟩
def N5(hu:X.A.units+1<cLine)(ho:PE X o td)(hi:PE X i ty)(hv:PE X value tv)(hs:swapsWith value (some (.Subscript o i pos')) pos.line X.env=pure false):
 PS X (.Assign [.Subscript o i pos'] value pos) (Ub td ty tv):=by
 intro pq s σ H D I h;refine wpAny_Assign_Subscript (dP (hv pq s σ H _ I h) λr s1 ⟨v,H1,G,O,U⟩=>dP (ho pq s1 σ H1 _ G U) λu s2 ⟨x,H2,Y,rx,Z⟩=>dP (hi pq s2 σ H2 _ Y Z) λiv s3 ⟨y,H3,I3,ry,a,H4,ex,g,q3⟩=>?_) hs
 subst ex;obtain rfl:u=Value.ref a:=rx;exact Hl hu I3 g ry O λs4 I4=>⟨σ,H4,I4,q3⟩
end
def KL{P:Program}{w:World}{H:Hp}(h:Heap)(hb:sysModules<h.objs.size):bg P w H (h.push { cls:=.type "dict",data:=.dict #[]}) h.objs.size (.dT []) :=
 ⟨aaL _,beq_eq_false_iff_ne.mpr (aba (aay hb)),[],.nil,_,#[],0,aaB _ rfl,⟨rfl,rfl,rfl⟩,rfl,rfl,acR⟩
structure M1(X:Cx)(o:Expr)(m:Str)(apos:Pos)(e:Expr)(cpos:Pos):Prop where
 base:attributeBase o m X.env (eval o X.env)=eval o X.env
 few:((backTo cpos (starEach [e] X.env)).all (λx=>!x.1)&&(backToKw cpos (keywordEach [] X.env)).all (λx=>x.1.isSome)
  && decide (([e]:List Expr).length+([]:List Keyword).length+(if([]:List Keyword).isEmpty then 0 else 1)<30))=true
 line:(apos.endLine==cpos.line)=true
 trees:backTo cpos (starEach [e] X.env)=[(false,eval e X.env)]
structure M2(X:Cx)(o:Expr)(m:Str)(apos:Pos)(e f:Expr)(cpos:Pos):Prop where
 base:attributeBase o m X.env (eval o X.env)=eval o X.env
 few:((backTo cpos (starEach [e,f] X.env)).all (λx=>!x.1)&&(backToKw cpos (keywordEach [] X.env)).all (λx=>x.1.isSome)
  && decide (([e,f]:List Expr).length+([]:List Keyword).length+(if([]:List Keyword).isEmpty then 0 else 1)<30))=true
 line:(apos.endLine==cpos.line)=true
 trees:backTo cpos (starEach [e,f] X.env)=[(false,eval e X.env),(false,eval f X.env)]
def Xr(H:Hp)(a:Addr):Prop:=(∃kvs,Rd H a (.dK kvs))\/∃kvs,Rd H a (.dT kvs)
def KN{X:Cx}{pq:aQ}{σ:St}{H:Hp}{s:Shared}{a:Addr}(I:Inv X pq σ H s)(d:Xr H a):
 s.TypeIs (.ref a) "dict"/\(∀b,Value.ref a = .ref b->∃ob,s.heap.get? b=some ob/\ob.dict=none)/\(a==sysModules)=false:=by
 rcases d with⟨kvs,e⟩|⟨kvs,e⟩
 ·obtain⟨_,hd,vs,_,dd⟩:=Bw I.hok e;refine⟨dd.typeIs,λb q=>?_,hd⟩
  cases q;obtain⟨ob,_,_,h1,h2,_⟩:=dd;exact⟨ob,h1,h2.2.1⟩
 ·obtain⟨_,hd,xs,_,dd⟩:=Bx I.hok e;refine⟨dd.typeIs,λb q=>?_,hd⟩
  cases q;obtain⟨ob,_,_,h1,h2,_⟩:=dd;exact⟨ob,h1,h2.2.1⟩
section
variable {X:Cx}{pq:aQ}{σ:St}{H:Hp}{s:Shared}{a:Addr}{y d:V}{u r:Value}{o:Option V}{A:Around}{E:dh}
def QO{Q:dh}(hu:A.units+1<cLine)(I:Inv X pq σ H s)(g:KI H a y o)(ry:RelV y u)(rd:RelV d r)(h:∀O s',Inv X pq σ H s'->RelV (o.getD d) O->Q O s'):
 wpAny (model X.prog X.w) A (call (.builtin "dict.get") [.ref a,u,r]) Q E s:=by
 rcases g with⟨kvs,k,e,G,l⟩|⟨kvs,k,b,e,G,U,l⟩
 ·subst G;obtain⟨z,hd,vs,rel,dd⟩:=Bw I.hok e;refine call_meetsIn adf dd.typeIs PySem.F.entry_dict_get (PySem.F.args_dict_get_3 _ _ _) (meets_dict_get_default (dX X.prog X.w) a (F4 ry) hd r) ⟨_,dd.mapOf,h _ _ (I.tok _) ?_⟩;rw[l];exact(rel.val k).getD rd
 ·subst G;cases(show u=Value.ref b from ry)
  obtain⟨z,hd,xs,rel,dd⟩:=Bx I.hok e;refine call_meetsIn adf dd.typeIs PySem.F.entry_dict_get (PySem.F.args_dict_get_3 _ _ _) (meetsH_dict_get_default (tupleKind (dX X.prog X.w)) a b hd r) ⟨tupleKind_room_in1 hu,k,xs,rC I.hok U,dd,h _ _ (I.tok _) ?_⟩;rw[l];exact(rel.val k).getD rd
end
def QS(td ty tx:TE):TE:=λσ H Q=>td σ H λx H1=>∃a,x = .ref a/\Xr H1 a/\ty σ H1 λy H2=>tx σ H2 λz H3=>∃o,KI H3 a y o/\Q (o.getD z) H3
section
variable {X:Cx}{o e f:Expr}{apos cpos:Pos}{td ty tx:TE}
def KO(hu:X.A.units+1<cLine)(ho:PE X o td)(he:PE X e ty)(hf:PE X f tx)(m:M2 X o "get" apos e f cpos):PE X (.Call (.Attribute o "get" apos) [e,f] [] cpos) (QS td ty tx):=by
 intro pq s σ H Q I h;refine wpAny_Call_method m.base m.few m.line PySem.F.plainAttrs_dict adf PySem.F.type_dict_get (dP (ho pq s σ H _ I h) λu s1 ⟨x,H1,O,rx,a,ex,d,U⟩=>?_)
 subst ex;obtain rfl:u=Value.ref a:=rx;obtain⟨t1,t2,_⟩:=KN O d;refine⟨t1,t2,?_⟩;rw[m.trees];refine Calls.callWith_builtin rfl (Calls.evalArgs_plain (Calls.spliced_cons (dP (he pq s1 σ H1 _ O U) λiv s2 ⟨y,H2,Y,Z,q2⟩ =>
  Calls.spliced_cons (dP (hf pq s2 σ H2 _ Y q2) λfv s3 ⟨z,H3,I3,rz,ov,g,q3⟩=>Calls.spliced_nil ?_))))
 exact QO hu I3 g Z rz λw' s4 I4 G=>⟨_,H3,I4,G,q3⟩
end
section
variable {κ:Type}[DecidableEq κ]
def KP{kvs:List (κ×V)}{k:κ}(h:eW kvs k=none): ¬ k∈kvs.map (·.1):=by
 intro m;obtain⟨p,hp,e⟩:=aaz.mp m;have q:(kvs.any λkv=>decide (kv.1=k))=true:=ady.mpr ⟨p,hp,cD e⟩
 rw[iR,h]at q;exact absurd q (by simp)
def N6{kvs:List (κ×V)}{k:κ}{v:V}(h:eW kvs k=some v):k∈kvs.map (·.1):=by
 have q:(kvs.any λkv=>decide (kv.1=k))=true:=by
  rw[iR,h]
  all_goals rfl
 obtain⟨p,hp,e⟩:=ady.mp q;exact aaz.mpr ⟨p,hp,jR e⟩
def F5:∀{l:List κ} {k:κ},l.Nodup->¬ k∈l->(l++[k]).Nodup
 | [],k,_,_=>by simp
 | a::r,k,h,hk=>by
   obtain⟨h1,h2⟩:=aaV.mp h;show(a::(r++[k])).Nodup;refine aaV.mpr ⟨λm=>?_,F5 h2 λm=>hk (aaq.mpr (Or.inr m))⟩
   rcases aaw.mp m with q|q
   ·exact h1 q
   ·exact hk (aaq.mpr (Or.inl (aat.mp q).symm))
def N7{kvs:List (κ×V)}{k:κ}(v:V)(hn:(kvs.map (·.1)).Nodup)(h:eW kvs k=none):((putK kvs k v).map (·.1)).Nodup:=by
 rw[Bv v h,aax];exact F5 hn (KP h)
def yw{p:κ×V}{r:List (κ×V)}{k:κ}(e:p.1=k):eA (p::r) k=eA r k:=by
 unfold eA;rw[aaR,aab (by simp[e])]
def yx{p:κ×V}{r:List (κ×V)}{k:κ}(e : ¬ p.1=k):eA (p::r) k=p::eA r k:=by
 unfold eA;rw[aaR,aac (by simp[e])]
def yy{kvs:List (κ×V)}{k:κ}{p:κ×V}(h:p∈eA kvs k):p∈kvs:=(aas.mp h).1
def vG:∀{kvs:List (κ×V)} {k:κ},(kvs.map (·.1)).Nodup->((eA kvs k).map (·.1)).Nodup
 | [],_,_=>acR
 | p::r,k,h=>by
   have h:(p.1::r.map (·.1)).Nodup:=h;obtain⟨h1,h2⟩:=aaV.mp h
   by_cases e:p.1=k
   ·rw[yw e];exact vG h2
   ·rw[yx e];show(p.1::(eA r k).map (·.1)).Nodup;refine aaV.mpr ⟨λm=>h1 ?_,vG h2⟩
    obtain⟨q,G,eq⟩:=aaz.mp m;exact aaz.mpr ⟨q,yy G,eq⟩
end
def Ho{K:bN}{a:Addr}{xs:List V}{g:TG}{tb:TS}{D:Ends}{σ:St}{H:Hp}(Pv:Nat->St->Hp->Prop)(h0:Pv 0 σ H)(hl:∀i σ H,i<=xs.length->Pv i σ H->aR K H a xs)
 (hs:∀i x T σ H,xs[i]?=some x->Pv i σ H->H T=none->g (.ref T) σ (upd H T (.tup [.int (i:Int),x])) λσ2 H2=>tb { D with nx:=Pv (i+1),ct:=Pv (i+1),bk:=D.nx} σ2 H2) (hd:∀σ H,Pv xs.length σ H->D.nx σ H) :
 ∃W:Nat->Nat->St->Hp->Prop,(∃m,W 0 m σ H)/\∀i m σ H,W i m σ H->
   ((G9 K a).stop i H/\D.nx σ H)\/((G9 K a).go i H/\∃N:St->Hp->Prop,(∀σ' H',N σ' H'->∃I,I<m/\W (i+1) I σ' H')/\∀x H',(G9 K a).MU i H x H'->g x σ H' λσ2 H2=>tb { D with nx:=N,ct:=N,bk:=D.nx} σ2 H2):=by
 refine⟨λi m σ H=>m=xs.length-i/\i<=xs.length/\Pv i σ H,⟨xs.length,by simp,aaL _,h0⟩,?_⟩
 rintro i m σ H ⟨rfl,hi,p⟩;have q:=hl i σ H hi p
 by_cases G:i<xs.length
 ·refine .inr ⟨⟨xs,xs[i],q,by simp[G]⟩,Pv (i+1),λσ' H' O=>⟨xs.length-(i+1),by lia,rfl,G,O⟩,λv H' y=>?_⟩
  obtain⟨T,x,rfl,U,rfl,Y⟩:=y;exact hs i x T σ _ (Y xs q) p U
 ·have e:i=xs.length:=by lia
  subst e;exact .inl ⟨⟨xs,q,rfl⟩,hd σ H p⟩
end L2
namespace Ring
open PySem L2
def oV:Option Int->V
 | none=>.eE
 | some i=>.int i
abbrev Pr:=Option Int×Option Int
def sel(q:Pr)(u:Bool):Option Int:=if u=true then q.2 else q.1
def KQ(R:List Pr)(i:Nat):Pr:=R.getD i (none,none)
def jD(H:Hp)(x:V)(q:Pr):Prop:=∃b,x = .ref b/\H b=some (.tup [oV q.1,oV q.2])
def RowW(H:Hp)(x:V)(R:List Pr):Prop:=∃b ys,x = .ref b/\H b=some (.tup ys)/\Paired (jD H) ys R
def jE(H:Hp)(b:Addr)(W:List (List Pr)):Prop:=∃ys,H b=some (.tup ys)/\Paired (RowW H) ys W
def Xs(p:Nat)(W:List (List Pr)):Prop:=W.length=p/\∀R∈W,R.length=p
def jD.same{H H' : Hp}(s:au H H'){x:V}{q:Pr}(h:jD H x q):jD H' x q:=let⟨b,e,z⟩:=h;⟨b,e,s _ _ z⟩
def RowW.same{H H' : Hp}(s:au H H'){x:V}{R:List Pr}(h:RowW H x R):RowW H' x R:=let⟨b,ys,e,z,pr⟩:=h;⟨b,ys,e,s _ _ z,Paired.imp' (λ_ _ z=>z.same s) pr⟩
def jE.same{H H' : Hp}(s:au H H'){b:Addr}{W:List (List Pr)}(h:jE H b W):jE H' b W:=let⟨ys,z,pr⟩:=h;⟨ys,s _ _ z,Paired.imp' (λ_ _ z=>z.same s) pr⟩
def jD.tups{H H' : Hp}(s:dI H H'){x:V}{q:Pr}(h:jD H x q):jD H' x q:=let⟨b,e,z⟩:=h;⟨b,e,s _ _ z⟩
def RowW.tups{H H' : Hp}(s:dI H H'){x:V}{R:List Pr}(h:RowW H x R):RowW H' x R:=let⟨b,ys,e,z,pr⟩:=h;⟨b,ys,e,s _ _ z,Paired.imp' (λ_ _ z=>z.tups s) pr⟩
end Ring
namespace RM
variable {N:Net}{m t0:Nat}
def Net.VL(N:Net)(t v:Nat):Nat:=if N.a t=v then N.b t else N.a t
def Net.rD(N:Net)(left v:Nat):List Nat:=(List.range N.n).filter λt=>left.testBit t&&(decide (N.a t=v) || decide (N.b t=v))
def jF{left v t:Nat}:t∈N.rD left v↔t<N.n/\left.testBit t=true/\(N.a t=v\/N.b t=v):=by
 unfold Net.rD;rw[aas,aaA,aaH,Bool.or_eq_true,decide_eq_true_eq,decide_eq_true_eq]
inductive Wk(N:Net)(m t0:Nat):List (Nat×Int)->Nat->Nat->Prop
 | start:Wk N m t0 [(t0,1)] (N.b t0) (m^^^2^t0)
 | next {acc:List (Nat×Int)} {v left t:Nat} (h:Wk N m t0 acc v left) (h0:left≠0) (ht:(N.rD left v)[0]?=some t):Wk N m t0 (acc++[(t,if N.a t=v then 1 else -1)]) (N.VL t v) (left^^^2^t)
def BA{t v:Nat}(h:N.a t=v\/N.b t=v):(N.a t=v/\N.b t=N.VL t v)\/(N.b t=v/\N.a t=N.VL t v):=by
 unfold Net.VL
 by_cases e:N.a t=v
 ·rw[aac e];exact .inl ⟨e,rfl⟩
 ·rw[aab e];rcases h with h|h
  ·exact absurd h e
  ·exact .inr ⟨h,rfl⟩
def KR{pre ks:List Nat}{v left:Nat}(h:Way N m pre v ks left)(hz:∀k,m.testBit k=true->k∈ks):left=0:=by
 apply aaG;intro k;rw[h.qp,abm];cases hb:m.testBit k with
 | false=>rfl
 | true=>rw[cD (hz k hb)];rfl
def yz{pre ks:List Nat}{v left:Nat}(r:N.Ring m)(h:Way N m pre v ks left)(h0:left≠0):v∉pre:=λG=>by
 obtain⟨i,hi⟩:=aaI G;obtain⟨q0,qe,_,qs⟩:=h.closes hi;rcases r.2.2 _ qs qe with z|z
 ·exact q0 z
 ·refine h0 (KR h λk hk=>?_)
  rw[<-z,Ring.jc]at hk;exact adm (jR hk)
def QT(hm:m<2^N.n)(r:N.Ring m)(hb:m.testBit t0=true){acc:List (Nat×Int)}{v left:Nat}(h:Wk N m t0 acc v left):∃pre,Way N m pre v (acc.map (·.1)) left/\pre[0]?=some (N.a t0):=by
 induction h with
 | start =>
   refine⟨[N.a t0],?_,rfl⟩;exact(Way.start hm r.2.1 hb).go (by simp) hb (.inl ⟨rfl,rfl⟩)
 | next h h0 ht ih =>
   obtain⟨pre,w,p0⟩:=ih;have G:=jF.mp (iV ht);refine⟨_,by rw[aax];exact w.go (yz r w h0) G.2.1 (BA G.2.2),?_⟩
   rw[aaK (by have:=(ju.mp p0).1;exact this)]
   exact p0
def Uc(hm:m<2^N.n)(r:N.Ring m)(hb:m.testBit t0=true){acc:List (Nat×Int)}{v left:Nat}(h:Wk N m t0 acc v left)(h0:left≠0):∃t,(N.rD left v)[0]?=some t:=by
 obtain⟨pre,w,_⟩:=QT hm r hb h;obtain⟨t,h1,h2⟩:=w.on (yz r w h0);have ht:t<N.n:=b8 w.N1 h1;have G:t∈N.rD left v:=jF.mpr ⟨ht,h1,h2⟩;cases e:N.rD left v with
 | nil=>rw[e]at G;cases G
 | cons x l=>exact⟨x,rfl⟩
def BB{left t n:Nat}(ht:t<n)(hb:left.testBit t=true):cnt (λj=>left.testBit j) n=cnt (λj=>(left^^^2^t).testBit j) n+1 :=
 vh (h:=t) hb ht λx _=>by
  rw[aag,aar]
  by_cases e:x=t
  ·subst e;simp[hb]
  ·rw[dO e,dO (λz=>e z.symm)]
   simp
def zy(hm:m<2^N.n)(hb:m.testBit t0=true){acc:List (Nat×Int)}{v left:Nat}(h:Wk N m t0 acc v left):acc.length+cnt (λj=>left.testBit j) N.n=cnt (λj=>m.testBit j) N.n:=by
 induction h with
 | start =>
   have:=BB (b8 hm hb) hb;show 1+_=_
   lia
 | next h h0 ht ih =>
   have G:=jF.mp (iV ht);have:=BB G.1 G.2.1;rw[aao,abb]
   lia
variable {N:Net}{m t0:Nat}
def Net.D2(N:Net)(m:Nat):Prop:=∀x,x<N.p->N.dg m x=0\/N.dg m x=2
def D2.ie(h:N.D2 m):N.bL m:=λx hx=>by
 rw[yr];refine dO ?_;rcases h x hx with e|e<;>lia
def KS(C:Nat->Bool):∀n,sm (λx=>if C x=true then 2 else 0) n=2*cnt C n:=λn=>by
 rw[iX];have:sm (λk=>if C k=true then 2 else 0) n=sm (λk=>(if C k=true then 1 else 0)+(if C k=true then 1 else 0)) n:=fO λk _=>by
  by_cases h:C k=true
  ·rw[aac h,aac h]
  ·rw[aab h,aab h]
 rw[this,rA]
 lia
def N8(hm:m<2^N.n)(r:N.Ring m):N.D2 m:=by
 obtain⟨k0,ag,ar,G⟩:=pF hm r;generalize hs:N.aL (λk=>m.testBit k) N.n (N.a k0)=s at G
 have I:∀x,x<N.p->(λx=>decide (N.aL (λk=>m.testBit k) N.n x=s)) x=decide (N.aL (λk=>m.testBit k) N.n x=s):=λx _=>rfl
 obtain⟨h2,U,G5⟩:=Bp (s:=s) hm r _ I (λk hk hb=>cD (G k hk hb))
 generalize aw:(λx=>decide (N.aL (λk=>m.testBit k) N.n x=s))=C at I h2 U G5
 have none:∀x,x<N.p->C x=false->N.dg m x=0:=λx hx hc=>by
  cases hz:N.dg m x with
  | zero=>rfl
  | succ d =>
    exfalso
    obtain⟨k,hk,hb,Jg⟩:=qo (N:=N) (m:=m) (x:=x) (by lia)
    rw[I x hx]at hc;refine of_decide_eq_false hc ?_;rcases Jg with e|e
    ·rw[<-e];exact G k hk hb
    ·rw[<-e,<-iQ (S:=λk=>m.testBit k) hk hb]
     exact G k hk hb
 have pos:∀x,x<N.p->C x=true->0<N.dg m x:=λx hx hc=>by
  cases hz:N.dg m x with
  | succ d=>lia
  | zero =>
    exfalso
    obtain⟨y,hy,Y,O⟩:∃y,y<N.p/\C y=true/\y≠x:=by
     obtain⟨c,d,h1,Z,h4,h5⟩:=nY h2
     by_cases e:c=x
     ·exact⟨d,Z,h5,by lia⟩
     ·exact⟨c,by lia,h4,e⟩
    rw[I x hx]at hc;rw[I y hy]at Y;exact O (alone hz (bS _ _ _ ((jR hc).trans (jR Y).symm)))
 have hle:∀x,x<N.p->(if C x=true then 2 else 0)<=N.dg m x:=λx hx=>by
  by_cases hc:C x=true
  ·rw[aac hc];have h1:=pos x hx hc;have Z:=uC r.2.1 hx
   lia
  ·rw[aab hc];exact aaL _
 have he:sm (λx=>if C x=true then 2 else 0) N.p=sm (λx=>N.dg m x) N.p:=by
  rw[KS,zu,U]
 intro x hx;have:=Ky hle he x hx
 by_cases hc:C x=true
 ·rw[aac hc]at this;exact .inr this.symm
 ·rw[aab hc]at this;exact .inl this.symm
def N9(hb:m.testBit t0=true){acc:List (Nat×Int)}{v left:Nat}(h:Wk N m t0 acc v left):∀k,left.testBit k=(m.testBit k && !decide (k∈acc.map (·.1))):=by
 induction h with
 | start =>
   intro k;rw[aag,aar]
   by_cases e:t0=k
   ·subst e;simp[hb]
   ·have e' : ¬ k=t0:=λz=>e z.symm
    simp[e,e']
 | @next acc v left t h h0 ht ih =>
   intro k;have I:=jF.mp (iV ht);have G:=I.2.1;rw[ih t]at G;rw[aag,aar,ih k,aax]
   by_cases e:t=k
   ·subst e;rw[G];simp
   ·have e' : ¬ k=t:=λz=>e z.symm
    have O:(k∈acc.map (·.1)++[(t,if N.a t=v then(1:Int) else -1)].map (·.1))↔k∈acc.map (·.1):=by simp[e']
    rw[show decide (k∈acc.map (·.1)++[(t,if N.a t=v then(1:Int) else -1)].map (·.1))=decide (k∈acc.map (·.1)) from aaS.mpr O]
    simp[e]
def D3(hm:m<2^N.n)(hb:m.testBit t0=true){acc:List (Nat×Int)}{v left:Nat}(h:Wk N m t0 acc v left):left<2^N.n:=cI λk hk=>by
 rw[N9 hb h k,aaH]at hk;exact b8 hm hk.1
def KU{left n:Nat}(hl:left<2^n):cnt (λj=>left.testBit j) n=0↔left=0:=by
 constructor
 ·intro h;apply aaC;intro h0;obtain⟨j,hj⟩:=abt h0;have:=nX (f:=λj=>left.testBit j) hj (b8 hl hj)
  lia
 ·rintro rfl;rw[iX];refine(fO λk _=>?_).trans (uA n)
  rw[aab (by rw[abm];simp)]
def Oa(hm:m<2^N.n)(hb:m.testBit t0=true){acc:List (Nat×Int)}{v left:Nat}(h:Wk N m t0 acc v left):acc.length=cnt (λj=>m.testBit j) N.n↔left=0:=by
 have:=zy hm hb h;rw[<-KU (D3 hm hb h)]
 lia
end RM
namespace Ring
open PySem L2
def rE{H:Hp}{xs:List V}{p:Nat}{ts:List eO}{g:aD p ts}{k:Nat}(h3:Paired (TupAt H) xs ts)(hk:k<ts.length):∃c,xs[k]?=some (.ref c)/\H c=some (.tup [.int ((g.N.a k:Nat):Int),.int ((g.N.b k:Nat):Int),.int (b7 ts k).2.2]):=by
 have G:k<xs.length:=by rw[h3.length];exact hk
 obtain⟨t,ht,c,hc,I⟩:=Paired.pA h3 (i:=k) (x:=xs[k]) (by simp[G])
 have O:t=b7 ts k:=by
  have z:=rq hk;rw[ht]at z;exact Option.some.inj z
 refine⟨c,by rw[<-hc];simp[G],?_⟩
 rw[I,<-FP hk,<-FQ hk,O];rfl
end Ring
namespace RM
variable {N:Net}{row ab1:Nat->Int}
def Hq{m t0:Nat}(hm:m<2^N.n)(r:N.Ring m)(hb:m.testBit t0=true):∃acc v,Wk N m t0 acc v 0:=by
 have key:∀(k:Nat) (acc:List (Nat×Int)) (v left:Nat),Wk N m t0 acc v left->cnt (λj=>left.testBit j) N.n=k->∃acc v,Wk N m t0 acc v 0:=by
  intro k
  induction k with
  | zero =>
    intro acc v left h e;have G:=zy hm hb h;rw[e]at G;have h0:=(Oa hm hb h).mp G;subst h0;exact⟨acc,v,h⟩
  | succ k I =>
    intro acc v left h e
    by_cases h0:left=0
    ·subst h0;exact⟨acc,v,h⟩
    ·obtain⟨t,ht⟩:=Uc hm r hb h h0;have h':=Wk.next h h0 ht;have l1:=zy hm hb h;have O:=zy hm hb h';rw[aao]at O;refine I _ _ _ h' ?_;have U:[((t:Nat),(if N.a t=v then(1:Int) else -1))].length=1:=rfl
     lia
 exact key _ _ _ _ .start rfl
variable {N' : Net}
end RM
namespace L2
open PySem PySem.Spec PyProof.Rows PySem.W
def xw(n:Nat){α:Type}(R:α->Prop):KasT α->Prop
 | .ret a=>R a
 | .ask i j k=>i<n/\j<n/\∀b,xw n R (k b)
def xw.bind{n:Nat}{α β:Type}{R:α->Prop}{R' : β->Prop}{f:α->KasT β}:∀{t:KasT α},xw n R t->(∀a,R a->xw n R' (f a))->xw n R' (t.bind f)
 | .ret a,h,g=>by
   rw[KasT.bind.eq_1];exact g a h
 | .ask i j k,h,g=>by
   rw[KasT.bind.eq_2];exact⟨h.1,h.2.1,λb=>xw.bind (h.2.2 b) g⟩
def dU(n:Nat)(p:Array Nat):Prop:=p.toList.Perm (List.range n)
def dU.at{n:Nat}{p:Array Nat}(h:dU n p)(hn:0<n)(x:Nat):p.getD x 0<n:=by
 unfold Array.getD
 split
 ·rename_i hx
  have:p[x]∈p.toList:=by simp
  exact aaA.mp (h.mem_iff.mp this)
 ·exact hn
def Hr{n:Nat}{p:Array Nat}(h:dU n p)(i j:Nat):dU n (p.swapIfInBounds i j):=by
 unfold Array.swapIfInBounds
 split
 ·split
  ·exact(Array.perm_iff_toList_perm.mp (Array.swap_perm _ _)).trans h
  ·exact h
 ·exact h
def rF{n:Nat}(f g:Nat->Nat):∀(l:List Nat) {p:Array Nat},dU n p->dU n (l.foldl (λa k=>a.swapIfInBounds (f k) (g k)) p)
 | [],_,h=>h
 | k::l,_,h=>rF f g l (Hr h (f k) (g k))
def nh{n:Nat}{p:Array Nat}(h:dU n p)(i j:Nat):dU n (kas_rev p i j):=rF _ _ _ h
def KW{n:Nat}{p:Array Nat}(h:dU n p)(i j:Nat):dU n (bubble p i j):=rF _ _ _ h
def D6{n:Nat}{p:Array Nat}(h:dU n p)(hn:0<n):∀f x,xw n (λ_=>True) (kas_asc p f x)
 | 0,x=>by
   rw[kas_asc.eq_1];trivial
 | f+1,x=>by
   rw[kas_asc.eq_2];refine⟨h.at hn _,h.at hn _,λb=>?_⟩
   cases b with
   | true=>trivial
   | false=>exact D6 h hn f (x+1)
def uG{n:Nat}(hn:0<n):∀f {p:Array Nat} (x q:Nat),dU n p->xw n (λr:Array Nat×Nat×Nat=>dU n r.1) (kas_desc f p x q)
 | 0,p,x,q,h=>by
   rw[kas_desc.eq_1];exact h
 | f+1,p,x,q,h=>by
   rw[kas_desc.eq_2];refine⟨h.at hn _,h.at hn _,λb=>?_⟩
   cases b with
   | true =>
     show xw n _ (if q > 0 then _ else _)
     by_cases G:q > 0
     ·rw[aac G];exact uG hn f _ _ (nh h _ _)
     ·rw[aab G];exact uG hn f _ _ h
   | false =>
     refine⟨h.at hn _,h.at hn _,λb=>?_⟩
     cases b with
     | true=>exact h
     | false=>exact uG hn f _ _ h
def F6{n:Nat}(hn:0<n){p:Array Nat}(h:dU n p)(x r:Nat):xw n (λr:Nat×Array Nat=>dU n r.2) (kas_tail3 x r p) :=
 xw.bind (D6 (nh h _ _) hn _ _) λ_ _=>nh h _ _
def F8{n:Nat}(hn:0<n){p:Array Nat}(h:dU n p)(x r:Nat):xw n (λr:Nat×Array Nat=>dU n r.2) (kas_descPart x r p):=by
 refine xw.bind (uG hn _ _ _ h) λy G=>?_
 by_cases I:y.2.2 > 0
 ·rw[aac I];exact F6 hn (nh G _ _) _ _
 ·rw[aab I];exact F6 hn G _ _
def KY{n:Nat}(hn:0<n){p:Array Nat}(h:dU n p)(r:Nat):xw n (λr:Nat×Array Nat=>dU n r.2) (kas_count r p):=by
 refine xw.bind (D6 h hn _ _) λy _=>?_
 by_cases h1:(y==r)=true
 ·rw[aac h1];exact h
 ·rw[aab h1]
  by_cases h2:y > 1
  ·rw[aac h2];refine⟨h.at hn _,h.at hn _,λb=>?_⟩
   cases b with
   | true=>exact h
   | false=>exact F8 hn (nh h _ _) _ _
  ·rw[aab h2];exact F8 hn h _ _
def vH{n:Nat}(hn:0<n){p:Array Nat}(h:dU n p)(k:Nat):∀f x y,xw n (λ_=>True) (kas_place p k f x y)
 | 0,x,y=>by
   rw[kas_place.eq_1];trivial
 | f+1,x,y=>by
   rw[kas_place.eq_2]
   by_cases hx:x ≥ y
   ·rw[aac hx];trivial
   ·rw[aab hx];refine⟨h.at hn _,h.at hn _,λb=>?_⟩
    cases b with
    | true=>exact vH hn h k f _ _
    | false=>exact vH hn h k f _ _
def KZ{n:Nat}(hn:0<n):∀f {p:Array Nat} (x:Nat),dU n p->xw n (dU n) (kas_bin f p x)
 | 0,p,x,h=>by
   rw[kas_bin.eq_1];exact h
 | f+1,p,x,h=>by
   rw[kas_bin.eq_2];exact xw.bind (vH hn h _ _ _ _) λl _=>KZ hn f _ (KW h _ _)
def zz{n:Nat}(hn:0<n):xw n (dU n) (kas_sort n):=by
 unfold kas_sort;have h0:dU n (List.range n).toArray:=by unfold dU;simp
 refine xw.bind (KY hn h0 n) λr hr=>?_
 by_cases hx:r.1<n
 ·rw[aac hx];exact KZ hn _ _ hr
 ·rw[aab hx];exact hr
def Pn(h:Heap)(v:Value):Prop:=∃(a:Addr) (o:Obj) (x y:Int) (t u:Tok) (k:Nat),v = .ref a/\h.get? a=some o/\o.cls = .type "tuple"/\o.data = .seq #[.int x t,.int y u] k
def yC{prog:Program}{w:World}{A:Around}{E:dh}{s:Shared}{vs:List Value}{Q:SortKind->Shared->Prop}(hn:0<vs.length)(G:∀v∈vs,Pn s.heap v)(q:Q (tuples' true) s):wpAny (model prog w) A (keyKind' vs.toArray) Q E s:=by
 obtain⟨fs,hl,hf,hk⟩:∃fs:List Value,fs.length=vs.length/\(∀v∈fs,∃x t,v=Value.int x t)/\KatTups s.heap vs fs:=by
  clear q hn
  induction vs with
  | nil=>exact⟨[],rfl,λv G=>(by cases G),by rw[KatTups.eq_1];trivial⟩
  | cons v vs O =>
    obtain⟨fs,h1,h2,U⟩:=O λv I=>G v (jt _ I)
    obtain⟨a,o,x,y,t,u,k,e,Y,hc,hd⟩:=G v aam;refine⟨.int x t::fs,by simp[h1],λZ I=>?_,?_⟩
    ·rcases aaq.mp I with rfl|I
     ·exact⟨x,t,rfl⟩
     ·exact h2 Z I
    ·rw[KatTups.eq_2];exact⟨⟨a,o,_,k,e,Y,hc,hd,rfl⟩,U⟩
 refine kat_kind (T:=.type "int") hk (by lia) (λv G=>?_) (by decide) q
 obtain⟨x,t,rfl⟩:=hf v G;intro A Q E s _ q;exact aah q
section
variable {X:Cx}{pq:aQ}{σ:St}{H:Hp}{s:Shared}{h' : Heap}
def Inv.Po{a:Addr}{o:HO}{t' : Nat}(I:Inv X pq σ H s)(k:∀b u,b≠X.env.locals->s.heap.get? b=some u->h'.get? b=some u)(ns:∀m,s.heap.Ns X.env.locals m->h'.Ns X.env.locals m)(hp:s.heap.objs.size<=a)(new:bg X.prog X.w (upd H a o) h' a o):
 Inv X pq σ (upd H a o) { s with heap:=h',toks:=t'}:=by
 have hn:H a=none:=I.hok.fresh hp;have nl:∀b u,H b=some u->b≠X.env.locals:=λb u e z=>by
  rw[z,I.free]at e;cases e
 refine I.step (g':=s.gens) (d':=s.drawn) (ch:=[]) (λb hb=>absurd hb ab3) (λb o hb _ _ e _=>k b o hb e) (λb o hb _ _ e _=>⟨o.slots,k b o hb e⟩) (λb u _ e n=>?_) (λb o _ e=>?_) (λb xs e=>?_) (λb u xs e=>?_) (λb ps e=>?_) ns (λb u e=>?_) I.bare
 ·rw[ao (aay (aap (aal e) hp))];exact n
 ·by_cases hb:b=X.env.locals
  ·subst hb;obtain⟨m,hm,_⟩:=I.loc;obtain⟨o',es,ep,e',_⟩:=ns m hm;exact⟨o',e'⟩
  ·exact⟨o,k b o hb e⟩
 ·rw[ao (bj e hn)];exact e
 ·rw[ao (bj e hn)];exact e
 ·exact⟨#[],by rw[ao (bj e hn),e];simp⟩
 ·by_cases hb:b=a
  ·subst hb;rw[ae]at e;cases e;exact new
  ·rw[ao hb]at e;refine(I.hok b u e).stay (λc v hc q=>k c v ?_ q) (λc q=>by rw[ao (bj q hn)];exact q) λc xs q=>by rw[ao (bj q hn)];exact q
   rcases hc with rfl|hc
   ·exact nl _ _ e
   ·exact nl _ _ hc
def K0{h:Heap}{L:Addr}{m m' : mQ}(a:h.Ns L m)(b:h.Ns L m'):m=m':=by
 obtain⟨o,es,ep,e,d,_,f⟩:=a;obtain⟨o',es',Fi,e',d',_,f'⟩:=b;rw[e]at e';cases e';rw[d]at d';cases d'
 funext x
 rw[<-f x,f' x]
end
def BD{prog:Program}{w:World}{A:Around}{E:dh}{s:Shared}{a:Addr}{its:List Value}{n0:Nat}{P:PySem.Fin->Shared->Prop}(ho:s.heap.get? a=some (seqObj "list" its.toArray n0))(hn:its.length<2)
 (q:P (PySem.Fin.done (PySem.Flow.ret PySem.Value.none)) { s with heap:=sortedHeap s.heap a its its.toArray}):wpAny (model prog w) A (PySem.Builtin.«list.sort» { pos:=[PySem.Value.ref a]}) P E s:=by
 have I:its.length<=1000:=by lia
 have ht:its.toArray.size<=sizeLine:=by
  rw[aau];exact dl (abh.mpr I)
 rw[list_sort_plain];refine aN (listItems_at ho rfl ?_);refine aN (listUpdate_at ho rfl ?_ ht (aaL _));obtain⟨G,O⟩:∃G,(s.heap.update a (Obj.mapSeq λ_=>#[])).get? a=some (seqObj "list" #[] G):=by
  exact⟨_,get?_update_seq ho λ_=>#[]⟩
 refine aN (seqEpoch_at O rfl ?_);refine aN (wpAny_newTuple ?_ (by simpa using ht))
 refine aN (wpAny_newList ?_ (aaL _));refine aaF ?_;have U:its.toArray.size<2:=by simpa using hn
 simp only[U,↓reduceIte];refine aN (aah ?_);refine aN (m:=pure ((),SortSt.mk' general' (its.toArray.zip its.toArray) #[] 7 none)) (aah ?_);have Z:(((s.heap.update a (Obj.mapSeq λx=>#[])).push { cls:=Value.type "tuple",data:=Data.seq its.toArray}).push { cls:=Value.type "list",data:=Data.seq #[]}).get? a=some (seqObj "list" #[] G):=by
  have h1:=aal O;rw[abY _ _ _ (aay (by rw[size_push'];exact abu h1)),abY _ _ _ (aay h1)]
  exact O
 refine aN (seqEpoch_at Z rfl ?_);refine aN (listUpdate_at Z rfl ?_ (aaL _) ?_)
 ·show wpAny _ _ (if(G != G)=true then _ else ret Value.none) _ _ _
  rw[aab (by simp)]
  refine aah ?_;have e:Array.map (λx:Keyed=>x.snd) (its.toArray.zip its.toArray)=its.toArray:=by
   simp;exact adz (aaf _)
  have Y:Array.map (λx:Keyed=>x.snd) (arrOf (SortSt.mk' general' (its.toArray.zip its.toArray) #[] 7 none))=its.toArray:=e
  rw[Y];exact q
 ·have e:Array.map (λx:Keyed=>x.snd) (its.toArray.zip its.toArray)=its.toArray:=by
   simp;exact adz (aaf _)
  have Y:Array.map (λx:Keyed=>x.snd) (arrOf (SortSt.mk' general' (its.toArray.zip its.toArray) #[] 7 none))=its.toArray:=e
  show(Array.map (λx:Keyed=>x.snd) (arrOf (SortSt.mk' general' (its.toArray.zip its.toArray) #[] 7 none))).size<=_
  rw[Y];exact Nat.le_succ_of_le ht
end L2
namespace RM
variable {N:Net}{row:Nat->Int}
def rG:∀{l L:List Nat},l.Nodup->(∀x∈l,x∈L)->l.length<=L.length
 | [],_,_,_=>aaL _
 | x::l,L,nd,h=>by
   have hx:=h x aam;have G:=aaV.mp nd;have:=rG (L:=L.erase x) G.2 λy I=>(List.mem_erase_of_ne (λz:y=x=>G.1 (by rw[<-z];exact I))).mpr (h y (jt _ I))
   rw[List.length_erase_of_mem hx]at this;have:=List.length_pos_of_mem hx;rw[aa1]
   lia
def code(m:Nat):List Nat->Nat
 | []=>0
 | c::cs=>(if m.testBit c=true then 1 else 0)+2*code m cs
def zA(m:Nat):∀cs,code m cs<2^cs.length
 | []=>Nat.one_pos
 | c::cs=>by
   have:=zA m cs;unfold code;rw[aa1,abH]
   split<;>lia
def code_inj{m q:Nat}:∀{cs},code m cs=code q cs->∀c∈cs,m.testBit c=q.testBit c
 | [],_,c,hc=>by cases hc
 | d::cs,h,c,hc=>by
   unfold code at h;have h1:m.testBit d=q.testBit d:=by
    cases hm:m.testBit d<;>cases hq:q.testBit d
    ·rfl
    ·rw[hm,hq,aab aan,aac rfl]at h;lia
    ·rw[hm,hq,aab aan,aac rfl]at h;lia
    ·rfl
   rcases aaq.mp hc with rfl|hc
   ·exact h1
   ·rw[h1]at h;exact code_inj (by lia) c hc
def Hs{l:List Nat}(nd:l.Nodup)(h:∀m∈l,m<2^N.n/\N.Ring m):l.length<2^N.aB.length:=by
 have inj:∀m q,m<2^N.n->q<2^N.n->N.bL m->N.bL q->code m N.aB=code q N.aB->m=q:=λm q hm O em eq e=>kY hm O em eq λc hc hf=>code_inj e c (bh.mpr ⟨hc,hf⟩)
 have U:((0:Nat)::l.map λm=>code m N.aB).Nodup:=by
  refine aaV.mpr ⟨λz=>?_,?_⟩
  ·obtain⟨m,hm,e⟩:=aaz.mp z;obtain⟨h1,h2⟩:=h m hm;have Y:code 0 N.aB=0:=by
    have:∀cs,code 0 cs=0:=λcs=>by
     induction cs with
     | nil=>rfl
     | cons c cs Z =>
       unfold code;rw[abm,Z,aab aan]
    exact this _
   exact h2.1 (inj m 0 h1 (aa2 _) h2.2.1 bL.zero (by rw[e,Y]))
  ·refine List.Pairwise.map _ (λa b (G:a≠b/\a∈l/\b∈l)=>?_) ?_ (R:=λa b=>a≠b/\a∈l/\b∈l)
   ·obtain⟨h1,h2⟩:=h a G.2.1;obtain⟨h3,h4⟩:=h b G.2.2;exact λe=>G.1 (inj a b h1 h3 h2.2.1 h4.2.1 e)
   ·exact abw (λ{a b} ha hb I=>⟨I,ha,hb⟩) nd
 have:=rG (L:=List.range (2^N.aB.length)) U λx hx=>by
  refine aaA.mpr ?_;rcases aaq.mp hx with rfl|hx
  ·exact aa2 _
  ·obtain⟨m,_,rfl⟩:=aaz.mp hx;exact zA _ _
 rw[aa1,aaa,aav]at this
 lia
variable {N:Net}
variable {N:Net}
def QU{m x0:Nat}(hm:m<2^N.n)(d2:N.D2 m)(MY:x0<N.p)(hd0:N.dg m x0=2):
 N.Ring m↔∀x,x<N.p->(N.aL (λk=>m.testBit k) N.n x=N.aL (λk=>m.testBit k) N.n x0↔N.dg m x=2):=by
 constructor
 ·intro r x hx;obtain⟨k0,U,Y,G⟩:=pF hm r;have on:∀y,y<N.p->N.dg m y=2->N.aL (λk=>m.testBit k) N.n y=N.aL (λk=>m.testBit k) N.n (N.a k0):=λy hy hd=>by
   obtain⟨k,hk,hb,Z⟩:=qo (N:=N) (m:=m) (x:=y) (by lia)
   rw[<-G k hk hb];rcases Z with e|e
   ·rw[e]
   ·rw[<-e];exact(iQ (S:=λk=>m.testBit k) hk hb).symm
  constructor
  ·intro e;rcases d2 x hx with z|z
   ·exfalso
    have:=alone z (bS _ _ _ e);rw[this]at hd0
    lia
   ·exact z
  ·intro hd;rw[on x hx hd,on x0 MY hd0]
 ·intro h;have I:∀k,k<N.n->m.testBit k=true->N.aL (λk=>m.testBit k) N.n (N.a k)=N.aL (λk=>m.testBit k) N.n x0:=λk hk hb=>by
   refine(h _ (N.al k hk)).mpr ?_;have h1:=vA hk hb (.inl rfl);rcases d2 _ (N.al k hk) with z|z
   ·lia
   ·exact z
  have hs:sm (λx=>N.dg m x) N.p=2*cnt (λx=>decide (N.aL (λk=>m.testBit k) N.n x=N.aL (λk=>m.testBit k) N.n x0)) N.p:=by
   rw[<-KS];refine fO λx hx=>?_
   by_cases e:N.aL (λk=>m.testBit k) N.n x=N.aL (λk=>m.testBit k) N.n x0
   ·rw[aac (cD e)];exact(h x hx).mp e
   ·rw[aab (by rw[dO e];decide)]
    rcases d2 x hx with z|z
    ·exact z
    ·exact absurd ((h x hx).mpr z) e
  have O:cnt (λx=>decide (N.aL (λk=>m.testBit k) N.n x=N.aL (λk=>m.testBit k) N.n x0)) N.p=cnt (λk=>m.testBit k) N.n:=by
   rw[zu]at hs
   lia
  refine F0 hm (D2.ie d2) (λx=>decide (N.aL (λk=>m.testBit k) N.n x=N.aL (λk=>m.testBit k) N.n x0)) (λx _=>rfl) ?_ (λk hk hb=>cD (I k hk hb)) O
  rw[O];have:N.dg m x0<=cnt (λk=>m.testBit k) N.n:=pD λk _ hk=>(Sv.mp hk).1
  lia
end RM
namespace L2
open PySem PySem.Spec PySem.Calls PyProof.Rows PySem.W PySem.Builtin PySem.Builtin.ObjectAttr
abbrev D7:List Value:=[.type "ValueError",.type "Exception",.type "BaseException",.type "object"]
structure oU(K:Frag)(C R f:Addr)(name:Str):Prop where
 obj:∃nm q N bs hd sn sub ab col dd k0 k1 k2 k3 k5,K.lookup C=some (excClassObj nm q C N bs (.ref R::D7) hd sn sub ab col dd k0 k1 k2 k3 k5 "ValueError.__new__")
 init:findIn K (.ref C) "__init__"=some (some (.ref f))
 fn:isFn K (.ref f)=true
 kp:keepIn K (.ref C)=true
 sa:findIn K (.ref C) "__setattr__"=some (some (.builtin "object.__setattr__"))
 tk:takerIn K C name=some none
 hd:hasDictIn K C=true
 no:findIn K (.ref C) name=some none
 rd:readsIn K R (.type "type")=true
 ri:findCls K (.ref R) (.type "type") "__init__"=some (.val (.builtin "ValueError.__init__"))
 rg:specialIn K (.ref R) "__getattribute__"=some (some (.builtin "type.__getattribute__"))
def qu(ea:Addr)(cls:Value)(od:Option Addr):HO:=.ext λh=>∃t sl,h.get? ea=some { cls:=cls,dict:=od,data:=.fields #[.ref t,.none,.none,.none,.bool false,.none],slots:=sl}
def zB{P:Program}{w:World}{H:Hp}{h:Heap}{ea:Addr}{cls:Value}{od:Option Addr}(q:∃t sl,h.get? ea=some { cls:=cls,dict:=od,data:=.fields #[.ref t,.none,.none,.none,.bool false,.none],slots:=sl}):bg P w H h ea (qu ea cls od) :=
 ⟨q,let⟨_,_,e⟩:=q;⟨_,e⟩,λh1 h2 ⟨t,sl,e⟩ k=>⟨t,sl,k _ e⟩⟩
def del(H:Hp)(a:Addr):Hp:=λb=>if b=a then none else H b
def vI{H:Hp}{a:Addr}:del H a a=none:=by unfold del;rw[aac rfl]
def lM{H:Hp}{a b:Addr}(h:b≠a):del H a b=H b:=by unfold del;rw[aab h]
def QV{H:Hp}{a:Addr}{o:HO}(h:H a=some o):upd H a o=H:=by
 funext b
 by_cases e:b=a
 ·rw[e,ae,h]
 ·rw[ao e]
def BE{y:Str}{R:Addr}{mg:mQ}{h:Heap}(O:OwnCls y R D7 "ValueError.__new__" mg h):OwnTail h D7 (.ref R::D7):=by
 obtain⟨bm,N,nm,q,bs,I,sn,sub,ab,col,dd,k0,k1,k2,k3,k5,Z,U,Y,G,_⟩:=O.obj;exact .own U Y G .base
section
variable {prog:Program}{w:World}{A:Around}{E:dh}{K:Frag}{C R f:Addr}{name:Str}
section
variable {hp:Heap}{gn:Array GenState}{dr:Drawn}{tk:Nat}{os:OsState}
def K1{us:List Value}{Q:Fin->Shared->Prop}(X:K.In hp)(XI:oU K C R f name)(T:OwnTail hp D7 (.ref R::D7))(hl:us.length<=sizeLine)
 (go:∀h' e,Heap.MadeExcOf hp h' e (.ref C) us->wpAny (model prog w) A (call (.ref f) (.ref e::us)) (λr s'=>r = .none/\Q (.done (.ret (.ref e))) s') E ⟨h',gn,dr,tk,os⟩) :
 wpAny (model prog w) A (Builtin.«type.__call__» ⟨.ref C::us,[]⟩) Q E ⟨hp,gn,dr,tk,os⟩:=by
 have F:=abT;obtain⟨nm,q,N,bs,hd,sn,sub,ab,col,dd,k0,k1,k2,k3,k5,Z⟩:=XI.obj;have G:=X _ _ Z
 repeat (first | with_reducible refine wpAny_madeBy_exc G ?_ | with_reducible refine wpAny_loadPart_at G ?_ | wp_step)
 refine codeAny_call_builtin_code (Code.quiet_builtin _ F.quiet) (wpAny_check_new_subT F T G (codeAny_exc_new_subT F T G ?_ hl));show wpAny _ _ _ _ _ ⟨_,_,_,_,_⟩;generalize I:(hp.push { cls:=.type "tuple",data:=.seq us.toArray}).push { cls:=.ref C,data:=.fields #[.ref hp.objs.size,.none,.none,.none,.bool false,.none]}=h2;have O:∀b o,hp.get? b=some o->h2.get? b=some o:=λb o e=>by rw[<-I];exact aak _ (aak _ e)
 have Y:K.In h2:=X.keeps O;have vJ:=O _ _ G;have he:h2.get? (hp.objs.size+1)=some { cls:=.ref C,data:=.fields #[.ref hp.objs.size,.none,.none,.none,.bool false,.none]}:=by rw[<-I];heap_get
 have U:(Value.ref C::Value.ref R::D7).contains (.ref C)=true:=by simp
 unfold isInstance
 repeat (first | with_reducible refine wpAny_loadPart_at he ?_ | (with_reducible refine wpAny_isSubtype_exc vJ ?_;rw[U]) | wp_step)
 show wpAny _ _ (typeLookup (.ref C) _) _ _ ⟨_,_,_,_,_⟩;refine Looks.here (s:=⟨h2,gn,dr,tk,os⟩) (looks_findIn Y XI.init) ?_;refine aaF (aN (Looks.here (s:=⟨h2,gn,dr,tk,os⟩) (bind_fn Y (.ref (hp.objs.size+1)) (beq_iff_eq.mp XI.fn)) ?_));refine aN (aaD (go h2 (hp.objs.size+1) ⟨O,adk (abF _),hp.objs.size,he,adk (aaf _),?_⟩) (λr s' z=>?_) λ_ _ z=>z)
 ·rw[<-I];exact aak _ (Heap.get?_push_at rfl rfl)
 ·obtain⟨rfl,z⟩:=z
  wp_walk
  exact z
def K2{us:List Value}{Q:dh}(X:K.In hp)(XI:oU K C R f name)(T:OwnTail hp D7 (.ref R::D7))(hl:us.length<=sizeLine)
 (go:∀h' e,Heap.MadeExcOf hp h' e (.ref C) us->wpAny (model prog w) (A.under (.builtin "type.__call__" ⟨.ref C::us,[]⟩)) (call (.ref f) (.ref e::us)) (λr s'=>r = .none/\Q (.ref e) s') E ⟨h',gn,dr,tk,os⟩) :
 wpAny (model prog w) A (call (.ref C) us) Q E ⟨hp,gn,dr,tk,os⟩:=by
 obtain⟨nm,q,N,bs,hd,sn,sub,ab,col,dd,k0,k1,k2,k3,k5,I⟩:=XI.obj;have G:=X _ _ I;have O:=tc_lookup;have U:=tc_bind (.ref C);have Y:(⟨hp,gn,dr,tk,os⟩:Shared).TypeIs (.ref C) "type":=⟨_,G,rfl⟩;refine wpAny_call (codeAny_of_tree ?_);show wpAny _ _ (callAny (.ref C) _) _ _ ⟨_,_,_,_,_⟩
 repeat (any_goals (first | assumption | wp_step | with_reducible refine wpAny_loadPart_at G ?_))
 refine⟨rfl,codeAny_call_builtin_at (Code.quiet_builtin _ (by decide +kernel)) entry_typeCall (wpAny_check_type_call_sub G (K1 X XI T hl go))⟩
end
def D8{M:Model}{env:Env}{s:Shared}{x:Sem Value}{Q:Flow->Shared->Prop}(XI:oU K C R f name)(hh:A.handled=none)
 (h:wpAny M A x (λv s1=>∃e t od sl,v = .ref e/\K.In s1.heap/\s1.heap.get? e=some { cls:=.ref C,dict:=od,data:=.fields #[.ref t,.none,.none,.none,.bool false,.none],slots:=sl}/\E (.ref e) s1) E s) :
 wpAny M A (raiseStmt env (some x) none) Q E s:=by
 obtain⟨nm,q,N,bs,hd,sn,sub,ab,col,dd,k0,k1,k2,k3,k5,O⟩:=XI.obj;have G:(Value.ref C::Value.ref R::D7).contains (.type "BaseException")=true:=rfl;unfold raiseStmt;refine aN (aaD h (λv s1 h1=>?_) λ_ _ z=>z)
 obtain⟨e,t,od,sl,rfl,X,he,U⟩:=h1;have I:=X _ _ O;obtain⟨hp,gn,dr,tk,os⟩:=s1
 repeat (first | (with_reducible refine wpAny_isSubtype_exc I ?_;rw[G]) | with_reducible refine wpAny_loadPart_at he ?_ | with_reducible refine wpAny_loadPart_at I ?_ | wp_step)
 exact wpAny_raiseNew_none hh U
end
section
variable {X:Cx}{pq:aQ}{σ:St}{H:Hp}{s:Shared}
def Inv.Ob{ea:Addr}{φ:Heap->Prop}(I:Inv X pq σ H s)(h:H ea=some (.ext φ))(h0:X.s₀.heap.get? ea=none):Inv X pq σ (del H ea) s:=by
 have ne:∀b u,H b=some u->(∀ψ,u≠.ext ψ)->b≠ea:=λb u e z y=>by
  subst y;rw[h]at e;exact z φ (Option.some.inj e).symm
 have none_of:∀b,H b=none->del H ea b=none:=λb e=>by
  by_cases z:b=ea
  ·rw[z];exact vI
  ·rw[lM z];exact e
 refine⟨I.ok,I.os,I.bare,⟨I.base.keep,I.base.slot,λb ob e n hx=>none_of b (I.base.free b ob e n hx),I.base.there,λb xs e=>?_,λb ob u e=>?_,λb ps e=>?_⟩,I.loc,I.cell,none_of _ I.free,λx c e=>none_of _ (I.ee x c e),λp hp=>?_,λb u e=>?_,I.len⟩
 ·have q:=I.base.tups b xs e;rw[lM (ne b _ q (λψ z=>by cases z))]
  exact q
 ·have q:=I.base.jS b ob u e;rw[lM (ne b _ q (λψ z=>by cases z))]
  exact q
 ·obtain⟨more,q⟩:=I.base.kR b ps e;exact⟨more,by rw[lM (ne b _ q (λψ z=>by cases z))];exact q⟩
 ·obtain⟨a1,a2,G⟩:=I.pin p hp;exact⟨a1,none_of _ a2,G⟩
 ·have hb:b≠ea:=λz=>by rw[z,vI]at e;cases e
  rw[lM hb]at e;exact(I.hok b u e).stay (λ_ _ _ q=>q) (λc q=>by rw[lM (ne c _ q (λψ z=>by cases z))];exact q) λc xs q=>by rw[lM (ne c _ q (λψ z=>by cases z))];exact q
end
def Oc(C:Addr)(sp:Sp)(E:XK)(t:TA):TS:=λ_ σ H=>t σ H λvs H1=>vs.length<=sizeLine/\∀x,H1 x=none->
 sp (.ref x::vs) (upd H1 x (qu x (.ref C) none)) (λv H2=>v = .eE/\∃od,H2 x=some (qu x (.ref C) od)/\E (.ref C) od (del H2 x)) λ_ _ _=>False
section
variable {X:Cx}{E:XK}{C R f:Addr}{name:Str}
def Ht{k:Nat}{fd:FuncData}{ps:List Str}{sp:Sp}{x y:Str}{e:Expr}{es:List Expr}{ta:TA}{np cpos pos:Pos}(O:Out X E)(hc:X.calm=true)(hg:Gl X x)(hm:X.mg x=some (.ref C))(XI:oU X.K C R f name)
 (OR:∀h,X.K.In h->h.Ns mainGlobals X.mg->OwnCls y R D7 "ValueError.__new__" X.mg h) (G:lE X.prog X.w X.K X.mg X.base De k f fd ps sp) (hr:eN (k+1) X.A) (hb:Binds X.K fd ps []) (ha:PA X (e::es) ta)
 (he:starEach (e::es) X.env=(false,eval e X.env)::starEach es X.env:=by rfl) (hpl:(backTo cpos (starEach es X.env)).any (·.1)=false:=by rfl) (hd:(x==("__debug__":Str))=false:=by decide) :
 PS X (.Raise (some (.Call (.Name x np) (e::es) [] cpos)) none pos) (Oc C sp E ta):=by
 intro pq s σ H D I h;rw[arm_exec_Raise];refine aN (wpAny_standAt (D8 XI (I.ok.hd hc) ?_));refine aN (aaD (wpAny_Call_Name_kw (nS I hg hm (PySem.W.callWith_K (h₀:=X.base) I.ok.mod.Sy XI.kp (dP (ha cpos pq s σ H _ I h) λus s1 ⟨vs,H1,U,r,hl,q⟩=>⟨U.o5,?_⟩) he hpl) hd)) (λv s3 z=>aN (wpAny_standAt (aah z))) λ_ _ z=>z)
 obtain⟨hp,gn,dr,tk,os⟩:=s1;refine K2 U.o5 XI (BE (OR _ U.o5 (U.mod.glob.keeps U.bk))) (by show us.length<=_;rw[<-r.length];exact hl) λh' x mk=>?_
 have new:hp.get? x=none:=mk.new;have nx:H1 x=none:=by
  cases hz:H1 x with
  | none=>rfl
  | some z =>
    obtain⟨ob,e⟩:=(U.hok x z hz).thing;rw[show hp.get? x=some ob from e]at new
    cases new
 have Z:X.s₀.heap.get? x=none:=by
  cases hz:X.s₀.heap.get? x with
  | none=>rfl
  | some o =>
    obtain⟨o',e⟩:=U.base.there x o hz (by rw[O.ex];simp)
    rw[show hp.get? x=some o' from e]at new
    cases new
 obtain⟨t,gx,_,_⟩:=mk.there;have I2:Inv X pq σ H1 ⟨h',gn,dr,tk,os⟩:=U.kept (t':=tk) mk.keeps;have I3:Inv X pq σ (upd H1 x (qu x (.ref C) none)) ⟨h',gn,dr,tk,os⟩:=by
  refine I2.JX nx Z (λz=>?_) (λy c e z=>?_) (λp Dg z=>?_) (zB ⟨t,#[],gx⟩)
  ·obtain⟨m,⟨o,_,_,Y,_⟩,_⟩:=U.loc;rw[<-z,show hp.get? x=none from new]at Y
   cases Y
  ·obtain⟨v,o,Y,_⟩:=U.cell y c e;rw[z,show hp.get? x=none from new]at Y
   cases Y
  ·have q:=(U.pin p Dg).1;rw[z,show hp.get? x=none from new]at q
   cases q
 have r2:Vals (V.ref x::vs) (Value.ref x::us):=.cons rfl r;have hq:=q x nx;have ag:(Value.ref x::us++[]).length=ps.length:=by
  have e:=r2.length;rw[G.len _ _ _ _ hq]at e;rw[aby];exact e.symm
 have uH:=hb ⟨h',gn,dr,tk,os⟩ (Value.ref x::us) I3.o5 ag;rw[aby]at uH;refine wpAny_call (codeAny_mono (G.run _ X.stack _ _ ⟨Value.ref x::us,[]⟩ (Value.ref x::us) _ _ _ (hr.make C us []) (I3.S8.make C us []) uH r2 hq) λr s' z=>?_)
 cases r with
 | error e=>exact False.elim z
 | ok fl =>
   cases fl with
   | ret u =>
     obtain⟨v,H',I4,rv,ev,od,hx,qE⟩:=I3.after z;subst ev;obtain⟨⟨t2,sl,g2⟩,_⟩:=(show bg X.prog X.w H' s'.heap x (qu x (.ref C) od) from I4.hok x _ hx)
     refine⟨rv,x,t2,od,sl,rfl,I4.o5,g2,?_⟩;exact O.TQ (I4.Ob hx Z) g2 rfl rfl rfl rfl vI Z ⟨_,rfl⟩ qE
   | next=>exact False.elim z
   | brk=>exact False.elim z
   | cont=>exact False.elim z
end
def tXI(C:Addr)(t:TA):TE:=λσ H Q=>t σ H λvs H1=>∃x od ws,vs = .ref x::ws/\ws.length<=sizeLine/\H1 x=some (qu x (.ref C) od)/\∀H2,H2=upd H1 x (qu x (.ref C) od)->Q .eE H2
section
variable {X:Cx}{C R f:Addr}{name:Str}
def K3{y z:Str}{e:Expr}{es:List Expr}{t:TA}{np apos pos:Pos}{pl:Sem Bool}(XI:oU X.K C R f name)(OR:∀h,X.K.In h->h.Ns mainGlobals X.mg->OwnCls z R D7 "ValueError.__new__" X.mg h)(hg:Gl X y)(hm:X.mg y=some (.ref R))(ha:PA X (e::es) t)
 (hst:starEach (e::es) X.env=(false,eval e X.env)::starEach es X.env:=by rfl) (hpl:(backTo pos (starEach es X.env)).any (·.1)=false:=by rfl) (hd:(y==("__debug__":Str))=false:=by decide)
 (ht:eval (.Call (.Attribute (.Name y np) "__init__" apos) (e::es) [] pos) X.env=(do
  let ov←eval (.Name y np) X.env
  standAt apos.atName
  let(f,fst1)←holding [ov] (getMethod ov "__init__" pl)
  callWith pos f fst1 (backTo pos (starEach (e::es) X.env)) (backToKw pos (keywordEach [] X.env))):=by rfl) :
 PE X (.Call (.Attribute (.Name y np) "__init__" apos) (e::es) [] pos) (tXI C t):=by
 intro pq s σ H Q I h;refine PySem.W.methodCall_KW (pl:=pl) (nS I hg hm (method_cls I.o5 XI.rg (cls_value I.o5 XI.rd XI.ri (by rfl) ?_)) hd) ht
 have It:Inv X pq σ H { s with toks:=s.toks+1}:=I.tok _
 have hA:=ha pos pq _ σ H _ It h;rw[hst]at hA ⊢;refine Calls.callWith_builtin (by show(false || (backTo pos (starEach es X.env)).any (·.1))=false;rw[hpl];rfl) (Calls.evalArgs_plain (dP hA λus s2 ⟨vs,H2,G,r2,x,od,ws,ev,hl,hx,q⟩=>?_))
 subst ev;obtain⟨U,O,rfl,Y,Z⟩:∃U O,us=U::O/\RelV (.ref x) U/\Vals ws O:=by
  cases r2 with
  | cons Y Z=>exact⟨_,_,rfl,Y,Z⟩
 cases(show U=Value.ref x from Y)
 have F:=abT;have T:=BE (OR _ G.o5 (G.mod.glob.keeps G.bk));obtain⟨nm,q',N,bs,hd,sn,sub,ab,col,dd,k0,k1,k2,k3,k5,lk⟩:=XI.obj;obtain⟨⟨t0,sl,gx⟩,_⟩:=(show bg X.prog X.w H2 s2.heap x (qu x (.ref C) od) from G.hok x _ hx)
 have hC:=G.o5 _ _ lk;obtain⟨hp,gn,dr,tk,os⟩:=s2;have hz:O.length<=sizeLine:=by rw[<-Z.length];exact hl
 refine wpAny_call (codeAny_call_builtin F.init.plain F.initEntry (wpAny_check_init_subT F T hC gx rfl ?_));have Ze:=aak (h:=hp) { cls:=.type "tuple",data:=.seq O.toArray} gx
 wp_walk
 refine⟨.eE,_,?_,rfl,q _ rfl⟩;have ag:hp.objs.size≠x:=abC (aal gx);refine Inv.write (e:=x) G (by rw[hx];exact True.intro) (.inl rfl) (λb u hb e=>?_) ?_ ?_
 ·rw[abr _ _ (aba hb)];exact aak _ e
 ·exact⟨_,abn _ Ze rfl⟩
 ·exact zB ⟨hp.objs.size,sl,abn _ Ze rfl⟩
end
def Ug(C:Addr)(ta tv:TE)(f:Str):TS:=λD σ H=>tv σ H λy H1=>ta σ H1 λx H2=>∃a,x = .ref a/\H2 a=some (qu a (.ref C) none)/\∀d,H2 d=none->d≠a->D.nx σ (upd (upd H2 a (qu a (.ref C) (some d))) d (.xd [(f,y)]))
section
variable {prog:Program}{w:World}{A:Around}{E:dh}{K:Frag}{C R f:Addr}{name:Str}
def Hu{s:Shared}{x t:Addr}{sl:Array (Option Value)}{v:Value}{Q:Unit->Shared->Prop}(X:K.In s.heap)(XI:oU K C R f name)
 (hx:s.heap.get? x=some { cls:=.ref C,dict:=none,data:=.fields #[.ref t,.none,.none,.none,.bool false,.none],slots:=sl})
 (go:∀h' tk,h'.get? x=some { cls:=.ref C,dict:=some s.heap.objs.size,data:=.fields #[.ref t,.none,.none,.none,.bool false,.none],slots:=sl}->h'.Ns1 s.heap.objs.size (λy=>if y=name then some v else none)->
  (∀b o,b≠x->s.heap.get? b=some o->h'.get? b=some o)->Q () { s with heap:=h',toks:=tk}):wpAny (model prog w) A (setAttr (.ref x) name v) Q E s:=by
 have I:InstAt s.heap x { cls:=.ref C,dict:=none,data:=.fields #[.ref t,.none,.none,.none,.bool false,.none],slots:=sl} C none:=⟨hx,rfl,rfl,trivial⟩;have SF:=PySem.F.store_ValueError;have O:=PySem.F.store_object;obtain⟨nm,q',N,bs,hd,sn,sub,ab,col,dd,k0,k1,k2,k3,k5,lk⟩:=XI.obj;refine set_plain X I XI.sa ?_;have G:clsIn K C=some { name:=nm,bases:=bs,mro:=.ref C :: .ref R::D7,ns:=N,qualname:=q',hasDict:=hd,slotNames:=sn,subclasses:=sub,abstract:=ab,collection:=col,hasDel:=false}:=by
  unfold clsIn;rw[lk]
 have Z:hd=true:=by
  have z:=XI.hd;unfold hasDictIn at z;rw[G]at z;exact z
 subst Z;have L0:=I.type (M:=model prog w);have hm:Looks (model prog w) s.heap (mroOf (.ref C)) (.ref C :: .ref R::D7):=(looks_clsIn X G).andThen .now;have sb:Looks (model prog w) s.heap (isInstance (.ref x) (.type "object")) true:=L0.andThen (looks_mroIn X (by unfold mroIn;rw[G];rfl))
 obtain⟨attr,ag,hr⟩:=Option.bind_eq_some_iff.mp XI.tk;have L3:Looks (model prog w) s.heap (storeTaker? attr) none:=by
  cases attr with
  | none=>exact .now
  | some a =>
    obtain⟨b,hb,z⟩:=tD.mp hr;refine(looks_takesIn X hb).andThen ?_;cases b with
    | true=>cases z
    | false=>exact .now
 refine codeAny_call_builtin O.slot.plain O.entry (@check_slot (model prog w) _ _ { s with toks:=s.toks+1} "object.__setattr__" "object" "__setattr__" (.ref x) [.str name s.toks,v] [] _ O.kind O.split sb (O.args (.ref x) (.str name s.toks) v) ?_)
 rw[osa_eq,refuse_eq];refine aN (aN (Looks.here (s:={ s with toks:=s.toks+1}) L0 (aN (Looks.here (s:={ s with toks:=s.toks+1}) hm ?_))))
 rw[refuseLoop_ref,refuseLoop_ref,SF.passes];refine aah (aN (Looks.here (s:={ s with toks:=s.toks+1}) L0 (aN (Looks.here (s:={ s with toks:=s.toks+1}) (looks_findIn X ag) (aN (Looks.here (s:={ s with toks:=s.toks+1}) L3 ?_))))))
 refine aN (aah (aN (aN (wpAny_loadPart hx (aN (Looks.here (s:={ s with toks:=s.toks+1}) (looks_clsIn X G) ?_))))))
 have Zf:(s.heap.push { cls:=.type "dict",data:=.dict #[]}).get? x=some { cls:=.ref C,dict:=none,data:=.fields #[.ref t,.none,.none,.none,.bool false,.none],slots:=sl}:=aak _ hx;have U:x≠s.heap.objs.size:=aay (aal hx);refine aN (wpAny_alloc' (aN (wpAny_update' Zf (aah ?_))));generalize Xv:((s.heap.push { cls:=.type "dict",data:=.dict #[]}).update x λo=>{ o with dict:=some s.heap.objs.size})=h2
 have hd2:h2.get? s.heap.objs.size=some { cls:=.type "dict",data:=.dict #[]}:=by
  rw[<-Xv];exact(Heap.get?_update_ne _ _ _ _ U.symm).trans (Heap.get?_push_at rfl rfl)
 have Jg:h2.get? x=some { cls:=.ref C,dict:=some s.heap.objs.size,data:=.fields #[.ref t,.none,.none,.none,.bool false,.none],slots:=sl}:=by
  rw[<-Xv];exact abn _ Zf rfl
 have kk:∀b o,b≠x->s.heap.get? b=some o->h2.get? b=some o:=λb o n e=>by
  rw[<-Xv];exact(Heap.get?_update_ne _ _ _ _ n).trans (aak _ e)
 have ar:h2.Ns s.heap.objs.size (λ_=>none):=⟨_,#[],_,hd2,rfl,λe he=>absurd he (by simp),λ_=>rfl⟩
 show wpAny _ _ (storeInDict s.heap.objs.size (.str name s.toks) name v) _ _ _;unfold storeInDict newKeyGuard;refine aN (aah (aN (wpAny_nsSet1 (Heap.Ns1.of_empty ar) λh' Y hs=>?_)))
 obtain⟨oD,aT,a3,aw,ax,Uh⟩:=Y.count (Within.cons name v Within.nil);refine aN (wpAny_lookBehind aw (by rw[ax];exact pastItsLine_dict (aaE Uh (by rw[aa1,ab7,sizeLine_eq];lia))) ?_)
 refine aah (go h' _ ((hs.2 x U).trans Jg) Y λb o n e=>?_)
 exact(hs.2 b (aay (aal e))).trans (kk b o n e)
end
section
variable {X:Cx}{C R f:Addr}{name:Str}{o value:Expr}{pos pos' : Pos}{ta tv:TE}
def Od(XI:oU X.K C R f name)(ha:PE X o ta)(hv:PE X value tv)(hs:swapsWith value (some (.Attribute o name pos')) pos.line X.env=pure false:=by rfl):PS X (.Assign [.Attribute o name pos'] value pos) (Ug C ta tv name):=by
 intro pq s σ H D I h;refine plainObj_wpAny_Assign_Attribute (dP (hv pq s σ H _ I h) λu s1 ⟨y,H1,Z,ry,q⟩=>dP (ha pq s1 σ H1 _ Z q) λov s2 ⟨x,H2,G,rx,a,ex,hx,q2⟩=>?_) hs
 subst ex;cases(show ov=Value.ref a from rx)
 obtain⟨⟨t,sl,O⟩,_⟩:=(show bg X.prog X.w H2 s2.heap a (qu a (.ref C) none) from G.hok a _ hx)
 refine Hu G.o5 XI O λh' tk U nd kk=>?_
 have fr:H2 s2.heap.objs.size=none:=G.hok.fresh (aaf _);have ne:s2.heap.objs.size≠a:=abC (aal O);have I3:Inv X pq σ (upd H2 a (qu a (.ref C) (some s2.heap.objs.size))) { s2 with heap:=h',toks:=tk} :=
  Inv.write (e:=a) G (by rw[hx];exact True.intro) (.inl rfl) (λb u hb e=>kk b u hb e) ⟨_,U⟩ (zB ⟨t,sl,U⟩)
 refine⟨σ,_,I3.JX (ea:=s2.heap.objs.size) (o:=.xd [(name,y)]) (by rw[ao ne];exact fr) ?_ ?_ ?_ ?_ ⟨_,nd,λg=>?_⟩,q2 _ fr ne⟩
 ·cases hz:X.s₀.heap.get? s2.heap.objs.size with
  | none=>rfl
  | some ob=>exact absurd (aap (aal hz) G.sz) (aa8 _)
 ·exact abC G.lt
 ·intro y' c e z;obtain⟨v,ob,Y,_⟩:=G.cell y' c e;rw[z]at Y;exact absurd (aal Y) (aa8 _)
 ·intro p hp z;have q:=(G.pin p hp).1;rw[z]at q;exact absurd (aal q) (aa8 _)
 ·show oF (List.lookup g [(name,y)]) (if g=name then some u else none)
  by_cases z:g=name
  ·have hb:(g==name)=true:=beq_iff_eq.mpr z;rw[aac z];simp only[List.lookup,hb];exact ry
  ·have hb:(g==name)=false:=beq_eq_false_iff_ne.mpr z;rw[aab z];simp only[List.lookup,hb];exact True.intro
end
section
variable {prog:Program}{w:World}{A:Around}{E:dh}{K:Frag}{C R f x d:Addr}{name:Str}{s:Shared}
def Oe{ox:Obj}{vs:Array Value}{mA:mQ}{v:Value}{b:Bool}{Q:dh}(X:K.In s.heap)(XC:pB K C)(XI:oU K C R f name)(hx:s.heap.get? x=some ox)(hc:ox.cls = .ref C)(hd:ox.data = .fields vs)(hdx:ox.dict=some d)
 (nd:s.heap.Ns1 d mA) (hv:mA name=some v) (hh:handedIn v=true) (q:Q v { s with toks:=s.toks+1}):wpAny (model prog w) A (getAttr (.ref x) name b) Q E s:=by
 obtain⟨hp,gn,dr,tk,os⟩:=s;obtain⟨od,ho,hl⟩:=yb nd;have I:InstAt hp x ox C (some od):=by
  refine⟨hx,hc,?_,?_⟩
  ·unfold notCls;rw[hd]
  ·rw[hdx];exact ho
 have G:=I.type (M:=model prog w);have U:=looks_findIn (M:=model prog w) X XC.ga;have Y:=looks_findIn (M:=model prog w) X XC.gh;have Z:Looks (model prog w) hp (isInstance (.ref x) (.type "BaseException")) true:=G.andThen (looks_mroIn (M:=model prog w) X XC.mb);have L2:Looks (model prog w) hp (find (.ref x) (.ref C) name) (.value v):=by
  obtain⟨cd,O,VM⟩:=any_some XI.hd;have Lo:=looks_own (M:=model prog w) (name:=name) (r:=some v) X I O (by unfold PySem.W.ownOf;rw[aac VM];exact(hl name).trans (by rw[hv]))
  have Lc:Looks (model prog w) hp (ownThenClass (.ref x) name none none) (.value v):=Lo.andThen (Looks.tag .now);exact(looks_findIn X XI.no).andThen (Looks.andThen (a:=none) .now (Looks.andThen (a:=none) .now Lc))
 unfold getAttr getAttrBy;refine aN (wpAny_mkText (aaF (aN (G.at (aN (U.at ?_))))));show wpAny _ _ (getAttrByItsOwn (.ref x) (.str name tk) (.ref C) (.builtin "BaseException.__getattribute__") true b) _ _ _;unfold getAttrByItsOwn;refine aN (Looks.at (show Looks (model prog w) hp (hookBefore (.ref C)) none from Y) (aN (wpAny_attempt (aaF ?_))))
 unfold callGetattribute;rw[aab (by rw[show onTheHeap (Value.builtin "BaseException.__getattribute__")=false from rfl,abE];decide)]
 unfold boundAndCalled;rw[F.attrBase_ValueError.ga.bind (.ref x)];refine aN (aah ?_);show wpAny _ _ (call (.builtin "BaseException.__getattribute__") [.ref x,.str name tk]) _ _ _;refine wpAny_call (codeAny_call_builtin F.attrBase_ValueError.ga.plain F.entry_bexc_ga (vc Z ?_));refine aN (aah (aN (aah (aN (G.at (aN (L2.at (aah ?_))))))));show wpAny _ _ (handedOut v) _ _ _;rw[handedOut_of hh];exact aah q
end
def Ui(K:bN)(ta:TE)(f:Str):TE:=λσ H Q=>ta σ H λx H1=>∃a C R g d fs v,x = .ref a/\H1 a=some (qY a (.ref C) (some d))/\H1 d=some (.xd fs)/\fs.lookup f=some v/\pB K C/\oU K C R g f/\Q v H1
def QW(K:Frag):List V->Hp->VK->Prop:=λxs H Q=>∃x c D od u b,xs=[.ref x,c]/\Qp c=some u/\H x=some (qY x (.ref D) od)/\pB K D/\kitOne K (.ref D) u=some b/\Q (.bl b) H
section
variable {X:Cx}
def F9(K:bN){e:Expr}{f:Str}{pos:Pos}{ta:TE}(he:PE X e ta)(hb:attributeBase e f X.env (eval e X.env)=eval e X.env:=by rfl)(hK:X.K=K:=by rfl):PE X (.Attribute e f pos) (Ui K ta f):=by
 subst hK;intro pq s σ H Q I h;refine Np hb (dP (he pq s σ H _ I h) λu s1 ⟨x,H1,G,rx,a,C,R,g,d,fs,v,ex,ha,hd,U,Y,Z,q⟩=>?_)
 subst ex;cases(show u=Value.ref a from rx)
 obtain⟨⟨oe,vs,e1,e2,e3,_,e5⟩,_⟩:=(show bg X.prog X.w H1 s1.heap a (qY a (.ref C) (some d)) from G.hok a _ ha)
 obtain⟨mA,nd,r⟩:=(show bg X.prog X.w H1 s1.heap d (.xd fs) from G.hok d _ hd)
 obtain⟨u,hu,O⟩:=oF.some_of (v:=v) (o:=mA f) (by rw[<-U];exact r f)
 exact Oe G.o5 Y Z e1 e2 e3 e5 nd hu (GI O) ⟨v,H1,G.tok _,O,q⟩
def Ga(K:Frag)(hK:X.K=K:=by rfl):fJ X (.builtin "isinstance") (QW K):=by
 subst hK;intro pq s σ H xs us Q I r h;obtain⟨x,c,D,od,u,b,rfl,rc,ty,C,e,q⟩:=h;obtain⟨O,U,rfl,Y,G⟩:∃O U,us=[O,U]/\RelV (.ref x) O/\RelV c U:=by
  cases r with
  | cons Y G =>
    cases G with
    | cons G Z =>
      cases Z;exact⟨_,_,rfl,Y,G⟩
 cases FF rc G;cases(show O=Value.ref x from Y)
 obtain⟨⟨oe,vs,e1,e2,_⟩,_⟩:=(show bg X.prog X.w H s.heap x (qY x (.ref D) od) from I.hok x _ ty)
 exact kia_one (JY C) I.o5 ⟨oe,e1,e2⟩ e (λz=>nomatch z) λtk=>⟨.bl b,H,I.tok tk,rfl,q⟩
end
end L2
namespace RM
inductive Sp(B:List Nat):Nat->Prop
 | zero:Sp B 0
 | add {x b:Nat} (h:Sp B x) (hb:b∈B):Sp B (x^^^b)
section
variable {B C:List Nat}{x y b:Nat}
def Sp.mem(h:b∈B):Sp B b:=by
 have:=Sp.add .zero h;rw[abc]at this;exact this
def Sp.xor(h:Sp B x)(h' : Sp B y):Sp B (x^^^y):=by
 induction h' with
 | zero=>rw[abp];exact h
 | add _ hb ih=>rw[<-aa9];exact .add ih hb
def Sp.mono(h:Sp B x)(hc:∀b∈B,Sp C b):Sp C x:=by
 induction h with
 | zero=>exact .zero
 | add _ hb ih=>exact ih.xor (hc _ hb)
def ig(x b:Nat):x^^^b^^^b=x:=by rw[aa9,abD,abp]
def Sp.ni:Sp (b::B) x↔Sp B x\/Sp B (x^^^b):=by
 constructor
 ·intro h
  induction h with
  | zero=>exact .inl .zero
  | add h hc G =>
    rename_i x c
    rcases aaq.mp hc with e|e
    ·subst e;rcases G with G|G
     ·exact .inr (by rw[ig];exact G)
     ·exact .inl G
    ·rcases G with G|G
     ·exact .inl (.add G e)
     ·exact .inr (by rw[aa9,acN c,<-aa9];exact .add G e)
 ·rintro(h|h)
  ·exact h.mono λc hc=>.mem (jt _ hc)
  ·have h2:Sp (b::B) (x^^^b):=h.mono λc hc=>.mem (jt _ hc)
   have:=h2.add (b:=b) aam;rw[ig]at this;exact this
def Sp.off{t:Nat}(h:Sp B x)(hz:∀b∈B,b.testBit t=false):x.testBit t=false:=by
 induction h with
 | zero=>exact abm t
 | add _ hb ih=>rw[aag,ih,hz _ hb];rfl
def Sp.lt{n:Nat}(h:Sp B x)(hz:∀b∈B,b<2^n):x<2^n:=by
 induction h with
 | zero=>exact aa2 n
 | add _ hb ih=>exact aaJ ih (hz _ hb)
end
inductive K4:List (Nat×Nat)->Prop
 | nil:K4 []
 | cons {t r:Nat} {rest:List (Nat×Nat)} (h:K4 rest) (hr:r.testBit t=true) (hz:∀q∈rest,q.2.testBit t=false):K4 ((t,r)::rest)
def iY(rows:List (Nat×Nat))(x:Nat):Nat:=rows.foldl (λx q=>if x.testBit q.1=true then x^^^q.2 else x) x
section
variable {rows:List (Nat×Nat)}{x t:Nat}
def zC(rows:List (Nat×Nat)):∀x,Sp (rows.map (·.2)) (x^^^iY rows x):=by
 induction rows with
 | nil=>intro x;show Sp [] (x^^^x);rw[abD];exact .zero
 | cons q rest G =>
   intro x;show Sp (q.2::rest.map (·.2)) (x^^^iY rest (if x.testBit q.1=true then x^^^q.2 else x))
   have h:=G (if x.testBit q.1=true then x^^^q.2 else x)
   by_cases e:x.testBit q.1=true
   ·rw[aac e]at h ⊢;refine Sp.ni.mpr (.inr ?_);rw[aa9,acN _ q.2,<-aa9];exact h
   ·rw[aab e]at h ⊢;exact Sp.ni.mpr (.inl h)
def Hv(hz:∀q∈rows,q.2.testBit t=false):∀{x},x.testBit t=false->(iY rows x).testBit t=false:=by
 induction rows with
 | nil=>intro x h;exact h
 | cons q rest G =>
   intro x h;have h2:(if x.testBit q.1=true then x^^^q.2 else x).testBit t=false:=by
    by_cases e:x.testBit q.1=true
    ·rw[aac e,aag,h,hz q aam];rfl
    ·rw[aab e];exact h
   exact G (λq' I=>hz q' (jt _ I)) h2
def rH(h:K4 rows):∀x,∀q∈rows,(iY rows x).testBit q.1=false:=by
 induction h with
 | nil=>intro x q G;cases G
 | cons h hr hz I =>
   rename_i t r rest
   intro x q G;show(iY rest (if x.testBit t=true then x^^^r else x)).testBit q.1=false
   rcases aaq.mp G with e|e
   ·subst e;refine Hv hz ?_
    by_cases e:x.testBit t=true
    ·rw[aac e,aag,e,hr];rfl
    ·rw[aab e];exact RV.mpr e
   ·exact I _ q e
def K5(h:K4 rows):∀{x},Sp (rows.map (·.2)) x->(∀q∈rows,x.testBit q.1=false)->x=0:=by
 induction h with
 | nil=>intro x hs _;cases hs with
   | zero=>rfl
   | add _ hb=>cases hb
 | cons h hr hz I =>
   rename_i t r rest
   intro x hs hx;have off:∀y,Sp (rest.map (·.2)) y->y.testBit t=false:=λy O=>O.off λb hb=>by
    obtain⟨q,G,rfl⟩:=aaz.mp hb;exact hz q G
   rcases Sp.ni.mp hs with hs|hs
   ·exact I hs λq G=>hx q (jt _ G)
   ·exfalso
    have h1:=off _ hs;have h2:=hx (t,r) aam;rw[aag]at h1;have h2:x.testBit t=false:=h2;rw[h2,hr]at h1;cases h1
def yD(h:K4 rows)(x:Nat):iY rows x=0↔Sp (rows.map (·.2)) x:=by
 have hs:=zC rows x
 constructor
 ·intro e;rw[e,abp]at hs;exact hs
 ·intro hx;refine K5 h ?_ (rH h x);have:=hx.xor hs;rw[<-aa9,abD,abc]at this;exact this
end
open Classical in
open Classical in
def zD{x:Nat}(h:x≠0):x.testBit x.log2=true:=adx h
def Of{x b:Nat}(hb:b≠0):min x (x^^^b)=if x.testBit b.log2=true then x^^^b else x:=by
 have ht:=zD hb;have G:b<2^(b.log2+1):=ac7;rw[abH]at G;have e:=Ring.zl x b
 by_cases h:x.testBit b.log2=true
 ·rw[aac h];have h1:2^b.log2<=x&&&b:=Nat.ge_two_pow_of_testBit (by rw[acn,h,ht];rfl)
  lia
 ·rw[aab h];have h':=RV.mpr h;have U:=Ring.zl b (2^b.log2);have Y:b&&&2^b.log2=2^b.log2:=aaG λj=>by
   rw[acn,aar]
   by_cases z:b.log2=j
   ·rw[<-z,ht];simp
   ·simp[z]
  have Z:x&&&b=x&&&(b^^^2^b.log2):=aaG λj=>by
   rw[acn,acn,aag,aar]
   by_cases z:b.log2=j
   ·rw[<-z,h'];simp
   ·simp[z]
  have h1:x&&&(b^^^2^b.log2)<=b^^^2^b.log2:=Nat.and_le_right;have h2:x&&&b<2^b.log2:=cI λj hj=>by
   rw[acn]at hj;obtain⟨I,O⟩:=Sv.mp hj;have h3:j≠b.log2:=λz=>by rw[z,h']at I;cases I
   have h4:=b8 (m:=b) (n:=b.log2+1) (by rw[abH];exact G) O
   lia
  lia
open Ring (xorL xorL_cons maskOf)
variable {N:Net}
def lN{z:Nat}:N.bL (N.fM z N.aB 0)/\N.fM z N.aB 0<2^N.n:=nV λc hc=>(bh.mp hc).1
def rJ:N.aB.Nodup:=abJ _ acB
def Hw:N.aB.Pairwise (· < ·):=abJ _ List.pairwise_lt_range
def pG{z j d:Nat}(h:N.aB[j]?=some d):(N.fM z N.aB 0).testBit d=z.testBit j:=by
 rw[Bk rJ (λc hc=>(bh.mp hc).2) h,acK]
def K6{c:Nat}(hc:c<N.n)(hf:N.jT c=false):∃j:Nat,N.aB[j]?=some c:=aaI (bh.mpr ⟨hc,hf⟩)
def QX(z y:Nat):N.fM (z^^^y) N.aB 0=N.fM z N.aB 0^^^N.fM y N.aB 0:=by
 refine kY lN.2 (aaJ lN.2 lN.2) lN.1 (bL.xor lN.1 lN.1) λc hc hf=>?_
 obtain⟨j,hj⟩:=K6 hc hf;rw[pG hj,aag,aag,pG hj,pG hj]
def K7{c j:Nat}(hc:c<N.n)(hf:N.jT c=false)(h:(N.ring c).testBit j=true):j<=c:=by
 have I:N.fg c (N.a c)=N.fg c (N.b c):=by
  unfold Net.jT at hf
  simpa using hf
 have low:∀k,(N.trail c (N.a c)^^^N.trail c (N.b c)^^^2^c).testBit k=true->k<=c/\(k=c\/N.jT k=true):=λk hk=>by
  rw[aag,aag,aar]at hk
  by_cases e:c=k
  ·exact⟨by lia,.inl e.symm⟩
  ·rw[dO e,aa7]at hk;cases h1:(N.trail c (N.a c)).testBit k with
   | true=>exact⟨aaO (ez _ _ _ h1).1,.inr (ez _ _ _ h1).2⟩
   | false =>
     rw[h1,abK]at hk;exact⟨aaO (ez _ _ _ hk).1,.inr (ez _ _ _ hk).2⟩
 have e:N.ring c=N.trail c (N.a c)^^^N.trail c (N.b c)^^^2^c:=by
  refine kY (lJ hc) (cI λk hk=>ab5 (low k hk).1 hc) (h8 hc) (λx hx=>?_) λd hd G=>?_
  ·rw[gm,gm,m9 c (aaO hc),m9 c (aaO hc),kD hc,I];unfold Net.inc;cases decide (N.a c=x)<;>cases decide (N.b c=x)<;>cases decide (N.fg c (N.b c)=x)<;>rfl
  ·rw[gp hf G];cases q:(N.trail c (N.a c)^^^N.trail c (N.b c)^^^2^c).testBit d with
   | true =>
     rcases(low d q).2 with z|z
     ·rw[z];simp
     ·rw[G]at z;cases z
   | false =>
     refine dO λz=>?_
     subst z;rw[aag,aag,aar,cD rfl]at q;have t1:(N.trail c (N.a c)).testBit c=false:=by
      cases h1:(N.trail c (N.a c)).testBit c with
      | false=>rfl
      | true=>exact absurd (ez _ _ _ h1).1 (aa8 _)
     have O:(N.trail c (N.b c)).testBit c=false:=by
      cases h1:(N.trail c (N.b c)).testBit c with
      | false=>rfl
      | true=>exact absurd (ez _ _ _ h1).1 (aa8 _)
     rw[t1,O]at q;cases q
 rw[e]at h;exact(low j h).1
def yE{z j:Nat}:∀{l:List Nat} {i:Nat},(N.fM z l i).testBit j=true->∃k c,l[k]?=some c/\z.testBit (i+k)=true/\(N.ring c).testBit j=true
 | [],_,h=>by simp[Net.fM]at h
 | c::r,i,h=>by
   unfold Net.fM at h;rw[aag]at h
   by_cases q:z.testBit i=true/\(N.ring c).testBit j=true
   ·exact⟨0,c,rfl,by simpa using q.1,q.2⟩
   ·have G:(if z.testBit i=true then N.ring c else 0).testBit j=false:=by
     split
     ·next hz=>cases e:(N.ring c).testBit j with
       | false=>rfl
       | true=>exact absurd ⟨hz,e⟩ q
     ·simp
    rw[G,abK]at h;obtain⟨k,d,h1,h2,I⟩:=yE h;exact⟨k+1,d,by simpa using h1,by rw[show i+(k+1)=i+1+k by lia];exact h2,I⟩
def Gb{x y:Nat}(i:Nat)(h1:x.testBit i=false)(h2:y.testBit i=true)(h:∀j,i<j->x.testBit j=y.testBit j):x<y:=by
 have G:x/2^(i+1)=y/2^(i+1):=aaG λj=>by
  rw[Nat.testBit_div_two_pow,Nat.testBit_div_two_pow];exact h _ (by lia)
 have hx:x%2^(i+1)<2^i:=Nat.lt_pow_two_of_testBit _ λk hk=>by
  rw[Nat.testBit_mod_two_pow]
  by_cases e:k=i
  ·subst e;rw[h1,abE]
  ·rw[dO (by lia),acQ]
 have O:2^i<=y%2^(i+1):=Nat.ge_two_pow_of_testBit (by rw[Nat.testBit_mod_two_pow,h2,cD (acf _)];rfl)
 have I:=Nat.div_add_mod x (2^(i+1));have U:=Nat.div_add_mod y (2^(i+1));rw[G]at I
 lia
def Gd{z y:Nat}(h:z<y)(hy:y<2^N.aB.length):N.fM z N.aB 0<N.fM y N.aB 0:=by
 have hd:z^^^y≠0:=λe=>by
  have:z=y:=by
   have:=aaU (· ^^^ y) e
   simpa[aa9]using this
  lia
 have top:=adx hd;have above:∀k,(z^^^y).log2<k->(z^^^y).testBit k=false:=λk hk=>aaX (aap (ac7) (abf (by decide) hk))
 generalize hi:(z^^^y).log2=i at top above;have same:∀k,i<k->z.testBit k=y.testBit k:=λk hk=>by
  have:=above k hk;rw[aag]at this;cases hz:z.testBit k<;>cases hy:y.testBit k<;>rw[hz,hy]at this<;>first | rfl | cases this
 have I:z.testBit i=false/\y.testBit i=true:=by
  rw[aag]at top;cases hz:z.testBit i with
  | false =>
    rw[hz,abK]at top;exact⟨rfl,top⟩
  | true =>
    have O:y.testBit i=false:=by
     cases q:y.testBit i with
     | false=>rfl
     | true=>rw[hz,q]at top;cases top
    exact absurd (Gb i O hz λk hk=>(same k hk).symm) (by lia)
 have Y:i<N.aB.length:=b8 hy I.2;have hc:N.aB[i]?=some N.aB[i]:=aad Y;refine Gb N.aB[i] (by rw[pG hc];exact I.1) (by rw[pG hc];exact I.2) λj hj=>?_
 have U:(N.fM (z^^^y) N.aB 0).testBit j=false:=by
  cases q:(N.fM (z^^^y) N.aB 0).testBit j with
  | false=>rfl
  | true =>
    obtain⟨k,c,h1,h2,Z⟩:=yE q;rw[acK]at h2;have hk:k<=i:=by
     by_cases hk:k<=i
     ·exact hk
     ·rw[above k (by lia)]at h2
      cases h2
    obtain⟨mV,G⟩:=ju.mp h1;obtain⟨c1,c2⟩:=bh.mp (iV h1);have l1:=K7 c1 c2 Z;have l2:c<=N.aB[i]:=by
     by_cases e:k=i
     ·subst e;exact adA G.symm
     ·rw[<-G];exact aaO (abW.mp Hw k i mV Y (by lia))
    lia
 rw[QX,aag]at U;cases h1:(N.fM z N.aB 0).testBit j<;>cases h2:(N.fM y N.aB 0).testBit j<;>rw[h1,h2]at U<;>first | rfl | cases U
def yF:∀{rs:List Nat},(∀r∈rs,N.bL r/\r<2^N.n)->N.bL (xorL rs)/\xorL rs<2^N.n
 | [],_=>⟨bL.zero,aa2 _⟩
 | r::l,h=>by
   rw[xorL_cons];obtain⟨h1,h2⟩:=yF λx hx=>h x (jt _ hx)
   obtain⟨G,I⟩:=h r aam;exact⟨bL.xor G h1,aaJ I h2⟩
def vK{d:Nat}(hd:N.jT d=false):∀{l:List Nat},l.Nodup->(∀c∈l,N.jT c=false)->(xorL (l.map N.ring)).testBit d=decide (d∈l)
 | [],_,_=>by simp[xorL]
 | c::r,hn,hf=>by
   obtain⟨G,I⟩:=aaV.mp hn;rw[aaN,xorL_cons,aag,vK hd I λe he=>hf e (jt _ he),gp (hf c aam) hd]
   by_cases e:c=d
   ·subst e;simp[G]
   ·have : ¬ d=c:=λz=>e z.symm
    simp[e,this]
def Hx{m:Nat}(hm:m<2^N.n)(ev:N.bL m):xorL ((N.aB.filter λd=>m.testBit d).map N.ring)=m:=by
 have hx:N.bL (xorL ((N.aB.filter λd=>m.testBit d).map N.ring))/\xorL ((N.aB.filter λd=>m.testBit d).map N.ring)<2^N.n:=yF λr hr=>by
  obtain⟨c,hc,rfl⟩:=aaz.mp hr;obtain⟨c1,c2⟩:=bh.mp (aas.mp hc).1;exact⟨h8 c1,lJ c1⟩
 refine kY hx.2 hm hx.1 ev λc hc hf=>?_
 rw[vK hf (abJ _ rJ) λd hd=>(bh.mp (aas.mp hd).1).2]
 cases q:m.testBit c with
 | true=>exact cD (aas.mpr ⟨bh.mpr ⟨hc,hf⟩,q⟩)
 | false=>exact dO λz=>by rw[(aas.mp z).2]at q;cases q
def rK{c:Nat}(hc:c<N.n)(hf:N.jT c=false):N.Ring (N.ring c):=by
 refine⟨λz=>?_,h8 hc,λq I ev=>?_⟩
 ·have h:=qi hf;rw[z]at h;simp at h
 ·have O:q<2^N.n:=cI λk hk=>b8 (lJ hc) (I k hk)
  cases qc:q.testBit c with
  | true =>
    refine .inr (kY O (lJ hc) ev (h8 hc) λd hd G=>?_)
    rw[gp hf G]
    by_cases e:c=d
    ·subst e;simp[qc]
    ·rw[dO e];cases qd:q.testBit d with
     | false=>rfl
     | true =>
       have:=I d qd;rw[gp hf G,dO e]at this;cases this
  | false =>
    refine .inl (gJ (λk hk=>?_) ev)
    rcases kX (I k hk) with e|e
    ·subst e;rw[qc]at hk;cases hk
    ·exact e
end RM
namespace L2
open PySem PySem.Spec PyProof.Rows
section
variable {X:Cx}
def Ge:∀{bs:List Bool} {G:List Value},Vals (bs.map V.bl) G->G=bs.map Value.bool
 | [],_,.nil=>rfl
 | b::bs,_,.cons r rr=>by
   cases r;rw[Ge rr];rfl
def D9:∀bs:List Bool,((List.range bs.length).all λi=>(bs[i]?).getD true)=bs.all id:=λbs=>by
 rw[abd,acg,acg]
 constructor
 ·intro h b hb;obtain⟨i,hi,e⟩:=List.getElem_of_mem hb;have:=h i (aaA.mpr hi);rw[aad hi,e]at this;exact this
 ·intro h i hi;have hi:=aaA.mp hi;rw[aad hi];exact h _ (ab4 hi)
def Xx(K:bN)(hc:X.calm=true)(hK:X.K=K:=by rfl):fJ X (.builtin "all") (λxs H Q=>∃(p:Addr) (bs:List Bool),xs=[.ref p]/\aM K H p (bs.map V.bl)/\Q (.bl (bs.all id)) H):=by
 subst hK;intro pq s σ H xs us Q I r h;obtain⟨p,bs,rfl,U,q⟩:=h;obtain⟨u,rfl,rx⟩:=vals1 r;cases rx;obtain⟨its,rv,pl,hz⟩:=I.list U;obtain rfl:=Ge rv;have lt:p<s.heap.objs.size:=by obtain⟨_,e,_⟩:=pl.isList;exact aal e
 refine call_all_walk (wpAny_pyIter_list pl.isList ⟨_,[_,p],[_],_,_,_,λi=>(bs[i]?).getD true,rfl,Walks.list (A:=X.A.in1) (I.ok.hd hc) _ p (aay lt) _,
  ⟨⟨_,aaB _ rfl,rfl,rfl⟩,pl.isList.push _⟩,λi v s' Y Z G O=>?_,λh' tk hk=>?_⟩)
 ·have G:(bs.map Value.bool)[i]?=some v:=by simpa using G
  rw[aai]at G;obtain⟨b,e,rfl⟩:=tD.mp G;simp only[e,Option.getD_some]at O;exact wpAny_truthy_bool O
 ·have z:(bs.map Value.bool).toArray.size=bs.length:=by simp
  rw[z,D9];refine⟨.bl _,H,I.kept λb o e=>hk b o (λhm=>?_) (aak _ e),rfl,q⟩
  rw[aat.mp hm]at e;exact aa8 _ (aal e)
end
end L2
namespace RM
def lsum(L:Nat->Int)(f:Nat->Bool):Nat->Int
 | 0=>0
 | n+1=>lsum L f n+(if f n=true then L n else 0)
section
variable {L:Nat->Int}
def pH{f g:Nat->Bool}:∀{n:Nat},(∀k,k<n->f k=g k)->lsum L f n=lsum L g n
 | 0,_=>rfl
 | n+1,h=>by
   unfold lsum;rw[pH λk hk=>h k (by lia),h n (by lia)]
def rL{f:Nat->Bool}:∀{n:Nat},(∀k,k<n->f k=false)->lsum L f n=0
 | 0,_=>rfl
 | n+1,h=>by
   unfold lsum;rw[rL λk hk=>h k (by lia),h n (by lia)]
   simp
def BF{f:Nat->Bool}{a:Nat}:∀{n:Nat},a<n->(∀k,k<n->f k=decide (k=a))->lsum L f n=L a
 | 0,h,_=>by lia
 | n+1,ha,h=>by
   unfold lsum
   by_cases e:a=n
   ·subst e;rw[rL λk hk=>by rw[h k (by lia)];exact dO (by lia),h a (by lia),cD rfl]
    simp
   ·rw[BF (show a<n by lia) λk hk=>h k (by lia),h n (by lia),dO (by lia)]
    simp
def rM{f g:Nat->Bool}:∀{n:Nat},(∀k,k<n->0<=L k)->(∀k,k<n->f k=true->g k=true)->lsum L f n<=lsum L g n
 | 0,_,_=>abI _
 | n+1,hL,h=>by
   unfold lsum;have G:=rM (n:=n) (λk hk=>hL k (by lia)) λk hk=>h k (by lia)
   have h0:=hL n (by lia)
   have hn:=h n (by lia)
   cases hf:f n with
   | false=>cases g n<;>simp<;>lia
   | true=>rw[hn hf];simp;lia
def BG{f g:Nat->Bool}:∀{n:Nat},(∀k,k<n->0<=L k)->lsum L (λk=>f k^^g k) n<=lsum L f n+lsum L g n
 | 0,_=>abI _
 | n+1,hL=>by
   unfold lsum;have G:=BG (f:=f) (g:=g) (n:=n) λk hk=>hL k (by lia)
   have h0:=hL n (by lia)
   cases f n<;>cases g n<;>simp<;>lia
def vL{f g:Nat->Bool}:∀{n:Nat},(∀k,k<n->f k=true->g k=false)->lsum L (λk=>f k^^g k) n=lsum L f n+lsum L g n
 | 0,_=>rfl
 | n+1,h=>by
   unfold lsum;rw[vL (f:=f) (g:=g) (n:=n) λk hk=>h k (by lia)]
   have hn:=h n (by lia)
   cases hf:f n with
   | false=>cases g n<;>simp<;>lia
   | true=>rw[hn hf];simp;lia
def vM{k n:Nat}(h:k<n):lsum L (λj=>(2^k).testBit j) n=L k:=BF h λj _=>by
 rw[aar];exact aaS.mpr eq_comm
end
def pJ{m n k:Nat}(h:m<2^n)(hb:m.testBit k=true):k<n:=by
 apply aaC;intro hk;rw[aaX (aap h (abf (by decide) (by lia)))]at hb
 cases hb
def cd(x:Nat)(s:Bool):Nat:=2*x+s.toNat
def Jn(N:Net)(k v w:Nat):Prop:=(N.a k=v/\N.b k=w)\/(N.b k=v/\N.a k=w)
def Jn.lt{N:Net}{k v w:Nat}(hk:k<N.n)(h:Jn N k v w):w<N.p:=by
 rcases h with⟨_,rfl⟩|⟨_,rfl⟩
 ·exact N.bl k hk
 ·exact N.al k hk
inductive Wl(N:Net)(L:Nat->Int)(m u:Nat):List Nat->Nat->Bool->Int->Nat->Prop
 | nil:Wl N L m u [] u false 0 0
 | go {pre:List Nat} {v w k e:Nat} {s:Bool} {z:Int} (h:Wl N L m u pre v s z e) (hk:k<N.n) (hj:Jn N k v w):Wl N L m u (pre++[cd v s]) w (s^^m.testBit k) (z+L k) (e^^^2^k)
def Wy(N:Net)(L:Nat->Int)(m u x:Nat)(s:Bool)(z:Int):Prop:=∃pre e,Wl N L m u pre x s z e
section
variable {N:Net}{L:Nat->Int}{m u:Nat}
def qv(hL:∀k,k<N.n->0<=L k)(hu:u<N.p){pre:List Nat}{v e:Nat}{s:Bool}{z:Int}(h:Wl N L m u pre v s z e):
 v<N.p/\e<2^N.n/\(∀x,N.bd e x=(decide (u=x)^^decide (v=x)))/\N.par e m=s/\lsum L (λk=>e.testBit k) N.n<=z/\0<=z:=by
 induction h with
 | nil =>
   refine⟨hu,aa2 _,λx=>?_,kZ m,?_,abI _⟩
   ·rw[nU];cases decide (u=x)<;>rfl
   ·rw[rL λk _=>abm k]
    exact abI _
 | @go pre v w k e s z h hk hj ih =>
   obtain⟨U,G,I,O,Y,Z⟩:=ih;have h0:=hL k hk;refine⟨hj.lt hk,aaJ G (abL (by decide) hk),λx=>?_,?_,?_,by lia⟩
   ·rw[gm,I,kD hk];unfold Net.inc;rcases hj with⟨rfl,rfl⟩|⟨rfl,rfl⟩
    ·cases decide (u=x)<;>cases decide (N.a k=x)<;>cases decide (N.b k=x)<;>rfl
    ·cases decide (u=x)<;>cases decide (N.a k=x)<;>cases decide (N.b k=x)<;>rfl
   ·rw[ja,O,F1 hk]
   ·have:=BG (L:=L) (f:=λj=>e.testBit j) (g:=λj=>(2^k).testBit j) hL
    rw[vM hk]at this;rw[pH (g:=λj=>e.testBit j^^(2^k).testBit j) λj _=>aag ..]
    lia
def Hy(N:Net)(L:Nat->Int)(m u x:Nat)(s:Bool):Option Int->Prop
 | none=>∀z,¬ Wy N L m u x s z
 | some d=>Wy N L m u x s d/\∀z,Wy N L m u x s z->d<=z
def qw(hL:∀k,k<N.n->0<=L k)(m:Nat){r:Nat}(hr:N.Ring r)(hm:r<2^N.n):∃x,x<N.p/\Wy N L m x x (N.par r m) (lsum L (λk=>r.testBit k) N.n):=by
 obtain⟨t0,hb⟩:∃t0,r.testBit t0=true:=by
  apply aaC;intro h;exact hr.1 (aaG λi=>by
   rw[abm];cases e:r.testBit i with
   | false=>rfl
   | true=>exact absurd ⟨i,e⟩ h)
 have O:t0<N.n:=pJ hm hb;obtain⟨acc,v,w⟩:=Hq hm hr hb;have key:∀{acc v left},Wk N r t0 acc v left->(∀k,left.testBit k=true->r.testBit k=true)/\∃pre s,Wl N L m (N.a t0) pre v s (lsum L (λk=>(r^^^left).testBit k) N.n) (r^^^left):=by
  intro acc v left w
  induction w with
  | start =>
    have e:r^^^(r^^^2^t0)=2^t0:=by rw[<-aa9,abD,abc]
    refine⟨λk hk=>?_,[]++[cd (N.a t0) false],false^^m.testBit t0,?_⟩
    ·rw[aag,aar]at hk
     by_cases e:t0=k
     ·rw[<-e];exact hb
     ·rw[dO e,aa7]at hk;exact hk
    ·rw[e,vM O];have:=Wl.go (m:=m) (L:=L) (.nil (u:=N.a t0)) O (.inl ⟨rfl,rfl⟩)
     rwa [aa6,abc]at this
  | @next acc v left t w h0 ht ih =>
    obtain⟨sub,pre,s,wl⟩:=ih;have G:=jF.mp (iV ht);have I:=sub t G.2.1;have U:=pJ hm I;refine⟨λk hk=>?_,pre++[cd v s],s^^m.testBit t,?_⟩
    ·rw[aag,aar]at hk
     by_cases e:t=k
     ·rw[<-e];exact I
     ·rw[dO e,aa7]at hk;exact sub k hk
    ·have e:r^^^(left^^^2^t)=r^^^left^^^2^t:=by rw[aa9]
     have hs:lsum L (λk=>(r^^^left^^^2^t).testBit k) N.n=lsum L (λk=>(r^^^left).testBit k) N.n+L t:=by
      rw[pH (g:=λj=>(r^^^left).testBit j^^(2^t).testBit j) λj _=>aag ..,vL,vM U]
      intro k _ hk;rw[aar];refine dO λe=>?_
      subst e;rw[aag,I,G.2.1]at hk;cases hk
     rw[e,hs];exact wl.go U (BA G.2.2)
 obtain⟨_,pre,s,wl⟩:=key w;rw[abp]at wl;have f:=qv hL (N.al t0 O) wl;have Y:N.a t0=v:=by
  have:=f.2.2.1 v;rw[hr.2.1 v f.1,cD (rfl:v=v)]at this;cases h:decide (N.a t0=v) with
  | true=>exact jR h
  | false=>rw[h]at this;cases this
 refine⟨N.a t0,N.al t0 O,pre,r,?_⟩;have hs:=f.2.2.2.1;rw[hs];rw[<-Y]at wl;exact wl
def Ea{m:Nat}:∀(c e:Nat),cnt (λk=>e.testBit k) N.n=c->e<2^N.n->N.bL e->N.par e m=true->∃r,N.Ring r/\(∀k,r.testBit k=true->e.testBit k=true)/\N.par r m=true:=by
 intro c
 induction c using Nat.strongRecOn with
 | _ c ih =>
   intro e hc he ev hp
   by_cases hr:N.Ring e
   ·exact⟨e,hr,λ_ h=>h,hp⟩
   have h0:e≠0:=λz=>by rw[z,kZ]at hp;cases hp
   obtain⟨q,G,U,q0,Y⟩:∃q,(∀k,q.testBit k=true->e.testBit k=true)/\N.bL q/\q≠0/\q≠e:=by
    apply aaC;intro h;refine hr ⟨h0,ev,λq G U=>?_⟩
    apply aaC;intro h2;exact h ⟨q,G,U,λz=>h2 (.inl z),λz=>h2 (.inr z)⟩
   have small:∀q,(∀k,q.testBit k=true->e.testBit k=true)->q≠e->cnt (λk=>q.testBit k) N.n<c:=by
    intro q G Y;have h1:=pD (f:=λk=>q.testBit k) (g:=λk=>e.testBit k) (n:=N.n) λk _ h=>G k h
    have h2:cnt (λk=>q.testBit k) N.n≠cnt (λk=>e.testBit k) N.n:=λh=>Y (aaG λk=>by
     by_cases hk:k<N.n
     ·have:=Bo (f:=λk=>q.testBit k) (g:=λk=>e.testBit k) (λk _ h=>G k h) h k hk
      cases I:e.testBit k with
      | true=>exact this I
      | false=>cases h4:q.testBit k with
        | false=>rfl
        | true=>rw[G k h4]at I;cases I
     ·cases I:e.testBit k with
      | true=>exact absurd (pJ he I) hk
      | false=>cases h4:q.testBit k with
        | false=>rfl
        | true=>rw[G k h4]at I;cases I)
    lia
   have lt:∀q,(∀k,q.testBit k=true->e.testBit k=true)->q<2^N.n:=λq G=>cI λk hk=>pJ he (G k hk)
   have Z:∀k,(e^^^q).testBit k=true->e.testBit k=true:=λk hk=>by
    rw[aag]at hk;cases I:e.testBit k with
    | true=>rfl
    | false =>
      cases h4:q.testBit k with
      | false=>rw[I,h4]at hk;cases hk
      | true=>rw[G k h4]at I;cases I
   have fin:∀q,(∀k,q.testBit k=true->e.testBit k=true)->q≠e->N.bL q->N.par q m=true->∃r,N.Ring r/\(∀k,r.testBit k=true->e.testBit k=true)/\N.par r m=true:=by
    intro q G Y U O;obtain⟨r,h1,h2,I⟩:=ih _ (small q G Y) q rfl (lt q G) U O;exact⟨r,h1,λk hk=>G k (h2 k hk),I⟩
   cases O:N.par q m with
   | true=>exact fin q G Y U O
   | false =>
     refine fin (e^^^q) Z (λz=>q0 ?_) (bL.xor ev U) (by rw[ja,hp,O];rfl)
     have:e^^^(e^^^q)=e^^^e:=by rw[z]
     rwa [<-aa9,abD,abc]at this
end
end RM
namespace Ring
open PySem L2
def bG(ts:List eO)(k:Nat):Int:=(b7 ts k).2.2
def yG(ts:List eO)(f:Nat->Bool):∀n,G0 ts f n=RM.lsum (bG ts) f n
 | 0=>rfl
 | n+1=>by
   show G0 ts f n+_=RM.lsum (bG ts) f n+_;rw[yG ts f n];rfl
def Eb{ts:List eO}{m:Nat}(hm:m<2^ts.length):lenOf ts m=RM.lsum (bG ts) (λk=>m.testBit k) ts.length:=by
 rw[G3 hm,yG]
def yH{p:Nat}{ts:List eO}(g:aD p ts):∀k,k<g.N.n->0<=bG ts k:=λk hk=>by
 have:=(g.zo _ (gw hk)).l0;unfold bG
 lia
structure Ec(H0:Hp)(D:Addr)(es:List Addr)(F:Nat->Bool->Option Int)(H:Hp):Prop where
 same:au H0 H
 nd:es.Nodup
 ne:D∉es
 fr:∀b∈es,H0 b=none
 Dn:H0 D=none
 lst:H D=some (.lst (es.map V.ref))
 at_:∀i b,es[i]?=some b->H b=some (.lst [oV (F i false),oV (F i true)])
def Ec.go{H0 H H' : Hp}{D:Addr}{es:List Addr}{F:Nat->Bool->Option Int}(h:Ec H0 D es F H)(s:au H H'):Ec H0 D es F H' :=
 ⟨h.same.trans s,h.nd,h.ne,h.fr,h.Dn,s _ _ h.lst,λi b e=>s _ _ (h.at_ i b e)⟩
def Ec.off{H0 H:Hp}{D L:Addr}{es:List Addr}{F:Nat->Bool->Option Int}(h:Ec H0 D es F H)(hL:H L=none):L∉es:=λz=>by
 obtain⟨j,hj⟩:=aaI z;have:=h.at_ j L hj;rw[hL]at this;cases this
def BH(H0:Hp)(D:Addr)(i:Nat)(acc:List V)(H:Hp):Prop:=∃es,acc=es.map V.ref/\es.length=i/\Ec H0 D es (λ_ _=>none) H
def BH.start{H0:Hp}{D:Addr}(hD:H0 D=none):BH H0 D 0 [] (upd H0 D (.lst [])) :=
 ⟨[],rfl,rfl,au.new hD,acR,ab3,λ_ h=>(ab3 h).elim,hD,ae,λi b e=>by cases e⟩
def BH.len{H0 H:Hp}{D:Addr}{i:Nat}{acc:List V}(h:BH H0 D i acc H):H D=some (.lst acc)/\acc.length<=i:=by
 obtain⟨es,rfl,e,r⟩:=h;exact⟨r.lst,by rw[aaa];lia⟩
def BH.next{H0 H:Hp}{D b:Addr}{i:Nat}{acc:List V}(h:BH H0 D i acc H)(hb:H b=none):upd H b (.lst [.eE,.eE]) D=some (.lst acc)/\BH H0 D (i+1) (acc++[.ref b]) (upd (upd H b (.lst [.eE,.eE])) D (.lst (acc++[.ref b]))):=by
 obtain⟨es,rfl,e,r⟩:=h;have I:D≠b:=λz=>by
  have:=r.lst;rw[z,hb]at this;cases this
 have O:b∉es:=r.off hb;have G:H0 b=none:=r.same.free hb;refine⟨by rw[ao I];exact r.lst,es++[b],by simp,by simp[e],(r.same.put G).put r.Dn,?_,?_,λc hc=>?_,r.Dn,by rw[ae];simp,λj c hc=>?_⟩
 ·exact adw.mpr ⟨r.nd,by simp,λx hx y Y=>by rw[aat.mp Y];exact λz=>O (z▸hx)⟩
 ·intro hm;rcases aaw.mp hm with z|z
  ·exact r.ne z
  ·exact I (aat.mp z)
 ·rcases aaw.mp hc with z|z
  ·exact r.fr c z
  ·rw[aat.mp z];exact G
 ·have Z:c≠D:=λz=>by
   subst z;rcases aaw.mp (iV hc) with z|z
   ·exact r.ne z
   ·exact I (aat.mp z)
  rw[ao Z]
  by_cases U:c=b
  ·rw[U,ae];rfl
  ·rw[ao U]
   by_cases hj:j<es.length
   ·rw[aaK hj]at hc;exact r.at_ j c hc
   ·rw[aaQ (by lia)]at hc
    have:=iV hc;exact absurd (aat.mp this) U
def k6(F:Nat->Bool->Option Int)(p:Nat):List Pr:=(List.range p).map λi=>(F i false,F i true)
def K8{F:Nat->Bool->Option Int}{p x:Nat}(h:x<p)(s:Bool):sel (KQ (k6 F p) x) s=F x s:=by
 unfold KQ k6;rw[aae,aai,abQ h];cases s<;>rfl
def K9(F:Nat->Bool->Option Int)(i:Nat):k6 F (i+1)=k6 F i++[(F i false,F i true)]:=by
 unfold k6;rw[abG,aax];rfl
def zE(F:Nat->Bool->Option Int)(i:Nat):(k6 F i).length=i:=by
 unfold k6;rw[aaa,aav]
variable {p:Nat}{ts:List eO}{g:aD p ts}{m:Nat}{W:List (List Pr)}
def Gf(p:Nat)(ts:List eO)(g:aD p ts)(m:Nat)(W:List (List Pr)):Prop:=∀i,i<p->∀x s,x<p->RM.Hy g.N (bG ts) m i x s (sel (KQ (W.getD i []) x) s)
def Gg{r:Nat}(hm:m<2^ts.length):(bC ((r&&&m:Nat):Int)).length%2=1↔g.N.par r m=true:=by
 rw[<-zx (g:=g) hm,aa5]
end Ring
namespace RM
open Ring (maskOf mask_bit mask_lt)
def gy{a b:Nat}(h:a^^^b=0):a=b:=by
 have:=aaU (λy=>y^^^b) h
 simp only[abc]at this
 rwa [aa9,abD,abp]at this
def comb:List Nat->Nat->Nat
 | [],_=>0
 | b::B,z=>(if z.testBit 0=true then b else 0)^^^comb B (z/2)
def La(a b c d:Nat):(a^^^b)^^^(c^^^d)=(a^^^c)^^^(b^^^d):=aaG λi=>by
 simp only[aag];cases a.testBit i<;>cases b.testBit i<;>cases c.testBit i<;>cases d.testBit i<;>rfl
def Lb(z y:Nat):(z^^^y)/2=z/2^^^y/2:=aaG λi=>by
 rw[aag,<-aci,<-aci,<-aci,aag]
def jG:∀(B:List Nat) (z y:Nat),comb B (z^^^y)=comb B z^^^comb B y
 | [],_,_=>by simp[comb]
 | b::B,z,y=>by
   unfold comb;rw[Lb,jG B,aag,La]
   congr 1
   cases z.testBit 0<;>cases y.testBit 0<;>simp
def k7:∀(B:List Nat),comb B 0=0
 | []=>rfl
 | b::B=>by
   unfold comb;rw[abm,show 0/2=0 from rfl,k7 B]
   simp
def Ld(i:Nat):2^(i+1)/2=2^i:=by
 rw[abH,Nat.mul_div_cancel _ (by decide)]
def vN:∀{B:List Nat} {i b:Nat},B[i]?=some b->comb B (2^i)=b
 | [],i,b,h=>by simp at h
 | b'::B,0,b,h=>by
   have:b' = b:=by simpa using h
   subst this;unfold comb;rw[show(2^0:Nat).testBit 0=true from rfl,aac rfl,show(2^0:Nat)/2=0 from rfl,k7,abp]
 | b'::B,i+1,b,h=>by
   unfold comb;have h0:(2^(i+1)).testBit 0=false:=by rw[aar];simp
   rw[h0,aab (by decide),abc,Ld]
   exact vN (B:=B) h
def ik:∀(B:List Nat) (b z:Nat),comb (B++[b]) z=comb B z^^^(if z.testBit B.length=true then b else 0)
 | [],b,z=>by
   show(if z.testBit 0=true then b else 0)^^^0=0^^^_
   rw[abp,abc];rfl
 | b'::B,b,z=>by
   show(if z.testBit 0=true then b' else 0)^^^comb (B++[b]) (z/2)=((if z.testBit 0=true then b' else 0)^^^comb B (z/2))^^^_
   rw[ik B b (z/2),aa9,<-aci];rfl
def rN:∀(B:List Nat) {z:Nat},(∀i,i<B.length->z.testBit i=false)->comb B z=0
 | [],_,_=>rfl
 | b::B,z,h=>by
   unfold comb;rw[h 0 (by simp),aab (by decide),abc]
   exact rN B λi hi=>by rw[<-aci];exact h (i+1) (by simp;lia)
def qx(B:List Nat):∀z,Sp B (comb B z):=by
 induction B with
 | nil=>intro z;exact .zero
 | cons b B G =>
   intro z;have h:Sp (b::B) (comb B (z/2)):=(G (z/2)).mono λc hc=>.mem (jt _ hc)
   unfold comb;rw[acN]
   by_cases e:z.testBit 0=true
   ·rw[aac e];exact h.add aam
   ·rw[aab e,abp];exact h
def uI{B:List Nat}{x:Nat}(h:Sp B x):∃z,z<2^B.length/\comb B z=x:=by
 induction h with
 | zero=>exact⟨0,aa2 _,k7 B⟩
 | add h hb ih =>
   obtain⟨z,hz,e⟩:=ih;obtain⟨i,hi⟩:=aaI hb;have G:=(ju.mp hi).1;exact⟨z^^^2^i,aaJ hz (abL (by decide) G),by rw[jG,e,vN hi]⟩
def Dh(B:List Nat):Prop:=∀z,z<2^B.length->comb B z=0->z=0
def Le(B:List Nat):Prop:=∀i b,B[i]?=some b->¬ Sp (B.take i) b
def nj{B:List Nat}{b:Nat}:Dh (B++[b])↔Dh B/\¬ Sp B b:=by
 have G:(B++[b]).length=B.length+1:=by simp
 constructor
 ·intro h;refine⟨λz hz e=>h z ?_ ?_,λhs=>?_⟩
  ·rw[G,abH];lia
  ·rw[ik,e,aaX hz];simp
  ·obtain⟨y,O,e⟩:=uI hs;have I:2^B.length<2^(B.length+1):=abL (by decide) (by lia)
   have:=h (y^^^2^B.length) (by rw[G];exact aaJ (by lia) I) (by
    have h1:(y^^^2^B.length).testBit B.length=true:=by
     rw[aag,aaX O,acO];rfl
    have h2:comb B (2^B.length)=0:=rN B λi hi=>by
     rw[aar];exact dO (by lia)
    rw[ik,h1,aac rfl,jG,h2,e,abp,abD])
   have U:(y^^^2^B.length).testBit B.length=false:=by rw[this,abm]
   rw[aag,aaX O,acO]at U;cases U
 ·rintro⟨h,hs⟩ z hz e;rw[ik]at e
  by_cases hb:z.testBit B.length=true
  ·rw[aac hb]at e;have Y:comb B z=b:=by
    have:=aaU (λy=>y^^^b) e
    simp only[ig,abc]at this;exact this
   exact absurd (Y▸qx B z) hs
  ·rw[aab hb,abp]at e;refine h z ?_ e;refine cI λk hk=>?_
   have:=b8 hz hk;rw[G]at this;have:k≠B.length:=λe=>hb (e▸hk)
   lia
def rO{B:List Nat}{b:Nat}:Le (B++[b])↔Le B/\¬ Sp B b:=by
 constructor
 ·intro h;refine⟨λi c hc=>?_,?_⟩
  ·have hi:=(ju.mp hc).1;have:=h i c (by rw[aaK hi];exact hc)
   rwa [ado (aaO hi)]at this
  ·have:=h B.length b (by simp)
   rwa [List.take_left' rfl]at this
 ·rintro⟨h,hs⟩ i c hc
  by_cases hi:i<B.length
  ·rw[aaK hi]at hc;rw[ado (aaO hi)];exact h i c hc
  ·have G:=(ju.mp hc).1;have e:i=B.length:=by simp at G;lia
   subst e;rw[aaQ (aaf _),acL]at hc;have:b=c:=by simpa using hc
   subst this;rw[List.take_left' rfl];exact hs
def take_snoc{B:List Nat}{i b:Nat}(h:B[i]?=some b):B.take (i+1)=B.take i++[b]:=by
 rw[aaW,h];rfl
def Og(B:List Nat):Dh B↔Le B:=by
 have key:∀n,n<=B.length->(Dh (B.take n)↔Le (B.take n)):=by
  intro n
  induction n with
  | zero=>exact λ_=>⟨λ_ i b h=>by simp at h,λ_ z hz _=>by simp at hz;exact hz⟩
  | succ n G =>
    intro hn;have hb:B[n]?=some B[n]:=aad hn;rw[take_snoc hb,nj,rO,G (by lia)]
 have:=key B.length (aaf _)
 rwa [aaM]at this
def BI(B:List Nat)(h:Dh B){z y:Nat}(hz:z<2^B.length)(hy:y<2^B.length)(e:comb B z=comb B y):z=y:=by
 have:=h (z^^^y) (aaJ hz hy) (by rw[jG,e,abD])
 exact gy this
section
variable {N:Net}
def yI{B:List Nat}(h:∀b∈B,N.bL b/\b<2^N.n)(z:Nat):N.bL (comb B z)/\comb B z<2^N.n:=by
 have hs:=qx B z;refine⟨?_,hs.lt λb hb=>(h b hb).2⟩
 generalize comb B z=x at hs
 induction hs with
 | zero=>exact bL.zero
 | add _ hb ih=>exact bL.xor ih (h _ hb).1
def zF{f:Nat->Nat}{a b:Nat}(hf:∀z,z<2^a->f z<2^b)(inj:∀z y,z<2^a->y<2^a->f z=f y->z=y):a<=b:=by
 have nd:((List.range (2^a)).map f).Nodup:=by
  refine abO.mpr ?_;refine abw (λ{z y} hz I G e=>?_) acB
  exact G (inj z y (aaA.mp hz) (aaA.mp I) e)
 have:=Kv nd λx hx=>by
  obtain⟨z,hz,rfl⟩:=aaz.mp hx;exact hf z (aaA.mp hz)
 rw[aaa,aav]at this;exact(Nat.pow_le_pow_iff_right (by decide)).mp this
def meets(ks:List Nat)(m:Nat):Nat:=maskOf (λi=>m.testBit (ks.getD i 0)) ks.length
def BJ(ks:List Nat)(m:Nat):meets ks m<2^ks.length:=mask_lt _ _
def yJ{ks:List Nat}{m i k:Nat}(h:ks[i]?=some k):(meets ks m).testBit i=m.testBit k:=by
 unfold meets;rw[mask_bit,aae,h,cD (ju.mp h).1];rfl
def Lf{B:List Nat}(hi:Dh B)(h:∀b∈B,N.bL b/\b<2^N.n):B.length<=N.aB.length:=by
 refine zF (f:=λz=>meets N.aB (comb B z)) (λz _=>BJ _ _) λz y hz I e=>BI B hi hz I ?_
 have h1:=yI h z;have h2:=yI h y;refine gy (gJ (N:=N) (λk hk=>?_) (bL.xor h1.1 h2.1))
 have G:=b8 (aaJ h1.2 h2.2) hk;refine⟨G,?_⟩;cases hf:N.jT k with
 | true=>rfl
 | false =>
   obtain⟨j,hj⟩:=aaI (bh.mpr ⟨G,hf⟩);have e:meets N.aB (comb B z)=meets N.aB (comb B y):=e;have:=aaU (λx=>x.testBit j) e
   simp only[yJ hj]at this;rw[aag,this,adv]at hk;cases hk
def Oh{ks:List Nat}(h:∀m,m<2^N.n->N.bL m->(∀k∈ks,m.testBit k=false)->m=0):N.aB.length<=ks.length:=by
 refine zF (f:=λz=>meets ks (N.fM z N.aB 0)) (λz _=>BJ _ _) λz y hz G e=>?_
 have h1:=nV (N:=N) (number:=z) (l:=N.aB) (i:=0) λc hc=>(bh.mp hc).1
 have h2:=nV (N:=N) (number:=y) (l:=N.aB) (i:=0) λc hc=>(bh.mp hc).1
 have I:N.fM z N.aB 0=N.fM y N.aB 0:=gy (h _ (aaJ h1.2 h2.2) (bL.xor h1.1 h2.1) λk hk=>by
  obtain⟨j,hj⟩:=aaI hk;have e:meets ks (N.fM z N.aB 0)=meets ks (N.fM y N.aB 0):=e;have:=aaU (λx=>x.testBit j) e
  simp only[yJ hj]at this;rw[aag,this,adv])
 refine aaG λj=>?_
 by_cases hj:j<N.aB.length
 ·have hc:N.aB[j]?=some N.aB[j]:=aad hj;rw[<-pG hc,<-pG hc,I]
 ·rw[aaX (aap hz (abf (by decide) (by lia))),aaX (aap G (abf (by decide) (by lia)))]
structure Base(N:Net)(rs:List Nat):Prop where
 len:rs.length=N.aB.length
 ring:∀r∈rs,N.Ring r/\r<2^N.n
 ind:Dh rs
end
abbrev Row3:=Nat×Nat×Nat
def two(q:Row3):Nat×Nat:=(q.1,q.2.1)
def cT(rows:List Row3)(x u:Nat):Nat×Nat:=rows.foldl (λs q=>if s.1.testBit q.1=true then(s.1^^^q.2.1,s.2^^^q.2.2) else s) (x,u)
def rP(q:Row3)(rows:List Row3)(x u:Nat):cT (q::rows) x u=if x.testBit q.1=true then cT rows (x^^^q.2.1) (u^^^q.2.2) else cT rows x u:=by
 unfold cT;rw[ab8]
 by_cases h:x.testBit q.1=true
 ·rw[aac h,aac h]
 ·rw[aab h,aab h]
def nk:∀(rows:List Row3) (x u:Nat),(cT rows x u).1=iY (rows.map two) x
 | [],_,_=>rfl
 | q::rows,x,u=>by
   rw[rP];show _=iY (rows.map two) (if x.testBit q.1=true then x^^^q.2.1 else x)
   by_cases h:x.testBit q.1=true
   ·rw[aac h,aac h];exact nk rows _ _
   ·rw[aab h,aab h];exact nk rows _ _
def xx(rows:List Row3)(a:Row3):List Row3:=a::rows.map λq=>if q.2.1.testBit a.1=true then(q.1,q.2.1^^^a.2.1,q.2.2^^^a.2.2) else q
structure Rw(B:List Nat)(rows:List Row3):Prop where
 own:∀q∈rows,q.2.1.testBit q.1=true
 Hz:rows.Pairwise λq q'=>q'.2.1.testBit q.1=false/\q.2.1.testBit q'.1=false
 Pq:∀q∈rows,q.2.2<2^B.length/\comb B q.2.2=q.2.1
 span:∀b∈B,Sp (rows.map λq=>q.2.1) b
 le:rows.length<=B.length
 len:rows.length=B.length↔Dh B
section
variable {B:List Nat}{rows:List Row3}
def Rw.start:Rw [] []:=⟨(λq G=>nomatch G),.nil,(λq G=>nomatch G),(λb hb=>nomatch hb),aaf _,⟨λ_ z hz _=>by simp at hz;exact hz,λ_=>rfl⟩⟩
def QZ(own:∀q∈rows,q.2.1.testBit q.1=true)(Hz:rows.Pairwise λq q'=>q'.2.1.testBit q.1=false/\q.2.1.testBit q'.1=false):K4 (rows.map two):=by
 induction rows with
 | nil=>exact .nil
 | cons q rows G =>
   obtain⟨h1,h2⟩:=acP.mp Hz;refine .cons (G (λq' I=>own q' (jt _ I)) h2) (own q aam) λx hx=>?_
   obtain⟨q',O,rfl⟩:=aaz.mp hx;exact(h1 q' O).1
def Rw.HA(h:Rw B rows):K4 (rows.map two):=QZ h.own h.Hz
def map_two(rows:List Row3):(rows.map two).map (λq=>q.2)=rows.map λq=>q.2.1:=by
 rw[abl];rfl
def Rw.nZ(h:Rw B rows)(x u:Nat):(cT rows x u).1=0↔Sp B x:=by
 rw[nk,yD h.HA,map_two]
 constructor
 ·intro hs;refine hs.mono λb hb=>?_
  obtain⟨q,G,rfl⟩:=aaz.mp hb;rw[<-(h.Pq q G).2];exact qx B _
 ·exact λhs=>hs.mono h.span
def Rw.Lg(h:Rw B rows)(x u:Nat):∀q∈rows,(cT rows x u).1.testBit q.1=false:=λq G=>by
 rw[nk];exact rH h.HA x (two q) (aaz.mpr ⟨q,G,rfl⟩)
def yK(hc:∀q∈rows,q.2.2<2^B.length/\comb B q.2.2=q.2.1):∀(x u:Nat),u<2^B.length->(cT rows x u).2<2^B.length/\comb B (cT rows x u).2=comb B u^^^(x^^^(cT rows x u).1):=by
 induction rows with
 | nil=>intro x u G;exact⟨G,by show _=_^^^(x^^^x);rw[abD,abp];rfl⟩
 | cons q rows I =>
   intro x u G;have O:=hc q aam;have I:=I λq' U=>hc q' (jt _ U)
   rw[rP]
   by_cases h:x.testBit q.1=true
   ·rw[aac h];obtain⟨Y,Z⟩:=I (x^^^q.2.1) (u^^^q.2.2) (aaJ G O.1);refine⟨Y,?_⟩;rw[Z,jG,O.2];refine aaG λi=>?_
    simp only[aag];generalize (cT rows (x^^^q.2.1) (u^^^q.2.2)).1.testBit i=y;cases(comb B u).testBit i<;>cases q.2.1.testBit i<;>cases x.testBit i<;>cases y<;>rfl
   ·rw[aab h];exact I x u G
def Q2(h:Rw B rows){x:Nat}(hx:∀b∈B,b<2^x):∀q∈rows,q.2.1<2^x:=λq G=>by
 rw[<-(h.Pq q G).2];exact(qx B _).lt hx
def vO{z:Nat}(b:Nat)(hz:z<2^B.length):comb (B++[b]) z=comb B z:=by
 rw[ik,aaX hz];simp
def Rw.skip{b:Nat}(h:Rw B rows)(hs:Sp B b):Rw (B++[b]) rows:=by
 have I:(B++[b]).length=B.length+1:=by simp
 refine⟨h.own,h.Hz,λq G=>⟨?_,?_⟩,λc hc=>?_,?_,?_⟩
 ·have:=(h.Pq q G).1;rw[I,abH]
  lia
 ·rw[vO b (h.Pq q G).1];exact(h.Pq q G).2
 ·rcases aaw.mp hc with hc|hc
  ·exact h.span c hc
  ·have e:c=b:=by simpa using hc
   rw[e];exact hs.mono h.span
 ·have:=h.le
  lia
 ·rw[nj];have:=h.le;exact⟨λe=>by lia,λz=>absurd hs z.2⟩
def Rw.put{b:Nat}(h:Rw B rows)(h0:(cT rows b 0).1≠0):Rw (B++[b]) (xx rows ((cT rows b 0).1.log2,(cT rows b 0).1,(cT rows b 0).2^^^2^B.length)):=by
 have Y:(B++[b]).length=B.length+1:=by simp
 have Z : ¬ Sp B b:=λz=>h0 ((h.nZ b 0).mpr z)
 have off:=h.Lg b 0;obtain⟨c1,U⟩:=yK h.Pq b 0 (aa2 _);rw[k7,abc]at U;have tV:Sp (rows.map λq=>q.2.1) (b^^^(cT rows b 0).1):=by
  rw[nk];have:=zC (rows.map two) b
  rwa [map_two]at this
 generalize cT rows b 0=lu at *;obtain⟨l,u⟩:=lu;have h0:l≠0:=h0;have top:=zD h0;have c1:u<2^B.length:=c1;have U:comb B u=b^^^l:=U;have off:∀q∈rows,l.testBit q.1=false:=off;have tV:Sp (rows.map λq=>q.2.1) (b^^^l):=tV
 show Rw (B++[b]) (xx rows (l.log2,l,u^^^2^B.length));generalize l.log2=t at top;have p2:2^B.length<2^(B++[b]).length:=by rw[Y];exact abL (by decide) (by lia)
 have hc:comb (B++[b]) (u^^^2^B.length)=l:=by
  have h1:(u^^^2^B.length).testBit B.length=true:=by
   rw[aag,aaX c1,acO];rfl
  have h2:comb B (2^B.length)=0:=rN B λi hi=>by
   rw[aar];exact dO (by lia)
  rw[ik,h1,aac rfl,jG,h2,U,abp];refine aaG λi=>?_
  simp only[aag];cases b.testBit i<;>cases l.testBit i<;>rfl
 unfold xx;refine⟨λq I=>?_,acP.mpr ⟨λq I=>?_,?_⟩,λq I=>?_,λc hc=>?_,?_,?_⟩
 ·rcases aaq.mp I with e|I
  ·rw[e];exact top
  ·obtain⟨G,O,rfl⟩:=aaz.mp I
   by_cases e:G.2.1.testBit t=true
   ·rw[aac e];show(G.2.1^^^l).testBit G.1=true;rw[aag,h.own G O,off G O];rfl
   ·rw[aab e];exact h.own G O
 ·obtain⟨G,O,rfl⟩:=aaz.mp I
  by_cases e:G.2.1.testBit t=true
  ·rw[aac e];refine⟨?_,off G O⟩;show(G.2.1^^^l).testBit t=false;rw[aag,e,top];rfl
  ·rw[aab e];exact⟨RV.mpr e,off G O⟩
 ·refine abO.mpr (abw (λ{q q'} I Q0 hz=>?_) h.Hz)
  obtain⟨z1,z2⟩:=hz;have o1:=off q I;have o2:=off q' Q0;have fst:∀q:Row3,(if q.2.1.testBit t=true then(q.1,q.2.1^^^l,q.2.2^^^(u^^^2^B.length)) else q).1=q.1:=λq=>by
   split<;>rfl
  have snd:∀(q:Row3) (k:Nat),l.testBit k=false->(if q.2.1.testBit t=true then(q.1,q.2.1^^^l,q.2.2^^^(u^^^2^B.length)) else q).2.1.testBit k=q.2.1.testBit k:=λq k hk=>by
   split
   ·show(q.2.1^^^l).testBit k=_;rw[aag,hk,aa7]
   ·rfl
  refine⟨?_,?_⟩
  ·rw[snd q' _ (by rw[fst];exact o1),fst]
   exact z1
  ·rw[snd q _ (by rw[fst];exact o2),fst]
   exact z2
 ·rcases aaq.mp I with e|I
  ·rw[e];exact⟨aaJ (by lia) p2,hc⟩
  ·obtain⟨G,O,rfl⟩:=aaz.mp I;obtain⟨d1,d2⟩:=h.Pq G O
   by_cases e:G.2.1.testBit t=true
   ·rw[aac e];refine⟨aaJ (by lia) (aaJ (by lia) p2),?_⟩
    show comb (B++[b]) (G.2.2^^^(u^^^2^B.length))=G.2.1^^^l;rw[jG,hc,vO b d1,d2]
   ·rw[aab e];exact⟨by lia,by rw[vO b d1,d2]⟩
 ·have Zh:l∈(((t,l,u^^^2^B.length):Row3)::rows.map λq=>if q.2.1.testBit t=true then(q.1,q.2.1^^^l,q.2.2^^^(u^^^2^B.length)) else q).map λq=>q.2.1:=by
   rw[aaN];exact aam
  have old:∀x∈rows.map (λq=>q.2.1),Sp ((((t,l,u^^^2^B.length):Row3)::rows.map λq=>if q.2.1.testBit t=true then(q.1,q.2.1^^^l,q.2.2^^^(u^^^2^B.length)) else q).map λq=>q.2.1) x:=λx hx=>by
   obtain⟨G,O,rfl⟩:=aaz.mp hx;have hm:(if G.2.1.testBit t=true then(G.1,G.2.1^^^l,G.2.2^^^(u^^^2^B.length)) else G).2.1∈(((t,l,u^^^2^B.length):Row3)::rows.map λq=>if q.2.1.testBit t=true then(q.1,q.2.1^^^l,q.2.2^^^(u^^^2^B.length)) else q).map λq=>q.2.1 :=
    aaz.mpr ⟨_,jt _ (aaz.mpr ⟨G,O,rfl⟩),rfl⟩
   by_cases e:G.2.1.testBit t=true
   ·rw[aac e]at hm;have:=(Sp.mem hm).xor (Sp.mem Zh)
    rwa [ig]at this
   ·rw[aab e]at hm;exact .mem hm
  rcases aaw.mp hc with hc|hc
  ·exact(h.span c hc).mono old
  ·have e:c=b:=by simpa using hc
   rw[e];have:=(tV.mono old).xor (Sp.mem Zh)
   rwa [ig]at this
 ·rw[aa1,aaa,Y];have:=h.le
  lia
 ·rw[aa1,aaa,Y,nj];have:=h.len
  constructor
  ·exact λe=>⟨this.mp (by lia),Z⟩
  ·exact λe=>by have:=this.mpr e.1;lia
def rx(f:Row3->Bool):List Row3->Bool
 | []=>false
 | q::rows=>f q^^rx f rows
def BK{f g:Row3->Bool}:∀{rows:List Row3},(∀q∈rows,f q=g q)->rx f rows=rx g rows
 | [],_=>rfl
 | q::rows,h=>by
   unfold rx;rw[h q aam,BK λq' G=>h q' (jt _ G)]
def yL(i:Nat):∀{rows:List Row3},(rows.Pairwise λq q'=>q'.2.1.testBit q.1=false/\q.2.1.testBit q'.1=false)->∀(x u:Nat),(cT rows x u).2.testBit i=(u.testBit i^^rx (λq=>x.testBit q.1&&q.2.2.testBit i) rows)
 | [],_,x,u=>by show u.testBit i=(u.testBit i^^false);rw[aa7]
 | q::rows,Hz,x,u=>by
   obtain⟨h1,h2⟩:=acP.mp Hz;have G:=yL i h2;rw[rP];unfold rx
   by_cases h:x.testBit q.1=true
   ·rw[aac h,G,h,abo,aag,Bool.xor_assoc]
    congr 2
    exact BK λq' I=>by rw[aag,(h1 q' I).2,aa7]
   ·rw[aab h,G,RV.mpr h,acQ,abK]
def cM(rows:List Row3)(i:Nat):List Nat:=(rows.filter λq=>q.2.2.testBit i).map λq=>q.1
def BL(own:∀q∈rows,q.2.1.testBit q.1=true)(Hz:rows.Pairwise λq q'=>q'.2.1.testBit q.1=false/\q.2.1.testBit q'.1=false)(i:Nat):(cM rows i).Nodup:=by
 unfold cM;refine abO.mpr ((abw (λ{q q'} I G hz e=>?_) Hz).filter _)
 have:=own q' G;rw[<-e,hz.1]at this;cases this
def yM(f:Nat->Bool)(n:Nat):∀{l:List Nat},l.Nodup->(∀k∈l,k<n)->bQ (λk=>f k&&decide (k∈l)) n=l.foldr (λk acc=>f k^^acc) false
 | [],_,_=>hU λk _=>by simp
 | a::l,nd,h=>by
   obtain⟨G,I⟩:=aaV.mp nd;have O:=yM f n I λk hk=>h k (jt _ hk)
   have:bQ (λk=>f k&&decide (k∈a::l)) n=bQ (λk=>(f k&&decide (a=k))^^(f k&&decide (k∈l))) n:=bF λk _=>by
    by_cases e:a=k
    ·subst e;rw[cD aam,cD rfl,dO G,abE,aa7]
    ·have:(k∈a::l)↔k∈l:=⟨λz=>(aaq.mp z).resolve_left λz=>e z.symm,jt _⟩
     rw[dO e,abE,abK,aaS.mpr this]
   rw[this,iP,gj f (h a aam),O];rfl
def BN(f:Nat->Bool)(i:Nat):∀rows:List Row3,(cM rows i).foldr (λk acc=>f k^^acc) false=rx (λq=>f q.1&&q.2.2.testBit i) rows
 | []=>rfl
 | q::rows=>by
   have G:=BN f i rows;unfold cM at G ⊢;unfold rx;cases h:q.2.2.testBit i with
   | true =>
     rw[aaR,aac h,aaN,List.foldr_cons,G,acC]
   | false =>
     rw[aaR,aab (by rw[h];decide),G,abE,abK]
def Rw.marks{N:Net}(h:Rw B rows)(hi:Dh B)(hb:∀b∈B,b<2^N.n){i j b:Nat}(hj:B[j]?=some b):N.par b (Ring.orM (cM rows i))=decide (i=j)/\∀k∈cM rows i,k<N.n:=by
 have lt:∀k∈cM rows i,k<N.n:=λk hk=>by
  obtain⟨q,G,rfl⟩:=aaz.mp hk;have G:=(aas.mp G).1;exact b8 (Q2 h hb q G) (h.own q G)
 refine⟨?_,lt⟩;have U:N.par b (Ring.orM (cM rows i))=rx (λq=>b.testBit q.1&&q.2.2.testBit i) rows:=by
  rw[<-BN (λk=>b.testBit k),<-yM (λk=>b.testBit k) N.n (BL h.own h.Hz i) lt]
  exact bF λk _=>by rw[Ring.jc]
 have hz:(cT rows b 0).1=0:=(h.nZ b 0).mpr (.mem (iV hj));obtain⟨Y,I⟩:=yK h.Pq b 0 (aa2 _);rw[k7,abc,hz,abp]at I
 replace I:=I.trans (vN hj).symm
 have Z:=(ju.mp hj).1;have e2:=BI B hi Y (abL (by decide) Z) I
 have O:=yL i h.Hz b 0;rw[e2,abm,abK,aar]at O;rw[U,<-O];exact aaS.mpr eq_comm
end
end RM
namespace Ring
open PySem L2
def tM(q:RM.Row3):List V:=[.int (q.1:Int),.int (q.2.1:Int),.int (q.2.2:Int)]
def vP(H:Hp)(x:V)(q:RM.Row3):Prop:=∃b,x = .ref b/\H b=some (.tup (tM q))
def vP.tups{H H' : Hp}(s:dI H H'){x:V}{q:RM.Row3}(h:vP H x q):vP H' x q:=let⟨b,e,z⟩:=h;⟨b,e,s _ _ z⟩
def jd(H:Hp)(l:Addr)(rows:List RM.Row3):Prop:=∃xs,H l=some (.lst xs)/\Paired (vP H) xs rows
def jd.same{H H' : Hp}(s:au H H'){l:Addr}{rows:List RM.Row3}(h:jd H l rows):jd H' l rows:=let⟨xs,e,z⟩:=h;⟨xs,s _ _ e,Paired.imp' (λ_ _ z=>z.tups s.tups) z⟩
def HB(rows:List RM.Row3)(q:RM.Row3)(x u:Nat):RM.cT (rows++[q]) x u=if(RM.cT rows x u).1.testBit q.1=true then((RM.cT rows x u).1^^^q.2.1,(RM.cT rows x u).2^^^q.2.2) else RM.cT rows x u:=by
 unfold RM.cT;rw[acd];rfl
def take3{α:Type}{l:List α}{i:Nat}{q:α}(h:l[i]?=some q):l.take (i+1)=l.take i++[q]:=by
 rw[aaW,h];rfl
def Lh{m:Nat}(h:m≠0):((Builtin.Int.intBits (m:Int):Nat):Int)-1=((m.log2:Nat):Int):=by
 rw[vd,aab h]
 lia
end Ring
namespace L2
open PySem PySem.Spec PyProof.Rows
def Ed{K:bN}{a:Addr}{xs:List V}{g:TG}{tt:TT}{te:TE}{n:Nat}{fr:St}{D:Addr}{Q:Hp->Prop}{H1:Hp}(Pv:Nat->List V->Hp->Prop)(h0:Pv 0 [] H1)(hl:∀i acc H,i<=xs.length->Pv i acc H->aM K H a xs/\H D=some (.lst acc)/\acc.length<=i)(hz:xs.length<=sizeLine)
 (hs:∀i x T acc H,xs[i]?=some x->Pv i acc H->H T=none->g (.ref T) (List.replicate n none++fr) (upd H T (.tup [.int (i:Int),x])) λσ2 H2=>σ2.drop n=fr/\tt σ2 H2 λb H3 =>
  if b=true then te σ2 H3 λv H4=>H4 D=some (.lst acc)/\Pv (i+1) (acc++[v]) (upd H4 D (.lst (acc++[v]))) else Pv (i+1) acc H3)
 (hd:∀acc H,Pv xs.length acc H->Q H):jz (R5 K a) g tt te n fr D Q H1:=by
 refine⟨λi m acc H=>m=xs.length-i/\i<=xs.length/\Pv i acc H,⟨xs.length,by simp,aaL _,h0⟩,?_⟩
 rintro i m acc H ⟨rfl,hi,p⟩;obtain⟨q,O,ha⟩:=hl i acc H hi p;refine⟨O,?_⟩
 by_cases G:i<xs.length
 ·refine .inr ⟨⟨xs,xs[i],q,by simp[G]⟩,by lia,Pv (i+1),λI H' U=>⟨xs.length-(i+1),by lia,rfl,G,U⟩,λv H' y=>?_⟩
  obtain⟨T,x,rfl,Y,rfl,y⟩:=y;exact hs i x T acc _ (y xs q) p Y
 ·have e:i=xs.length:=by lia
  subst e;exact .inl ⟨⟨xs,q,aaf _⟩,hd acc H p⟩
end L2
namespace RM
variable {N:Net}{S:Nat->Bool}
def vQ(N:Net)(S:Nat->Bool)(L:Nat->Nat)(k:Nat):Prop:=∀x y,x<N.p->y<N.p->(L x=L y↔N.aL S k x=N.aL S k y)
def vQ.start:vQ N S (λx=>x) 0:=λ_ _ _ _=>Iff.rfl
def vQ.skip{L:Nat->Nat}{k:Nat}(h:vQ N S L k)(hs:S k=false):vQ N S L (k+1):=by
 intro x y hx G;rw[gv,aab (by rw[hs];decide)]
 exact h x y hx G
def vQ.put{L:Nat->Nat}{k:Nat}(h:vQ N S L k)(hk:k<N.n)(hs:S k=true):vQ N S (QH L (N.a k) (N.b k)) (k+1):=by
 intro x y hx G;have ha:=N.al k hk;have hb:=N.bl k hk;rw[gv,aac hs,NX,Kw,h x y hx G,h x _ hx ha,h y _ G hb,h x _ hx hb,h y _ G ha]
open Classical in
def Gh(val:Nat->Int):∀n,(PyProof.Rows.firstMet val n).length=cnt (λi=>!decide (∃j,j<i/\val j=val i)) n/\∀z,z∈PyProof.Rows.firstMet val n↔∃j,j<n/\val j=z
 | 0=>by
   rw[PyProof.Rows.firstMet_zero];exact⟨rfl,λz=>⟨λh=>(nomatch h),λ⟨j,hj,_⟩=>absurd hj (abg _)⟩⟩
 | n+1=>by
   obtain⟨h1,h2⟩:=Gh val n;rw[PyProof.Rows.firstMet_succ];unfold PyProof.Rows.step_dedup;have hm:=h2 (val n);have ha:((PyProof.Rows.firstMet val n).any λx=>x==val n)=true↔val n∈PyProof.Rows.firstMet val n:=by simp
   have mem:∀z,(∃j,j<n+1/\val j=z)↔(∃j,j<n/\val j=z)\/val n=z:=λz=>by
    constructor
    ·rintro⟨j,hj,e⟩
     by_cases I:j=n
     ·subst I;exact .inr e
     ·exact .inl ⟨j,by lia,e⟩
    ·rintro(⟨j,hj,e⟩|e)
     ·exact⟨j,by lia,e⟩
     ·exact⟨n,by lia,e⟩
   by_cases G:val n∈PyProof.Rows.firstMet val n
   ·rw[aac (ha.mpr G)];refine⟨?_,λz=>?_⟩
    ·show _=cnt _ n+(if(!decide (∃j,j<n/\val j=val n))=true then 1 else 0)
     rw[h1,cD (hm.mp G)];rfl
    ·rw[mem,h2];exact⟨.inl,λh=>h.elim id λe=>e▸hm.mp G⟩
   ·rw[aab (λz=>G (ha.mp z))]
    refine⟨?_,λz=>?_⟩
    ·show _=cnt _ n+(if(!decide (∃j,j<n/\val j=val n))=true then 1 else 0)
     rw[aao,h1,dO (λz=>G (hm.mpr z))]
     rfl
    ·rw[mem,aaw,h2];exact⟨λh=>h.elim .inl λe=>.inr (aat.mp e).symm,λh=>h.elim .inl λe=>.inr (by simp[e])⟩
def Oi{L:Nat->Nat}(h:vQ N S L N.n):(PyProof.Rows.firstMet (λi=>((L i:Nat):Int)) N.p).length=cnt (N.root S N.n) N.p:=by
 rw[(Gh _ N.p).1];refine fh λx hx=>?_
 unfold Net.root;rw[abd,acs,decide_eq_false_iff_not,aa5]
 constructor
 ·intro hn;apply aaC;intro I;have hle:=qh (N:=N) (S:=S) N.n x;have G:N.aL S N.n x<x:=by lia
  exact hn ⟨N.aL S N.n x,G,by
   have:=(h (N.aL S N.n x) x (by lia) hx).mpr (cu N.n x)
   rw[this]⟩
 ·rintro hr ⟨j,hj,e⟩;have e:L j=L x:=by lia
  have O:=(h j x (by lia) hx).mp e
  have:=qh (N:=N) (S:=S) N.n j
  lia
def Li{m:Nat}(hm:m<2^N.n)(h0:m≠0)(d2:N.D2 m):N.Ring m↔cnt (N.root (λk=>m.testBit k) N.n) N.p+cnt (λx=>decide (N.dg m x=2)) N.p=N.p+1:=by
 have hR:∀x,x<N.p->N.dg m x=0->N.root (λk=>m.testBit k) N.n x=true:=λx hx hd=>by
  unfold Net.root;rw[aa5];exact alone hd (bS _ _ _ (cu N.n x).symm)
 have split:cnt (N.root (λk=>m.testBit k) N.n) N.p=cnt (λx=>!decide (N.dg m x=2)) N.p+cnt (λx=>decide (N.dg m x=2)&&N.root (λk=>m.testBit k) N.n x) N.p:=by
  rw[<-vz (λx hx=>by cases decide (N.dg m x=2)<;>simp)]
  refine fh λx hx=>?_
  rcases d2 x hx with h|h
  ·rw[hR x hx h,dO (by lia)]
   rfl
  ·rw[cD h];simp
 have cn:=jY (λx=>decide (N.dg m x=2)) N.p
 obtain⟨k0,O⟩:∃k,m.testBit k=true:=by
  apply aaC;intro h;exact h0 (aaG λi=>by
   rw[abm];cases e:m.testBit i with
   | false=>rfl
   | true=>exact absurd ⟨i,e⟩ h)
 have U:=b8 hm O;have I:=N.al k0 U;have G:N.dg m (N.a k0)=2:=by
  have:=vA U O (.inl rfl:N.a k0=N.a k0\/N.b k0=N.a k0);rcases d2 _ I with h|h<;>lia
 rw[QU hm d2 I G];generalize hx:N.a k0=x0 at I G;have up:∀x,x<N.p->N.dg m x=2->N.dg m (N.aL (λk=>m.testBit k) N.n x)=2:=λx hx hd=>by
  have hl:=jZ (N:=N) (S:=λk=>m.testBit k) (k:=N.n) hx
  rcases d2 _ hl with h|h
  ·have e:x=N.aL (λk=>m.testBit k) N.n x:=alone h (bS _ _ _ (cu N.n x))
   rw[<-e]at h
   lia
  ·exact h
 have r0:N.aL (λk=>m.testBit k) N.n x0<N.p:=jZ I
 constructor
 ·intro h;have one:cnt (λx=>decide (N.dg m x=2)&&N.root (λk=>m.testBit k) N.n x) N.p=1:=by
   have:cnt (λx=>decide (N.dg m x=2)&&N.root (λk=>m.testBit k) N.n x) N.p=cnt (λx=>decide (N.aL (λk=>m.testBit k) N.n x0=x)) N.p:=fh λx hx=>by
    rw[abd,aaH,aa5,aa5];unfold Net.root;rw[aa5]
    constructor
    ·rintro⟨h1,h2⟩;rw[<-(h x hx).mpr h1];exact h2
    ·rintro rfl;exact⟨up x0 I G,cu N.n x0⟩
   rw[this,vy,aac r0]
  lia
 ·intro h x hx;have one:cnt (λx=>decide (N.dg m x=2)&&N.root (λk=>m.testBit k) N.n x) N.p=1:=by lia
  have Y:(decide (N.dg m (N.aL (λk=>m.testBit k) N.n x0)=2)&&N.root (λk=>m.testBit k) N.n (N.aL (λk=>m.testBit k) N.n x0))=true:=by
   rw[aaH,aa5];unfold Net.root;rw[aa5];exact⟨up x0 I G,cu N.n x0⟩
  constructor
  ·intro e;rcases d2 x hx with h|h
   ·have e2:x0=x:=alone h (bS _ _ _ e);rw[<-e2]at h
    lia
   ·exact h
  ·intro hd;have Z:(decide (N.dg m (N.aL (λk=>m.testBit k) N.n x)=2)&&N.root (λk=>m.testBit k) N.n (N.aL (λk=>m.testBit k) N.n x))=true:=by
    rw[aaH,aa5];unfold Net.root;rw[aa5];exact⟨up x hx hd,cu N.n x⟩
   apply aaC;intro ag;have:=uB (f:=λx=>decide (N.dg m x=2)&&N.root (λk=>m.testBit k) N.n x) Z Y ag (jZ hx) r0
   lia
def k8{b:Nat}{B:List Nat}:Dh (b::B)↔Dh B/\¬ Sp B b:=by
 have dbl:∀z,(2*z).testBit 0=false:=λz=>by rw[adB];exact dO (by lia)
 have G:∀z,(2*z+1).testBit 0=true:=λz=>by rw[adB];exact cD (by lia)
 constructor
 ·intro h;refine⟨λz hz e=>?_,λhs=>?_⟩
  ·have:=h (2*z) (by rw[aa1,abH];lia) (by
    unfold comb;rw[dbl,aab (by decide),abc,show 2*z/2=z by lia]
    exact e)
   lia
  ·obtain⟨y,O,e⟩:=uI hs;have:=h (2*y+1) (by rw[aa1,abH];lia) (by
    unfold comb;rw[G,aac rfl,show(2*y+1)/2=y by lia,e,abD])
   lia
 ·rintro⟨h,hs⟩ z hz e;unfold comb at e;rw[aa1,abH]at hz
  by_cases hb:z.testBit 0=true
  ·rw[aac hb]at e;have I:=gy e;exact absurd (I▸qx B (z/2)) hs
  ·rw[aab hb,abc]at e;have h0:=h (z/2) (by lia) e
   rw[adB,aa5]at hb
   lia
def Oj{B C:List Nat}(h:B.Perm C)(x:Nat):Sp B x↔Sp C x :=
 ⟨λz=>z.mono λb hb=>.mem (h.mem_iff.mp hb),λz=>z.mono λb hb=>.mem (h.mem_iff.mpr hb)⟩
def Lj{B C:List Nat}(h:B.Perm C):Dh B↔Dh C:=by
 induction h with
 | nil=>exact Iff.rfl
 | cons x h I=>rw[k8,k8,I,Oj h]
 | swap x y l =>
   rw[k8,k8,k8,k8,Sp.ni,Sp.ni,acN y x]
   constructor
   ·rintro⟨⟨h1,h2⟩,G⟩;exact⟨⟨h1,λz=>G (.inl z)⟩,λz=>z.elim h2 λz=>G (.inr z)⟩
   ·rintro⟨⟨h1,h2⟩,G⟩;exact⟨⟨h1,λz=>G (.inl z)⟩,λz=>z.elim h2 λz=>G (.inr z)⟩
 | trans _ _ i1 i2=>exact i1.trans i2
def Base.perm{N:Net}{rs rs' : List Nat}(b:Base N rs)(h:rs'.Perm rs):Base N rs' :=
 ⟨by rw[h.length_eq];exact b.len,λr hr=>b.ring r (h.mem_iff.mp hr),(Lj h).mpr b.ind⟩
end RM
namespace L2
open PySem PySem.Spec PyProof.Rows
def fk(q:Str)(pos:Pos):Array Value:=#[.str q 0,rawInt pos.line,rawInt pos.col]
def oJ(pos:Pos)(c:Addr):Array Value:=#[rawInt pos.line,rawInt pos.col,.ref c]
def gq(H:Hp)(P c:Addr)(oc:Obj)(q:Str)(pos:Pos):Hp:=upd (upd H c (.lB oc (.own P))) P (.jV (fk q pos++oJ pos c))
def given(H:Hp)(P c:Addr)(q:Str)(pos:Pos):Hp:=upd (upd H c (.own P)) P (.jV (fk q pos))
def CodeObj(oc:Obj)(q:Str):Prop:=∃vs t,oc.data = .fields vs/\vs[1]?=some (.str q t)
def CodeObj.rec{h:Heap}{c:Addr}{oc:Obj}{q:Str}(x:CodeObj oc q)(e:h.get? c=some oc):h.CodeRec (.ref c) q :=
 let⟨vs,t,e1,e2⟩:=x
 ⟨c,oc,vs,t,rfl,e,e1,e2⟩
def Q3{P:Program}{w:World}{H:Hp}{h:Heap}{a:Addr}{q:Str}{pos:Pos}(x:bg P w H h a (.jV (fk q pos))):
 h.get? a=some (PySem.W.tabObj #[])\/∃c oc,h.get? a=some (PySem.W.tabObj (oJ pos c))/\H c=some (.own a)/\h.get? c=some oc/\CodeObj oc q:=by
 obtain⟨ps,e,f⟩:=x;rcases f with⟨_,f|⟨c,G,I,Z,oc,vs,O,hc,U,hd,Y⟩⟩|⟨q',l,k,f,z⟩
 ·subst f;exact .inl e
 ·cases hc;subst G;exact .inr ⟨c,oc,e,I,U,vs,O,hd,Y⟩
 ·have:=aaU Array.size f;rw[Array.size_append,z]at this;exact absurd this (by simp[fk])
def Ll{P:Program}{w:World}{H:Hp}{h:Heap}{a c:Addr}{q:Str}{pos:Pos}(x:bg P w H h a (.jV (fk q pos++oJ pos c))):h.get? a=some (PySem.W.tabObj (oJ pos c)):=by
 obtain⟨ps,e,f⟩:=x;rcases f with⟨f,_⟩|⟨q',l,k,f,z⟩
 ·rw[Array.size_append]at f;exact absurd f (by simp[fk,oJ])
 ·have G:=aaU (λa=>a.toList.drop 3) f
  simp only[Array.toList_append,fk,oJ,List.cons_append,List.nil_append,List.drop_succ_cons,List.drop_zero]at G;have I:ps=oJ pos c:=by
   apply Array.toList_inj.mp;exact G.symm
  rw[<-I];exact e
abbrev BO(X:Cx)(params:Arguments)(body:Expr)(scope:Scope)(c:Addr)(ctv:Value):FuncData :=
 PySem.W.kla_fn "<lambda>" (X.env.qual ++ "<lambda>") params body scope (dQ X.env.cells scope.names []) ((X.mg "__name__").getD .none) (.ref c) ctv
abbrev eR(X:Cx)(params:Arguments)(body:Expr)(scope:Scope)(c:Addr)(ctv:Value):Obj :=
 { cls:=.type "function",data:=.func (BO X params body scope c ctv)}
section
variable {X:Cx}{pq:aQ}{σ:St}{H H2:Hp}{s:Shared}{params:Arguments}{body:Expr}{scope:Scope}{pos:Pos}{own fq:List Str}{js:List Nat}{c P:Addr}
def BP{Q:dh}{E:dh}
 (I:Inv X pq σ H s) (T:eg X scope own fq js) (hcode:X.env.code = .ref c) (hK:PySem.W.codeHdIn X.K c P=true) (hP:H P=some (.jV (fk (X.env.qual ++ "<lambda>") pos)))
 (hdef:defaultsOf params X.env=([],[]))
 (h:∀f G oc ctv s',(H G = none\/H G = some (.own P))->G≠P->CodeObj oc (X.env.qual ++ "<lambda>")->Inv X ((f,eR X params body scope G ctv)::pq) σ (gq H P G oc (X.env.qual ++ "<lambda>") pos) s'->Q (.ref f) s') :
 wpAny (model X.prog X.w) X.A (eval (.Lambda params body scope pos) X.env) Q E s:=by
 have MY:=Q3 (show bg X.prog X.w H s.heap P (.jV (fk (X.env.qual ++ "<lambda>") pos)) from I.hok P _ hP)
 have C:PySem.W.CodeHd s.heap c P:=PySem.W.codeHd_of_K I.o5 hK;have hg:=I.mod.glob.keeps I.bk;have Zi:∀b o,X.base.get? b=some o->b≠P:=λb o q z=>by
  have:=(I.bs b o q).2;rw[z,hP]at this;cases this
 have a5:mainGlobals≠P:=by
  obtain⟨o,es,ep,q,_⟩:=I.mod.glob;exact Zi _ o q
 have hb:s.heap.BuiltinsAt X.mg P:=by
  obtain⟨bm,ob,b1,b2,b3,b4,b5,b6⟩:=I.mod.bmain;refine⟨bm,ob,b1,b2,λz=>?_,Zi _ _ b3,I.bk _ _ b3,b4,b5,b6⟩
  obtain⟨o,es,ep,q,hd,_⟩:=I.mod.glob;rw[z,q]at b3;cases b3;rw[hd]at b6;cases b6
 have ar:=pe (g9 I T);have fin:∀(f G : Addr) (oc:Obj) (ctv:Value) (h2:Heap) (tk:Nat),(H G = none\/H G = some (.own P))->G≠P->(H G = none->s.heap.objs.size<=G)->CodeObj oc (X.env.qual ++ "<lambda>")->(∀b o,b≠P->s.heap.get? b=some o->h2.get? b=some o)->
  h2.get? P=some (PySem.W.tabObj (oJ pos G))->h2.get? G = some oc->s.heap.objs.size<=f->f≠G->h2.get? f=some (eR X params body scope G ctv)->
  Inv X ((f,eR X params body scope G ctv)::pq) σ (gq H P G oc (X.env.qual ++ "<lambda>") pos) { s with heap:=h2,toks:=tk}:=by
  intro f G oc ctv h2 tk hc BQ aw Z hx VO O hf a6 a7;have nP:∀b,H b=none->b≠P:=λb n z=>by rw[z,hP]at n;cases n
  have Ol:∀b u,H b=some u->(∀y,u≠.own y)->(∀qs,u≠.jV qs)->gq H P G oc (X.env.qual ++ "<lambda>") pos b=some u:=λb u e n1 n2=>by
   unfold gq;rw[ao (λz=>by rw[z,hP]at e;exact n2 _ (Option.some.inj e).symm),ao (λz=>by
    rw[z]at e;rcases hc with q|q
    ·rw[q]at e;cases e
    ·rw[q]at e;exact n1 _ (Option.some.inj e).symm)]
   exact e
  have Q4:∀b,H b=none->(b<s.heap.objs.size\/b≠G)->gq H P G oc (X.env.qual ++ "<lambda>") pos b=none:=λb n hb=>by
   unfold gq;rw[ao (nP b n),ao (λz=>by
    rcases hb with q|q
    ·rw[z]at q n;exact absurd (aw n) (Nat.not_le.mpr q)
    ·exact q z)]
   exact n
  have un:Un X.fs [] H (gq H P G oc (X.env.qual ++ "<lambda>") pos) s.heap h2:=by
   refine⟨λb o q n _ _=>hx b o (nP b n) q,λb o q n _ _=>⟨o.slots,hx b o (nP b n) q⟩,λb o q n _=>Q4 b n (.inl (aal q)),λb o q _=>?_,λb xs q=>Ol b _ q (by intro y z;cases z) (by intro y z;cases z),λb o u q=>Ol b _ q (by intro y z;cases z) (by intro y z;cases z),λb ps q=>?_⟩
   ·by_cases hb:b=P
    ·exact⟨_,by rw[hb];exact VO⟩
    ·exact⟨o,hx b o hb q⟩
   ·by_cases hb:b=P
    ·subst hb;rw[hP]at q;cases q;exact⟨oJ pos G,ae⟩
    ·refine⟨#[],?_⟩;unfold gq;rw[ao hb,ao (λz=>by
      rw[z]at q;rcases hc with r|r<;>(rw[r]at q;cases q)),q]
     simp
  have hok:mY X.prog X.w (gq H P G oc (X.env.qual ++ "<lambda>") pos) h2:=λb u q=>by
   by_cases HC:b=P
   ·subst HC;unfold gq at q;rw[ae]at q;cases q;exact⟨_,VO,.inr ⟨_,_,_,rfl,rfl⟩⟩
   ·by_cases ax:b=G
    ·subst ax;unfold gq at q;rw[ao HC,ae]at q;cases q;exact⟨O,oc,O⟩
    ·have q' : H b=some u:=by
      unfold gq at q;rw[ao HC,ao ax]at q;exact q
     have ow:∀d,H d=some (.own b)->d≠P/\d≠G:=λd U=>⟨aW U hP (by intro z;cases z),λz=>by
      rw[z]at U;rcases hc with r|r
      ·rw[r]at U;cases U
      ·rw[r]at U;cases U;exact HC rfl⟩
     refine(I.hok b u q').stay (λd v hd U=>hx d v ?_ U) (λd U=>?_) λd xs U=>Ol d _ U (by intro y z;cases z) (by intro y z;cases z)
     ·rcases hd with rfl|hd
      ·exact HC
      ·exact(ow d hd).1
     ·unfold gq;rw[ao (ow d U).1,ao (ow d U).2];exact U
  have J:=I.un (t':=tk) un hok;have a8:H f=none:=I.hok.fresh hf;refine J.gG λp hp=>?_
  rcases aaq.mp hp with rfl|hp
  ·exact⟨a7,Q4 _ a8 (.inr a6),abC (aap I.lt hf),I.Sz hf,λv z=>by cases z⟩
  ·exact J.pin p (iO _ hp)
 refine PySem.W.kla_eval hdef ?_;rcases MY with e|⟨G,oc,e,ho,O,Z⟩
 ·refine PySem.W.kla_makeFunction (mg:=X.mg) ar I.ok.glob hg hcode C e trivial rfl a5 hb λG ctv h' tk hx Y aT a3 a9=>?_
  obtain⟨c2,oc,vs,t,e2,O,hd,hv⟩:=a3;cases e2;have hf:s.heap.objs.size<=h'.objs.size:=aaE Y (aaO aT);have BQ:G≠P:=abC (aap (aal e) Y);exact h _ G oc ctv _ (.inl (I.hok.fresh Y)) BQ ⟨vs,t,hd,hv⟩ (fin _ G oc ctv _ tk (.inl (I.hok.fresh Y)) BQ (λ_=>Y) ⟨vs,t,hd,hv⟩ (λb o hb q=>aak _ (hx b o hb q)) (aak _ a9) (aak _ O) hf (abC aT) (aaB _ rfl))
 ·have hf:codeAmong pos (oJ pos G).toList=some (.ref G):=codeAmong_snoc [] trivial rfl;have tr:TriplesOk (oJ pos G).toList:=TriplesOk_snoc pos.line pos.col (.ref G) [] trivial;refine PySem.W.kla_makeFunctionHit (mg:=X.mg) ar I.ok.glob hg hcode C e tr hf hb λctv h' tk hk a4=>?_
  have BQ:G≠P:=aW ho hP (by intro z;cases z)
  have ag : ∀b o,s.heap.get? b=some o->(h'.push (eR X params body scope G ctv)).get? b=some o:=λb o q=>aak _ (hk b o q)
  exact h _ G oc ctv _ (.inr ho) BQ Z (fin _ G oc ctv _ tk (.inr ho) BQ (λz=>by rw[ho]at z;cases z) Z (λb o _ q=>ag b o q) (ag _ _ e) (ag _ _ O) a4 (abC (aap (aal O) a4)) (aaB _ rfl))
def BR{vR:aQ}{σ0:St}{s0:Shared}{q:Str}{oc:Obj}(I0:Inv X vR σ0 H s0)(hP:H P=some (.jV (fk q pos)))(hc:H c=none\/H c=some (.own P))(BQ:c≠P)(hoc:CodeObj oc q)
 (I:Inv X pq σ H2 s) (e1:H2 P=some (.jV (fk q pos++oJ pos c))) (e2:H2 c=some (.lB oc (.own P))):Inv X pq σ (given H2 P c q pos) s:=by
 have VO:=Ll (show bg X.prog X.w H2 s.heap P (.jV (fk q pos++oJ pos c)) from I.hok P _ e1)
 obtain⟨O,_⟩:=(show bg X.prog X.w H2 s.heap c (.lB oc (.own P)) from I.hok c _ e2)
 have Z:∀b,H2 b=none->given H2 P c q pos b=none:=λb n=>by
  unfold given;rw[ao (λz=>by rw[z,e1]at n;cases n),ao (λz=>by rw[z,e2]at n;cases n)]
  exact n
 have U:∀b u,b≠P->b≠c->H2 b=some u->given H2 P c q pos b=some u:=λb u n1 n2 e=>by
  unfold given;rw[ao n1,ao n2];exact e
 refine⟨I.ok,I.os,I.bare,⟨I.base.keep,I.base.slot,λb o z n hx=>Z b (I.base.free b o z n hx),I.base.there,λb xs z=>?_,λb o u z=>?_,λb ps z=>?_⟩,I.loc,I.cell,Z _ I.free,λx c' z=>Z _ (I.ee x c' z),λp hp=>?_,λb u z=>?_,I.len⟩
 ·have r:=I.base.tups b xs z;exact U b _ (aW r e1 (by intro z;cases z)) (aW r e2 (by intro z;cases z)) r
 ·have r:=I.base.jS b o u z;refine U b _ (aW r e1 (by intro z;cases z)) (λy=>?_) r
  have G:=I0.base.jS b o u z;rw[y]at G;rcases hc with hc|hc<;>(rw[hc]at G;cases G)
 ·by_cases hb:b=P
  ·subst hb;obtain⟨more,G⟩:=I0.base.kR b ps z;rw[hP]at G;exact⟨more,by unfold given;rw[ae];exact G⟩
  ·obtain⟨more,r⟩:=I.base.kR b ps z;exact⟨more,U b _ hb (aW r e2 (by intro z;cases z)) r⟩
 ·obtain⟨a1,a2,a3⟩:=I.pin p hp;exact⟨a1,Z _ a2,a3⟩
 ·by_cases HC:b=P
  ·subst HC;unfold given at z;rw[ae]at z;cases z;refine⟨_,VO,.inl ⟨rfl,.inr ⟨c,rfl,?_,hoc.rec O⟩⟩⟩;unfold given;rw[ao BQ,ae]
  ·by_cases Y:b=c
   ·subst Y;unfold given at z;rw[ao HC,ae]at z;cases z;exact⟨oc,O⟩
   ·have z' : H2 b=some u:=by
     unfold given at z;rw[ao HC,ao Y]at z;exact z
    refine(I.hok b u z').stay (λ_ _ _ r=>r) (λd r=>U d _ (aW r e1 (by intro z;cases z)) (aW r e2 (by intro z;cases z)) r) λd xs r=>U d _ (aW r e1 (by intro z;cases z)) (aW r e2 (by intro z;cases z)) r
def BS{q:Str}{oc:Obj}(hP:H P=some (.jV (fk q pos)))(hc:H c=none\/H c=some (.own P))(BQ:c≠P)(S:au (gq H P c oc q pos) H2):au H (given H2 P c q pos):=λb u e=>by
 unfold given
 by_cases I:b=P
 ·subst I;rw[ae,<-hP];exact e
 ·rw[ao I]
  by_cases G:b=c
  ·subst G;rw[ae];rcases hc with hc|hc
   ·rw[hc]at e;cases e
   ·rw[<-hc];exact e
  ·rw[ao G];refine S b u ?_;unfold gq;rw[ao I,ao G];exact e
def uJ{q:Str}{oc:Obj}{b:Addr}{u:HO}(hP:H P=some (.jV (fk q pos)))(hc:H c=none\/H c=some (.own P))(e:H b=some u)(n1:∀y,u≠.own y)(n2:∀G,u≠.jV G):gq H P c oc q pos b=some u:=by
 unfold gq;rw[ao (λz=>by rw[z,hP]at e;exact n2 _ (Option.some.inj e).symm),ao (λz=>by
  rw[z]at e;rcases hc with q|q
  ·rw[q]at e;cases e
  ·rw[q]at e;exact n1 _ (Option.some.inj e).symm)]
 exact e
def vS(X:Cx)(N:List Str)(scope:Scope)(f c:Addr)(A:Around)(s:Shared)(H:Hp):Cx where
 prog:=X.prog
 w:=X.w
 K:=X.K
 mg:=X.mg
 base:=X.base
 A:=A.deeper (PySem.W.envX (X.env.qual ++ "<lambda>") scope s.heap.objs.size f (.ref c) (dQ X.env.cells scope.names []))
 N:=N
 s₀:=s
 H₀:=H
 env:=PySem.W.envX (X.env.qual ++ "<lambda>") scope s.heap.objs.size f (.ref c) (dQ X.env.cells scope.names [])
 outer:=X.stack
 stack:=PySem.W.envX (X.env.qual ++ "<lambda>") scope s.heap.objs.size f (.ref c) (dQ X.env.cells scope.names [])::X.stack
 ex:=[]
 fn:=λ_=>false
 calm:=X.calm
 pn:=[]
 xe:=λ_ _=>False
def Om{f:Addr}{A:Around}{x:Str}{v:V}{u:Value}{h1:Heap}{t1:Nat}(I:Inv X pq σ H s)(T:eg X scope [x] fq js)(hx:scope.names.lookup x=some .local)
 (hfr:A.frames=some X.stack) (hh:A.handled=X.A.handled) (r:RelV v u) (old:∀b o,s.heap.get? b=some o->h1.get? b=some o) (hn:h1.Ns s.heap.objs.size (λy=>[(x,u)].reverse.lookup y)) :
 Inv (vS X ([x]++fq) scope f c A s H) [] (some v::fL σ js) H { s with heap:=h1,toks:=t1}:=by
 have cells:∀x c,(dQ X.env.cells scope.names []).lookup x=some c->X.env.cells.lookup x=some c:=λx c h=>by
  rcases jW h with q|⟨q1,q2⟩
  ·cases q
  ·obtain⟨c',G⟩:=g9 I T x .free q1 rfl;rw[G]at q2;rw[G];exact aaU some q2
 refine⟨⟨I.ok.mod,T.kind,rfl,rfl,aaf _,λx y c a b=>I.ok.inj x y c (cells x c a) (cells y c b),λy U=>?_,λx c z _=>(nomatch z),λhc=>hh.trans (I.ok.hd hc),Around.frames_deeper hfr,.inr ⟨rfl,rfl⟩,λb hb=>absurd (show b∈([]:List Addr) from hb) (by simp),
  λb o e=>I.bs b o e,aaE I.ok.Jm I.sz,λb o _ hb=>absurd (show b∈([]:List Addr) from hb) (by simp),λb hb=>absurd (show b∈([]:List Addr) from hb) (by simp),I.stack,I.ur⟩,
  rfl,I.bare,Un.kept old,⟨_,hn,λi y v' O Z e3=>?_⟩,λy c e=>?_,I.hok.fresh (aaf _),λy c e=>I.ee y c (cells y c e),λp hp=>absurd (show p∈([]:aQ) from hp) (by simp),I.hok.kept old,?_⟩
 ·have U:scope.names.lookup y=some .cell\/scope.names.lookup y=some .free:=U;rcases U with U|U
  ·exact absurd rfl (T.zf _ (abj U))
  ·exact jy (.inl (abj U))
 ·replace O:([x]++fq)[i]?=some y:=O
  cases i with
  | zero =>
    have O:x=y:=by simpa using O
    have Z:v=v':=by simpa using Z
    subst O Z;exact⟨u,r,.inl ⟨hx,by simp⟩⟩
  | succ i =>
    have O:fq[i]?=some y:=by simpa using O
    have Z:(fL σ js)[i]?=some (some v'):=by simpa using Z
    obtain⟨j,hj,hσ⟩:=u4 Z;have hN:X.N[j]?=some y:=by
     have q:=aaU (λl=>l[i]?) T.at_
     simp only[aai,hj,O,abX]at q;exact Option.some.inj q
    have ag:=T.fr y (iV O);have hm:=abj ag;have hk:=T.free (y,.free) hm rfl;obtain⟨m0,ar,FD⟩:=I.loc;obtain⟨u',r',l⟩:=FD j y v' hN hσ (by rcases hk with k|k;exact .inr (.inl k);exact .inr (.inr k))
    refine⟨u',r',.inr ⟨.inr ag,?_⟩⟩;rcases l with⟨mV,_⟩|⟨_,c1,hc,Y⟩
    ·have mV:X.env.scope.names.lookup y=some .local:=mV;rcases hk with k|k<;>(rw[mV]at k;cases k)
    ·obtain⟨c',G⟩:=jy (cells:=X.env.cells) (names:=scope.names) (cs:=[]) (x:=y) (.inl hm);have q:=cells y c' G;rw[hc]at q;cases q;exact⟨c1,G,Y.keeps old⟩
 ·obtain⟨v',q⟩:=I.cell y c (cells y c e);exact⟨v',q.keeps old⟩
 ·show _=([x]++fq).length;have q:=aaU List.length T.at_;rw[aaa,aaa]at q;simp only[aa1,aao,ab7];unfold fL;rw[aaa]
  lia
def BU{f:Addr}{ctv:Value}{A:Around}{te:TE}{x:Str}{v:V}{u:Value}{Q:VK}{E:dh}(I:Inv X pq σ H s)(T:eg X scope [x] fq js)(hx:scope.names.lookup x=some .local)
 (hfr:A.frames=some X.stack) (hh:A.handled=X.A.handled) (hroom:A.depth<recursionLimit) (hp:(f,eR X params body scope c ctv)∈pq) (hcd:s.heap.CodeRec (.ref c) (X.env.qual ++ "<lambda>"))
 (hb:bindArgs (BO X params body scope c ctv) ⟨[u],[]⟩=pure [(x,u)]) (hco:scope.isCoroutine=false) (hgen:scope.isGenerator=false)
 (he:PE (vS X ([x]++fq) scope f c A s H) body te) (r:RelV v u) (h:te (some v::fL σ js) H Q) :
 wpAny (model X.prog X.w) A (call (.ref f) [u]) (λZ s'=>∃G H',Inv X pq σ H' s'/\RelV G Z/\Q G H') E s:=by
 have hf:=I.pin _ (iO _ hp);refine wpAny_call (PySem.W.kla_callFunE hroom hf.1 rfl hco hgen rfl hcd ?_);rw[hb];refine aah (wpAny_newFunctionEnv (λy U=>T.zf y U) (by intro y U;have:=aat.mp U;subst this;exact hx) (λh₁ Y Uj=>⟨I.nolimit.fresh _ Uj,?_⟩) T.kind)
 show codeAny _ _ (.expr body (PySem.W.envX (X.env.qual ++ "<lambda>") scope s.heap.objs.size f (.ref c) (dQ X.env.cells scope.names []))) _ _;have old:∀b o,s.heap.get? b=some o->h₁.get? b=some o:=λb o e=>Uj.extBut b o (aay (aal e)) (aak _ e)
 have J:=Om (f:=f) (c:=c) (A:=A) (t1:=s.toks+[(x,u)].length) I T hx hfr hh r old Y;refine PySem.W.kla_codeExpr (aaD (he [] _ _ H Q J h) (λZ s' hq=>?_) λ_ _ z=>z.elim)
 obtain⟨G,H',O,r',q'⟩:=hq;exact⟨G,H',I.Jp (ch:=[]) O.os O.base O.hok O.bare (λb z=>absurd z (by simp)),r',q'⟩
end
end L2
namespace HT
def gM:∀a:List Int,lexLt a a=false
 | []=>rfl
 | x::xs=>by rw[g8,aac rfl];exact gM xs
def tN:∀{a b c:List Int},lexLt a b=true->lexLt b c=true->lexLt a c=true
 | [],[],_,h,_=>by rw[oN]at h;cases h
 | [],_::_,[],_,h=>by rw[gH]at h;cases h
 | [],_::_,_::_,_,_=>rfl
 | _::_,[],_,h,_=>by rw[gH]at h;cases h
 | _::_,_::_,[],_,h=>by rw[gH]at h;cases h
 | x::xs,y::ys,z::zs,h1,h2=>by
   rw[g8]at h1 h2 ⊢
   by_cases I:x=y
   ·rw[aac I]at h1
    by_cases G:y=z
    ·rw[aac G]at h2;rw[aac (I.trans G)];exact tN h1 h2
    ·rw[aab G]at h2;rw[aab (λq=>G (I.symm.trans q)),I]
     exact h2
   ·rw[aab I]at h1;have h1:=jR h1
    by_cases G:y=z
    ·subst G;rw[aab I];exact cD h1
    ·rw[aab G]at h2;have h2:=jR h2;rw[aab (by lia)]
     exact cD (by lia)
def vU{a b c:List Int}(h1:lexLt c b=false)(h2:lexLt a b=true):lexLt c a=false:=by
 cases q:lexLt c a with
 | false=>rfl
 | true=>rw[tN q h2]at h1;cases h1
end HT
namespace L2
open PySem PySem.Spec PyProof.Rows
def VP(h:Heap)(a:Addr)(es:Array DictEntry)(ep:Nat):Prop:=∃o,h.get? a=some o/\o.ExactDict/\o.data = .dict es ep
def VQ(o:Obj)(a:Addr)(i n ep:Nat):Prop:=o.cls = .type "dict_keyiterator"/\o.data = .fields #[.ref a,.int i 0,.int n 0,.int ep 0]
section
variable {P:Program}{w:World}{A:Around}{E:dh}{s:Shared}{a it:Addr}{es:Array DictEntry}{ep i:Nat}{oi:Obj}
def Lm{Q:dh}(hs:(a==sysModules)=false)(g:VP s.heap a es ep)
 (q:Q (.ref s.heap.objs.size) { s with heap:=s.heap.push { cls:=.type "dict_keyiterator",data:=.fields #[.ref a,.int 0 0,.int es.size 0,.int ep 0]}}):wpAny (model P w) A (pyIter (.ref a)) Q E s:=by
 obtain⟨o,G,hc,hd⟩:=g;have I:s.TypeIs (.ref a) "dict":=⟨o,G,hc.1⟩;refine wpAny_pyIter_slot I PySem.F.slot_dict_iter (wpAny_call_entry PySem.F.slot_dict_iter I PySem.F.entry_dict_iter ?_ (PySem.F.args_dict_iter_1 _));unfold Builtin.«dict.__iter__» Builtin.Dict.dictSlotNone;refine aN (aN (wpAny_notOrdered_dict I ?_));show wpAny _ _ (pure (Value.ref a)) _ _ s;refine aah ?_;show wpAny _ _ (Builtin.Dict.showsAll a >>= _) _ _ s;unfold Builtin.Dict.showsAll;rw[hs];refine aN (aah (aN (wpAny_dictEntries G hd (aN (wpAny_dictEpoch G hd ?_)))));exact aN (wpAny_newObj_type (aah ⟨_,rfl,"dict_keyiterator",_,⟨_,aaB _ rfl,rfl⟩,ace.lookup,q⟩))
def vV{Q:Option Value->Shared->Prop}(hi:s.heap.get? it=some oi)(g:VQ oi a i es.size ep)(gd:VP s.heap a es ep)
 (q:match (es[i]?:Option DictEntry) with
  | some e=>∀h' I,h'.get? it=some I->VQ I a (i+1) es.size ep->Heap.SameBut it s.heap h'->Q (some e.key) { s with heap:=h'}
  | none=>A.handled=none/\∀h',Heap.ExtBut it s.heap h'->Q none { s with heap:=h'}):wpAny (model P w) A (pyNext (.ref it)) Q E s:=by
 obtain⟨hc,hd⟩:=g;obtain⟨o,ho,hx,VM⟩:=gd;have G:s.TypeIs (.ref it) "dict_keyiterator":=⟨oi,hi,hc⟩;unfold pyNext;refine aN (wpAny_attempt (wpAny_callSpecial?_slot (name:=Str.ofString "__next__") G ace (wpAny_call_entry ace G PySem.F.entry_dict_keyiterator_next ?_ (PySem.F.args_dict_keyiterator_next_1 _))));refine aN (aah (aN (aN ?_)))
 first | refine aN (wpAny_typeNameOfWhole_keyiter G (aah ?_)) | refine aN (wpAny_typeNameOf_keyiter G (aah ?_))
 refine aN (wpAny_fieldsOf hi hd ?_);have O:Builtin.Dict_items.ownsTuple "dict_keyiterator"=false:=by decide
 simp only[O,abq,if_false];show wpAny _ _ (if(Value.ref a==Value.none)=true then _ else _) _ _ s
 rw[aab (show ¬((Value.ref a==Value.none)=true) from aan)]
 refine aN (aah (aN (wpAny_dictEntries ho VM ?_)));rw[aab (by simp)]
 refine aN (aah (aN (wpAny_dictEpoch ho VM ?_)));rw[aab (by simp)]
 refine aah ?_;simp only[show ¬((i:Int)<0) from by lia,if_false,aaj]
 cases hei:(es[i]?:Option DictEntry) with
 | some e =>
   rw[hei]at q;refine aN ?_
   first | refine aN (wpAny_typeNameOfWhole_keyiter G (aah ?_)) | refine aN (wpAny_typeNameOf_keyiter G (aah ?_))
   refine aN (wpAny_isOneOf_keyiter G ?_);show wpAny _ _ (setField (.ref it) 1 (rawInt ((i:Int)+1)) >>= _) _ _ s;refine aN (wpAny_setField hi hd (by simp) ?_)
   have d1:=acm hd (·.setIfInBounds 1 (rawInt ((i:Int)+1)));have g1:=abn (Obj.mapFields (·.setIfInBounds 1 (rawInt ((i:Int)+1)))) hi (acu d1);have U:(Obj.mapFields (·.setIfInBounds 1 (rawInt ((i:Int)+1))) oi).cls = .type "dict_keyiterator":=(Obj.cls_mapFields ..).trans hc;refine aN (aaF ?_);refine aN (wpAny_isOneOf_keyiter (s:={ s with heap:=s.heap.update it (Obj.mapFields (·.setIfInBounds 1 (rawInt ((i:Int)+1))))}) ⟨_,g1,U⟩ ?_)
   show wpAny _ _ (pure e.key) _ _ _;exact aah (aah ⟨_,rfl,aah (q _ _ g1 ⟨U,by rw[d1];simp[rawInt]⟩ (aaY ..))⟩)
 | none =>
   rw[hei]at q;obtain⟨hh,q⟩:=q;refine aN ?_
   first | refine aN (wpAny_typeNameOfWhole_keyiter G (aah ?_)) | refine aN (wpAny_typeNameOf_keyiter G (aah ?_))
   show wpAny _ _ (setField (.ref it) 0 .none >>= _) _ _ s;refine aN (wpAny_setField hi hd (by simp) ?_)
   show wpAny _ _ (newExc (.type "StopIteration") [] >>= _) _ _ _;refine aN ?_;simp only[newExc,newTuple];refine aN (wpAny_newObj_type (aN (m:=firstArgMember _ _) (wpAny_of_eq (a:=Value.none) (by first | rfl | (simp only[firstArgMember];rfl)) (wpAny_newObj_type ?_ (by size_fits)))) (by size_fits))
   simp only[raiseNew];refine aN (wpAny_handled ?_);rw[show A.in1.handled=none from hh]
   refine aN (aah (wpAny_throw ?_));refine aN (wpAny_isInstance (T:="StopIteration") (b:=true) ⟨_,aaB _ rfl,rfl⟩ isSubtype_stop (aah ?_));exact q _ (((aaY ..).extBut.push _).push _)
end
section
variable {X:Cx}{pq:aQ}{σ:St}{H H2:Hp}{s:Shared}
def Inv.Oo{a:Addr}{kvs:List (List Key×V)}{ob:Obj}(I:Inv X pq σ H s)(e:H a=some (.dT kvs))(ho:s.heap.get? a=some ob):Inv X pq σ (upd H a (.lB ob (.dT kvs))) s:=by
 have ne:∀b,H b=none->b≠a:=λb h z=>by rw[z,e]at h;cases h
 refine⟨I.ok,I.os,I.bare,⟨I.base.keep,I.base.slot,λb o q n hx=>?_,I.base.there,λb xs q=>?_,λb o u q=>?_,λb ps q=>?_⟩,I.loc,I.cell,?_,λx c q=>?_,λp hp=>?_,λb u q=>?_,I.len⟩
 ·have z:=I.base.free b o q n hx;rw[ao (ne b z)];exact z
 ·have z:=I.base.tups b xs q;rw[ao (aW z e (by intro z;cases z))]
  exact z
 ·have z:=I.base.jS b o u q;rw[ao (aW z e (by intro z;cases z))]
  exact z
 ·obtain⟨more,z⟩:=I.base.kR b ps q;exact⟨more,by rw[ao (aW z e (by intro z;cases z))];exact z⟩
 ·rw[ao (ne _ I.free)];exact I.free
 ·rw[ao (ne _ (I.ee x c q))];exact I.ee x c q
 ·obtain⟨a1,a2,G⟩:=I.pin p hp;exact⟨a1,by rw[ao (ne _ a2)];exact a2,G⟩
 ·by_cases hb:b=a
  ·subst hb;rw[ae]at q;cases q;exact⟨ho,(I.hok b _ e).stay (λ_ _ _ q=>q) (λc q=>by rw[ao (aW q e (by intro z;cases z))];exact q) λc xs q=>by rw[ao (aW q e (by intro z;cases z))];exact q⟩
  ·rw[ao hb]at q;exact(I.hok b u q).stay (λ_ _ _ q=>q) (λc q=>by rw[ao (aW q e (by intro z;cases z))];exact q) λc xs q=>by rw[ao (aW q e (by intro z;cases z))];exact q
def Inv.Uk{vR:aQ}{σ0:St}{s0:Shared}{a:Addr}{kvs:List (List Key×V)}{ob:Obj}(I0:Inv X vR σ0 H s0)(e0:H a=some (.dT kvs))(I:Inv X pq σ H2 s)(e:H2 a=some (.lB ob (.dT kvs))):
 Inv X pq σ (upd H2 a (.dT kvs)) s:=by
 have ne:∀b,H2 b=none->b≠a:=λb h z=>by rw[z,e]at h;cases h
 obtain⟨U,hd⟩:=(show bg X.prog X.w H2 s.heap a (.lB ob (.dT kvs)) from I.hok a _ e)
 refine⟨I.ok,I.os,I.bare,⟨I.base.keep,I.base.slot,λb o q n hx=>?_,I.base.there,λb xs q=>?_,λb o u q=>?_,λb ps q=>?_⟩,I.loc,I.cell,?_,λx c q=>?_,λp hp=>?_,λb u q=>?_,I.len⟩
 ·have z:=I.base.free b o q n hx;rw[ao (ne b z)];exact z
 ·have z:=I.base.tups b xs q;rw[ao (aW z e (by intro z;cases z))]
  exact z
 ·have z:=I.base.jS b o u q;rw[ao (λy=>by
   have G:=I0.base.jS b o u q;rw[y,e0]at G;cases G)]
  exact z
 ·obtain⟨more,z⟩:=I.base.kR b ps q;exact⟨more,by rw[ao (aW z e (by intro z;cases z))];exact z⟩
 ·rw[ao (ne _ I.free)];exact I.free
 ·rw[ao (ne _ (I.ee x c q))];exact I.ee x c q
 ·obtain⟨a1,a2,O⟩:=I.pin p hp;exact⟨a1,by rw[ao (ne _ a2)];exact a2,O⟩
 ·by_cases hb:b=a
  ·subst hb;rw[ae]at q;cases q;exact hd.stay (λ_ _ _ q=>q) (λc q=>by rw[ao (aW q e (by intro z;cases z))];exact q) λc xs q=>by rw[ao (aW q e (by intro z;cases z))];exact q
  ·rw[ao hb]at q;exact(I.hok b u q).stay (λ_ _ _ q=>q) (λc q=>by rw[ao (aW q e (by intro z;cases z))];exact q) λc xs q=>by rw[ao (aW q e (by intro z;cases z))];exact q
def Ef(X:Cx)(b:Addr):Prop:=X.s₀.heap.objs.size<=b/\b≠X.env.locals/\b∉X.fs/\(∀x c,X.env.cells.lookup x=some c->c≠b)/\∀p∈X.pn,p.1≠b
def Inv.Ln(I:Inv X pq σ H s){b:Addr}(hb:s.heap.objs.size<=b):Ef X b :=
 let⟨_,f1,f2,_,f4,f5⟩:=I.GC hb (I.hok.fresh hb)
 ⟨aaE I.sz hb,f1,f2,f4,λp hp=>f5 p (C7 _ hp)⟩
def Inv.j9{pa pb:aQ}{b:Addr}{o:Obj}{h' : Heap}{t' : Nat}(I:Inv X pa σ H s)(hb:Ef X b)(hin:(b,o)∈pa)(k:∀c u,c≠b->s.heap.get? c=some u->h'.get? c=some u)
 (hp:∀p∈pb,(p.1=b/\h'.get? b=some p.2/\∀v,p.2.data≠.cell v)\/(p∈pa/\p.1≠b)):Inv X pb σ H { s with heap:=h',toks:=t'}:=by
 obtain⟨b1,G,O,U,Y⟩:=hb;have n:=(I.pin (b,o) (iO _ hin)).2.1;have J:=(I.gG (uv:=pa.filter λp=>decide (p.1≠b)) λp hp=>I.pin p (iO _ (aas.mp hp).1)).turned (t':=t') k n G (.inr b1) U (λp hp=>by
  rcases aaw.mp hp with hp|hp
  ·exact Y p hp
  ·exact jR (aas.mp hp).2)
 refine J.gG λp h=>?_
 rcases hp p h with⟨e,g,d⟩|⟨m,ne⟩
 ·refine⟨by rw[e];exact g,by rw[e];exact n,by rw[e];exact G,by rw[e];exact O,d⟩
 ·exact J.pin p (iO _ (aas.mpr ⟨m,cD ne⟩))
end
section
variable {X:Cx}{pq:aQ}{σ:St}{H2:Hp}{params:Arguments}{body:Expr}{scope:Scope}{fq:List Str}{js:List Nat}{x:Str}{te:TE}{f c a It S:Addr}{oc ob:Obj}{ctv:Value}{q:Str}{kvs:List (List Key×V)}
 {es:Array DictEntry} {ep:Nat} {ka:Nat->Addr} {ks:Nat->List Int} {PZ:Addr} {R:Result->Shared->Prop}
structure Eg(X:Cx)(σ:St)(H2:Hp)(params:Arguments)(body:Expr)(scope:Scope)(fq:List Str)(js:List Nat)(x:Str)(te:TE)(f c a It S:Addr)(oc ob:Obj)(ctv:Value)(kvs:List (List Key×V))(es:Array DictEntry)(ep:Nat)(ka:Nat->Addr)(ks:Nat->List Int)(PZ:Addr):Prop where
 T:eg X scope [x] fq js
 hx:scope.names.lookup x=some .local
 hh:X.A.handled=none
 dp:X.A.in1.depth<recursionLimit
 un:X.A.in1.units<cLine
 hb:∀u,bindArgs (BO X params body scope c ctv) ⟨[u],[]⟩=pure [(x,u)]
 co:scope.isCoroutine=false
 gen:scope.isGenerator=false
 he:∀s H,PE (vS X ([x]++fq) scope f c X.A.in1 s H) body te
 code:CodeObj oc (X.env.qual ++ "<lambda>")
 hc:H2 c=some (.lB oc (.own PZ))
 ha:H2 a=some (.lB ob (.dT kvs))
 hob:ob.ExactDict/\ob.data = .dict es ep
 key:∀(i:Nat) (e:DictEntry),(es[i]?:Option DictEntry)=some e->e.key = .ref (ka i)
 turn:∀i H3,i<es.size->au H2 H3->te (some (.ref (ka i))::fL σ js) H3 λv H4=>au H3 H4/\∃d,v = .ref d/\aR X.K H4 d ((ks i).map V.int)
 oS:Ef X S
 oI:Ef X It
 SI:S≠It
 fS:f≠S
 fI:f≠It
def BV{pa:aQ}{s:Shared}{H3:Hp}{i:Nat}{E:dh}(F:Eg X σ H2 params body scope fq js x te f c a It S oc ob ctv kvs es ep ka ks PZ)(hi:i<es.size)(hs:au H2 H3)(I:Inv X pa σ H3 s)
 (hf:(f,eR X params body scope c ctv)∈pa) :
 wpAny (model X.prog X.w) X.A.in1 (call (.ref f) [.ref (ka i)]) (λu s'=>∃d H4,u = .ref d/\Inv X pa σ H4 s'/\au H2 H4/\au H3 H4/\aR X.K H4 d ((ks i).map V.int)) E s:=by
 obtain⟨G,_⟩:=(show bg X.prog X.w H3 s.heap c (.lB oc (.own PZ)) from I.hok c _ (hs _ _ F.hc))
 refine aaD (BU (v:=.ref (ka i)) I F.T F.hx I.ok.frames rfl F.dp hf (F.code.rec G) (F.hb _) F.co F.gen (F.he s H3) rfl (F.turn i H3 hi hs)) (λu s' ⟨v,H4,J,r,O,d,e,U⟩=>?_) λ_ _ z=>z
 subst e;cases r;exact⟨d,H4,rfl,J,λb o z=>O _ _ (hs _ _ z),O,U⟩
def Lp{pa:aQ}{s:Shared}{H3:Hp}{d d' : Addr}{ns ms:List Int}{A:Around}{E:dh}{Q:dh}(I:Inv X pa σ H3 s)(h1:aR X.K H3 d (ns.map V.int))(h2:aR X.K H3 d' (ms.map V.int))(hu:A.units<cLine)
 (q:Q (.bool (HT.lexLt ns ms)) s):wpAny (model X.prog X.w) A (richCompare .Lt (.ref d) (.ref d')) Q E s:=by
 obtain⟨G,O,p1,_⟩:=I.tuple h1;obtain⟨its2,r2,p2,_⟩:=I.tuple h2;exact(HT.DB p1 p2 (intsAre_of O) (intsAre_of r2) hu q:wpAny (model X.prog X.w) A (compareOp .Lt (.ref d) (.ref d')) Q E s)
abbrev n5(pq:aQ)(S It f:Addr)(oS oI lo:Obj):aQ:=(S,oS)::(It,oI)::(f,lo)::pq
def Lq(F:Eg X σ H2 params body scope fq js x te f c a It S oc ob ctv kvs es ep ka ks PZ)(pI:∀p∈pq,p.1≠It)(pS:∀p∈pq,p.1≠S)
 (hR:∀i s' H3,i<es.size->(∀j,j<es.size->HT.lexLt (ks j) (ks i)=false)->au H2 H3->Inv X pq σ H3 s'->R (.ok (.ret (.ref (ka i)))) s') :
 ∀(r j i:Nat) (s:Shared) (H3:Hp) (d:Addr) (n:Nat) (oI:Obj),es.size-j=r->j<=es.size->i<j->au H2 H3->Inv X (n5 pq S It f (seqObj "list" #[.ref (ka i),.ref d] n) oI (eR X params body scope c ctv)) σ H3 s->VQ oI a j es.size ep->
  aR X.K H3 d ((ks i).map V.int)->(∀O,O<j->HT.lexLt (ks O) (ks i)=false)->codeAny (model X.prog X.w) X.A (.builtin "min.loop" ⟨[.ref It,.ref f,.ref S],[]⟩) R s:=by
 have G:(toString "min" ++ toString ".loop":String)="min.loop":=by decide
 intro r
 induction r with
 | zero =>
   intro j i s H3 d n oI hr hj ar hs I hk hd qy;have Di:j=es.size:=by lia
   have vW:=I.pin (S,_) (iO _ (.head _));have Lr:=I.pin (It,oI) (iO _ (.tail _ (.head _)));obtain⟨hob,_⟩:=(show bg X.prog X.w H3 s.heap a (.lB ob (.dT kvs)) from I.hok a _ (hs _ _ F.ha))
   refine codeAny_builtin abR ?_;rw[Around.under_plainId aaT _];show wpAny _ X.A.in1 (seqItems? (.ref S) >>= _) _ _ _;refine aN (wpAny_seqItems vW.1 rfl ?_);show wpAny _ X.A.in1 (tryCatch (pyNext (.ref It)) _ >>= _) _ _ _;refine aN (abM (vV Lr.1 hk ⟨ob,hob,F.hob⟩ ?_));rw[Di,Array.getElem?_eq_none (aaf _)];refine⟨F.hh,λh' eb=>?_⟩
   have I1:=I.j9 (t':=s.toks) (h':=h') (pb:=(S,seqObj "list" #[.ref (ka i),.ref d] n)::pq) F.oI (List.Mem.tail _ (.head _)) (λb u hb e=>eb b u hb e) (λp hp=>by
    rcases aaq.mp hp with rfl|hp
    ·exact .inr ⟨.head _,F.SI⟩
    ·exact .inr ⟨.tail _ (.tail _ (.tail _ hp)),pI p hp⟩)
   have Ls:=I1.pin (S,_) (iO _ (.head _));show wpAny _ X.A.in1 (updateSeq S (λ_=>#[]) >>= _) _ _ _
   refine aN (wpAny_updateSeq Ls.1 rfl (aN (wpAny_letGo (aah ?_))));have s1:=aaY h' S (Obj.mapSeq λ_=>(#[]:Array Value))
   exact hR i _ H3 (by lia) (λO Z=>qy O (by lia)) hs (I1.j9 (t':=s.toks) (pb:=pq) F.oS (.head _) (λb u hb e=>(s1.2 b hb).trans e) λp hp=>.inr ⟨.tail _ hp,pS p hp⟩)
 | succ r ih =>
   intro j i s H3 d n oI hr hj ar hs I hk hd qy;have Di:j<es.size:=by lia
   have vW:=I.pin (S,_) (iO _ (.head _));have Lr:=I.pin (It,oI) (iO _ (.tail _ (.head _)));obtain⟨hob,_⟩:=(show bg X.prog X.w H3 s.heap a (.lB ob (.dT kvs)) from I.hok a _ (hs _ _ F.ha))
   refine codeAny_builtin abR ?_;rw[Around.under_plainId aaT _];show wpAny _ X.A.in1 (seqItems? (.ref S) >>= _) _ _ _;refine aN (wpAny_seqItems vW.1 rfl ?_);show wpAny _ X.A.in1 (tryCatch (pyNext (.ref It)) _ >>= _) _ _ _;refine aN (abM (vV Lr.1 hk ⟨ob,hob,F.hob⟩ ?_));have U:(es[j]?:Option DictEntry)=some es[j]:=Array.getElem?_eq_getElem Di;rw[U];intro h' Jh Xz Y sb;have I1:=I.j9 (t':=s.toks) (h':=h') (pb:=n5 pq S It f (seqObj "list" #[.ref (ka i),.ref d] n) Jh (eR X params body scope c ctv)) F.oI (List.Mem.tail _ (.head _)) (λb u hb e=>(sb.2 b hb).trans e) (λp hp=>by
    rcases aaq.mp hp with rfl|hp
    ·exact .inr ⟨.head _,F.SI⟩
    ·rcases aaq.mp hp with rfl|hp
     ·exact .inl ⟨rfl,Xz,λv z=>by rw[Y.2]at z;cases z⟩
     ·rcases aaq.mp hp with rfl|hp
      ·exact .inr ⟨.tail _ (.tail _ (.head _)),F.fI⟩
      ·exact .inr ⟨.tail _ (.tail _ (.tail _ hp)),pI p hp⟩)
   rw[F.key j _ U];show wpAny _ X.A.in1 (tryCatch (holding [.ref (ka j)] (call (.ref f) [.ref (ka j)])) _ >>= _) _ _ _;refine aN (abM (aaF (aaD (BV F Di hs I1 (List.Mem.tail _ (.tail _ (.head _)))) (λu s2 hu=>?_) λ_ _ z=>z)))
   obtain⟨d2,H4,rfl,I2,Kc,aw,hd2⟩:=hu;have ag:aR X.K H4 d ((ks i).map V.int):=aw.sqT hd;show wpAny _ X.A.in1 (tryCatch (holding [.ref (ka j),.ref d2] (richCompare .Lt (.ref d2) (.ref d) >>= _)) _ >>= _) _ _ _;refine aN (abM (aaF (aN (Lp I2 hd2 ag F.un ?_))));refine aN (aaF (wpAny_truthy_bool (aN (wpAny_letGo (aah ?_)))));have nq:=I2.pin (S,_) (iO _ (.head _));cases hl:HT.lexLt (ks j) (ks i) with
   | true =>
     have s1:=aaY s2.heap S (Obj.mapSeq λ_=>(#[.ref (ka j),.ref d2]:Array Value))
     obtain⟨n2,ax⟩:∃n2,(s2.heap.update S (Obj.mapSeq λ_=>(#[.ref (ka j),.ref d2]:Array Value))).get? S=some (seqObj "list" #[.ref (ka j),.ref d2] n2):=⟨_,get?_update_seq nq.1 λ_=>#[.ref (ka j),.ref d2]⟩
     simp only[if_true];refine aN (wpAny_updateSeq nq.1 rfl (aN (wpAny_letGo ?_)));rw[G];have I3:=I2.j9 (t':=s2.toks) (pb:=n5 pq S It f (seqObj "list" #[.ref (ka j),.ref d2] n2) Jh (eR X params body scope c ctv)) F.oS (.head _) (λb u hb e=>(s1.2 b hb).trans e) (λp hp=>by
      rcases aaq.mp hp with rfl|hp
      ·exact .inl ⟨rfl,ax,λv z=>by cases z⟩
      ·rcases aaq.mp hp with rfl|hp
       ·exact .inr ⟨.tail _ (.head _),F.SI.symm⟩
       ·rcases aaq.mp hp with rfl|hp
        ·exact .inr ⟨.tail _ (.tail _ (.head _)),F.fS⟩
        ·exact .inr ⟨.tail _ (.tail _ (.tail _ hp)),pS p hp⟩)
     refine aah ⟨plainId_quiet aaT _,ih (j+1) j _ H4 d2 n2 Jh (by lia) (by lia) (by lia) Kc I3 Y hd2 λO Z=>?_⟩
     by_cases e:O = j
     ·rw[e];exact HT.gM _
     ·exact HT.vU (qy O (by lia)) hl
   | false =>
     simp only[abq,if_false];refine aN (wpAny_letGo ?_);rw[G];refine aah ⟨plainId_quiet aaT _,ih (j+1) i _ H4 d n Jh (by lia) (by lia) (by lia) Kc I2 Y ag λO Z=>?_⟩
     by_cases e:O = j
     ·rw[e];exact hl
     ·exact qy O (by lia)
end
def boot_min:bootBuiltins "min"=some (.builtin "min"):=by kernel_rfl
def Ul(K:bN)(P:Addr)(q:Str)(lp:Pos)(ta:TA)(te:TE)(js:List Nat):TE:=λσ H Q=>ta σ H λvs H1=>∃a kvs,∃ks:Nat->List Int,vs=[.ref a]/\H1 a=some (.dT kvs)/\0<kvs.length/\H1 P=some (.jV (fk q lp))/\
 (∀ob H3,(∀b u,H1 b=some u->b≠a->(∀y,u≠.own y)->(∀G,u≠.jV G)->H3 b=some u)->H3 a=some (.lB ob (.dT kvs))->
  ∀(i:Nat) kv b,kvs[i]?=some kv->H3 b=some (.tup (kv.1.map kV))->te (some (.ref b)::fL σ js) H3 λv H4=>au H3 H4/\∃d,v = .ref d/\aR K H4 d ((ks i).map V.int))/\
 ∀(i:Nat) kv b H4,kvs[i]?=some kv->(∀j,j<kvs.length->HT.lexLt (ks j) (ks i)=false)->au H1 H4->H4 b=some (.tup (kv.1.map kV))->Q (.ref b) H4
def rQ{α β:Type}{R:α->β->Prop}:∀{G:List α} {I:List β},Paired R G I->∀{i:Nat} {a:α} {b:β},G[i]?=some a->I[i]?=some b->R a b
 | _,_,.nil,i,_,_,h,_=>by simp at h
 | _,_,.cons r t,0,_,_,h1,h2=>by
   simp at h1 h2;subst h1 h2;exact r
 | _,_,.cons r t,i+1,_,_,h1,h2=>rQ t (by simpa using h1) (by simpa using h2)
section
variable {X:Cx}{params:Arguments}{body e:Expr}{scope:Scope}{lp p pos kp:Pos}{fq:List Str}{js:List Nat}{x:Str}{ta:TA}{te:TE}{c0 P:Addr}{k:Nat}
def Oq(hr:eN (k+2) X.A)(T:eg X scope [x] fq js)(hx:scope.names.lookup x=some .local)(hg:Gl X "min")(hm:X.mg "min"=none)(hcode:X.env.code = .ref c0)(hK:PySem.W.codeHdIn X.K c0 P=true)(ha:PA X [e] ta)
 (he:∀f c s H,eN k (vS X ([x]++fq) scope f c X.A.in1 s H).A->PE (vS X ([x]++fq) scope f c X.A.in1 s H) body te)
 (hb:∀c ctv u,bindArgs (BO X params body scope c ctv) ⟨[u],[]⟩=pure [(x,u)]:=by intro _ _ _;rfl) (hco:scope.isCoroutine=false:=by rfl) (hgen:scope.isGenerator=false:=by rfl)
 (hdef:defaultsOf params X.env=([],[]):=by rfl)
 (hs:backTo pos (starEach [e] X.env)=(false,eval e X.env)::backTo pos (starEach [] X.env):=by rfl) (hs2:(backTo pos (starEach [e] X.env)).any (·.1)=false:=by rfl) :
 PE X (.Call (.Name "min" p) [e] [⟨some (Str.ofString "key"),.Lambda params body scope lp,kp⟩] pos) (Ul X.K P (X.env.qual ++ "<lambda>") lp ta te js):=by
 intro pq s σ H Q I h;refine wpAny_Call_Name_kw (kA I hg hm boot_min (callWith_kw (dP (ha pos pq s σ H _ I h) λus s1 hq=>?_) hs hs2 rfl rfl))
 obtain⟨vs,H1,I1,r1,a,kvs,ks,rfl,a7,bc,hP,ar,Q5⟩:=hq;obtain⟨u,rfl,rx⟩:=vals1 r1;cases rx;refine kws_cons (BP I1 T hcode hK hP hdef λf c oc ctv s2 hc BQ aT J=>kws_nil ?_)
 show wpAny _ X.A (call (.builtin "min") [.ref a] [(Str.ofString "key",.ref f)]) _ _ s2;have O:(toString "min" ++ toString ".loop":String)="min.loop":=by decide
 have G:=uJ (oc:=oc) hP hc a7 (by intro y z;cases z) (by intro y z;cases z)
 obtain⟨hz,a3,xs,pr,ob,es,ep,aw,hex,U,a4,bo⟩:=(show bg X.prog X.w (gq H1 P c oc (X.env.qual ++ "<lambda>") lp) s2.heap a (.dT kvs) from J.hok a _ G)
 have J2:=J.Oo G aw;have a8:es.size=kvs.length:=by
  have:=aaU List.length a4;rw[aaa,<-pr.length]at this
  simpa using this
 have bp:xs.length=kvs.length:=pr.length.symm;have ax:∀i,i<kvs.length->∃kv y,kvs[i]?=some kv/\xs[i]?=some y/\gq H1 P c oc (X.env.qual ++ "<lambda>") lp y.2.1=some (.tup (kv.1.map kV)):=λi hi=>by
  have e1:kvs[i]?=some kvs[i]:=aad hi;have Y:xs[i]?=some (xs[i]'(by lia)):=aad _
  exact⟨_,_,e1,Y,(rQ pr e1 Y).2.1⟩
 have Q6:gq H1 P c oc (X.env.qual ++ "<lambda>") lp P=some (.jV (fk (X.env.qual ++ "<lambda>") lp++oJ lp c)):=ae;have Ot:gq H1 P c oc (X.env.qual ++ "<lambda>") lp c=some (.lB oc (.own P)):=by unfold gq;rw[ao BQ,ae]
 have ca:c≠a:=aW Ot G (by intro z;cases z)
 have pa:P≠a:=aW Q6 G (by intro z;cases z)
 generalize NF:upd (gq H1 P c oc (X.env.qual ++ "<lambda>") lp) a (.lB ob (.dT kvs))=H2 at J2;have at2:∀b u,b≠a->gq H1 P c oc (X.env.qual ++ "<lambda>") lp b=some u->H2 b=some u:=λb u n e=>by rw[<-NF,ao n];exact e
 have a2:H2 a=some (.lB ob (.dT kvs)):=by rw[<-NF,ae]
 let ka:Nat->Addr:=λi=>((xs[i]?).map (·.2.1)).getD 0
 have Q7:∀{i:Nat} {y:List Key×Addr×Value},xs[i]?=some y->ka i=y.2.1:=λ{i y} e=>by show((xs[i]?).map (·.2.1)).getD 0=_;rw[e];rfl
 refine kmk_tree PySem.F.kind_min PySem.F.plain_min PySem.F.entry_min (kmk_min_key _ _) ?_;show wpAny _ X.A.in1 (Builtin.Builtins.bindParams "min" ["key","default"] 0 ⟨[],[(Str.ofString "key",.ref f)]⟩ >>= _) _ _ s2;refine aN (wpAny_of_eq (show Builtin.Builtins.bindParams "min" ["key","default"] 0 ⟨[],[(Str.ofString "key",.ref f)]⟩=pure [some (.ref f),none] from rfl) ?_)
 refine aN (aah (aN (Lm a3 ⟨ob,aw,hex,U⟩ (aN (wpAny_newList ?_ (aaL _))))));rw[O];refine aah ⟨plainId_quiet aaT _,?_⟩;generalize Q8:({ cls:=.type "dict_keyiterator",data:=.fields #[.ref a,.int 0 0,.int es.size 0,.int ep 0]}:Obj)=oI;have Zj:VQ oI a 0 es.size ep:=by rw[<-Q8];exact⟨rfl,rfl⟩
 have hS:(s2.heap.push oI).objs.size=s2.heap.objs.size+1:=size_push' ..;have a5:∀b o,s2.heap.get? b=some o->((s2.heap.push oI).push (seqObj "list" #[] 0)).get? b=some o:=λb o e=>aak _ (aak _ e)
 have gI:((s2.heap.push oI).push (seqObj "list" #[] 0)).get? s2.heap.objs.size=some oI:=aak _ (aaB _ (by rw[<-Q8];rfl))
 have gS:((s2.heap.push oI).push (seqObj "list" #[] 0)).get? (s2.heap.push oI).objs.size=some (seqObj "list" #[] 0):=aaB _ rfl;have Ou:∀p∈(f,eR X params body scope c ctv)::pq,p.1<s2.heap.objs.size:=λp hp=>aal (J2.pin p (iO _ hp)).1
 have Pw:=J2.Ln (aaf s2.heap.objs.size);have oS:=J2.Ln (b:=(s2.heap.push oI).objs.size) (by rw[hS];exact abF _)
 have F:Eg X σ H2 params body scope fq js x te f c a s2.heap.objs.size (s2.heap.push oI).objs.size oc ob ctv kvs es ep ka ks P:=by
  refine⟨T,hx,hr.hd,(hr.in1).depth,(hr.in1).Dz,λu=>hb c ctv u,hco,hgen,λs H=>he f c s H ((hr.in1).deeper _),aT,at2 c _ ca Ot,a2,⟨hex,U⟩,λi e hi=>?_,λi H3 hi Z=>?_,oS,Pw,by rw[hS];exact ac5 _,?_,aay (Ou _ (.head _))⟩
  ·have a9 : i<kvs.length:=by rw[<-a8];exact(abS.mp hi).1
   obtain⟨kv,y,e1,Y,_⟩:=ax i a9;have e3:=aaU (λl=>l[i]?) a4
   simp only[aai,Y,abX,acv]at e3;rw[hi]at e3;have e4:=Option.some.inj e3;rw[e4,Q7 Y];rfl
  ·obtain⟨kv,y,e1,Y,e3⟩:=ax i (by lia)
   refine ar ob H3 (λb u eb nb n1 n2=>Z _ _ (at2 b u nb (uJ hP hc eb n1 n2))) (Z _ _ a2) i kv (ka i) e1 ?_
   rw[Q7 Y];exact Z _ _ (at2 _ _ (aW e3 G (by intro z;cases z)) e3)
  ·rw[hS];exact aay (abu (Ou _ (.head _)))
 have pI:∀p∈pq,p.1≠s2.heap.objs.size:=λp hp=>aay (Ou p (.tail _ hp))
 have pS:∀p∈pq,p.1≠(s2.heap.push oI).objs.size:=λp hp=>by rw[hS];exact aay (abu (Ou p (.tail _ hp)))
 have J3:Inv X (n5 pq (s2.heap.push oI).objs.size s2.heap.objs.size f (seqObj "list" #[] 0) oI (eR X params body scope c ctv)) σ H2 { s2 with heap:=(s2.heap.push oI).push (seqObj "list" #[] 0)}:=by
  have K:=J2.kept (t':=s2.toks) a5;refine K.gG λp hp=>?_
  rcases aaq.mp hp with rfl|hp
  ·exact⟨gS,J2.hok.fresh (by rw[hS];exact abF _),oS.2.1,oS.2.2.1,λv z=>by cases z⟩
  ·rcases aaq.mp hp with rfl|hp
   ·exact⟨gI,J2.hok.fresh (aaf _),Pw.2.1,Pw.2.2.1,λv z=>by rw[Zj.2]at z;cases z⟩
   ·exact K.pin p (iO _ hp)
 have h0:0<es.size:=by lia
 have ag:(es[0]?:Option DictEntry)=some es[0]:=Array.getElem?_eq_getElem h0;have vW:=J3.pin ((s2.heap.push oI).objs.size,seqObj "list" #[] 0) (iO _ (.head _));have Lr:=J3.pin (s2.heap.objs.size,oI) (iO _ (.tail _ (.head _)));refine codeAny_builtin abR ?_;rw[Around.under_plainId aaT _];show wpAny _ X.A.in1 (seqItems? (.ref _) >>= _) _ _ _;refine aN (wpAny_seqItems vW.1 rfl ?_);show wpAny _ X.A.in1 (tryCatch (pyNext (.ref s2.heap.objs.size)) _ >>= _) _ _ _;refine aN (abM (vV Lr.1 Zj ⟨ob,a5 _ _ aw,hex,U⟩ ?_));rw[ag];intro h' Jh Xz a6 sb;have I4:=J3.j9 (t':=s2.toks) (h':=h') (pb:=n5 pq (s2.heap.push oI).objs.size s2.heap.objs.size f (seqObj "list" #[] 0) Jh (eR X params body scope c ctv)) F.oI (List.Mem.tail _ (.head _)) (λb u hb e=>(sb.2 b hb).trans e) (λp hp=>by
  rcases aaq.mp hp with rfl|hp
  ·exact .inr ⟨.head _,F.SI⟩
  ·rcases aaq.mp hp with rfl|hp
   ·exact .inl ⟨rfl,Xz,λv z=>by rw[a6.2]at z;cases z⟩
   ·rcases aaq.mp hp with rfl|hp
    ·exact .inr ⟨.tail _ (.tail _ (.head _)),F.fI⟩
    ·exact .inr ⟨.tail _ (.tail _ (.tail _ hp)),pI p hp⟩)
 rw[F.key 0 _ ag];show wpAny _ X.A.in1 (tryCatch (holding [.ref (ka 0)] (call (.ref f) [.ref (ka 0)])) _ >>= _) _ _ _;refine aN (abM (aaF (aaD (BV F h0 (au.refl _) I4 (List.Mem.tail _ (.tail _ (.head _)))) (λu s3 hu=>?_) λ_ _ z=>z)))
 obtain⟨d2,H4,rfl,I5,Kc,_,hd2⟩:=hu;have nq:=I5.pin ((s2.heap.push oI).objs.size,_) (iO _ (.head _));have ba:=aaY s3.heap (s2.heap.push oI).objs.size (Obj.mapSeq λ_=>(#[.ref (ka 0),.ref d2]:Array Value))
 obtain⟨n2,bb⟩:∃n2,(s3.heap.update (s2.heap.push oI).objs.size (Obj.mapSeq λ_=>(#[.ref (ka 0),.ref d2]:Array Value))).get? (s2.heap.push oI).objs.size=some (seqObj "list" #[.ref (ka 0),.ref d2] n2):=⟨_,get?_update_seq nq.1 λ_=>#[.ref (ka 0),.ref d2]⟩
 show wpAny _ X.A.in1 (updateSeq (s2.heap.push oI).objs.size (λ_=>#[.ref (ka 0),.ref d2]) >>= _) _ _ _
 refine aN (wpAny_updateSeq nq.1 rfl ?_);rw[O];have I6:=I5.j9 (t':=s3.toks) (pb:=n5 pq (s2.heap.push oI).objs.size s2.heap.objs.size f (seqObj "list" #[.ref (ka 0),.ref d2] n2) Jh (eR X params body scope c ctv)) F.oS (.head _) (λb u hb e=>(ba.2 b hb).trans e) (λp hp=>by
  rcases aaq.mp hp with rfl|hp
  ·exact .inl ⟨rfl,bb,λv z=>by cases z⟩
  ·rcases aaq.mp hp with rfl|hp
   ·exact .inr ⟨.tail _ (.head _),F.SI.symm⟩
   ·rcases aaq.mp hp with rfl|hp
    ·exact .inr ⟨.tail _ (.tail _ (.head _)),F.fS⟩
    ·exact .inr ⟨.tail _ (.tail _ (.tail _ hp)),pS p hp⟩)
 refine aah ⟨plainId_quiet aaT _,Lq F pI pS (λi s' H3 hi best Z I7=>?_) _ 1 0 _ H4 d2 n2 Jh rfl h0 (acf _) Kc I6 a6 hd2 λj hj=>?_⟩
 ·obtain⟨kv,y,e1,Y,e3⟩:=ax i (by lia)
  have i3:=Z _ _ a2;have I8:=Inv.Uk J G I7 i3;have p3:upd H3 a (.dT kvs) P=some (.jV (fk (X.env.qual ++ "<lambda>") lp++oJ lp c)):=by rw[ao pa];exact Z _ _ (at2 _ _ pa Q6)
  have c3:upd H3 a (.dT kvs) c=some (.lB oc (.own P)):=by rw[ao ca];exact Z _ _ (at2 _ _ ca Ot)
  have I9:=BR I1 hP hc BQ aT I8 p3 c3;have ya:y.2.1≠a:=aW e3 G (by intro z;cases z)
  have y3:upd H3 a (.dT kvs) y.2.1=some (.tup (kv.1.map kV)):=by rw[ao ya];exact Z _ _ (at2 _ _ ya e3)
  refine⟨.ref (ka i),_,I9,rfl,Q5 i kv (ka i) _ e1 (λj hj=>best j (by lia)) (BS hP hc BQ (oc:=oc) λb u eb=>?_) ?_⟩
  ·by_cases hb:b=a
   ·subst hb;rw[G]at eb;rw[ae];exact eb
   ·rw[ao hb];exact Z _ _ (at2 _ _ hb eb)
  ·rw[Q7 Y];unfold given;rw[ao (aW y3 p3 (by intro z;cases z)),ao (aW y3 c3 (by intro z;cases z))]
   exact y3
 ·have e:j=0:=by lia
  rw[e];exact HT.gM _
end
section
variable {P:Program}{w:World}{A:Around}{E:dh}{s:Shared}{a:Addr}{es:Array DictEntry}{ep:Nat}
def Q9(hd:(a==sysModules)=false):MeetsIn P w (Builtin.«dict.__len__» ⟨[.ref a],[]⟩) (λ_ R s=>∃es ep,VP s.heap a es ep/\R (.ok (.ret (.int es.size s.toks))) { s with toks:=s.toks+1}) :=
 .of_wp λA R s ⟨es,ep,⟨o,I,_,G⟩,h⟩=>by
  show wpAny _ _ (dictSize a >>= _) _ _ s;unfold dictSize;refine aN (aN (wpAny_dictEntries I G (aah ?_)));show wpAny _ _ (Builtin.Dict.pendingCount a >>= _) _ _ s;refine aN (wpAny_pendingCount_other hd (wpAny_ret_mkInt ?_));rw[Nat.add_zero];exact h
def HD{Q:dh}(hd:(a==sysModules)=false)(g:VP s.heap a es ep)(hfit:(es.size:Int)<2^63)(h:Q (.int es.size (s.toks+1)) { s with toks:=s.toks+1+1}):
 wpAny (model P w) A (call (.builtin "len") [.ref a]) Q E s:=by
 have G:s.TypeIs (.ref a) "dict":=let⟨o,ho,hc,_⟩:=g;⟨o,ho,hc.1⟩;refine Calls.call_function_entry kind_len plain_len entry_len (args_len1 _) ?_;unfold Builtin.«len»;refine aN (m:=oneArg "len" _) (aah ?_);refine aN (m:=callSpecial? (.ref a) (Str.ofString "__len__")) (wpAny_callSpecial?_slot (name:=Str.ofString "__len__") G PySem.F.slot_dict_len
  (call_meetsIn PySem.F.slot_dict_len G PySem.F.entry_dict_len (PySem.F.args_dict_len_1 _) (Q9 hd) ⟨es,ep,g,?_⟩))
 show wpAny _ _ _ _ _ { s with toks:=s.toks+1}
 refine aN (aaF (aah (aN (wpAny_letGo ?_))));show wpAny _ _ (if((es.size:Nat):Int)<0 then _ else _) _ _ _
 rw[aab (by lia)]
 show wpAny _ _ (if((es.size:Nat):Int) ≥ 2^63 then _ else _) _ _ _
 rw[aab (by lia)]
 exact aN (wpAny_mkInt (aah ⟨_,rfl,h⟩))
end
def erase_filter{K α:Type}[DecidableEq K]{k:K}{p:α}:∀{xs:List (K×α)} {j:Nat},(xs.map (·.1)).Nodup->xs[j]?=some (k,p)->xs.eraseIdx j=xs.filter λx=>decide (x.1≠k)
 | [],j,_,h=>by simp at h
 | x::r,0,nd,h=>by
   simp at h;subst h;rw[aaN,aaV]at nd;rw[List.eraseIdx_cons_zero,aaR,aab (by simp)]
   refine(adt.mpr λy G=>?_).symm
   have z:y.1≠k:=λz=>nd.1 (aaz.mpr ⟨y,G,z⟩)
   simp[z]
 | x::r,j+1,nd,h=>by
   rw[aaN,aaV]at nd;have h:r[j]?=some (k,p):=by simpa using h
   have hx:x.1≠k:=λz=>nd.1 (by rw[z];exact ack (f:=(·.1)) (iV h))
   rw[acV,aaR,aac (cD hx),erase_filter nd.2 h]
def oW{α β:Type}(f:α->β):∀(l:List α) (i:Nat),(l.map f).eraseIdx i=(l.eraseIdx i).map f
 | [],_=>rfl
 | _::_,0=>rfl
 | x::r,i+1=>by rw[aaN,acV,acV,aaN,oW f r i]
def KT.drop{H:Hp}{kvs:List (List Key×V)}{xs:List (List Key×Addr×Value)}(r:KT H kvs xs)(k:List Key):KT H (eA kvs k) (xs.filter λx=>decide (x.1≠k)):=by
 unfold eA
 induction r with
 | nil=>exact .nil
 | @cons p q ps qs h t ih =>
   rw[aaR,aaR]
   by_cases e:p.1=k
   ·rw[aab (by simp[e]),aab (by simp[h.1.symm.trans e])];exact ih
   ·have e' : ¬ q.1=k:=λz=>e (h.1.trans z)
    rw[aac (by simp[e]),aac (by simp[e'])];exact .cons h ih
section
variable {P:Program}{w:World}{A:Around}{E:dh}{s:Shared}{K:Type}[DecidableEq K]{knd:HeapKind P w K}{d b:Addr}{xs:List (K×Addr×Value)}{k:K}{j:Nat}{p:Addr×Value}
def Ra{Q:Option DictEntry->Shared->Prop}(hu:knd.room A)(hkey:knd.is s.heap k b)(hm:s.heap.DictOfH knd d xs)(hj:xs[j]?=some (k,p))(hsz:xs.length<=sizeLine)
 (h:∀e h' o' G Fi,e.val=p.2->h'.get? d=some o'->o'.ExactDict->o'.data = .dict G Fi->G.toList=(xs.eraseIdx j).map (entryOfKey knd)->Heap.SameBut d s.heap h'->Q (some e) { s with heap:=h',toks:=s.toks+knd.draws k}) :
 wpAny (model P w) A (Builtin.Dict.takeOut d (.ref b)) Q E s:=by
 obtain⟨o,es,ep,I,hc,hd,he,O,hn⟩:=hm;unfold Builtin.Dict.takeOut
 try with_reducible refine aaF ?_
 refine aN (knd.pyHash hu hkey (aN (wpAny_dictFind_heap (s:={ s with toks:=s.toks+knd.draws k}) hu hkey I hd he O hn (λU=>absurd hj (U j p)) λj' p' Y=>?_)))
 have Z:j' = j:=idxH_unique hn Y hj;subst Z;refine aN (wpAny_dictEntries (s:={ s with toks:=s.toks+knd.draws k}) I hd ?_)
 rw[entry_at he j',hj];refine aN (wpAny_updateDictKeys (hz:=by have e:=size_of_entries he;lia) (s:={ s with toks:=s.toks+knd.draws k}) I hd (aah (h _ _ _ _ (ep+1) rfl (abn _ I (Obj.isFreed_of_dict (Obj.data_mapDictKeys hd _))) (hc.mapDictKeys _) (Obj.data_mapDictKeys hd _) ?_ (aaY ..))))
 rw[<-oW,<-he];obtain⟨l⟩:=es;simp
def Um{Q:dh}(hu:knd.room A.in1)(hkey:knd.is s.heap k b)(hm:s.heap.DictOfH knd d xs)(hj:xs[j]?=some (k,p))(hsz:xs.length<=sizeLine)
 (h:∀h' o' G I,h'.get? d=some o'->o'.ExactDict->o'.data = .dict G I->G.toList=(xs.eraseIdx j).map (entryOfKey knd)->Heap.SameBut d s.heap h'->Q p.2 { s with heap:=h',toks:=s.toks+knd.draws k}) :
 wpAny (model P w) A (call (.builtin "dict.pop") [.ref d,.ref b]) Q E s:=by
 have Y:=hm.typeIs;refine wpAny_call_entry PySem.F.slot_dict_pop Y PySem.F.entry_dict_pop ?_ (PySem.F.args_dict_pop_2 _ _);unfold Builtin.«dict.pop» Builtin.Dict.keyAndDefault;refine aN (aN (wpAny_notOrdered_dict Y ?_));show wpAny _ _ (pure (d,Value.ref b,(none:Option Value))) _ _ s;refine aah ?_;obtain⟨o,es,ep,Z,hc,hd,he,ag,hn⟩:=id hm;have O:es.isEmpty=false:=by
  have e:=size_of_entries he;have hl:=(ju.mp hj).1;rw[Array.isEmpty_eq_false_iff_exists_mem];exact⟨es[j]'(by lia),Array.getElem_mem _⟩
 have U:(keyPart (Value.ref b)).isSome=false:=rfl;simp only[U,abq,if_false];refine aN (wpAny_dictEntries Z hd (aN (aah ?_)));rw[O];simp only[abq,if_false];refine aN (Ra hu hkey hm hj hsz λe h' o' G I e1 e2 e3 e4 e5 e6=>?_)
 simp only[Option.isNone_some,abq,if_false];refine aN (wpAny_letGo (aah ⟨e.val,rfl,?_⟩));rw[e1];exact h h' o' G I e2 e3 e4 e5 e6
end
section
variable {X:Cx}{pq:aQ}{σ:St}{H:Hp}{s:Shared}
def XA:fJ X (.builtin "len") (λxs H Q=>∃a kvs,xs=[.ref a]/\Rd H a (.dT kvs)/\Q (.int kvs.length) H):=by
 intro pq s σ H xs us Q I r h;obtain⟨a,kvs,rfl,e,q⟩:=h;obtain⟨u,rfl,rx⟩:=vals1 r;cases rx;obtain⟨z,hsys,ys,pr,ob,es,ep,hgo,hex,hdat,hes,hnd⟩:=(show bg X.prog X.w H s.heap a (.dT kvs) from e.ok I.hok)
 have G:es.size=kvs.length:=by
  have:=aaU List.length hes;rw[aaa,<-pr.length]at this
  simpa using this
 refine HD hsys ⟨ob,hgo,hex,hdat⟩ (by rw[G];rw[sizeLine_eq]at z;lia) ?_
 rw[G];exact⟨.int kvs.length,H,I.tok _,⟨_,rfl⟩,q⟩
def Rb(td ty:TE):TE:=λσ H Q=>td σ H λx H1=>∃a,x = .ref a/\Xr H1 a/\ty σ H1 λy H2=>∃kvs k b v,H2 a=some (.dT kvs)/\y = .ref b/\H2 b=some (.tup (k.map kV))/\eW kvs k=some v/\Q v (upd H2 a (.dT (eA kvs k)))
def Rc{A:Around}{E:dh}{a b:Addr}{kvs:List (List Key×V)}{k:List Key}{v:V}{Q:dh}(hu:A.units+1<cLine)(I:Inv X pq σ H s)(e:H a=some (.dT kvs))(eb:H b=some (.tup (k.map kV)))(l:eW kvs k=some v)
 (h:∀O s',Inv X pq σ (upd H a (.dT (eA kvs k))) s'->RelV v O->Q O s'):wpAny (model X.prog X.w) A (call (.builtin "dict.pop") [.ref a,.ref b]) Q E s:=by
 obtain⟨z,hd,xs,rel,dd⟩:=KH I.hok e;have hv:=rel.val k;rw[l]at hv;obtain⟨O,hw,rw'⟩:=oF.some_of hv;obtain⟨p,Zk,MV⟩:=tD.mp hw;obtain⟨j,hj⟩:∃j,xs[j]?=some (k,p):=by
  unfold atKey at Zk;obtain⟨y,Zl,U⟩:=tD.mp Zk;have hk:=List.find?_some Zl;have hm:=List.mem_of_find?_eq_some Zl;obtain⟨j,hj⟩:=aaI hm;have Y : y.1=k:=jR hk;exact⟨j,by rw[hj,<-Y,<-U]⟩
 have G:(xs.map (·.1)).Nodup:=let⟨_,_,_,_,_,_,_,_,hn⟩:=dd;hn;refine Um (tupleKind_room_in1 hu) (rC I.hok eb) dd hj (by rw[<-rel.length];exact z) λh' o' Z Fi g1 g2 g3 g4 sb=>?_
 rw[MV];refine h O _ ?_ rw';have ag:∀b ys,H b=some (.tup ys)->upd H a (.dT (eA kvs k)) b=some (.tup ys):=λb ys q=>by rw[ao (aW q e (by intro z;cases z))];exact q
 rw[erase_filter G hj]at g4;refine uF I (by rw[e];exact True.intro) sb ⟨o',g1⟩ ⟨aaE (KG kvs k) z,hd,_,(rel.drop k).keeps ag,o',Z,Fi,g1,g2,g3,g4,?_⟩
 exact G.sublist (List.filter_sublist.map _)
variable {o e:Expr}{apos cpos:Pos}{td ty:TE}
def Lu(hu:X.A.units+1<cLine)(ho:PE X o td)(he:PE X e ty)(m:M1 X o "pop" apos e cpos):PE X (.Call (.Attribute o "pop" apos) [e] [] cpos) (Rb td ty):=by
 intro pq s σ H Q I h;refine wpAny_Call_method m.base m.few m.line PySem.F.plainAttrs_dict PySem.F.slot_dict_pop PySem.F.type_dict_pop (dP (ho pq s σ H _ I h) λu s1 ⟨x,H1,O,rx,a,ex,d,U⟩=>?_)
 subst ex;obtain rfl:u=Value.ref a:=rx;obtain⟨t1,t2,_⟩:=KN O d;refine⟨t1,t2,?_⟩;rw[m.trees];refine Calls.callWith_builtin rfl (Calls.evalArgs_plain (Calls.spliced_cons (dP (he pq s1 σ H1 _ O U) λY s2 ⟨y,H2,Z,ry,kvs,k,b,v,ea,ey,eb,l,q2⟩=>Calls.spliced_nil ?_)))
 subst ey;obtain rfl:Y=Value.ref b:=ry;exact Rc hu Z ea eb l λw' s3 I3 G=>⟨v,_,I3,G,q2⟩
def Rf(tk tv:TE):TE:=λσ H Q=>∀p,H p=none->tk σ (upd H p (.dT [])) λy H1=>tv σ H1 λv H2=>∃b k,y = .ref b/\H2 b=some (.tup (k.map kV))/\H2 p=some (.dT [])/\Q (.ref p) (upd H2 p (.dT [(k,v)]))
end
section
variable {X:Cx}{k v:Expr}{pos:Pos}{tk tv:TE}
def Lv(hu:X.A.units+1<cLine)(hk:PE X k tk)(hv:PE X v tv):PE X (.Dict [some k] [v] pos) (Rf tk tv):=by
 intro pq s σ H Q I q;have hn:=I.hok.fresh (aaf s.heap.objs.size);have Z:=I.laid (a:=s.heap.objs.size) (o:=.dT []) (h':=s.heap.push { cls:=.type "dict",data:=.dict #[]}) (t':=s.toks) (λ_ _ q=>aak _ q) (aaf _) (KL s.heap I.big)
 rw[arm_eval_Dict,zip_pairTrees [some k] [v] X.env pos rfl rfl,dictDisplay_pairs (pairTrees [some k] [v] X.env pos) (by intro z;cases z) (show 1<17 by decide)]
 refine aN (wpAny_standAt (aN ?_));unfold subDict;refine aN (wpAny_alloc (aN (aaF ?_)));rw[aac (show(pairTrees [some k] [v] X.env pos).length<=15 from(show 1<=15 by decide))]
 refine aN (pairTrees_cons_walk (dP (hk pq _ σ _ _ Z (q _ hn)) λu s1 ⟨y,H1,I2,ry,q1⟩=>dP (hv pq s1 σ H1 _ I2 q1) λu2 s2 ⟨G,H2,O,rv,b,ks,ey,U,ep,q2⟩=>pairTrees_nil_walk ?_))
 subst ey;obtain rfl:u=Value.ref b:=ry;obtain⟨z,hd,xs,rel,dd⟩:=KH O.hok ep;cases rel;refine aaF (aN ?_);rw[List.forIn_cons];refine aN (aN (wpAny_dictSet_heap (hsz:=aaL _) (show X.A.units<cLine from Nat.lt_of_succ_lt hu) (rC O.hok U) dd λh' R7 hs=>aah ?_))
 show wpAny _ _ (forIn [] PUnit.unit _) _ _ _;rw[List.forIn_nil];refine aah (aah (aah (aah ?_)));obtain⟨o',Y,Fi,g1,g2,g3,g4,g5,g6⟩:=R7;have hb:upd H2 s.heap.objs.size (.dT [(ks,G)]) b=some (.tup (ks.map kV)):=by
  rw[ao (aW U ep (by intro z;cases z))]
  exact U
 have new:bg X.prog X.w (upd H2 s.heap.objs.size (.dT [(ks,G)])) h' s.heap.objs.size (.dT [(ks,G)]):=⟨(show 1<=sizeLine by decide),hd,[(ks,b,u2)],.cons ⟨rfl,hb,rv⟩ .nil,o',Y,Fi,g1,g2,g3,g4,g6⟩
 exact⟨.ref s.heap.objs.size,_,uF O (by rw[ep];exact True.intro) hs ⟨o',g1⟩ new,rfl,q2⟩
end
end L2
namespace HT
open PySem PyProof.Rows
def Ov(a b c d:Int):Bool:=if a=c then(if b=d then true else decide (b<=d)) else decide (a<=c)
def zG(a b c d:Int):Ov a b c d=true↔a<c\/(a=c/\b<=d):=by
 unfold Ov
 by_cases h:a=c
 ·rw[aac h]
  by_cases h2:b=d
  ·rw[aac h2];simp[h,h2]
  ·rw[aab h2];simp only[decide_eq_true_eq];lia
 ·rw[aab h];simp only[decide_eq_true_eq];lia
def Lw(A:Around)(s:Shared)(a:Int)(t:Tok)(c:Int)(u:Tok)(prog:Program)(w:World)(E:dh)(Q:dh)(h:Q (.bool (decide (a<=c))) s):
 wpAny (model prog w) A (richCompare .LtE (.int a t) (.int c u)) Q E s :=
 (PyProof.Rows.le_int h:wpAny (model prog w) A (compareOp .LtE (.int a t) (.int c u)) Q E s)
section
open PySem.SeqAt
open PySem.AutoSeq1 (wpAny_loadPart')
open PySem.MeetsSeq PySem.MeetsSeq2 PySem.MeetsSeq3
def HE(l b:Addr)(items items2:Array Value)(n n2:Nat)(dd dd2:Option Addr)(sl sl2:Array (Option Value))(x1 y1 x2 y2:Int)(t1 u1 t2 u2:Tok)(hi:items.toList=[.int x1 t1,.int y1 u1])(hj:items2.toList=[.int x2 t2,.int y2 u2]):
 Meets (Builtin.«tuple.__le__» ⟨[.ref l,.ref b],[]⟩)
  (λ_ R s=>s.heap.get? l=some { cls:=.type "tuple",dict:=dd,data:=.seq items n,slots:=sl}/\s.heap.get? b=some { cls:=.type "tuple",dict:=dd2,data:=.seq items2 n2,slots:=sl2}/\
   R (.ok (.ret (.bool (Ov x1 y1 x2 y2)))) s) :=
 .of_wp λprog w A R s h=>by
  obtain⟨hp,g,d,tk,os⟩:=s;obtain⟨hl,hb,h⟩:=h;have f2:=AutoSeq1.sub_tuple_tuple;have z1:items.size=2:=by rw[<-acj,hi];rfl
  have z2:items2.size=2:=by rw[<-acj,hj];rfl
  wp_walk using wpAny_loadPart' hl,wpAny_loadPart' hb,wpAny_forIn_list _ (λrest b s'=>b.1=none/\s' = ⟨hp,g,d,tk,os⟩/\
   ((rest=[((Value.int x1 t1:Value),(Value.int x2 t2:Value)),(.int y1 u1,.int y2 u2)]/\R (.ok (.ret (.bool (Ov x1 y1 x2 y2)))) ⟨hp,g,d,tk,os⟩)\/
    (rest=[((Value.int y1 u1:Value),(Value.int y2 u2:Value))]/\R (.ok (.ret (.bool (if y1=y2 then true else decide (y1<=y2))))) ⟨hp,g,d,tk,os⟩)\/(rest=[]/\R (.ok (.ret (.bool true))) ⟨hp,g,d,tk,os⟩))) _
  case turn =>
   rintro⟨y,x⟩ rest b s' ⟨I,rfl,hh⟩;obtain⟨a,c,t,u,U,O,hx,G,hN⟩:∃(a c:Int) (t u:Tok) (U:Bool),y = .int a t/\x = .int c u/\R (.ok (.ret (.bool (if a=c then U else decide (a<=c))))) ⟨hp,g,d,tk,os⟩/\
    (R (.ok (.ret (.bool U))) ⟨hp,g,d,tk,os⟩->(rest=[((Value.int y1 u1:Value),(Value.int y2 u2:Value))]/\R (.ok (.ret (.bool (if y1=y2 then true else decide (y1<=y2))))) ⟨hp,g,d,tk,os⟩)\/(rest=[]/\R (.ok (.ret (.bool true))) ⟨hp,g,d,tk,os⟩)):=by
    rcases hh with⟨hz,G⟩|⟨hz,G⟩|⟨hz,_⟩
    ·injection hz with ha hr
     obtain⟨O,hx⟩:=Prod.mk.inj ha;exact⟨x1,x2,t1,t2,_,O,hx,G,λY=>.inl ⟨hr,Y⟩⟩
    ·injection hz with ha hr
     obtain⟨O,hx⟩:=Prod.mk.inj ha;exact⟨y1,y2,u1,u2,true,O,hx,G,λY=>.inr ⟨hr,Y⟩⟩
    ·cases hz
   subst O hx;obtain⟨e,he,Z⟩:=AZ A.in1 ⟨hp,g,d,tk,os⟩ a t c u;refine wpAny_bind (he prog w _ _ ?_);cases e with
   | true =>
     rw[aac (Z.mp rfl)]at G
     wp_walk
     exact⟨rfl,rfl,.inr (hN G)⟩
   | false =>
     rw[aab (λq=>absurd (Z.mpr q) aan)]at G
     have JG:=Lw A.in1 ⟨hp,g,d,tk,os⟩ a t c u prog w
     wp_walk using JG
     exact⟨_,rfl,by simpa using G⟩
  case fin =>
   rintro⟨b1,b2⟩ s' ⟨I,rfl,hh⟩;simp only at I;subst I;rcases hh with⟨hz,_⟩|⟨hz,_⟩|⟨_,G⟩
   ·cases hz
   ·cases hz
   ·wp_walk
    refine⟨_,rfl,?_⟩
    simpa[Builtin.Tuple.tupleCompareSizes,z1,z2]using G
  case h =>
   refine⟨rfl,rfl,.inl ⟨?_,h⟩⟩;rw[hi,hj];rfl
end
section
variable {prog:Program}{w:World}{A:Around}{E:dh}{s:Shared}
def Lx{l b:Addr}{items items2:Array Value}{x1 y1 x2 y2:Int}{Q:dh}(hl:IsTup s.heap l items)(hb:IsTup s.heap b items2)(hi:IntsAre items.toList [x1,y1])(hj:IntsAre items2.toList [x2,y2])
 (hu:A.units<cLine) (h:Q (.bool (Ov x1 y1 x2 y2)) s):wpAny (model prog w) A (compareOp .LtE (.ref l) (.ref b)) Q E s:=by
 obtain⟨⟨cls,dd,data,sl⟩,G,hc,n,hd⟩:=id hl;obtain⟨⟨S9,dd2,data2,sl2⟩,ho2,hc2,n2,hd2⟩:=id hb;simp only at hc hd hc2 hd2;subst hc hd hc2 hd2;have two:∀{vs:List Value} {a c:Int},IntsAre vs [a,c]->∃t u,vs=[.int a t,.int c u]:=λ{vs a c} q=>by
  cases q with
  | cons n t r=>cases r with
    | cons Z I O=>cases O;exact⟨t,I,rfl⟩
 obtain⟨t1,U,Y⟩:=two hi;obtain⟨t2,u2,e2⟩:=two hj;exact richCompare_meets_room (op:=.LtE) ⟨_,G,rfl⟩ ⟨_,ho2,rfl⟩ PySem.F.slot_tuple_le PySem.F.entry_tuple_le (PySem.F.args_tuple_le_2 _ _) (HE l b items items2 n n2 dd dd2 sl sl2 x1 y1 x2 y2 t1 U t2 u2 Y e2)
  ⟨G,ho2,show Value.bool (Ov x1 y1 x2 y2)≠Value.notImplemented/\Q (.bool (Ov x1 y1 x2 y2)) s from⟨(λx=>nomatch x),h⟩⟩ hu
end
end HT
namespace L2
open PySem PySem.Spec PyProof.Rows
section
variable {X:Cx}
def XE(K:bN):R2:=λx y H Q=>∃a b G I O U,x = .ref a/\y = .ref b/\aR K H a [.int G,.int I]/\aR K H b [.int O,.int U]/\Q (.bl (HT.Ov G I O U)) H
def Rg(hu:X.A.units<cLine):lC X (compareOp .LtE) (XE X.K):=by
 intro pq s σ H x y v u Q I rx Z h;obtain⟨a,b,G,O,U,Y,rfl,rfl,ha,hb,q⟩:=h;cases rx;cases Z;obtain⟨its,r1,p1,_⟩:=I.tuple ha;obtain⟨its2,r2,p2,_⟩:=I.tuple hb;exact HT.Lx p1 p2 (intsAre_of (ns:=[G,O]) r1) (intsAre_of (ns:=[U,Y]) r2) hu ⟨.bl (HT.Ov G O U Y),H,I,rfl,q⟩
end
abbrev tY:=List (Addr×Str×Pos)
structure TabsOk(K:bN)(h:Heap)(tb:tY):Prop where
 nd:(tb.map (·.1)).Nodup
 mt:∀p∈tb,h.get? p.1=some (PySem.W.tabObj #[])
 code:∀p∈tb,∃c,PySem.W.CodeHd h c p.1
 out:∀p∈tb,K.lookup p.1=none
def TabsAt(tb:tY)(H:Hp):Prop:=∀p∈tb,H p.1=some (.jV (fk p.2.1 p.2.2))
def BW(tb:tY):Hp:=λb=>(tb.find? λp=>p.1==b).map λp=>.jV (fk p.2.1 p.2.2)
def n6{tb:tY}{b:Addr}{u:HO}(e:BW tb b=some u):∃p∈tb,p.1=b/\u = .jV (fk p.2.1 p.2.2):=by
 unfold BW at e;obtain⟨p,h1,h2⟩:=tD.mp e;have G:(p.1==b)=true:=List.find?_some (p:=λp:Addr×Str×Pos=>p.1==b) h1
 exact⟨p,List.mem_of_find?_eq_some h1,eq_of_beq G,h2.symm⟩
def zH:∀{tb:tY},(tb.map (·.1)).Nodup->TabsAt tb (BW tb)
 | [],_=>λp hp=>nomatch hp
 | q::r,nd=>λp hp=>by
   rw[aaN,aaV]at nd;rcases aaq.mp hp with rfl|hp
   ·unfold BW;rw[List.find?_cons_of_pos (by simp)];rfl
   ·have ne:(q.1==p.1)=false:=beq_eq_false_iff_ne.mpr λz=>nd.1 (by rw[z];exact ack hp)
    unfold BW;rw[List.find?_cons_of_neg (by rw[ne];exact aan)]
    exact zH nd.2 p hp
def HF{P:Program}{w:World}{K:bN}{mg mb:mQ}{CX:Jb}{k:Nat}{fa a:Addr}{fd:FuncData}{x:Str}{sp:Sp}{s₁:Shared}{vs:List Value}{ns:List Int}{tb:tY}
 (KX:K.In s₁.heap) (TB:TabsOk K s₁.heap tb) (hns:s₁.heap.Ns mainGlobals mg) (hb:s₁.heap.Ns builtinsNs mb) (hbb:∀x:Str,x≠"__name__"->mb x=bootBuiltins x) (hlim:s₁.heap.NoLimit)
 (hbm:∃bm ob,mg "__builtins__"=some (.ref bm)/\bm≠builtinsNs/\s₁.heap.get? bm=some ob/\ob.cls = .type "module"/\ob.dict=some builtinsNs/\ob.data = .plain) (hg:s₁.gens = #[])
 (ha:s₁.heap.get? a=some { cls:=.type "list",data:=.seq vs.toArray}) (hi:IntsAre vs ns) (hl:ns.length<=sizeLine) (hr:eN k callerA)
 (F:∀base:Heap,K.In base->base.Ns mainGlobals mg->lE P w K mg base CX k fa fd [x] sp) (hbind:∀(s:Shared) (u:Value),BindsTo s fd ⟨[u],[]⟩ [(x,u)])
 (tV:∀H:Hp,TabsAt tb H->aM K H a (ns.map V.int)->sp [.ref a] H (λv _=>v = .bl true) λ_ _ _=>False)
 (XF:∀H e s',CX [] H s₁ (λ_ _ _=>False) e s'->False) :
 codeAny (model P w) callerA (.call (.ref fa) ⟨[.ref a],[]⟩) (λr s'=>r = .ok (.ret (.bool true))/\OldK s₁.heap s'.heap/\s'.os=s₁.os/\AllBare s'.gens) s₁:=by
 have rv:=yg hi;have XG:=hi.length;have aT:∀p∈tb,p.1≠a:=λp hp z=>by
  have:=TB.mt p hp;rw[z,ha]at this;cases this
 let Y:HO:=.lB { cls:=.type "list",data:=.seq vs.toArray} (.lst (ns.map V.int))
 have core:∀H:Hp,aM K H a (ns.map V.int)->TabsAt tb H->mY P w H s₁.heap->(∀b u,H b=some u->(b=a/\K.lookup a=none/\u=Y)\/∃p∈tb,p.1=b/\u = .jV (fk p.2.1 p.2.2))->
  codeAny (model P w) callerA (.call (.ref fa) ⟨[.ref a],[]⟩) (λr s'=>r = .ok (.ret (.bool true))/\OldK s₁.heap s'.heap/\s'.os=s₁.os/\AllBare s'.gens) s₁:=by
  intro H hS hT hok Z;have free:∀{b:Addr} {o:Obj},s₁.heap.get? b=some o->(∀xs n,o.data≠.seq xs n)->(∀xs,o.data≠.fields xs)->H b=none:=λ{b o} e n1 n2=>by
   cases q:H b with
   | none=>rfl
   | some u =>
     rcases Z b u q with⟨z,_⟩|⟨p,hp,z,_⟩
     ·rw[z,ha]at e;cases e;exact absurd rfl (n1 _ _)
     ·rw[<-z,TB.mt p hp]at e;cases e;exact absurd rfl (n2 _)
  have U:∀{b:Addr} {m:mQ},s₁.heap.Ns b m->(AQ s₁.heap H).Ns b m:=λ{b m} ⟨o,es,ep,e,d,r⟩=>⟨o,es,ep,uM e (free e (by intro _ _ z;rw[d]at z;cases z) (by intro _ z;rw[d]at z;cases z)),d,r⟩
  have Zm:K.In (AQ s₁.heap H):=λb o e=>uM (KX b o e) (by
   cases q:H b with
   | none=>rfl
   | some u =>
     rcases Z b u q with⟨z,n,_⟩|⟨p,hp,z,_⟩
     ·rw[z,n]at e;cases e
     ·rw[<-z,TB.out p hp]at e;cases e)
  have hM:Mod K mg (AQ s₁.heap H):=⟨Zm,U hns,⟨mb,U hb,hbb⟩,(let⟨mc,h1,h2⟩:=hlim;⟨mc,U h1,h2⟩),
   let⟨bm,ob,b1,b2,b3,b4,b5,b6⟩:=hbm;⟨bm,ob,b1,b2,uM b3 (free b3 (by intro _ _ z;rw[b6]at z;cases z) (by intro _ z;rw[b6]at z;cases z)),b4,b5,b6⟩⟩
  have e0:DA P w K mg (AQ s₁.heap H) callerA [] s₁ H:=⟨rfl,hM,λb o e=>Na e,adA (Gy _ _),trivial,λb hb=>absurd (show b∈([]:List Addr) from hb) (by simp),hok,.of_eq hg⟩
  refine codeAny_mono ((F _ Zm (U hns)).run callerA [] s₁ H ⟨[.ref a],[]⟩ [.ref a] [.ref a] _ _ hr e0 (hbind s₁ (.ref a)) (.cons rfl .nil) (tV H hT hS)) λr s' h=>?_
  cases r with
  | error e=>exact(XF H e s' h).elim
  | ok fl =>
    cases fl with
    | next=>exact False.elim h
    | brk=>exact False.elim h
    | cont=>exact False.elim h
    | ret u =>
      obtain⟨v,H',os,bare,un,Uo,r',q⟩:=h;have q' : v = .bl true:=q;subst q';obtain rfl:u=Value.bool true:=r';have all:∀b o,s₁.heap.get? b=some o->s'.heap.get? b=some o\/∃p∈tb,p.1=b/\∃ps,s'.heap.get? b=some (PySem.W.tabObj ps):=λb o e=>by
       cases q:H b with
       | none=>exact .inl (un.keep b o e q (by intro z;exact absurd (show b∈([]:List Addr) from z) (by simp)) (by simp))
       | some u =>
         rcases Z b u q with⟨z,_,I⟩|⟨p,hp,z,I⟩
         ·rw[I]at q;obtain⟨O,_⟩:=hok b _ q;obtain⟨G,_⟩:=Uo b _ (un.jS b _ _ q);rw[e]at O;cases O;exact .inl G
         ·rw[I]at q;obtain⟨more,q2⟩:=un.kR b _ q;obtain⟨ps,G,_⟩:=Uo b _ q2;exact .inr ⟨p,hp,z,ps,G⟩
      refine⟨rfl,⟨λb o e=>?_,λb o e=>?_⟩,os,bare⟩
      ·rcases all b o e with z|⟨p,hp,z,ps,G⟩
       ·exact .inl z
       ·obtain⟨c,hc⟩:=TB.code p hp;have O:=TB.mt p hp;subst z;rw[e]at O;cases O;exact .inr (.inl ⟨(hc.tab e).isCodeTable,rfl,#[],ps,rfl,by rw[G,Array.empty_append]⟩)
      ·rcases all b o e with z|⟨p,hp,z,ps,G⟩
       ·exact⟨o,z⟩
       ·exact⟨_,G⟩
 have tok:∀{H:Hp} {b:Addr} {p},p∈tb->p.1=b->bg P w H s₁.heap b (.jV (fk p.2.1 p.2.2)):=λ{H b p} hp z=>⟨#[],by rw[<-z];exact TB.mt p hp,.inl ⟨rfl,.inl rfl⟩⟩
 cases hk:K.lookup a with
 | some o =>
   have e:=KX a o hk;rw[ha]at e;cases e;refine core (BW tb) (.inr ⟨_,vs.toArray,_,hk,rfl,rfl,rfl,by rw[aau,XG];exact hl,by simpa using rv⟩) (zH TB.nd) (λb u e=>?_) λb u e=>.inr (n6 e)
   obtain⟨p,hp,z,rfl⟩:=n6 e;exact tok hp z
 | none =>
   refine core (λb=>if b=a then some Y else BW tb b) (.inl (.inr ⟨{ cls:=.type "list",data:=.seq vs.toArray},aac rfl⟩)) (λp hp=>?_) (λb u e=>?_) λb u e=>?_
   ·show(if p.1=a then some Y else BW tb p.1)=_
    rw[aab (aT p hp)];exact zH TB.nd p hp
   ·by_cases hb:b=a
    ·have z:=(aac hb).symm.trans e;cases z;subst hb;exact⟨ha,by rw[aaa];exact hl,vs,_,rv,ha⟩
    ·have z:=(aab hb).symm.trans e;obtain⟨p,hp,I,rfl⟩:=n6 z;exact tok hp I
   ·by_cases hb:b=a
    ·have z:=(aac hb).symm.trans e;exact .inl ⟨hb,hk,(Option.some.inj z).symm⟩
    ·exact .inr (n6 ((aab hb).symm.trans e))
def Ly{l:PySem.W.OpenLaw}{n k:Nat}{q:Program}{loose:List Str}{XP:(Str->Option Value)->Heap->Prop}{YP:World->Heap->Prop}{d:DefRec}{K:Params->bN}{CX:World->Jb}{sp:World->tY->Sp}{x:Str}{ts:List Addr}
 (hn:l.most=some n) (hn2:n<=sizeLine) (To:d.params.defaults=[]) (hr:eN k callerA)
 (hY:∀(w:World) (h:Heap),YP w h->(K w.params).In h/\∀P∈ts,h.get? P=some (PySem.W.tabObj #[]))
 (F:∀(w:World) (mg:mQ) (fa:Addr) (h:Heap),(K w.params).In h->h.Ns mainGlobals mg->mg d.name=some (.ref fa)->
  ∃(fd:FuncData) (tb:tY),((tb.map (·.1)).Nodup/\PySem.W.noTabs (K w.params)=true/\∀p∈tb,p.1∈ts/\∃c,PySem.W.codeHdIn (K w.params) c p.1=true)/\(∀(s:Shared) (u:Value),BindsTo s fd ⟨[u],[]⟩ [(x,u)])/\
   ∀base:Heap,(K w.params).In base->base.Ns mainGlobals mg->lE l.prog w (K w.params) mg base (CX w) k fa fd [x] (sp w tb))
 (tV:∀(w:World) (H:Hp) (a:Addr) (ns:List Int) (tb:tY),ns.length<=n->TabsAt tb H->aM (K w.params) H a (ns.map V.int)->sp w tb [.ref a] H (λv _=>v = .bl true) λ_ _ _=>False)
 (XF:∀(w:World) (H:Hp) (s:Shared) (e:Value) (s' : Shared),CX w [] H s (λ_ _ _=>False) e s'->False) :
 PySem.W.WalkO q loose XP YP l.row.toRowW d [] (λf vs=>PySem.call f vs):=by
 refine Att.A4 hn To λw s₀ s₁ mg mb fa o pm cd doc a vs ns G Y ho hd ag Z I hints hlen hg=>?_
 obtain⟨U,O⟩:=hY w _ Y;obtain⟨fd,tb,⟨nd,nt,ht⟩,hb,hF⟩:=F w mg fa _ U G.T.g Z;have TB:TabsOk (K w.params) s₁.heap tb:=⟨nd,λp hp=>O _ (ht p hp).1,λp hp=>let⟨_,c,e⟩:=ht p hp;⟨c,PySem.W.codeHd_of_K U e⟩,λp hp=>by
  cases e:(K w.params).lookup p.1 with
  | none=>rfl
  | some ob =>
    have e1:=U _ _ e;rw[O _ (ht p hp).1]at e1;cases e1;have z:=acg.mp nt (p.1,PySem.W.tabObj #[]) (PySem.W.mem_of_lookupK e);exact absurd (show false=true from z) aan⟩
 exact HF U TB G.T.g G.T.b G.T.builtins G.T.nolimit G.T.bmain hg I hints (aaE hlen hn2) hr hF hb (λH hT hS=>tV w H a ns tb hlen hT hS) λH e s'=>XF w H s₁ e s'
def qz(f:Str):Str:=f ++ ".<locals>." ++ "<lambda>"
structure Eh(K:bN)(x qual:Str)(st:Stmt)(f:Addr)(fd:FuncData)(c0 P:Addr):Prop where
 ex:∃(oc:Value) (od:Option Addr) (kV doc pm:Value) (an:Option Addr) (ct:Value) (osl:Array (Option Value)),
  fd=PySem.W.fnOf x qual (eT st) (cE st) (aj st) .none kV doc pm an (.ref c0) ct/\K.lookup f=some ⟨oc,od,.func fd,osl⟩/\PySem.W.codeIn K (.ref c0) qual=true
 kp:PySem.W.keepIn K (.ref f)=true
 hd:PySem.W.codeHdIn K c0 P=true
section
variable {P:Program}{w:World}{K:bN}{mg:mQ}{base:Heap}{x qual:Str}{st:Stmt}{f c0 p0:Addr}{fd:FuncData}
def Eh.ok{N ps:List Str}{k:Nat}{sp:Sp}(F:Eh K x qual st f fd c0 p0)(S:aE N ps (aj st))(len:∀vs H Q E,sp vs H Q E->vs.length=ps.length)
 (hbody:∀(A:Around) (outer:List Env) (s:Shared) (H:Hp) (vs:List V) (Q:VK) (E:XK),eN k (A.deeper (envOfC qual (aj st) s.heap.objs.size f (.ref c0)))->sp vs H Q E->
  ∃t,uw (tU De P w K mg base N qual (aj st) f (.ref c0) A outer s H E).Dd (cE st) t/\t { nx:=λ_ H'=>Q .eE H',rt:=Q} (start N vs) H):lE P w K mg base De (k+1) f fd ps sp:=by
 obtain⟨oc,od,kV,doc,pm,an,ct,osl,rfl,I,G⟩:=F.ex;refine JD I G S len λA outer s H vs Q E hr O=>?_
 obtain⟨t,h,q⟩:=hbody A outer s H vs Q E hr O;exact⟨t,h.Dd,q⟩
def Eh.binds{ps:List Str}(F:Eh K x qual st f fd c0 p0)
 (h:∀(kV doc pm:Value) (an:Option Addr) (cdv ct:Value) (us:List Value),us.length=ps.length->bindArgs (PySem.W.fnOf x qual (eT st) (cE st) (aj st) .none kV doc pm an cdv ct) ⟨us,[]⟩=pure (ps.zip us)):Binds K fd ps []:=by
 obtain⟨oc,od,kV,doc,pm,an,ct,osl,rfl,I,G⟩:=F.ex;exact .all (h kV doc pm an (.ref c0) ct)
def Ow{oc:Value}{od an:Option Addr}{osl:Array (Option Value)}{kV doc pm ct:Value}(l:K.lookup f=some ⟨oc,od,.func (PySem.W.fnOf x qual (eT st) (cE st) (aj st) .none kV doc pm an (.ref c0) ct),osl⟩)
 (c:PySem.W.codeIn K (.ref c0) qual=true) (k:PySem.W.keepIn K (.ref f)=true) (hd:PySem.W.codeHdIn K c0 p0=true):Eh K x qual st f (PySem.W.fnOf x qual (eT st) (cE st) (aj st) .none kV doc pm an (.ref c0) ct) c0 p0 :=
 ⟨⟨oc,od,kV,doc,pm,an,ct,osl,rfl,l,c⟩,k,hd⟩
end
end L2
namespace RM
abbrev OW:=Nat->Bool->Option (Int×Nat)
def jH(F:OW)(x:Nat)(s:Bool)(d:Int×Nat):OW:=λy t=>if y=x/\t=s then some d else F y t
def zI(F:OW)(x:Nat)(s:Bool):OW:=λy t=>if y=x/\t=s then none else F y t
def b9(F:OW)(x:Nat)(s:Bool)(d:Int×Nat):jH F x s d x s=some d:=aac ⟨rfl,rfl⟩
def bE{F:OW}{x y:Nat}{s t:Bool}{d:Int×Nat}(h : ¬(y=x/\t=s)):jH F x s d y t=F y t:=aab h
def uK(F:OW)(x:Nat)(s:Bool):zI F x s x s=none:=aac ⟨rfl,rfl⟩
def n8{F:OW}{x y:Nat}{s t:Bool}(h : ¬(y=x/\t=s)):zI F x s y t=F y t:=aab h
def Wz(N:Net)(L:Nat->Int)(m u v:Nat)(s:Bool)(z:Int)(e:Nat):Prop:=∃pre,Wl N L m u pre v s z e
structure Dj(N:Net)(L:Nat->Int)(m u:Nat)(F W:OW)(now:Option (Nat×Bool))(done:Nat->Nat->Prop):Prop where
 fw:∀x s d,F x s=some d->Wz N L m u x s d.1 d.2
 ww:∀x s d,W x s=some d->Wz N L m u x s d.1 d.2
 dj:∀x s d,W x s=some d->F x s=none
 le:∀x s d y t d',F x s=some d->W y t=some d'->d.1<=d'.1
 mx:∀x s d y t d',now=some (x,s)->F x s=some d->F y t=some d'->d'.1<=d.1
 cl:∀x s d k y,F x s=some d->k<N.n->Jn N k x y->(now=some (x,s)->done k y)->∃d',(F y (s^^m.testBit k)=some d'\/W y (s^^m.testBit k)=some d')/\d'.1<=d.1+L k
 st:∃d,(F u false=some d\/W u false=some d)/\d.1<=0
section
variable {N:Net}{L:Nat->Int}{m u:Nat}{F W:OW}
def Dj.start:Dj N L m u (λ_ _=>none) (jH (λ_ _=>none) u false (0,0)) none (λ_ _=>False):=by
 refine⟨λ_ _ _ h=>(nomatch h),λx s d h=>?_,λ_ _ _ _=>rfl,λ_ _ _ _ _ _ h=>(nomatch h),λ_ _ _ _ _ _ h=>(nomatch h),λ_ _ _ _ _ h=>(nomatch h),⟨(0,0),.inr (b9 _ _ _ _),abI _⟩⟩
 by_cases e:x=u/\s=false
 ·obtain⟨rfl,rfl⟩:=e;rw[b9]at h;cases h;exact⟨[],.nil⟩
 ·rw[bE e]at h;cases h
def Dj.pop(h:Dj N L m u F W none (λ_ _=>False)){x:Nat}{s:Bool}{d:Int×Nat}(e:W x s=some d)(hmin:∀y t d',W y t=some d'->d.1<=d'.1):Dj N L m u (jH F x s d) (zI W x s) (some (x,s)) (λ_ _=>False):=by
 have Z:=h.dj x s d e;have of:∀y t d',jH F x s d y t=some d'->(y=x/\t=s/\d' = d)\/F y t=some d':=λy t d' q=>by
  by_cases z:y=x/\t=s
  ·obtain⟨rfl,rfl⟩:=z;rw[b9]at q;exact .inl ⟨rfl,rfl,(Option.some.inj q).symm⟩
  ·rw[bE z]at q;exact .inr q
 have O:∀y t d',zI W x s y t=some d'->¬(y=x/\t=s)/\W y t=some d':=λy t d' q=>by
  by_cases z:y=x/\t=s
  ·obtain⟨rfl,rfl⟩:=z;rw[uK]at q;cases q
  ·rw[n8 z]at q;exact⟨z,q⟩
 have moved:∀y t d',F y t=some d'\/W y t=some d'->jH F x s d y t=some d'\/zI W x s y t=some d':=λy t d' q=>by
  by_cases z:y=x/\t=s
  ·obtain⟨rfl,rfl⟩:=z;rcases q with q|q
   ·rw[Z]at q;cases q
   ·rw[e]at q;cases q;exact .inl (b9 _ _ _ _)
  ·rw[bE z,n8 z];exact q
 refine⟨λy t d' q=>?_,λy t d' q=>h.ww y t d' (O y t d' q).2,λy t d' q=>?_,λy t d' I U d2 q G=>?_,λy t d' I U d2 hn q G=>?_,λy t d' k I q hk hj hd=>?_,?_⟩
 ·rcases of y t d' q with⟨rfl,rfl,rfl⟩|q
  ·exact h.ww _ _ _ e
  ·exact h.fw y t d' q
 ·obtain⟨z,q⟩:=O y t d' q;rw[bE z];exact h.dj y t d' q
 ·obtain⟨_,G⟩:=O I U d2 G;rcases of y t d' q with⟨_,_,rfl⟩|q
  ·exact hmin _ _ _ G
  ·exact h.le _ _ _ _ _ _ q G
 ·cases hn;rw[b9]at q;cases q;rcases of I U d2 G with⟨_,_,rfl⟩|G
  ·exact abI _
  ·exact h.le _ _ _ _ _ _ G e
 ·rcases of y t d' q with⟨rfl,rfl,rfl⟩|q
  ·exact(hd rfl).elim
  ·obtain⟨d2,G,Y⟩:=h.cl y t d' k I q hk hj (λz=>nomatch z)
   exact⟨d2,moved _ _ _ G,Y⟩
 ·obtain⟨d2,G,Y⟩:=h.st;exact⟨d2,moved _ _ _ G,Y⟩
def Dj.put{done:Nat->Nat->Prop}{x:Nat}{s:Bool}(h:Dj N L m u F W (some (x,s)) done){d:Int×Nat}{k y:Nat}(e:F x s=some d)(hk:k<N.n)(hL:0<=L k)(hj:Jn N k x y)(hF:F y (s^^m.testBit k)=none)
 (hW:∀d',W y (s^^m.testBit k)=some d'->d.1+L k<=d'.1):Dj N L m u F (jH W y (s^^m.testBit k) (d.1+L k,d.2^^^2^k)) (some (x,s)) (λY Z=>done Y Z\/(Y = k/\Z = y)):=by
 have I:∀v t d',jH W y (s^^m.testBit k) (d.1+L k,d.2^^^2^k) v t=some d'->(v=y/\t=(s^^m.testBit k)/\d' = (d.1+L k,d.2^^^2^k))\/W v t=some d':=λv t d' q=>by
  by_cases z:v=y/\t=(s^^m.testBit k)
  ·obtain⟨rfl,rfl⟩:=z;rw[b9]at q;exact .inl ⟨rfl,rfl,(Option.some.inj q).symm⟩
  ·rw[bE z]at q;exact .inr q
 have moved:∀v t d',F v t=some d'\/W v t=some d'->∃d2,(F v t=some d2\/jH W y (s^^m.testBit k) (d.1+L k,d.2^^^2^k) v t=some d2)/\d2.1<=d'.1:=λv t d' q=>by
  rcases q with q|q
  ·exact⟨d',.inl q,abI _⟩
  ·by_cases z:v=y/\t=(s^^m.testBit k)
   ·obtain⟨rfl,rfl⟩:=z;exact⟨_,.inr (b9 _ _ _ _),hW d' q⟩
   ·exact⟨d',.inr (by rw[bE z];exact q),abI _⟩
 refine⟨h.fw,λv t d' q=>?_,λv t d' q=>?_,λv t d' v2 t2 d2 q G=>?_,h.mx,λv t d' k2 y2 q O MZ hd=>?_,?_⟩
 ·rcases I v t d' q with⟨rfl,rfl,rfl⟩|q
  ·obtain⟨pre,w⟩:=h.fw x s d e;exact⟨_,w.go hk hj⟩
  ·exact h.ww v t d' q
 ·rcases I v t d' q with⟨rfl,rfl,rfl⟩|q
  ·exact hF
  ·exact h.dj v t d' q
 ·rcases I v2 t2 d2 G with⟨rfl,rfl,rfl⟩|G
  ·have:=h.mx x s d v t d' rfl e q;show d'.1<=d.1+L k
   lia
  ·exact h.le _ _ _ _ _ _ q G
 ·by_cases hd2:some (x,s)=some (v,t)->done k2 y2
  ·obtain⟨d2,G,U⟩:=h.cl v t d' k2 y2 q O MZ hd2;obtain⟨d3,q3,l3⟩:=moved _ _ _ G;exact⟨d3,q3,Int.le_trans l3 U⟩
  ·have hn:some (x,s)=some (v,t):=aaC λz=>hd2 λz2=>absurd z2 z
   rcases hd hn with z|⟨rfl,rfl⟩
   ·exact absurd (λ_=>z) hd2
   ·cases hn;rw[e]at q;cases q;exact⟨_,.inr (b9 _ _ _ _),abI _⟩
 ·obtain⟨d2,G,U⟩:=h.st;obtain⟨d3,q3,l3⟩:=moved _ _ _ G;exact⟨d3,q3,Int.le_trans l3 U⟩
def Dj.skip{done:Nat->Nat->Prop}{x:Nat}{s:Bool}(h:Dj N L m u F W (some (x,s)) done){d d2:Int×Nat}{k y:Nat}(e:F x s=some d)(hL:0<=L k)(G:F y (s^^m.testBit k)=some d2\/(W y (s^^m.testBit k)=some d2/\d2.1<=d.1+L k)):
 Dj N L m u F W (some (x,s)) (λO U=>done O U\/(O = k/\U = y)):=by
 refine⟨h.fw,h.ww,h.dj,h.le,h.mx,λv t d' k2 Y q I Z hd=>?_,h.st⟩
 by_cases hd2:some (x,s)=some (v,t)->done k2 Y
 ·exact h.cl v t d' k2 Y q I Z hd2
 ·have hn:some (x,s)=some (v,t):=aaC λz=>hd2 λz2=>absurd z2 z
  rcases hd hn with z|⟨rfl,rfl⟩
  ·exact absurd (λ_=>z) hd2
  ·cases hn;rw[e]at q;cases q;rcases G with G|⟨G,l2⟩
   ·have:=h.mx x s d _ _ d2 rfl e G;exact⟨d2,.inl G,by lia⟩
   ·exact⟨d2,.inr G,l2⟩
def Dj.all{done:Nat->Nat->Prop}{x:Nat}{s:Bool}(h:Dj N L m u F W (some (x,s)) done)(ha:∀k y,k<N.n->Jn N k x y->done k y):Dj N L m u F W none (λ_ _=>False) :=
 ⟨h.fw,h.ww,h.dj,h.le,λ_ _ _ _ _ _ z=>(nomatch z),λv t d k y q hk hj _=>h.cl v t d k y q hk hj λz=>by cases z;exact ha k y hk hj,h.st⟩
def Dj.best(h:Dj N L m u F W none (λ_ _=>False))(hW:∀x s,W x s=none)(x:Nat)(s:Bool):Hy N L m u x s ((F x s).map (·.1)):=by
 have low:∀{pre:List Nat} {v e:Nat} {t:Bool} {z:Int},Wl N L m u pre v t z e->∃d,F v t=some d/\d.1<=z:=λ{pre v e t z} w=>by
  induction w with
  | nil =>
    obtain⟨d,q,l⟩:=h.st;rcases q with q|q
    ·exact⟨d,q,l⟩
    ·rw[hW]at q;cases q
  | @go pre v w k e s z _ hk hj ih =>
    obtain⟨d,q,l⟩:=ih;obtain⟨d2,G,I⟩:=h.cl _ _ d k _ q hk hj (λz=>nomatch z)
    rcases G with G|G
    ·exact⟨d2,G,by lia⟩
    ·rw[hW]at G;cases G
 cases q:F x s with
 | none =>
   intro z ⟨_,_,w⟩;obtain⟨d,G,_⟩:=low w;rw[q]at G;cases G
 | some d =>
   obtain⟨pre,w⟩:=h.fw x s d q;refine⟨⟨_,_,w⟩,λz ⟨_,_,O⟩=>?_⟩
   obtain⟨d2,G,I⟩:=low O;rw[q]at G;cases G;exact I
end
end RM
namespace L2
open PySem Ring
abbrev ky(x:Nat)(s:Bool):List Key:=[.inl (x:Int),.inl (s.toNat:Int)]
def Ei{x y:Nat}{s t:Bool}(h:ky x s=ky y t):x=y/\s=t:=by
 injection h with h1 h2
 injection h2 with h2 _
 injection h1 with h1
 injection h2 with h2
 refine⟨by lia,?_⟩
 cases s<;>cases t<;>first | rfl | (simp at h2)
def wV(H:Hp):Option (Int×Nat)->V->Prop
 | none,v=>v = .eE
 | some d,v=>∃c,v = .ref c/\H c=some (.tup [.int d.1,.int (d.2:Int)])
def wV.tups{H H' : Hp}{o:Option (Int×Nat)}{v:V}(h:wV H o v)(s:dI H H'):wV H' o v:=by
 cases o with
 | none=>exact h
 | some d=>obtain⟨c,e,q⟩:=h;exact⟨c,e,s _ _ q⟩
structure vX(p:Nat)(H0:Hp)(D wd:Addr)(es:List Addr)(kvs:List (List Key×V))(F W:RM.OW)(H:Hp):Prop where
 same:au H0 H
 nd:es.Nodup
 ne:D∉es
 fr:∀b∈es,H0 b=none
 Dn:H0 D=none
 wn:H0 wd=none
 wD:wd≠D
 wE:wd∉es
 lst:H D=some (.lst (es.map V.ref))
 at_:∀i b,es[i]?=some b->∃v0 v1,H b=some (.lst [v0,v1])/\wV H (F i false) v0/\wV H (F i true) v1
 dt:H wd=some (.dT kvs)
 kn:(kvs.map (·.1)).Nodup
 keys:∀kv∈kvs,∃x s,x<p/\kv.1=ky x s
 out:∀x s d,W x s=some d->x<p
 val:∀x s,(W x s=none/\eW kvs (ky x s)=none)\/∃d c,W x s=some d/\eW kvs (ky x s)=some (.ref c)/\H c=some (.tup [.int d.1,.int (d.2:Int)])
section
variable {p:Nat}{H0 H H' : Hp}{D wd:Addr}{es:List Addr}{kvs:List (List Key×V)}{F W:RM.OW}
def vX.go(h:vX p H0 D wd es kvs F W H)(s:au H H'):vX p H0 D wd es kvs F W H' :=
 ⟨h.same.trans s,h.nd,h.ne,h.fr,h.Dn,h.wn,h.wD,h.wE,s _ _ h.lst,λi b e=>let⟨v0,v1,a,b1,c⟩:=h.at_ i b e;⟨v0,v1,s _ _ a,b1.tups s.tups,c.tups s.tups⟩,s _ _ h.dt,h.kn,h.keys,h.out,
  λx t=>(h.val x t).imp (λz=>z) λ⟨d,c,a,b,e⟩=>⟨d,c,a,b,s _ _ e⟩⟩
def vX.len(h:vX p H0 D wd es kvs F W H):kvs.length<=2*p:=by
 have hn:=h.kn;have hk:=h.keys
 let code:List Key->Nat:=λk=>match k with | [.inl x,.inl s]=>2*x.toNat+s.toNat | _=>0
 have inj:∀a∈kvs.map (·.1),∀b∈kvs.map (·.1),code a=code b->a=b:=λa ha b hb e=>by
  obtain⟨u,G,rfl⟩:=aaz.mp ha;obtain⟨v,hv,rfl⟩:=aaz.mp hb;obtain⟨x,s,_,ex⟩:=hk u G;obtain⟨y,t,_,ey⟩:=hk v hv;rw[ex,ey]at e ⊢;have e:2*((x:Int)).toNat+((s.toNat:Int)).toNat=2*((y:Int)).toNat+((t.toNat:Int)).toNat:=e;rw[aaj,aaj,aaj,aaj]at e;have hs:s.toNat<2:=by cases s<;>decide
  have ht:t.toNat<2:=by cases t<;>decide
  have I:x=y:=by lia
  have O:s.toNat=t.toNat:=by lia
  have U:s=t:=by cases s<;>cases t<;>first | rfl | (simp at O)
  rw[I,U]
 have nd:((kvs.map (·.1)).map code).Nodup:=by
  revert inj
  generalize kvs.map (·.1)=l at hn;intro inj
  induction hn with
  | nil=>exact acR
  | @cons a l h1 h2 ih =>
    rw[aaN,aaV];refine⟨λhm=>?_,ih λa ha b hb e=>inj a (jt _ ha) b (jt _ hb) e⟩
    obtain⟨b,hb,e⟩:=aaz.mp hm;exact h1 b hb (inj a aam b (jt _ hb) e.symm)
 have sub:∀c∈(kvs.map (·.1)).map code,c∈List.range (2*p):=λc hc=>by
  obtain⟨a,ha,rfl⟩:=aaz.mp hc;obtain⟨u,G,rfl⟩:=aaz.mp ha;obtain⟨x,s,hx,ex⟩:=hk u G;rw[ex,aaA];show 2*((x:Int)).toNat+((s.toNat:Int)).toNat<2*p;rw[aaj,aaj];have hs:s.toNat<2:=by cases s<;>decide
  lia
 have:=nd.length_le_of_subset sub
 simpa using this
def vX.row(h:vX p H0 D wd es kvs F W H){i:Nat}(hi:i<es.length):∃b v0 v1,(es.map V.ref)[i]?=some (.ref b)/\es[i]?=some b/\H b=some (.lst [v0,v1])/\wV H (F i false) v0/\wV H (F i true) v1:=by
 have e:es[i]?=some es[i]:=aad hi;obtain⟨v0,v1,a,b,c⟩:=h.at_ i _ e;exact⟨es[i],v0,v1,by rw[aai,e];rfl,e,a,b,c⟩
def rR{κ:Type}[DecidableEq κ](k j:κ):∀kvs:List (κ×V),eW (eA kvs k) j=if j=k then none else eW kvs j
 | []=>by rw[show eA ([]:List (κ×V)) k=[] from rfl,vF];split<;>rfl
 | q::r=>by
   by_cases e:q.1=k
   ·rw[yw e,rR k j r]
    by_cases G:j=k
    ·rw[aac G,aac G]
    ·rw[aab G,aab G,cL (λz=>G (z.symm.trans e))]
   ·rw[yx e]
    by_cases I:q.1=j
    ·rw[cX I,aab (λz=>e (I.trans z)),cX I]
    ·rw[cL I,rR k j r,cL I]
def vX.take(h:vX p H0 D wd es kvs F W H){x:Nat}{s:Bool}{d:Int×Nat}{b c:Addr}{v0 v1:V}(e:W x s=some d)(hc:H c=some (.tup [.int d.1,.int (d.2:Int)]))(hb:es[x]?=some b)(hv:H b=some (.lst [v0,v1])):
 vX p H0 D wd es (eA kvs (ky x s)) (RM.jH F x s d) (RM.zI W x s) (upd (upd H wd (.dT (eA kvs (ky x s)))) b (.lst (([v0,v1]:List V).set s.toNat (.ref c)))):=by
 have hm:=iV hb;have bw:b≠wd:=λz=>h.wE (z▸hm)
 have bD:D≠b:=λz=>h.ne (z▸hm)
 have tp:dI H (upd (upd H wd (.dT (eA kvs (ky x s)))) b (.lst (([v0,v1]:List V).set s.toNat (.ref c)))):=λa ys q=>by
  rw[ao (aW q hv (by intro z;cases z)),ao (aW q h.dt (by intro z;cases z))]
  exact q
 refine⟨(h.same.put h.wn).put (h.fr b hm),h.nd,h.ne,h.fr,h.Dn,h.wn,h.wD,h.wE,by rw[ao bD,ao (aba h.wD)];exact h.lst,λi b' G=>?_,by rw[ao (aba bw),ae],vG h.kn,λkv Z=>h.keys kv (yy Z),λy t d' q=>?_,λy t=>?_⟩
 ·by_cases Y:i=x
  ·subst Y;rw[hb]at G;cases G;obtain⟨w0,w1,I,O,U⟩:=h.at_ _ _ hb;rw[hv]at I;cases I;cases s with
   | false=>exact⟨.ref c,v1,ae,by rw[RM.b9];exact⟨c,rfl,tp _ _ hc⟩,by rw[RM.bE (λz=>by cases z.2)];exact U.tups tp⟩
   | true=>exact⟨v0,.ref c,ae,by rw[RM.bE (λz=>by cases z.2)];exact O.tups tp,by rw[RM.b9];exact⟨c,rfl,tp _ _ hc⟩⟩
  ·have bb:b'≠b:=λz=>by
    subst z;obtain⟨h1,h2⟩:=ju.mp G;obtain⟨h3,h4⟩:=ju.mp hb;exact Y ((ac4 h.nd).mp (h2.trans h4.symm))
   obtain⟨w0,w1,I,O,U⟩:=h.at_ _ _ G;exact⟨w0,w1,by rw[ao bb,ao (show b'≠wd from λz=>h.wE (z▸iV G))];exact I,by rw[RM.bE (λz=>Y z.1)];exact O.tups tp,by rw[RM.bE (λz=>Y z.1)];exact U.tups tp⟩
 ·by_cases z:y=x/\t=s
  ·obtain⟨rfl,rfl⟩:=z;rw[RM.uK]at q;cases q
  ·rw[RM.n8 z]at q;exact h.out y t d' q
 ·rw[rR]
  by_cases z:y=x/\t=s
  ·obtain⟨rfl,rfl⟩:=z;exact .inl ⟨RM.uK _ _ _,aac rfl⟩
  ·rw[RM.n8 z,aab (λq=>z (Ei q))]
   rcases h.val y t with q|⟨d',c',I,O,U⟩
   ·exact .inl q
   ·exact .inr ⟨d',c',I,O,tp _ _ U⟩
def vX.wait(h:vX p H0 D wd es kvs F W H){x:Nat}{s:Bool}{d:Int×Nat}{c:Addr}(hx:x<p)(hc:H c=some (.tup [.int d.1,.int (d.2:Int)])):
 vX p H0 D wd es (putK kvs (ky x s) (.ref c)) F (RM.jH W x s d) (upd H wd (.dT (putK kvs (ky x s) (.ref c)))):=by
 have tp:dI H (upd H wd (.dT (putK kvs (ky x s) (.ref c)))):=λa ys q=>by
  rw[ao (aW q h.dt (by intro z;cases z))]
  exact q
 have Z:(∀kv∈putK kvs (ky x s) (.ref c),∃x s,x<p/\kv.1=ky x s)/\((putK kvs (ky x s) (.ref c)).map (·.1)).Nodup:=by
  cases q:eW kvs (ky x s) with
  | none =>
    refine⟨λkv G=>?_,N7 _ h.kn q⟩
    rw[Bv _ q]at G;rcases aaw.mp G with z|z
    ·exact h.keys kv z
    ·rw[aat.mp z];exact⟨x,s,hx,rfl⟩
  | some v =>
    have I:(kvs.any λkv=>decide (kv.1=ky x s))=true:=by rw[iR,q];rfl
    have e:putK kvs (ky x s) (.ref c)=kvs.map λkv=>if kv.1=ky x s then(kv.1,.ref c) else kv:=by unfold putK;rw[aac I]
    have ek:(putK kvs (ky x s) (.ref c)).map (·.1)=kvs.map (·.1):=by
     rw[e,abl];refine acD λkv _=>?_
     show(if kv.1=ky x s then(kv.1,V.ref c) else kv).1=kv.1
     split<;>rfl
    refine⟨λkv G=>?_,by rw[ek];exact h.kn⟩
    have hm:kv.1∈kvs.map (·.1):=by rw[<-ek];exact ack G
    obtain⟨Zn,h1,h2⟩:=aaz.mp hm;rw[<-h2];exact h.keys Zn h1
 refine⟨h.same.put h.wn,h.nd,h.ne,h.fr,h.Dn,h.wn,h.wD,h.wE,by rw[ao (aba h.wD)];exact h.lst,λi b hb=>?_,ae,Z.2,Z.1,λy t d' q=>?_,λy t=>?_⟩
 ·obtain⟨w0,w1,O,U,Y⟩:=h.at_ _ _ hb;exact⟨w0,w1,by rw[ao (show b≠wd from λz=>h.wE (z▸iV hb))];exact O,U.tups tp,Y.tups tp⟩
 ·by_cases z:y=x/\t=s
  ·rw[z.1];exact hx
  ·rw[RM.bE z]at q;exact h.out y t d' q
 ·rw[KD]
  by_cases z:y=x/\t=s
  ·obtain⟨rfl,rfl⟩:=z;exact .inr ⟨d,c,RM.b9 _ _ _ _,aac rfl,tp _ _ hc⟩
  ·rw[RM.bE z,aab (λq=>z (Ei q))]
   rcases h.val y t with q|⟨d',c',O,U,Y⟩
   ·exact .inl q
   ·exact .inr ⟨d',c',O,U,tp _ _ Y⟩
end
abbrev jI(m:Nat)(H:Hp)(c:Addr)(kw:Nat×Nat):Prop:=H c=some (.tup [.int (kw.1:Int),.int (kw.2:Int),.int ((m.testBit kw.1).toNat:Int)])
structure HG(m:Nat)(H0:Hp)(D:Addr)(es:List Addr)(S:Nat->List (Nat×Nat))(H:Hp):Prop where
 same:au H0 H
 nd:es.Nodup
 ne:D∉es
 fr:∀b∈es,H0 b=none
 Dn:H0 D=none
 lst:H D=some (.lst (es.map V.ref))
 at_:∀i b,es[i]?=some b->∃cs,H b=some (.lst (cs.map V.ref))/\Paired (jI m H) cs (S i)
section
variable {m:Nat}{H0 H H' : Hp}{D b:Addr}{es:List Addr}{S:Nat->List (Nat×Nat)}{i:Nat}
def HG.go(h:HG m H0 D es S H)(s:au H H'):HG m H0 D es S H' :=
 ⟨h.same.trans s,h.nd,h.ne,h.fr,h.Dn,s _ _ h.lst,λi b e=>let⟨cs,a,q⟩:=h.at_ i b e;⟨cs,s _ _ a,Paired.yY q λ_ _ z=>s _ _ z⟩⟩
def vY(S:Nat->List (Nat×Nat))(x:Nat)(kw:Nat×Nat):Nat->List (Nat×Nat):=λi=>if i=x then S i++[kw] else S i
def HG.get(h:HG m H0 D es S H)(hi:i<es.length):∃b cs,(es.map V.ref)[i]?=some (.ref b)/\es[i]?=some b/\H b=some (.lst (cs.map V.ref))/\Paired (jI m H) cs (S i):=by
 have e:es[i]?=some es[i]:=aad hi;obtain⟨cs,a,q⟩:=h.at_ i _ e;exact⟨es[i],cs,by rw[aai,e];rfl,e,a,q⟩
def HG.put(h:HG m H0 D es S H){cs:List Addr}{c:Addr}{kw:Nat×Nat}(hb:es[i]?=some b)(hcs:H b=some (.lst (cs.map V.ref)))(q:Paired (jI m H) cs (S i))(hc:jI m H c kw):
 HG m H0 D es (vY S i kw) (upd H b (.lst (cs.map V.ref++[.ref c]))):=by
 have hm:=iV hb;have O:D≠b:=λz=>h.ne (z▸hm)
 have tp:∀c kw,jI m H c kw->jI m (upd H b (.lst (cs.map V.ref++[.ref c]))) c kw:=λc kw z=>by
  show upd H b _ c=_;rw[ao (aW z hcs (by intro z;cases z))]
  exact z
 have I : ∀x kw,jI m H x kw->jI m (upd H b (.lst (cs.map V.ref++[.ref c]))) x kw:=λx kw z=>by
  show upd H b _ x=_;rw[ao (aW z hcs (by intro z;cases z))]
  exact z
 refine⟨h.same.put (h.fr b hm),h.nd,h.ne,h.fr,h.Dn,by rw[ao O];exact h.lst,λj Y G=>?_⟩
 by_cases e:j=i
 ·subst e;rw[hb]at G;cases G;refine⟨cs++[c],by rw[ae];simp,?_⟩
  unfold vY;rw[aac rfl];exact Paired.snoc (Paired.yY q λ_ _ z=>I _ _ z) (I _ _ hc)
 ·have Z:Y≠b:=λz=>by
   subst z;obtain⟨h1,h2⟩:=ju.mp G;obtain⟨h3,h4⟩:=ju.mp hb;exact e ((ac4 h.nd).mp (h2.trans h4.symm))
  obtain⟨U,q1,q2⟩:=h.at_ j Y G;refine⟨U,by rw[ao Z];exact q1,?_⟩
  unfold vY;rw[aab e];exact Paired.yY q2 λ_ _ z=>I _ _ z
def HG.off(h:HG m H0 D es S H){L:Addr}(hL:H L=none):L∉es:=λz=>by
 obtain⟨j,hj⟩:=aaI z;obtain⟨_,q,_⟩:=h.at_ j L hj;rw[hL]at q;cases q
def Py(m:Nat)(H0:Hp)(D:Addr)(i:Nat)(acc:List V)(H:Hp):Prop:=∃es,acc=es.map V.ref/\es.length=i/\HG m H0 D es (λ_=>[]) H
def Py.start(hD:H0 D=none):Py m H0 D 0 [] (upd H0 D (.lst [])) :=
 ⟨[],rfl,rfl,au.new hD,acR,ab3,λ_ h=>(ab3 h).elim,hD,ae,λi b e=>by cases e⟩
def Py.len{acc:List V}(h:Py m H0 D i acc H):H D=some (.lst acc)/\acc.length<=i:=by
 obtain⟨es,rfl,e,r⟩:=h;exact⟨r.lst,by rw[aaa];lia⟩
def Py.next{acc:List V}(h:Py m H0 D i acc H)(hb:H b=none):upd H b (.lst []) D=some (.lst acc)/\Py m H0 D (i+1) (acc++[.ref b]) (upd (upd H b (.lst [])) D (.lst (acc++[.ref b]))):=by
 obtain⟨es,rfl,e,r⟩:=h;have I:D≠b:=λz=>by
  have:=r.lst;rw[z,hb]at this;cases this
 have O:b∉es:=r.off hb;have G:H0 b=none:=r.same.free hb;refine⟨by rw[ao I];exact r.lst,es++[b],by simp,by simp[e],(r.same.put G).put r.Dn,?_,?_,λc hc=>?_,r.Dn,by rw[ae];simp,λj c hc=>?_⟩
 ·exact adw.mpr ⟨r.nd,by simp,λx hx y Y=>by rw[aat.mp Y];exact λz=>O (z▸hx)⟩
 ·intro hm;rcases aaw.mp hm with z|z
  ·exact r.ne z
  ·exact I (aat.mp z)
 ·rcases aaw.mp hc with z|z
  ·exact r.fr c z
  ·rw[aat.mp z];exact G
 ·have Z:c≠D:=λz=>by
   subst z;rcases aaw.mp (iV hc) with z|z
   ·exact r.ne z
   ·exact I (aat.mp z)
  refine⟨[],?_,.nil⟩;rw[ao Z]
  by_cases U:c=b
  ·rw[U,ae];rfl
  ·rw[ao U]
   by_cases hj:j<es.length
   ·rw[aaK hj]at hc;obtain⟨cs,q1,q2⟩:=r.at_ j c hc;cases q2;exact q1
   ·rw[aaQ (by lia)]at hc
    have:=iV hc;exact absurd (aat.mp this) U
end
structure Pz(N:RM.Net)(k:Nat)(S:Nat->List (Nat×Nat)):Prop where
 mem:∀i kw,kw∈S i↔(kw.1<k/\RM.Jn N kw.1 i kw.2)
 len:∀i,(S i).length<=2*k
def Pz.start{N:RM.Net}:Pz N 0 (λ_=>[]):=⟨λi kw=>⟨λh=>(nomatch h),λh=>absurd h.1 (abg _)⟩,λ_=>aaL _⟩
def Pz.next{N:RM.Net}{k:Nat}{S:Nat->List (Nat×Nat)}(h:Pz N k S):Pz N (k+1) (vY (vY S (N.a k) (k,N.b k)) (N.b k) (k,N.a k)):=by
 refine⟨λi kw=>?_,λi=>?_⟩
 ·have one:∀(S:Nat->List (Nat×Nat)) (x:Nat) (q:Nat×Nat),kw∈vY S x q i↔kw∈S i\/(i=x/\kw=q):=λS x q=>by
   unfold vY
   by_cases e:i=x
   ·rw[aac e,aaw,aat];simp[e]
   ·rw[aab e];simp[e]
  rw[one,one,h.mem];obtain⟨I,w⟩:=kw
  constructor
  ·rintro((⟨h1,h2⟩|⟨rfl,h2⟩) | ⟨rfl,h2⟩)
   ·exact⟨abu h1,h2⟩
   ·cases h2;exact⟨acf _,.inl ⟨rfl,rfl⟩⟩
   ·cases h2;exact⟨acf _,.inr ⟨rfl,rfl⟩⟩
  ·rintro⟨h1,h2⟩
   by_cases e:I<k
   ·exact .inl (.inl ⟨e,h2⟩)
   ·have e:I = k:=by have:I<k+1:=h1;lia
    subst e;rcases h2 with⟨O,G⟩|⟨O,G⟩
    ·exact .inl (.inr ⟨O.symm,by have G:N.b I = w:=G;rw[G]⟩)
    ·exact .inr ⟨O.symm,by have G:N.a I = w:=G;rw[G]⟩
 ·have one:∀(S:Nat->List (Nat×Nat)) (x:Nat) (q:Nat×Nat),(vY S x q i).length<=(S i).length+1:=λS x q=>by
   unfold vY
   split
   ·simp
   ·lia
  have h1:=one (vY S (N.a k) (k,N.b k)) (N.b k) (k,N.a k);have h2:=one S (N.a k) (k,N.b k);have O:=h.len i
  lia
end L2
namespace RM
def left(F:OW):Nat->Nat
 | 0=>0
 | p+1=>left F p+(if(F p false).isNone then 1 else 0)+(if(F p true).isNone then 1 else 0)
def yN{F G:OW}:∀{p:Nat},(∀x,x<p->∀s,F x s=G x s)->left F p=left G p
 | 0,_=>rfl
 | p+1,h=>by
   unfold left;rw[yN λx hx=>h x (by lia),h p (by lia),h p (by lia)]
def BX{F:OW}{x:Nat}{s:Bool}{d:Int×Nat}(hn:F x s=none):∀{p:Nat},x<p->left (jH F x s d) p<left F p
 | 0,h=>absurd h (abg _)
 | p+1,h=>by
   unfold left
   by_cases e:x=p
   ·subst e;rw[yN (F:=jH F x s d) (G:=F) λy I t=>bE λz=>by lia]
    cases s with
    | false=>rw[b9,bE (λz=>by cases z.2),hn];simp
    | true=>rw[b9,bE (λz=>by cases z.2),hn];simp
   ·have O:=BX (F:=F) (x:=x) (s:=s) (d:=d) hn (p:=p) (by lia)
    rw[bE (λz=>e z.1.symm),bE (λz=>e z.1.symm)]
    lia
end RM
namespace L2
open PySem Ring
def VS(W:RM.OW)(k:List Key):List Int:=match k with
 | [.inl x,.inl s]=>(match W x.toNat (decide (s=1)) with | some d=>[d.1,(d.2:Int)] | none=>[])
 | _=>[]
def Lz{W:RM.OW}{x:Nat}{s:Bool}{d:Int×Nat}(h:W x s=some d):VS W (ky x s)=[d.1,(d.2:Int)]:=by
 have e:(decide (((s.toNat:Nat):Int)=1))=s:=by cases s<;>rfl
 show(match W ((x:Int)).toNat (decide (((s.toNat:Nat):Int)=1)) with | some d=>[d.1,(d.2:Int)] | none=>[])=_
 rw[aaj,e,h]
def LA(W:RM.OW)(kvs:List (List Key×V))(i:Nat):List Int:=VS W ((kvs[i]?.map (·.1)).getD [])
def zJ{a b c d:Int}(h:HT.lexLt [a,b] [c,d]=false):c<=a:=by
 rw[HT.g8]at h
 by_cases e:a=c
 ·lia
 ·rw[aab e]at h;have:=of_decide_eq_false h
  lia
def yO{κ:Type}[DecidableEq κ]:∀{kvs:List (κ×V)} {k:κ} {v:V},(kvs.map (·.1)).Nodup->(k,v)∈kvs->eW kvs k=some v
 | [],_,_,_,h=>nomatch h
 | q::r,k,v,nd,h=>by
   rw[aaN,aaV]at nd;rcases aaq.mp h with e|h
   ·subst e;exact cX rfl
   ·have ne : ¬ q.1=k:=λz=>nd.1 (by rw[z];exact ack (f:=(·.1)) h)
    rw[cL ne];exact yO nd.2 h
def vX.entry{p:Nat}{H0 H:Hp}{D wd:Addr}{es:List Addr}{kvs:List (List Key×V)}{F W:RM.OW}(h:vX p H0 D wd es kvs F W H){i:Nat}{kv:List Key×V}(e:kvs[i]?=some kv):
 ∃x s d c,x<p/\kv.1=ky x s/\W x s=some d/\eW kvs (ky x s)=some (.ref c)/\kv.2 = .ref c/\H c=some (.tup [.int d.1,.int (d.2:Int)])/\LA W kvs i=[d.1,(d.2:Int)]:=by
 have hm:=iV e;obtain⟨x,s,hx,G⟩:=h.keys kv hm;have I:eW kvs (ky x s)=some kv.2:=yO h.kn (by rw[<-G];exact hm)
 rcases h.val x s with⟨_,z⟩|⟨d,c,h1,h2,O⟩
 ·rw[I]at z;cases z
 ·rw[I]at h2;refine⟨x,s,d,c,hx,G,h1,I.trans h2,Option.some.inj h2,O,?_⟩;unfold LA;rw[e];show VS W kv.1=_;rw[G];exact Lz h1
def vX.find{p:Nat}{H0 H:Hp}{D wd:Addr}{es:List Addr}{kvs:List (List Key×V)}{F W:RM.OW}(h:vX p H0 D wd es kvs F W H){x:Nat}{s:Bool}{d:Int×Nat}(e:W x s=some d):∃(i:Nat) (kv:List Key×V),kvs[i]?=some kv/\kv.1=ky x s/\LA W kvs i=[d.1,(d.2:Int)]:=by
 rcases h.val x s with⟨z,_⟩|⟨d',c,h1,h2,O⟩
 ·rw[e]at z;cases z
 ·have hm:=N6 h2;obtain⟨kv,G,I⟩:=aaz.mp hm;obtain⟨i,hi⟩:=aaI G;refine⟨i,kv,hi,I,?_⟩;unfold LA;rw[hi];show VS W kv.1=_;rw[I];exact Lz e
def vX.start{p:Nat}{H0 H:Hp}{D wd c:Addr}{es:List Addr}{u:Nat}(f:Ec H0 D es (λ_ _=>none) H)(hu:u<p)(hw:H wd=some (.dT []))(h0:H0 wd=none)(hc:H c=some (.tup [.int 0,.int 0])):
 vX p H0 D wd es [(ky u false,.ref c)] (λ_ _=>none) (RM.jH (λ_ _=>none) u false (0,0)) (upd H wd (.dT [(ky u false,.ref c)])):=by
 have wD:wd≠D:=λz=>by rw[z,f.lst]at hw;cases hw
 have wE:wd∉es:=λz=>by
  obtain⟨j,hj⟩:=aaI z;have:=f.at_ j wd hj;rw[hw]at this;cases this
 refine⟨f.same.put h0,f.nd,f.ne,f.fr,f.Dn,h0,wD,wE,by rw[ao (aba wD)];exact f.lst,λi b hb=>?_,ae,by simp,λkv G=>?_,λx s d e=>?_,λx s=>?_⟩
 ·have nb:b≠wd:=λz=>wE (z▸iV hb)
  exact⟨.eE,.eE,by rw[ao nb];exact f.at_ i b hb,rfl,rfl⟩
 ·rw[aat.mp G];exact⟨u,false,hu,rfl⟩
 ·by_cases z:x=u/\s=false
  ·rw[z.1];exact hu
  ·rw[RM.bE z]at e;cases e
 ·by_cases z:x=u/\s=false
  ·obtain⟨rfl,rfl⟩:=z;exact .inr ⟨(0,0),c,RM.b9 _ _ _ _,cX rfl,by rw[ao (aW hc hw (by intro z;cases z))];exact hc⟩
  ·refine .inl ⟨RM.bE z,?_⟩;rw[cL (λq=>z ?_),vF]
   obtain⟨I,O⟩:=Ei q;exact⟨I.symm,O.symm⟩
open PySem PySem.Spec PyProof.Rows
section
variable {P:Program}{w:World}{A:Around}{E:dh}{s:Shared}
def LC{l:Addr}{u0 u1:Value}{Q:List Value->Shared->Prop}(hh:A.handled=none)(hl:s.heap.IsList l #[u0,u1])
 (hQ:∀h' tk,(∀b o,s.heap.get? b=some o->h'.get? b=some o)->Q [u0,u1] { s with heap:=h',toks:=tk}):wpAny (model P w) A (unpackItems (.ref l) 2 none) Q E s:=by
 obtain⟨ol,I,G,nl,O⟩:=id hl;have hT:s.TypeIs (.ref l) "list":=⟨ol,I,G⟩;have U:l≠s.heap.objs.size:=aay (aal I);unfold unpackItems;refine aN ?_;unfold notIterableAtAll;refine aN (wpAny_specialOf hT PySem.F.slot_list_iter.lookup (aah ?_));simp only[abq,if_false];refine aN (aaF (wpAny_pyIter_list hl ?_));have W:=Walks.list (prog:=P) (w:=w) (A:=A) hh s.heap.objs.size l U #[u0,u1];generalize Y:s.heap.push { cls:=.type "list_iterator",data:=.fields #[.ref l,.int 0 0]}=g0;have Z:∀b o,s.heap.get? b=some o->g0.get? b=some o:=λb o e=>by rw[<-Y];exact aak _ e
 have ag:g0.IsListIter s.heap.objs.size l 0:=by rw[<-Y];exact⟨_,aaB _ rfl,rfl,rfl⟩
 have ar:g0.IsList l #[u0,u1]:=by rw[<-Y];exact⟨ol,aak _ I,G,nl,O⟩
 have nI:∀b o,s.heap.get? b=some o->b∉[s.heap.objs.size]:=λb o e z=>aay (aal e) (aat.mp z)
 refine aN (aaF ?_);show wpAny _ _ (pyNext (.ref s.heap.objs.size) >>= _) _ _ _;refine aN (W.item 0 _ _ _ (by simp) ⟨ag,ar⟩ λv1 h1 a5 aw ax k1=>?_)
 obtain rfl:u0=v1:=by simpa using aw
 refine aN (aaF ?_);show wpAny _ _ (pyNext (.ref s.heap.objs.size) >>= _) _ _ _;refine aN (W.item 1 _ _ _ (by simp) ax λv2 h2 a6 aT a3 k2=>?_)
 obtain rfl:u1=v2:=by simpa using aT
 refine aN (aaF ?_);show wpAny _ _ (pure []) _ _ _;refine aah (aah (aah ?_));rw[aab (by simp)]
 refine aN (aaF (W.done _ _ _ a3 λh3 a4 k3=>?_))
 simp only[Option.isSome_none,abq,if_false];exact aah (hQ h3 a4 λb o e=>k3 b o (nI b o e) (k2 b o (nI b o e) (k1 b o (nI b o e) (Z b o e))))
def LD{env:Env}{elts:List Expr}{x1}{pos:Pos}{l:Addr}{u0 u1:Value}{Q:Unit->Shared->Prop}(hh:A.handled=none)(hl:s.heap.IsList l #[u0,u1])
 (hn:(assignEach elts env).length=2) (hstar:(assignEach elts env).findIdx? (·.1)=none)
 (h:∀h' tk,(∀b o,s.heap.get? b=some o->h'.get? b=some o)->wpAny (model P w) A (assignInOrder ((assignEach elts env).map (·.2)) [u0,u1]) Q E { s with heap:=h',toks:=tk}) :
 wpAny (model P w) A (assign (.Tuple elts x1 pos) env (.ref l)) Q E s:=by
 rw[arm_assign_Tuple];refine aN (wpAny_standAt ?_);unfold unpack;rw[hn,hstar];exact aN (aaF (LC hh hl h))
end
section
variable {X:Cx}{es:List Expr}{pos:Pos}
def Ur(K:bN)(t:MT):TG:=λv σ H Q=>∃a x y,v = .ref a/\aM K H a [x,y]/\t [x,y] σ H Q
def XH(K:bN){k:Nat}{t:MT}(hc:X.calm=true)(h:RZ X es t)
 (hn:(assignEach es X.env).length=2:=by rfl) (hst:(assignEach es X.env).findIdx? (·.1)=none:=by rfl) (hK:X.K=K:=by rfl):PG X (.Tuple es k pos) (Ur K t):=by
 subst hK;intro pq s σ H v u Q I r hw;obtain⟨a,x,y,O,U,hw⟩:=hw;subst O;cases r;obtain⟨its,rv,ht,hz⟩:=I.list U;cases rv with
 | cons Y Z=>cases Z with
   | cons r2 G =>
     cases G;refine LD (I.ok.hd hc) ht.isList hn hst λh' tk hx=>?_
     exact h pq _ σ H [x,y] _ Q (I.kept (t':=tk) hx) (.cons Y (.cons r2 .nil)) hw
end
end L2
namespace RM
section
variable {N:Net}{L:Nat->Int}{m u:Nat}
def tO{f g:Nat->Bool}:∀{n:Nat},(∀k,k<n->0<L k)->(∀k,k<n->f k=true->g k=true)->∀k,k<n->f k=false->g k=true->lsum L f n<lsum L g n
 | 0,_,_,k,hk,_,_=>absurd hk (abg _)
 | n+1,hL,h,k,hk,hf,hg=>by
   unfold lsum;have hn:=h n (by lia)
   have h0:=hL n (by lia)
   by_cases e:k=n
   ·subst e;have:=rM (L:=L) (f:=f) (g:=g) (n:=k) (λj hj=>acw (hL j (by lia))) λj hj=>h j (by lia)
    rw[hf,hg];simp only[abq,if_false,if_true]
    lia
   ·have G:=tO (n:=n) (λj hj=>hL j (by lia)) (λj hj=>h j (by lia)) k (by lia) hf hg
    cases hfn:f n with
    | false=>cases g n<;>simp<;>lia
    | true=>rw[hn hfn];simp;lia
def Ej(hL:∀k,k<N.n->0<L k)(hu:u<N.p){z:Int}{e:Nat}(h:Wz N L m u u true z e)(hmin:∀x z',x<N.p->Wy N L m x x true z'->z<=z'):
 N.Ring e/\e<2^N.n/\N.par e m=true/\lsum L (λk=>e.testBit k) N.n=z:=by
 have G:∀k,k<N.n->0<=L k:=λk hk=>acw (hL k hk)
 obtain⟨pre,h⟩:=h;obtain⟨_,h2,h3,h4,h5,_⟩:=qv G hu h;obtain⟨r,r1,r2,r3⟩:=Ea _ e rfl h2 (λx _=>by rw[h3,adv]) h4
 have I:r<2^N.n:=cI λk hk=>pJ h2 (r2 k hk)
 obtain⟨x,hx,hw⟩:=qw G m r1 I;rw[r3]at hw;have hz:=hmin x _ hx hw;have hle:=rM (L:=L) (f:=λk=>r.testBit k) (g:=λk=>e.testBit k) G λk _ hk=>r2 k hk
 have O:e=r:=aaG λk=>by
  cases hr:r.testBit k with
  | true=>exact r2 k hr
  | false =>
    cases he:e.testBit k with
    | false=>rfl
    | true =>
      have:=tO (L:=L) (f:=λk=>r.testBit k) (g:=λk=>e.testBit k) hL (λk _ hk=>r2 k hk) k (pJ h2 he) hr he
      lia
 rw[O];exact⟨r1,I,r3,by lia⟩
def LF(hL:∀k,k<N.n->0<=L k)(hno:∀x z',x<N.p->¬ Wy N L m x x true z'){r:Nat}(hr:N.Ring r)(hm:r<2^N.n):N.par r m=false:=by
 cases hp:N.par r m with
 | false=>rfl
 | true =>
   obtain⟨x,hx,hw⟩:=qw hL m hr hm;rw[hp]at hw;exact absurd hw (hno x _ hx)
end
end RM
namespace L2
open PySem PySem.Spec PyProof.Rows
section
variable {X:Cx}{pq:aQ}{σ:St}{H:Hp}{l It S:Addr}{cs:List Addr}{ks:Nat->List Int}{R:Result->Shared->Prop}
def lO{pa:aQ}{s:Shared}(I:Inv X pa σ H s)(hl:aM X.K H l (cs.map V.ref)):s.heap.IsList l (cs.map Value.ref).toArray:=by
 obtain⟨G,O,p,hz⟩:=I.list hl;have e:G=cs.map Value.ref:=by
  clear hl p hz
  induction cs generalizing G with
  | nil=>cases O;rfl
  | cons c r U =>
    rw[aaN]at O;cases O with
    | cons h t=>cases h;rw[U _ t];rfl
 rw[e]at p;exact p.isList
def HH(hh:X.A.handled=none)(un:X.A.in1.units<cLine)(hl:aM X.K H l (cs.map V.ref))(hk:∀(i:Nat) c,cs[i]?=some c->aR X.K H c ((ks i).map V.int))(oS:Ef X S)(oI:Ef X It)(SI:S≠It)(lI:l≠It)
 (pI:∀p∈pq,p.1≠It) (pS:∀p∈pq,p.1≠S)
 (hR:∀(i:Nat) c s',cs[i]?=some c->(∀j,j<cs.length->HT.lexLt (ks j) (ks i)=false)->Inv X pq σ H s'->R (.ok (.ret (.ref c))) s') :
 ∀(r j i:Nat) (c:Addr) (s:Shared) (n:Nat) (Jh:Obj),cs.length-j=r->j<=cs.length->i<j->cs[i]?=some c->Inv X ((S,seqObj "list" #[.ref c,.ref c] n)::(It,Jh)::pq) σ H s->s.heap.IsListIter It l j->
  (∀U,U<j->HT.lexLt (ks U) (ks i)=false)->codeAny (model X.prog X.w) X.A (.builtin "min.loop" ⟨[.ref It,.none,.ref S],[]⟩) R s:=by
 have G:(toString "min" ++ toString ".loop":String)="min.loop":=by decide
 have W:=Walks.list (prog:=X.prog) (w:=X.w) (A:=X.A.in1) hh It l lI (cs.map Value.ref).toArray;have ag:(cs.map Value.ref).toArray.size=cs.length:=by simp
 intro r
 induction r with
 | zero =>
   intro j i c s n Jh hr hj aT hc I hit qy;have Di:j=cs.length:=by lia
   have vW:=I.pin (S,_) (iO _ (.head _));refine codeAny_builtin abR ?_;rw[Around.under_plainId aaT _];show wpAny _ X.A.in1 (seqItems? (.ref S) >>= _) _ _ _;refine aN (wpAny_seqItems vW.1 rfl ?_);show wpAny _ X.A.in1 (tryCatch (pyNext (.ref It)) _ >>= _) _ _ _;refine aN (abM (W.done _ _ _ ⟨by rw[ag,<-Di];exact hit,lO I hl⟩ λh' O Y=>?_))
   have Z:=I.j9 (t':=O) (h':=h') (pb:=(S,seqObj "list" #[.ref c,.ref c] n)::pq) oI (List.Mem.tail _ (.head _)) (λb u hb e=>Y b u (by simpa using hb) e) (λp hp=>by
    rcases aaq.mp hp with rfl|hp
    ·exact .inr ⟨.head _,SI⟩
    ·exact .inr ⟨.tail _ (.tail _ hp),pI p hp⟩)
   have Ls:=Z.pin (S,_) (iO _ (.head _));show wpAny _ X.A.in1 (updateSeq S (λ_=>#[]) >>= _) _ _ _
   refine aN (wpAny_updateSeq Ls.1 rfl (aN (wpAny_letGo (aah ?_))));have s1:=aaY h' S (Obj.mapSeq λ_=>(#[]:Array Value))
   exact hR i c _ hc (λU ar=>qy U (by lia)) (Z.j9 (t':=O) (pb:=pq) oS (.head _) (λb u hb e=>(s1.2 b hb).trans e) λp hp=>.inr ⟨.tail _ hp,pS p hp⟩)
 | succ r ih =>
   intro j i c s n Jh hr hj aT hc I hit qy;have Di:j<cs.length:=by lia
   have vW:=I.pin (S,_) (iO _ (.head _));refine codeAny_builtin abR ?_;rw[Around.under_plainId aaT _];show wpAny _ X.A.in1 (seqItems? (.ref S) >>= _) _ _ _;refine aN (wpAny_seqItems vW.1 rfl ?_);show wpAny _ X.A.in1 (tryCatch (pyNext (.ref It)) _ >>= _) _ _ _;refine aN (abM (W.item j _ _ _ (by rw[ag];exact Di) ⟨hit,lO I hl⟩ λv h' O hv aw Y=>?_))
   have Sa:cs[j]?=some cs[j]:=aad Di;obtain rfl:v = .ref cs[j]:=by
    have:(cs.map Value.ref)[j]?=some v:=by simpa using hv
    rw[aai,Sa]at this;exact(Option.some.inj this).symm
   obtain⟨M0,LG,a3,ax⟩:=id aw.1;have Z:=I.j9 (t':=O) (h':=h') (pb:=(S,seqObj "list" #[.ref c,.ref c] n)::(It,M0)::pq) oI (List.Mem.tail _ (.head _)) (λb u hb e=>Y b u (by simpa using hb) e) (λp hp=>by
    rcases aaq.mp hp with rfl|hp
    ·exact .inr ⟨.head _,SI⟩
    ·rcases aaq.mp hp with rfl|hp
     ·exact .inl ⟨rfl,LG,λv z=>by rw[ax]at z;cases z⟩
     ·exact .inr ⟨.tail _ (.tail _ hp),pI p hp⟩)
   have nq:=Z.pin (S,_) (iO _ (.head _));show wpAny _ X.A.in1 (tryCatch (holding [.ref cs[j],.ref cs[j]] (richCompare .Lt (.ref cs[j]) (.ref c) >>= _)) _ >>= _) _ _ _;refine aN (abM (aaF (aN (Lp Z (hk j _ Sa) (hk i c hc) un ?_))));refine aN (aaF (wpAny_truthy_bool (aN (wpAny_letGo (aah ?_)))));cases hlt:HT.lexLt (ks j) (ks i) with
   | true =>
     have s1:=aaY h' S (Obj.mapSeq λ_=>(#[.ref cs[j],.ref cs[j]]:Array Value))
     obtain⟨n2,a4⟩:∃n2,(h'.update S (Obj.mapSeq λ_=>(#[.ref cs[j],.ref cs[j]]:Array Value))).get? S=some (seqObj "list" #[.ref cs[j],.ref cs[j]] n2):=⟨_,get?_update_seq nq.1 λ_=>#[.ref cs[j],.ref cs[j]]⟩
     simp only[if_true];refine aN (wpAny_updateSeq nq.1 rfl (aN (wpAny_letGo ?_)));rw[G];have I3:=Z.j9 (t':=O) (pb:=(S,seqObj "list" #[.ref cs[j],.ref cs[j]] n2)::(It,M0)::pq) oS (.head _) (λb u hb e=>(s1.2 b hb).trans e) (λp hp=>by
      rcases aaq.mp hp with rfl|hp
      ·exact .inl ⟨rfl,a4,λv z=>by cases z⟩
      ·rcases aaq.mp hp with rfl|hp
       ·exact .inr ⟨.tail _ (.head _),SI.symm⟩
       ·exact .inr ⟨.tail _ (.tail _ hp),pS p hp⟩)
     refine aah ⟨plainId_quiet aaT _,ih (j+1) j cs[j] _ n2 M0 (by lia) (by lia) (by lia) Sa I3 ⟨M0,(s1.2 It SI.symm).trans LG,a3,ax⟩ λU ar=>?_⟩
     by_cases e:U = j
     ·rw[e];exact HT.gM _
     ·exact HT.vU (qy U (by lia)) hlt
   | false =>
     simp only[abq,if_false];refine aN (wpAny_letGo ?_);rw[G];refine aah ⟨plainId_quiet aaT _,ih (j+1) i c _ n M0 (by lia) (by lia) (by lia) hc Z aw.1 λU ar=>?_⟩
     by_cases e:U = j
     ·rw[e];exact hlt
     ·exact qy U (by lia)
def XJ(hr:X.A.handled=none)(un:X.A.in1.units<cLine):fJ X (.builtin "min") (λxs H Q=>∃(l:Addr) (cs:List Addr) (ks:Nat->List Int),xs=[.ref l]/\aM X.K H l (cs.map V.ref)/\0<cs.length/\(∀(i:Nat) c,cs[i]?=some c->aR X.K H c ((ks i).map V.int))/\
 ∀(i:Nat) c,cs[i]?=some c->(∀j,j<cs.length->HT.lexLt (ks j) (ks i)=false)->Q (.ref c) H):=by
 intro pq s σ H xs us Q I r h;obtain⟨l,cs,ks,rfl,hl,O,hk,q⟩:=h;obtain⟨u,rfl,rx⟩:=vals1 r;cases rx;have G:(toString "min" ++ toString ".loop":String)="min.loop":=by decide
 have U:=lO I hl;obtain⟨ol,Uq,_⟩:=id U;have ag:l<s.heap.objs.size:=aal Uq;refine call_function_tree PySem.F.kind_min PySem.F.plain_min PySem.F.entry_min (PySem.F.args_min1 _) ?_;show wpAny _ X.A.in1 (Builtin.Builtins.bindParams "min" ["key","default"] 0 ⟨[],[]⟩ >>= _) _ _ s;refine aN (wpAny_of_eq (show Builtin.Builtins.bindParams "min" ["key","default"] 0 ⟨[],[]⟩=pure [none,none] from rfl) ?_)
 refine aN (aah (aN (wpAny_pyIter_list U (aN (wpAny_newList ?_ (aaL _))))));rw[G];refine aah ⟨plainId_quiet aaT _,?_⟩;generalize Q8:({ cls:=.type "list_iterator",data:=.fields #[.ref l,.int 0 0]}:Obj)=oI;have hS:(s.heap.push oI).objs.size=s.heap.objs.size+1:=size_push' ..;have ar:∀b o,s.heap.get? b=some o->((s.heap.push oI).push (seqObj "list" #[] 0)).get? b=some o:=λb o e=>aak _ (aak _ e)
 have gI:((s.heap.push oI).push (seqObj "list" #[] 0)).get? s.heap.objs.size=some oI:=aak _ (aaB _ (by rw[<-Q8];rfl))
 have gS:((s.heap.push oI).push (seqObj "list" #[] 0)).get? (s.heap.push oI).objs.size=some (seqObj "list" #[] 0):=aaB _ rfl;have Ou:∀p∈pq,p.1<s.heap.objs.size:=λp hp=>aal (I.pin p (iO _ hp)).1
 have Pw:=I.Ln (aaf s.heap.objs.size);have oS:=I.Ln (b:=(s.heap.push oI).objs.size) (by rw[hS];exact abF _)
 have SI:(s.heap.push oI).objs.size≠s.heap.objs.size:=by rw[hS];exact ac5 _
 have lI:l≠s.heap.objs.size:=aay ag;have pI:∀p∈pq,p.1≠s.heap.objs.size:=λp hp=>aay (Ou p hp)
 have pS:∀p∈pq,p.1≠(s.heap.push oI).objs.size:=λp hp=>by rw[hS];exact aay (abu (Ou p hp))
 have J:Inv X (((s.heap.push oI).objs.size,seqObj "list" #[] 0)::(s.heap.objs.size,oI)::pq) σ H { s with heap:=(s.heap.push oI).push (seqObj "list" #[] 0)}:=by
  have K:=I.kept (t':=s.toks) ar;refine K.gG λp hp=>?_
  rcases aaq.mp hp with rfl|hp
  ·exact⟨gS,I.hok.fresh (by rw[hS];exact abF _),oS.2.1,oS.2.2.1,λv z=>by cases z⟩
  ·rcases aaq.mp hp with rfl|hp
   ·exact⟨gI,I.hok.fresh (aaf _),Pw.2.1,Pw.2.2.1,λv z=>by rw[<-Q8]at z;cases z⟩
   ·exact K.pin p (iO _ hp)
 have W:=Walks.list (prog:=X.prog) (w:=X.w) (A:=X.A.in1) hr s.heap.objs.size l lI (cs.map Value.ref).toArray;have vW:=J.pin ((s.heap.push oI).objs.size,seqObj "list" #[] 0) (iO _ (.head _));refine codeAny_builtin abR ?_;rw[Around.under_plainId aaT _];show wpAny _ X.A.in1 (seqItems? (.ref _) >>= _) _ _ _;refine aN (wpAny_seqItems vW.1 rfl ?_);show wpAny _ X.A.in1 (tryCatch (pyNext (.ref s.heap.objs.size)) _ >>= _) _ _ _;refine aN (abM (W.item 0 _ _ _ (by simpa using O) ⟨⟨oI,gI,by rw[<-Q8],by rw[<-Q8];rfl⟩,lO J hl⟩ λv h' Y hv aw ax=>?_))
 have Sa:cs[0]?=some cs[0]:=aad O;obtain rfl:v = .ref cs[0]:=by
  have:(cs.map Value.ref)[0]?=some v:=by simpa using hv
  rw[aai,Sa]at this;exact(Option.some.inj this).symm
 obtain⟨M0,LG,aT,Z⟩:=id aw.1;have I1:=J.j9 (t':=Y) (h':=h') (pb:=((s.heap.push oI).objs.size,seqObj "list" #[] 0)::(s.heap.objs.size,M0)::pq) Pw (List.Mem.tail _ (.head _)) (λb u hb e=>ax b u (by simpa using hb) e) (λp hp=>by
  rcases aaq.mp hp with rfl|hp
  ·exact .inr ⟨.head _,SI⟩
  ·rcases aaq.mp hp with rfl|hp
   ·exact .inl ⟨rfl,LG,λv z=>by rw[Z]at z;cases z⟩
   ·exact .inr ⟨.tail _ (.tail _ hp),pI p hp⟩)
 have nq:=I1.pin ((s.heap.push oI).objs.size,_) (iO _ (.head _));have s1:=aaY h' (s.heap.push oI).objs.size (Obj.mapSeq λ_=>(#[.ref cs[0],.ref cs[0]]:Array Value))
 obtain⟨n2,a3⟩:∃n2,(h'.update (s.heap.push oI).objs.size (Obj.mapSeq λ_=>(#[.ref cs[0],.ref cs[0]]:Array Value))).get? (s.heap.push oI).objs.size=some (seqObj "list" #[.ref cs[0],.ref cs[0]] n2):=⟨_,get?_update_seq nq.1 λ_=>#[.ref cs[0],.ref cs[0]]⟩
 show wpAny _ X.A.in1 (updateSeq (s.heap.push oI).objs.size (λ_=>#[.ref cs[0],.ref cs[0]]) >>= _) _ _ _
 refine aN (wpAny_updateSeq nq.1 rfl ?_);rw[G];have I3:=I1.j9 (t':=Y) (pb:=((s.heap.push oI).objs.size,seqObj "list" #[.ref cs[0],.ref cs[0]] n2)::(s.heap.objs.size,M0)::pq) oS (.head _) (λb u hb e=>(s1.2 b hb).trans e) (λp hp=>by
  rcases aaq.mp hp with rfl|hp
  ·exact .inl ⟨rfl,a3,λv z=>by cases z⟩
  ·rcases aaq.mp hp with rfl|hp
   ·exact .inr ⟨.tail _ (.head _),SI.symm⟩
   ·exact .inr ⟨.tail _ (.tail _ hp),pS p hp⟩)
 refine aah ⟨plainId_quiet aaT _,HH hr un hl hk oS Pw SI lI pI pS (λi c s' hc best I7=>⟨.ref c,H,I7,rfl,q i c hc best⟩) _ 1 0 cs[0] _ n2 M0 rfl O (acf _) Sa I3 ⟨M0,(s1.2 _ SI.symm).trans LG,aT,Z⟩ λj hj=>?_⟩
 have e:j=0:=by lia
 rw[e];exact HT.gM _
end
end L2
namespace RM
def lx(a b:Int×Nat):Prop:=a.1<b.1\/(a.1=b.1/\a.2<=b.2)
def stp(L:Nat->Int)(d:Int×Nat)(k:Nat):Int×Nat:=(d.1+L k,d.2^^^2^k)
structure Fx(N:Net)(L:Nat->Int)(m u:Nat)(F:OW):Prop where
 st:F u false=some (0,0)
 cx:∀x s d k y,F x s=some d->k<N.n->Jn N k x y->∃d',F y (s^^m.testBit k)=some d'/\lx d' (stp L d k)
 org:∀y t d,F y t=some d->(y=u/\t=false/\d=(0,0))\/∃x s d0 k,F x s=some d0/\k<N.n/\Jn N k x y/\t=(s^^m.testBit k)/\d=stp L d0 k
 nn:∀y t d,F y t=some d->0<=d.1
def Ut(N:Net)(L:Nat->Int)(m u:Nat)(F:OW)(y:Nat)(t:Bool)(d:Int×Nat):Prop:=(y=u/\t=false/\d=(0,0))\/∃x s d0 k,F x s=some d0/\k<N.n/\Jn N k x y/\t=(s^^m.testBit k)/\d=stp L d0 k
structure Dx(N:Net)(L:Nat->Int)(m u:Nat)(F W:OW)(now:Option (Nat×Bool))(done:Nat->Nat->Prop):Prop where
 dj:Dj N L m u F W now done
 cx:∀x s d k y,F x s=some d->k<N.n->Jn N k x y->(now=some (x,s)->done k y)->∃d',(F y (s^^m.testBit k)=some d'\/W y (s^^m.testBit k)=some d')/\lx d' (stp L d k)
 fo:∀y t d,F y t=some d->Ut N L m u F y t d
 wo:∀y t d,W y t=some d->Ut N L m u F y t d
 s0:F u false=some (0,0)\/W u false=some (0,0)
section
variable {N:Net}{L:Nat->Int}{m u:Nat}{F W:OW}
def Ut.grow{y x:Nat}{t s:Bool}{d e:Int×Nat}(h:Ut N L m u F y t d)(hF:F x s=none):Ut N L m u (jH F x s e) y t d:=by
 rcases h with h|⟨G,s',d0,k,h0,r⟩
 ·exact .inl h
 ·refine .inr ⟨G,s',d0,k,?_,r⟩;rw[bE (λz=>by rw[z.1,z.2,hF]at h0;cases h0)]
  exact h0
def Dx.start:Dx N L m u (λ_ _=>none) (jH (λ_ _=>none) u false (0,0)) none (λ_ _=>False):=by
 refine⟨.start,λ_ _ _ _ _ h=>(nomatch h),λ_ _ _ h=>(nomatch h),λy t d h=>?_,.inr (b9 _ _ _ _)⟩
 by_cases e:y=u/\t=false
 ·obtain⟨rfl,rfl⟩:=e;rw[b9]at h;exact .inl ⟨rfl,rfl,(Option.some.inj h).symm⟩
 ·rw[bE e]at h;cases h
def Dx.pop(h:Dx N L m u F W none (λ_ _=>False)){x:Nat}{s:Bool}{d:Int×Nat}(e:W x s=some d)(hmin:∀y t d',W y t=some d'->d.1<=d'.1):Dx N L m u (jH F x s d) (zI W x s) (some (x,s)) (λ_ _=>False):=by
 have G:=h.dj.dj x s d e;have moved:∀y t d',F y t=some d'\/W y t=some d'->jH F x s d y t=some d'\/zI W x s y t=some d':=λy t d' q=>by
  by_cases z:y=x/\t=s
  ·obtain⟨rfl,rfl⟩:=z;rcases q with q|q
   ·rw[G]at q;cases q
   ·rw[e]at q;cases q;exact .inl (b9 _ _ _ _)
  ·rw[bE z,n8 z];exact q
 refine⟨h.dj.pop e hmin,λy t d' k I q hk hj hd=>?_,λy t d' q=>?_,λy t d' q=>?_,moved _ _ _ h.s0⟩
 ·by_cases z:y=x/\t=s
  ·obtain⟨rfl,rfl⟩:=z;exact(hd rfl).elim
  ·rw[bE z]at q;obtain⟨d2,O,U⟩:=h.cx y t d' k I q hk hj (λz=>nomatch z)
   exact⟨d2,moved _ _ _ O,U⟩
 ·by_cases z:y=x/\t=s
  ·obtain⟨rfl,rfl⟩:=z;rw[b9]at q;cases q;exact(h.wo _ _ _ e).grow G
  ·rw[bE z]at q;exact(h.fo y t d' q).grow G
 ·by_cases z:y=x/\t=s
  ·obtain⟨rfl,rfl⟩:=z;rw[uK]at q;cases q
  ·rw[n8 z]at q;exact(h.wo y t d' q).grow G
def lx.trans{a b c:Int×Nat}(h1:lx a b)(h2:lx b c):lx a c:=by
 unfold lx at *
 lia
def Dx.put{done:Nat->Nat->Prop}{x:Nat}{s:Bool}(h:Dx N L m u F W (some (x,s)) done){d:Int×Nat}{k y:Nat}(e:F x s=some d)(h0:0<=d.1)(hk:k<N.n)(hL:0<L k)(hj:Jn N k x y)(hF:F y (s^^m.testBit k)=none)
 (hW:∀d',W y (s^^m.testBit k)=some d'->lx (stp L d k) d'):Dx N L m u F (jH W y (s^^m.testBit k) (stp L d k)) (some (x,s)) (λO U=>done O U\/(O = k/\U = y)):=by
 have moved:∀v t d',F v t=some d'\/W v t=some d'->∃d2,(F v t=some d2\/jH W y (s^^m.testBit k) (stp L d k) v t=some d2)/\lx d2 d':=λv t d' q=>by
  rcases q with q|q
  ·exact⟨d',.inl q,.inr ⟨rfl,aaf _⟩⟩
  ·by_cases z:v=y/\t=(s^^m.testBit k)
   ·obtain⟨rfl,rfl⟩:=z;exact⟨_,.inr (b9 _ _ _ _),hW d' q⟩
   ·exact⟨d',.inr (by rw[bE z];exact q),.inr ⟨rfl,aaf _⟩⟩
 refine⟨h.dj.put e hk (acw hL) hj hF λd' q=>?_,λv t d' k2 Y q G Z hd=>?_,h.fo,λv t d' q=>?_,?_⟩
 ·have:=hW d' q;unfold lx stp at this;simp only at this
  lia
 ·by_cases hd2:some (x,s)=some (v,t)->done k2 Y
  ·obtain⟨d2,q2,l2⟩:=h.cx v t d' k2 Y q G Z hd2;obtain⟨d3,q3,l3⟩:=moved _ _ _ q2;exact⟨d3,q3,l3.trans l2⟩
  ·have hn:some (x,s)=some (v,t):=aaC λz=>hd2 λI=>absurd I z
   rcases hd hn with z|⟨rfl,rfl⟩
   ·exact absurd (λ_=>z) hd2
   ·cases hn;rw[e]at q;cases q;exact⟨_,.inr (b9 _ _ _ _),.inr ⟨rfl,aaf _⟩⟩
 ·by_cases z:v=y/\t=(s^^m.testBit k)
  ·obtain⟨rfl,rfl⟩:=z;rw[b9]at q;cases q;exact .inr ⟨x,s,d,k,e,hk,hj,rfl,rfl⟩
  ·rw[bE z]at q;exact h.wo v t d' q
 ·rcases h.s0 with q|q
  ·exact .inl q
  ·right
   rw[bE (λz=>?_)]
   ·exact q
   ·obtain⟨z1,I⟩:=z;have q':=q;rw[z1,I]at q';have:=hW _ q';unfold lx stp at this;simp only at this
    lia
def Dx.skip{done:Nat->Nat->Prop}{x:Nat}{s:Bool}(h:Dx N L m u F W (some (x,s)) done){d d2:Int×Nat}{k y:Nat}(e:F x s=some d)(hL:0<L k)(G:F y (s^^m.testBit k)=some d2\/(W y (s^^m.testBit k)=some d2/\lx d2 (stp L d k))):
 Dx N L m u F W (some (x,s)) (λU Y=>done U Y\/(U = k/\Y = y)):=by
 have q3:F y (s^^m.testBit k)=some d2\/(W y (s^^m.testBit k)=some d2/\d2.1<=d.1+L k):=by
  rcases G with G|⟨G,I⟩
  ·exact .inl G
  ·refine .inr ⟨G,?_⟩;unfold lx stp at I;simp only at I
   lia
 refine⟨h.dj.skip e (acw hL) q3,λv t d' k2 Z q O MZ hd=>?_,h.fo,h.wo,h.s0⟩
 by_cases hd2:some (x,s)=some (v,t)->done k2 Z
 ·exact h.cx v t d' k2 Z q O MZ hd2
 ·have hn:some (x,s)=some (v,t):=aaC λz=>hd2 λz2=>absurd z2 z
  rcases hd hn with z|⟨rfl,rfl⟩
  ·exact absurd (λ_=>z) hd2
  ·cases hn;rw[e]at q;cases q;rcases G with G|⟨G,I⟩
   ·have:=h.dj.mx x s d _ _ d2 rfl e G;refine⟨d2,.inl G,.inl ?_⟩;show d2.1<d.1+L k2
    lia
   ·exact⟨d2,.inr G,I⟩
def Dx.all{done:Nat->Nat->Prop}{x:Nat}{s:Bool}(h:Dx N L m u F W (some (x,s)) done)(ha:∀k y,k<N.n->Jn N k x y->done k y):Dx N L m u F W none (λ_ _=>False) :=
 ⟨h.dj.all ha,λv t d k y q hk hj _=>h.cx v t d k y q hk hj λz=>by cases z;exact ha k y hk hj,h.fo,h.wo,h.s0⟩
def Dj.less{now:Option (Nat×Bool)}{done done' : Nat->Nat->Prop}(h:Dj N L m u F W now done)(hd:∀k y,done' k y->done k y):Dj N L m u F W now done' :=
 ⟨h.fw,h.ww,h.dj,h.le,h.mx,λv t d k y q hk hj z=>h.cl v t d k y q hk hj λG=>hd _ _ (z G),h.st⟩
def Dx.less{now:Option (Nat×Bool)}{done done' : Nat->Nat->Prop}(h:Dx N L m u F W now done)(hd:∀k y,done' k y->done k y):Dx N L m u F W now done' :=
 ⟨h.dj.less hd,λv t d k y q hk hj z=>h.cx v t d k y q hk hj λG=>hd _ _ (z G),h.fo,h.wo,h.s0⟩
def Dx.fin(hL:∀k,k<N.n->0<L k)(hu:u<N.p)(h:Dx N L m u F W none (λ_ _=>False))(hW:∀x s,W x s=none):Fx N L m u F:=by
 refine⟨?_,λx s d k y e hk hj=>?_,h.fo,λy t d e=>?_⟩
 ·rcases h.s0 with q|q
  ·exact q
  ·rw[hW]at q;cases q
 ·obtain⟨d',q,l⟩:=h.cx x s d k y e hk hj (λz=>nomatch z)
  rcases q with q|q
  ·exact⟨d',q,l⟩
  ·rw[hW]at q;cases q
 ·obtain⟨pre,w⟩:=h.dj.fw y t d e;exact(qv (λk hk=>acw (hL k hk)) hu w).2.2.2.2.2
end
section
variable {N:Net}{L:Nat->Int}{m:Nat}
def Lo(N:Net)(L:Nat->Int)(m:Nat)(z:Int)(e:Nat):Prop:=∃G:Nat->OW,(∀i,i<N.p->Fx N L m i (G i))/\(∃i,i<N.p/\G i i true=some (z,e))/\∀j d,j<N.p->G j j true=some d->lx (z,e) d
structure vZ(N:Net)(L:Nat->Int)(m:Nat)(z:Int)(e:Nat):Prop where
 ring:N.Ring e
 lt:e<2^N.n
 par:N.par e m=true
 len:lsum L (λk=>e.testBit k) N.n=z
 way:∃x,x<N.p/\Wy N L m x x true z
 min:∀x z',x<N.p->Wy N L m x x true z'->z<=z'
def vZ.least(hL:∀k,k<N.n->0<=L k){z:Int}{e r:Nat}(h:vZ N L m z e)(hr:N.Ring r)(lr:r<2^N.n)(pr:N.par r m=true):z<=lsum L (λk=>r.testBit k) N.n:=by
 obtain⟨x,hx,hw⟩:=qw hL m hr lr;rw[pr]at hw;exact h.min x _ hx hw
end
end RM
namespace L2
open PySem PySem.Spec PyProof.Rows PySem.W
def SRun(r:Nat->Int){α:Type}:KasT α->α
 | .ret a=>a
 | .ask i j k=>SRun r (k (decide (r i<r j)))
section
variable {r:Nat->Int}
def jm{α β:Type}{f:α->KasT β}:∀(t:KasT α),SRun r (t.bind f)=SRun r (f (SRun r t))
 | .ret a=>by rw[KasT.bind.eq_1];rfl
 | .ask i j k=>by
   rw[KasT.bind.eq_2];exact jm (k _)
def uL{n:Nat}{α:Type}{R:α->Prop}{cmp:Nat->Nat->(Bool->Shared->Prop)->Shared->Prop}{Q:α->Shared->Prop}{s:Shared}(hc:∀i j C,i<n->j<n->C (decide (r i<r j)) s->cmp i j C s):∀{t:KasT α},xw n R t->(R (SRun r t)->Q (SRun r t) s)->KasT.kasWp cmp t Q s
 | .ret a,h,q=>q h
 | .ask i j k,h,q=>hc i j _ h.1 h.2.1 (uL hc (h.2.2 _) q)
def Kr(r:Nat->Int)(p:Array Nat)(i:Nat):Int:=r (p.getD i 0)
def wc(p:Array Nat)(i:Nat):Kr r p i=r ((p[i]?).getD 0):=by
 unfold Kr;rw[ab6]
def zK{p:Array Nat}{i j:Nat}(hj:j<=p.size)(k:Nat):Kr r (kas_rev p i j) k=if i<=k/\k<j then Kr r p (i+j-1-k) else Kr r p k:=by
 have e:=getElem?_mirror_all (i:=i) hj k;unfold kas_rev;rw[wc,e]
 split
 ·rw[wc]
 ·rw[wc]
def LH{p:Array Nat}{src d:Nat}(hs:src<p.size)(hd:d<=src)(k:Nat):Kr r (bubble p src d) k=if k=src-d then Kr r p src else if src-d<k/\k<=src then Kr r p (k-1) else Kr r p k:=by
 have e:=getElem?_bubble hs d hd k;rw[wc,e]
 split
 ·rw[wc]
 ·split
  ·rw[wc]
  ·rw[wc]
def nu(p:Array Nat)(i j:Nat):(kas_rev p i j).size=p.size:=mirror_size _ _ _ _
def Up(r:Nat->Int)(p:Array Nat)(n:Nat):Prop:=∀i,1<=i->i<n->Kr r p (i-1)<=Kr r p i
def Up.le{p:Array Nat}{n:Nat}(h:Up r p n):∀{i j:Nat},i<=j->j<n->Kr r p i<=Kr r p j:=by
 intro i j G;obtain⟨d,rfl⟩:=acU G;clear G
 induction d with
 | zero=>intro _;exact abI _
 | succ d I =>
   intro hj;have h1:=I (by lia)
   have h2:=h (i+(d+1)) (by lia) hj
   rw[show i+(d+1)-1=i+d by lia]at h2
   lia
def Ek{p:Array Nat}:∀(f n:Nat),1<=n->Up r p n->n<=SRun r (kas_asc p f n)/\SRun r (kas_asc p f n)<=n+f/\Up r p (SRun r (kas_asc p f n))/\(SRun r (kas_asc p f n)<n+f->Kr r p (SRun r (kas_asc p f n))<Kr r p (SRun r (kas_asc p f n)-1))
 | 0,n,_,h=>by
   rw[kas_asc.eq_1];exact⟨aaf n,aaf n,h,λz=>absurd z (aa8 n)⟩
 | f+1,n,h1,h=>by
   rw[kas_asc.eq_2];show n<=SRun r (if decide (Kr r p n<Kr r p (n-1))=true then _ else _)/\SRun r (if decide (Kr r p n<Kr r p (n-1))=true then _ else _)<=_/\Up r p (SRun r (if decide (Kr r p n<Kr r p (n-1))=true then _ else _))/\_
   by_cases c:Kr r p n<Kr r p (n-1)
   ·show n<=SRun r (if decide (Kr r p n<Kr r p (n-1))=true then _ else _)/\SRun r (if decide (Kr r p n<Kr r p (n-1))=true then _ else _)<=_/\Up r p (SRun r (if decide (Kr r p n<Kr r p (n-1))=true then _ else _))/\(SRun r (if decide (Kr r p n<Kr r p (n-1))=true then _ else _)<_->Kr r p (SRun r (if decide (Kr r p n<Kr r p (n-1))=true then _ else _))<Kr r p (SRun r (if decide (Kr r p n<Kr r p (n-1))=true then _ else _)-1))
    rw[aac (cD c)];exact⟨aaf n,ach _ _,h,λ_=>c⟩
   ·show n<=SRun r (if decide (Kr r p n<Kr r p (n-1))=true then _ else _)/\SRun r (if decide (Kr r p n<Kr r p (n-1))=true then _ else _)<=_/\Up r p (SRun r (if decide (Kr r p n<Kr r p (n-1))=true then _ else _))/\(SRun r (if decide (Kr r p n<Kr r p (n-1))=true then _ else _)<_->Kr r p (SRun r (if decide (Kr r p n<Kr r p (n-1))=true then _ else _))<Kr r p (SRun r (if decide (Kr r p n<Kr r p (n-1))=true then _ else _)-1))
    rw[aab (by simpa using c)]
    have G:=Ek (p:=p) f (n+1) (by lia) (λi hi hn=>by
     by_cases e:i=n
     ·rw[e];lia
     ·exact h i hi (by lia))
    refine⟨by lia,by lia,G.2.2.1,λz=>G.2.2.2 (by lia)⟩
def Down(r:Nat->Int)(p:Array Nat)(n q:Nat):Prop:=(∀i,1<=i->i<n->Kr r p i<=Kr r p (i-1))/\q+1<=n/\∀i,n-(q+1)<=i->i<n->Kr r p i=Kr r p (n-1)
def Down.rev{p:Array Nat}{n q:Nat}(h:Down r p n q)(hn:n<=p.size)(k:Nat):Kr r (kas_rev p (n-(q+1)) n) k=Kr r p k:=by
 rw[zK hn]
 split
 ·rename_i hk
  rw[h.2.2 _ (by lia) (by have:=h.2.1;lia),h.2.2 k hk.1 hk.2]
 ·rfl
def oh:∀(f:Nat) {p:Array Nat} {n q:Nat},n+f<=p.size->Down r p n q->
 (SRun r (kas_desc f p n q)).1.size=p.size/\n<=(SRun r (kas_desc f p n q)).2.1/\(SRun r (kas_desc f p n q)).2.1<=n+f/\Down r (SRun r (kas_desc f p n q)).1 (SRun r (kas_desc f p n q)).2.1 (SRun r (kas_desc f p n q)).2.2
 | 0,p,n,q,_,h=>by
   rw[kas_desc.eq_1];exact⟨rfl,aaf n,aaf n,h⟩
 | f+1,p,n,q,hs,h=>by
   rw[kas_desc.eq_2];obtain⟨h1,h2,h3⟩:=id h
   by_cases c:Kr r p n<Kr r p (n-1)
   ·have dn:∀U : Array Nat,(∀k,Kr r U k=Kr r p k)->Down r U (n+1) 0:=λU e=>by
     refine⟨λi hi hn=>?_,by lia,λi hi hn=>by rw[show i=n+1-1 by lia]⟩
     rw[e,e]
     by_cases z:i=n
     ·rw[z];lia
     ·exact h1 i hi (by lia)
    have Y:∀(G I:KasT (Array Nat×Nat×Nat)),SRun r (KasT.ask (p.getD n 0) (p.getD (n-1) 0) λc=>if c=true then G else I)=SRun r G:=λG I=>by
     show SRun r (if decide (Kr r p n<Kr r p (n-1))=true then G else I)=_
     rw[aac (cD c)]
    rw[Y]
    by_cases hq:q > 0
    ·rw[aac hq];have O:=oh f (p:=kas_rev p (n-(q+1)) n) (n:=n+1) (q:=0) (by rw[nu];lia) (dn _ (h.rev (by lia)))
     rw[nu]at O;exact⟨O.1,by lia,by lia,O.2.2.2⟩
    ·rw[aab hq];have O:=oh f (p:=p) (n:=n+1) (q:=0) (by lia) (dn _ λ_=>rfl)
     exact⟨O.1,by lia,by lia,O.2.2.2⟩
   ·have Y:∀(G I:KasT (Array Nat×Nat×Nat)),SRun r (KasT.ask (p.getD n 0) (p.getD (n-1) 0) λc=>if c=true then G else I)=SRun r I:=λG I=>by
     show SRun r (if decide (Kr r p n<Kr r p (n-1))=true then G else I)=_
     rw[aab (by simpa using c)]
    rw[Y]
    by_cases d:Kr r p (n-1)<Kr r p n
    ·have Z:∀(G I:KasT (Array Nat×Nat×Nat)),SRun r (KasT.ask (p.getD (n-1) 0) (p.getD n 0) λc=>if c=true then G else I)=SRun r G:=λG I=>by
      show SRun r (if decide (Kr r p (n-1)<Kr r p n)=true then G else I)=_
      rw[aac (cD d)]
     rw[Z];exact⟨rfl,aaf n,ach _ _,h⟩
    ·have Z:∀(G I:KasT (Array Nat×Nat×Nat)),SRun r (KasT.ask (p.getD (n-1) 0) (p.getD n 0) λc=>if c=true then G else I)=SRun r I:=λG I=>by
      show SRun r (if decide (Kr r p (n-1)<Kr r p n)=true then G else I)=_
      rw[aab (by simpa using d)]
     rw[Z];have O:=oh f (p:=p) (n:=n+1) (q:=q+1) (by lia) ⟨λi hi hn=>by
      by_cases z:i=n
      ·rw[z];lia
      ·exact h1 i hi (by lia),by lia,λi hi hn=>by
      rw[show n+1-1=n by lia]
      by_cases z:i=n
      ·rw[z]
      ·have:=h3 i (by lia) (by lia)
       lia⟩
     exact⟨O.1,by lia,by lia,O.2.2.2⟩
def BY(r:Nat->Int)(n:Nat)(x:Nat×Array Nat):Prop:=x.2.size=n/\1<=x.1/\x.1<=n/\Up r x.2 x.1
def BZ{n nrem:Nat}{p:Array Nat}{q:Nat}(h:Down r p n q)(hn:1<=n)(hle:n<=nrem)(hs:p.size=nrem):BY r nrem (SRun r (kas_tail3 n nrem p)):=by
 have up:Up r (kas_rev p 0 n) n:=λi hi G=>by
  rw[zK (by lia),zK (by lia),aac (by lia),aac (by lia)]
  have:=h.1 (0+n-1-(i-1)) (by lia) (by lia)
  rw[show 0+n-1-(i-1)-1=0+n-1-i by lia]at this
  exact this
 have a:=Ek (nrem-n) n hn up;unfold kas_tail3;rw[jm];exact⟨by show(kas_rev p 0 n).size=nrem;rw[nu,hs],by show 1<=SRun r _;lia,by show SRun r _<=nrem;lia,a.2.2.1⟩
def Down.congr{p p' : Array Nat}{n q:Nat}(h:Down r p n q)(e:∀k,Kr r p' k=Kr r p k):Down r p' n q:=⟨λi h1 h2=>by rw[e,e];exact h.1 i h1 h2,h.2.1,λi h1 h2=>by rw[e,e];exact h.2.2 i h1 h2⟩
def B3{n nrem:Nat}{p:Array Nat}(hn:1<=n)(hle:n+1<=nrem)(hs:p.size=nrem)(heq:∀i,i<n->Kr r p i=Kr r p (n-1))(hlt:Kr r p n<Kr r p (n-1)):BY r nrem (SRun r (kas_descPart n nrem p)):=by
 have d0:Down r p (n+1) 0:=⟨λi h1 h2=>by
  by_cases z:i=n
  ·rw[z];lia
  ·rw[heq i (by lia),heq (i-1) (by lia)]
   exact abI _,by lia,λi h1 h2=>by rw[show i=n+1-1 by lia]⟩
 have d:=oh (nrem-(n+1)) (p:=p) (n:=n+1) (q:=0) (by lia) d0
 unfold kas_descPart;rw[jm];generalize SRun r (kas_desc (nrem-(n+1)) p (n+1) 0)=x at d;obtain⟨d1,d2,d3,d4⟩:=d
 by_cases G:x.2.2 > 0
 ·rw[aac G];exact BZ (d4.congr (d4.rev (by lia))) (by lia) (by lia) (by rw[nu,d1,hs])
 ·rw[aab G];exact BZ d4 (by lia) (by lia) (by rw[d1,hs])
def HJ{nrem:Nat}{p:Array Nat}(h1:1<=nrem)(hs:p.size=nrem):BY r nrem (SRun r (kas_count nrem p)):=by
 have a:=Ek (r:=r) (p:=p) (nrem-1) 1 (aaf 1) (λi hi hn=>by lia)
 unfold kas_count;rw[jm];generalize SRun r (kas_asc p (nrem-1) 1)=n at a;obtain⟨a1,a2,I,U⟩:=a
 by_cases e:(n==nrem)=true
 ·rw[aac e];exact⟨hs,a1,by show n<=nrem;lia,I⟩
 ·rw[aab e];have e:n≠nrem:=by simpa using e
  have G:=U (by lia)
  by_cases h2:n > 1
  ·rw[aac h2]
   by_cases c:Kr r p 0<Kr r p (n-1)
   ·show BY r nrem (SRun r (if decide (Kr r p 0<Kr r p (n-1))=true then _ else _))
    rw[aac (cD c)];exact⟨hs,a1,by show n<=nrem;lia,I⟩
   ·show BY r nrem (SRun r (if decide (Kr r p 0<Kr r p (n-1))=true then _ else _))
    rw[aab (by simpa using c)]
    have all:∀i,i<n->Kr r p i=Kr r p (n-1):=λi hi=>by
     have l1:=I.le (show 0<=i by lia) hi
     have Z:=I.le (show i<=n-1 by lia) (by lia)
     lia
    have O:∀k,Kr r (kas_rev p 0 n) k=Kr r p k:=λk=>by
     rw[zK (by lia)]
     split
     ·rw[all _ (by lia),all k (by lia)]
     ·rfl
    exact B3 a1 (by lia) (by rw[nu,hs]) (λi hi=>by rw[O,O];exact all i hi) (by rw[O,O];exact G)
  ·rw[aab h2];have Y:n=1:=by lia
   subst Y;exact B3 a1 (by lia) hs (λi hi=>by rw[show i=1-1 by lia]) G
def we{p:Array Nat}{k:Nat}(up:Up r p k):∀(f l u:Nat),u-l<=f->l<=u->u<=k->(∀i,i<l->Kr r p i<=Kr r p k)->(∀i,u<=i->i<k->Kr r p k<Kr r p i)->
 SRun r (kas_place p k f l u)<=k/\(∀i,i<SRun r (kas_place p k f l u)->Kr r p i<=Kr r p k)/\∀i,SRun r (kas_place p k f l u)<=i->i<k->Kr r p k<Kr r p i
 | 0,l,u,hf,hlu,huk,h1,h2=>by
   rw[kas_place.eq_1];have e:l=u:=by lia
   subst e;exact⟨huk,h1,h2⟩
 | f+1,l,u,hf,hlu,huk,h1,h2=>by
   rw[kas_place.eq_2]
   by_cases hx:l ≥ u
   ·rw[aac hx];have e:l=u:=by lia
    subst e;exact⟨huk,h1,h2⟩
   ·rw[aab hx]
    by_cases c:Kr r p k<Kr r p ((l+u)/2)
    ·have O:∀(G I:KasT Nat),SRun r (KasT.ask (p.getD k 0) (p.getD ((l+u)/2) 0) λc=>if c=true then G else I)=SRun r G:=λG I=>by
      show SRun r (if decide (Kr r p k<Kr r p ((l+u)/2))=true then G else I)=_
      rw[aac (cD c)]
     rw[O];exact we up f l ((l+u)/2) (by lia) (by lia) (by lia) h1 λi hi hk=>by
      have:=up.le hi hk
      lia
    ·have O:∀(G I:KasT Nat),SRun r (KasT.ask (p.getD k 0) (p.getD ((l+u)/2) 0) λc=>if c=true then G else I)=SRun r I:=λG I=>by
      show SRun r (if decide (Kr r p k<Kr r p ((l+u)/2))=true then G else I)=_
      rw[aab (by simpa using c)]
     rw[O];exact we up f ((l+u)/2+1) u (by lia) (by lia) huk (λi hi=>by
      have:=up.le (show i<=(l+u)/2 by lia) (by lia)
      lia) h2
def LI:∀(f:Nat) {p:Array Nat} {k:Nat},k+f<=p.size->Up r p k->Up r (SRun r (kas_bin f p k)) (k+f)
 | 0,p,k,_,h=>by
   rw[kas_bin.eq_1];exact h
 | f+1,p,k,hs,h=>by
   rw[kas_bin.eq_2,jm];have G:=we h k 0 k (by lia) (by lia) (aaf k) (λi hi=>by lia) (λi h1 h2=>by lia)
   generalize SRun r (kas_place p k k 0 k)=l at G;obtain⟨p1,p2,Y⟩:=G;have up:Up r (bubble p k (k-l)) (k+1):=λi hi hk=>by
    rw[LH (by lia) (by lia),LH (by lia) (by lia),show k-(k-l)=l by lia]
    by_cases I:i=l
    ·rw[aab (by lia),aab (by lia),aac I]
     exact p2 (i-1) (by lia)
    ·rw[aab I]
     by_cases O:l<i/\i<=k
     ·rw[aac O]
      by_cases U:i-1=l
      ·rw[aac U];exact acw (Y (i-1) (by lia) (by lia))
      ·rw[aab U,aac (by lia)]
       exact h (i-1) (by lia) (by lia)
     ·rw[aab O,aab (by lia),aab (by lia)]
      exact h i hi (by lia)
   have:=LI f (p:=bubble p k (k-l)) (k:=k+1) (by rw[bubble_size];lia) up
   rw[show k+(f+1)=k+1+f by lia]
   exact this
def zL{n:Nat}(hn:1<=n):Up r (SRun r (kas_sort n)) n:=by
 unfold kas_sort;rw[jm];have c:=HJ (r:=r) (p:=List.toArray (List.range n)) hn (by simp)
 generalize SRun r (kas_count n (List.toArray (List.range n)))=x at c;obtain⟨I,O,U,G⟩:=c
 by_cases hx:x.1<n
 ·rw[aac hx];have:=LI (n-max x.1 1) (p:=x.2) (k:=max x.1 1) (by lia) (by rw[show max x.1 1=x.1 by lia];exact G)
  rw[show max x.1 1+(n-max x.1 1)=n by lia]at this
  exact this
 ·rw[aab hx];have e:x.1=n:=by lia
  rw[e]at G;exact G
end
def zM:bootBuiltins "sorted"=some (.builtin "sorted"):=by kernel_rfl
def kx(z:Int×Int):Int:=z.1*1073741824+z.2
def PB(z:Int×Int):Prop:=0<=z.2/\z.2<1073741824
section
variable {X:Cx}{pq:aQ}{σ:St}{H H2:Hp}{s:Shared}
def Inv.Ox{a:Addr}{xs:List V}{ob:Obj}(I:Inv X pq σ H s)(e:H a=some (.lst xs))(ho:s.heap.get? a=some ob):Inv X pq σ (upd H a (.lB ob (.lst xs))) s:=by
 have ne:∀b,H b=none->b≠a:=λb h z=>by rw[z,e]at h;cases h
 refine⟨I.ok,I.os,I.bare,⟨I.base.keep,I.base.slot,λb o q n hx=>?_,I.base.there,λb xs q=>?_,λb o u q=>?_,λb ps q=>?_⟩,I.loc,I.cell,?_,λx c q=>?_,λp hp=>?_,λb u q=>?_,I.len⟩
 ·have z:=I.base.free b o q n hx;rw[ao (ne b z)];exact z
 ·have z:=I.base.tups b xs q;rw[ao (aW z e (by intro z;cases z))]
  exact z
 ·have z:=I.base.jS b o u q;rw[ao (aW z e (by intro z;cases z))]
  exact z
 ·obtain⟨more,z⟩:=I.base.kR b ps q;exact⟨more,by rw[ao (aW z e (by intro z;cases z))];exact z⟩
 ·rw[ao (ne _ I.free)];exact I.free
 ·rw[ao (ne _ (I.ee x c q))];exact I.ee x c q
 ·obtain⟨a1,a2,G⟩:=I.pin p hp;exact⟨a1,by rw[ao (ne _ a2)];exact a2,G⟩
 ·by_cases hb:b=a
  ·subst hb;rw[ae]at q;cases q;exact⟨ho,(I.hok b _ e).stay (λ_ _ _ q=>q) (λc q=>by rw[ao (aW q e (by intro z;cases z))];exact q) λc xs q=>by rw[ao (aW q e (by intro z;cases z))];exact q⟩
  ·rw[ao hb]at q;exact(I.hok b u q).stay (λ_ _ _ q=>q) (λc q=>by rw[ao (aW q e (by intro z;cases z))];exact q) λc xs q=>by rw[ao (aW q e (by intro z;cases z))];exact q
def Inv.Uu{vR:aQ}{σ0:St}{s0:Shared}{a:Addr}{xs:List V}{ob:Obj}(I0:Inv X vR σ0 H s0)(e0:H a=some (.lst xs))(I:Inv X pq σ H2 s)(e:H2 a=some (.lB ob (.lst xs))):
 Inv X pq σ (upd H2 a (.lst xs)) s:=by
 have ne:∀b,H2 b=none->b≠a:=λb h z=>by rw[z,e]at h;cases h
 obtain⟨U,hd⟩:=(show bg X.prog X.w H2 s.heap a (.lB ob (.lst xs)) from I.hok a _ e)
 refine⟨I.ok,I.os,I.bare,⟨I.base.keep,I.base.slot,λb o q n hx=>?_,I.base.there,λb xs q=>?_,λb o u q=>?_,λb ps q=>?_⟩,I.loc,I.cell,?_,λx c q=>?_,λp hp=>?_,λb u q=>?_,I.len⟩
 ·have z:=I.base.free b o q n hx;rw[ao (ne b z)];exact z
 ·have z:=I.base.tups b xs q;rw[ao (aW z e (by intro z;cases z))]
  exact z
 ·have z:=I.base.jS b o u q;rw[ao (λy=>by
   have G:=I0.base.jS b o u q;rw[y,e0]at G;cases G)]
  exact z
 ·obtain⟨more,z⟩:=I.base.kR b ps q;exact⟨more,by rw[ao (aW z e (by intro z;cases z))];exact z⟩
 ·rw[ao (ne _ I.free)];exact I.free
 ·rw[ao (ne _ (I.ee x c q))];exact I.ee x c q
 ·obtain⟨a1,a2,O⟩:=I.pin p hp;exact⟨a1,by rw[ao (ne _ a2)];exact a2,O⟩
 ·by_cases hb:b=a
  ·subst hb;rw[ae]at q;cases q;exact hd.stay (λ_ _ _ q=>q) (λc q=>by rw[ao (aW q e (by intro z;cases z))];exact q) λc xs q=>by rw[ao (aW q e (by intro z;cases z))];exact q
  ·rw[ao hb]at q;exact(I.hok b u q).stay (λ_ _ _ q=>q) (λc q=>by rw[ao (aW q e (by intro z;cases z))];exact q) λc xs q=>by rw[ao (aW q e (by intro z;cases z))];exact q
end
def yP(h:Heap)(v:Value)(z:Int×Int):Prop:=∃(a:Addr) (o:Obj) (t u:Tok) (k:Nat),v = .ref a/\h.get? a=some o/\o.cls = .type "tuple"/\o.data = .seq #[.int z.1 t,.int z.2 u] k
def yP.pair{h:Heap}{v:Value}{z:Int×Int}(q:yP h v z):Pn h v:=let⟨a,o,t,u,k,q⟩:=q;⟨a,o,z.1,z.2,t,u,k,q⟩
def yQ{prog:Program}{w:World}{A:Around}{s:Shared}{vs:List Value}{n:Nat}{zs:Nat->Int×Int}(hz:∀i,i<n->PB (zs i))(hv:∀i,i<n->yP s.heap (vs.getD i Value.none) (zs i)):
 ∀i j C,i<n->j<n->C (decide (kx (zs i)<kx (zs j))) s->kas_ask prog w A (tuples' true) vs i j C s:=by
 intro i j C hi hj G;unfold kas_ask;obtain⟨a,o,t,u,k,e,Y,_,hd⟩:=hv i hi;obtain⟨a',o',t',u',k',e',ho',_,hd'⟩:=hv j hj;have oi:=hz i hi;have I:=hz j hj;generalize zs i=z at hd G oi;generalize zs j=z' at hd' G I;obtain⟨x,y⟩:=z;obtain⟨x',y'⟩:=z';unfold kx at G;unfold PB at oi I;dsimp only at hd hd' G oi I;rw[e,e'];refine kat_lt Y hd ho' hd' ?_;show KatLex prog w A true _ C [(.int x t,.int x' t'),(.int y u,.int y' u')] 0 s;rw[KatLex.eq_2];refine wpAny_eqBool_int ?_
 by_cases ex:x=x'
 ·rw[show(x==x')=true by simpa using ex]
  rw[aac rfl,KatLex.eq_2];refine wpAny_eqBool_int ?_
  by_cases U:y=y'
  ·rw[show(y==y')=true by simpa using U]
   rw[aac rfl,KatLex.eq_1];rw[dO (by lia)]at G
   exact G
  ·rw[show(y==y')=false by simpa using U]
   rw[aab aan];refine kat_one _ _ (lt_int ?_);have O:decide (y<y')=decide (x*1073741824+y<x'*1073741824+y'):=aaS.mpr (by lia)
   rw[<-O]at G;exact G
 ·rw[show(x==x')=false by simpa using ex]
  rw[aab aan];refine oneLt_int ?_;have O:decide (x<x')=decide (x*1073741824+y<x'*1073741824+y'):=aaS.mpr (by lia)
  rw[<-O]at G;exact G
def Rh(P:Addr)(q:Str)(lp:Pos)(ta:TA)(te:TE)(js:List Nat):TE:=λσ H Q=>ta σ H λvs H1=>∃(a:Addr) (ns:List Int) (I:Int->Int×Int),vs=[.ref a]/\H1 a=some (.lst (ns.map V.int))/\ns.length<64/\(∀n∈ns,PB (I n))/\H1 P=some (.jV (fk q lp))/\
 (∀H3,(∀b u,H1 b=some u->(∀y,u≠.own y)->(∀O,u≠.jV O)->H3 b=some u)->∀n∈ns,te (some (.int n)::fL σ js) H3 λv H4=>au H3 H4/\∃d,v = .ref d/\H4 d=some (.tup [.int (I n).1,.int (I n).2]))/\
 ∀(l:Addr) (G : List Int) H4,H1 l=none->au H1 H4->H4 l=some (.lst (G.map V.int))->G.Perm ns->G.Pairwise (λx y=>kx (I x)<=kx (I y))->Q (.ref l) H4
section
variable {X:Cx}{pq:aQ}{σ:St}{H2:Hp}
def HK{A:Around}{E:dh}{P:PySem.Fin->Shared->Prop}{s:Shared}{H3:Hp}{D U:Addr}{e e1:Nat}{its:List Value}{ns:List Int}{ds:List Addr}{kf:Int->Int×Int}
 (I:Inv X ((U,seqObj "list" (ds.map Value.ref).toArray e)::pq) σ H3 s) (oK:Ef X U) (pK:∀p∈pq,p.1≠U) (hD:H3 D=some (.lB (seqObj "list" #[] e1) (.lst []))) (rv:Vals (ns.map V.int) its) (hn:ns.length<64) (hdl:ds.length=ns.length)
 (hk:∀(j:Nat) d n,ds[j]?=some d->ns[j]?=some n->H3 d=some (.tup [.int (kf n).1,.int (kf n).2])) (hok:∀n∈ns,PB (kf n))
 {vR:aQ} {σ0:St} {s0:Shared} {H0:Hp} (I0:Inv X vR σ0 H0 s0) (e0:H0 D=some (.lst []))
 (fin:∀(s' : Shared) (O : List Int),O.Perm ns->O.Pairwise (λx y=>kx (kf x)<=kx (kf y))->Inv X pq σ (upd (upd H3 D (.lst [])) D (.lst (O.map V.int))) s'->P (.done (.ret .none)) s') :
 wpAny (model X.prog X.w) A (ksk_end D false its.toArray e1 (.ref U) ((ds.map Value.ref).toArray)) P E s:=by
 have hl:its.length=ns.length:=by have:=rv.length;rw[aaa]at this;lia
 obtain⟨ax,_⟩:=(show bg X.prog X.w H3 s.heap D (.lB (seqObj "list" #[] e1) (.lst [])) from I.hok D _ hD)
 have El:=I.pin (U,seqObj "list" (ds.map Value.ref).toArray e) (iO _ (.head _));have VT:D≠U:=λz=>by
  have:=El.2.1;rw[<-z,hD]at this;cases this
 have tail:∀(st:SortSt) (O : List Int) (out:List Value),(arrOf st).map (·.2)=out.toArray->out.length<64->failedOf st=none->O.Perm ns->O.Pairwise (λx y=>kx (kf x)<=kx (kf y))->Vals (O.map V.int) out->wpAny (model X.prog X.w) A (ksk_tail D false e1 (.ref U) st) P E s:=by
  intro st O out ag hz hf hp hs hv;have s1:=aaY s.heap U (Obj.mapSeq λ_=>(#[]:Array Value))
  have tZ:(s.heap.update U (Obj.mapSeq λ_=>(#[]:Array Value))).get? D=some (seqObj "list" #[] e1):=(s1.2 D VT).trans ax
  have s2:=aaY (s.heap.update U (Obj.mapSeq λ_=>(#[]:Array Value))) D (Obj.mapSeq λ_=>out.toArray)
  obtain⟨c2,ar⟩:∃c2,((s.heap.update U (Obj.mapSeq λ_=>(#[]:Array Value))).update D (Obj.mapSeq λ_=>out.toArray)).get? D=some (seqObj "list" out.toArray c2):=⟨_,get?_update_seq tZ λ_=>out.toArray⟩
  unfold ksk_tail
  try dsimp only
  rw[ag];refine aN (listUpdate_at El.1 rfl ?_ (by rw[aau,aaa,sizeLine_eq];lia) (aaL _))
  refine aN (wpAny_letGo ?_);refine aN (seqEpoch_at tZ rfl ?_);refine aN (listUpdate_at tZ rfl ?_ (aaL _) (by show out.toArray.size<=_;rw[aau,sizeLine_eq];lia))
  rw[hf];simp only[bne_self_eq_false,abq,if_false];have J1:=I.j9 (t':=s.toks) (h':=s.heap.update U (Obj.mapSeq λ_=>(#[]:Array Value))) (pb:=pq) oK (.head _) (λc u ne e=>(s1.2 c ne).trans e) (λp hp=>.inr ⟨.tail _ hp,pK p hp⟩)
  have J2:=Inv.Uu I0 e0 J1 hD;have J3:=J2.write (x:=D) (e:=D) (o:=.lst (O.map V.int)) (t':=s.toks) (h':=(s.heap.update U (Obj.mapSeq λ_=>(#[]:Array Value))).update D (Obj.mapSeq λ_=>out.toArray)) (by rw[ae];trivial) (.inl rfl) (λb u nb eb=>(s2.2 b nb).trans eb) ⟨_,ar⟩
   ⟨by rw[aaa,hp.length_eq,sizeLine_eq];lia,out,c2,hv,ar⟩
  exact aah (fin _ O hp hs J3)
 by_cases h2:2<=ns.length
 ·have kv:∀i,i<its.length->yP s.heap ((ds.map Value.ref).getD i Value.none) (kf (ns.getD i 0)):=λi hi=>by
   have e1:ds[i]?=some (ds[i]'(by lia)):=aad _
   have e2:ns[i]?=some (ns[i]'(by lia)):=aad _
   have hd:=hk i _ _ e1 e2;obtain⟨ts,rt,⟨o,eo,hc,n,aT⟩,_⟩:=I.tuple (aR.of hd);have g1:(ds.map Value.ref).getD i Value.none = .ref (ds[i]'(by lia)):=by rw[aae,aai,e1];rfl
   have g2:ns.getD i 0=ns[i]'(by lia):=by rw[aae,e2];rfl
   rw[g1,g2]
   match ts,rt with
   | [_,_],.cons ⟨t,rfl⟩ (.cons ⟨u,rfl⟩ .nil)=>exact⟨_,o,t,u,n,rfl,eo,hc,aT⟩
  have kz:∀i,i<its.length->PB (kf (ns.getD i 0)):=λi hi=>by
   have e2:ns[i]?=some (ns[i]'(by lia)):=aad _
   rw[aae,e2];exact hok _ (ab4 _)
  have aw:(ds.map Value.ref).length=its.length:=by rw[aaa];lia
  have Y : ¬ its.toArray.size<2:=by rw[aau];lia
  unfold ksk_end
  try dsimp only
  rw[aab aan,aab Y,aab Y,aab aan];refine aN (yC (by rw[aaa];lia) (λv hv=>?_) ?_)
  ·obtain⟨i,hi,rfl⟩:=adn.mp hv;have:=(kv i (by lia)).pair
   rw[aae,aad hi]at this;exact this
  refine aN (aaD (kat_run (Q:=λZ s'=>s' = s/\∃p:Array Nat,dU its.length p/\Up (λi=>kx (kf (ns.getD i 0))) p its.length/\(arrOf Z).map (·.2)=(p.toList.map λi=>its.getD i Value.none).toArray/\failedOf Z = none) (G:=λp s'=>s' = s/\dU its.length p/\Up (λi=>kx (kf (ns.getD i 0))) p its.length)
   aw (by lia) (by lia) (λp Z s' a1 a2 a3 a4=>⟨a4.1,p,a4.2.1,a4.2.2,kat_snds aw a2,a3⟩) ?_) ?_ λ_ _ x=>x)
  ·exact uL (r:=λi=>kx (kf (ns.getD i 0))) (n:=its.length) (yQ kz kv) (zz (by lia)) λhg=>⟨rfl,hg,zL (by lia)⟩
  ·rintro⟨⟨⟩,Z⟩ s' ⟨rfl,p,hg,hu,a5,hf⟩
   try dsimp only
   have a7:p.toList.length=its.length:=by have:=hg.length_eq;rw[aav]at this;exact this
   refine tail Z (p.toList.map λi=>ns.getD i 0) _ a5 (by rw[aaa];lia) hf ?_ ?_ ?_
   ·have h1:=List.Perm.map (λi=>ns.getD i 0) hg
    have h3:(List.range its.length).map (λi=>ns.getD i 0)=ns:=by
     rw[hl];refine adC (by simp) λi h1 h2=>?_
     simp[aae,aad h2]
    rw[h3]at h1;exact h1
   ·rw[abO,abW];intro i j hi hj a6;have:=hu.le (aaO a6) (by lia)
    have ga:∀i (hi:i<p.toList.length),p.getD i 0=p.toList[i]:=λi hi=>by
     rw[ab6,<-acv,aad hi];rfl
    unfold Kr at this;rw[ga i hi,ga j hj]at this;exact this
   ·have:∀l:List Nat,(∀i∈l,i<ns.length)->Vals ((l.map λi=>ns.getD i 0).map V.int) (l.map λi=>its.getD i Value.none):=λl=>by
     induction l with
     | nil=>exact λ_=>.nil
     | cons i l ih =>
       intro h;refine .cons ?_ (ih λj hj=>h j (jt _ hj))
       have hi:=h i aam;have h1:(ns.map V.int)[i]?=some (.int (ns.getD i 0)):=by
        rw[aai,aae,aad hi];rfl
       obtain⟨u,hu,ru⟩:=rv.get h1;have gu:its.getD i Value.none=u:=by rw[aae,hu];rfl
       show RelV (V.int (ns.getD i 0)) (its.getD i Value.none);rw[gu];exact ru
    refine this _ λi hi=>?_
    have:=aaA.mp (hg.mem_iff.mp hi)
    lia
 ·have Y:its.toArray.size<2:=by rw[aau];lia
  unfold ksk_end
  try dsimp only
  rw[aab aan,aac Y,aac Y,aab aan];refine aN (aah ?_);refine aN (m:=pure ((),SortSt.mk' general' (((ds.map Value.ref).toArray).zip its.toArray) #[] 7 none)) (aah ?_);refine tail _ ns its ?_ (by lia) rfl (acT _) ?_ rv
  ·show Array.map (λx:Keyed=>x.snd) (((ds.map Value.ref).toArray).zip its.toArray)=its.toArray
   apply Array.toList_inj.mp;simp;exact adz (by rw[aaa];lia)
  ·match ns,h2 with
   | [],_=>exact .nil
   | [x],_=>exact acW _ _
   | _::_::_,h2=>exact absurd (by simp:2<=_) h2
end
section
variable {X:Cx}{params:Arguments}{body e:Expr}{scope:Scope}{lp p pos kp:Pos}{fq:List Str}{js:List Nat}{x:Str}{ta:TA}{te:TE}{c0 P:Addr}{k:Nat}
def LJ(hr:eN (k+3) X.A)(T:eg X scope [x] fq js)(hx:scope.names.lookup x=some .local)(hg:Gl X "sorted")(hm:X.mg "sorted"=none)(hcode:X.env.code = .ref c0)(hK:PySem.W.codeHdIn X.K c0 P=true)(ha:PA X [e] ta)
 (he:∀f c s H,eN k (vS X ([x]++fq) scope f c X.A.in1.in1 s H).A->PE (vS X ([x]++fq) scope f c X.A.in1.in1 s H) body te)
 (hb:∀c ctv u,bindArgs (BO X params body scope c ctv) ⟨[u],[]⟩=pure [(x,u)]:=by intro _ _ _;rfl) (hco:scope.isCoroutine=false:=by rfl) (hgen:scope.isGenerator=false:=by rfl)
 (hdef:defaultsOf params X.env=([],[]):=by rfl)
 (hs:backTo pos (starEach [e] X.env)=(false,eval e X.env)::backTo pos (starEach [] X.env):=by rfl) (hs2:(backTo pos (starEach [e] X.env)).any (·.1)=false:=by rfl) :
 PE X (.Call (.Name "sorted" p) [e] [⟨some (Str.ofString "key"),.Lambda params body scope lp,kp⟩] pos) (Rh P (X.env.qual ++ "<lambda>") lp ta te js):=by
 intro pq s σ H Q I h;refine wpAny_Call_Name_kw (kA I hg hm zM (callWith_kw (dP (ha pos pq s σ H _ I h) λus s1 U=>?_) hs hs2 rfl rfl))
 obtain⟨vs,H1,I1,r1,a,ns,kf,rfl,a6,a7,hok,hP,ax,Q5⟩:=U;obtain⟨u,rfl,rx⟩:=vals1 r1;cases rx;refine kws_cons (BP I1 T hcode hK hP hdef λf c oc ctv s2 hc BQ a4 J=>kws_nil ?_)
 show wpAny _ X.A (call (.builtin "sorted") [.ref a] [(Str.ofString "key",.ref f)]) _ _ s2;have a5:=uJ (oc:=oc) hP hc a6 (by intro y z;cases z) (by intro y z;cases z)
 have Q6:gq H1 P c oc (X.env.qual ++ "<lambda>") lp P=some (.jV (fk (X.env.qual ++ "<lambda>") lp++oJ lp c)):=ae;have Ot:gq H1 P c oc (X.env.qual ++ "<lambda>") lp c=some (.lB oc (.own P)):=by unfold gq;rw[ao BQ,ae]
 have PC:∀b,gq H1 P c oc (X.env.qual ++ "<lambda>") lp b=none->H1 b=none:=λb hb=>by
  have bP:b≠P:=λz=>by rw[z,Q6]at hb;cases hb
  have bc:b≠c:=λz=>by rw[z,Ot]at hb;cases hb
  unfold gq at hb
  rwa [ao bP,ao bc]at hb
 have Zo:∀b u,H1 b=some u->(∀y,u≠.own y)->(∀qs,u≠.jV qs)->gq H1 P c oc (X.env.qual ++ "<lambda>") lp b=some u:=λb u O n1 n2=>uJ hP hc O n1 n2
 generalize a8:gq H1 P c oc (X.env.qual ++ "<lambda>") lp=HL at J a5 Q6 Ot PC Zo;obtain⟨G,rv,⟨o,n,ho,a9,b3,hd⟩,hz⟩:=J.list (aM.of a5);have hl:=rv.length;rw[aaa]at hl;have ag:G.length<=sizeLine:=dl (abh.mpr (by lia))
 refine call_function_entry_kw kind_sorted plain_sorted entry_sorted (ksk_s1 _ _) ?_;unfold Builtin.«sorted»;refine aN (m:=checkCount "sorted" 1 1 _) (aah ?_);refine aN (wpAny_collect_seq a (T:="list") (.inl rfl) ho a9 hd (λh1 hk=>?_) (by rw[aau];exact ag))
 have J1:=J.kept (t':=s2.toks) hk;have aw:HL h1.objs.size=none:=J1.hok.fresh (aaf _);refine aN (wpAny_newList ?_ (by simpa using ag))
 have e0:G.toArray.toList=G:=by simp
 rw[e0];have uQ:(h1.push (seqObj "list" G.toArray 0)).get? h1.objs.size=some (seqObj "list" G.toArray 0):=aaB _ rfl;have J2:Inv X ((f,eR X params body scope c ctv)::pq) σ (upd HL h1.objs.size (.lst (ns.map V.int))) { s2 with heap:=h1.push (seqObj "list" G.toArray 0)}:=by
  refine J1.laid (t':=s2.toks) (λb o hb=>?_) (aaf _) ⟨?_,G,0,rv,uQ⟩
  ·rw[abY _ _ _ (aay (aal hb))];exact hb
  ·rw[aaa,hl];exact ag
 generalize b4:h1.objs.size=D at aw uQ J2;refine aN (aaF (wpAny_call_entry_kw slot_list_sort ⟨_,uQ,rfl⟩ entry_list_sort ?body (ksk_l1 _ _)));show wpAny (model X.prog X.w) X.A.in1.in1 (Builtin.«list.sort» ⟨[.ref D],[(Str.ofString "key",.ref f)]⟩) _ _ _;rw[ksk_t1];generalize h1.push (seqObj "list" G.toArray 0)=h2 at uQ J2;have ba:=aaY h2 D (Obj.mapSeq λ_=>(#[]:Array Value))
 obtain⟨Y,MW⟩:∃Y,(h2.update D (Obj.mapSeq λ_=>(#[]:Array Value))).get? D=some (seqObj "list" #[] Y):=⟨_,get?_update_seq uQ λ_=>#[]⟩
 unfold ksk_tree;refine aN (listItems_at uQ rfl ?_);refine aN (listUpdate_at uQ rfl ?_ (by rw[aau];exact ag) (aaL _))
 refine aN (seqEpoch_at MW rfl ?_);refine aN (wpAny_newTuple ?_ (by show G.toArray.toList.length<=_;rw[e0];exact ag))
 refine aN (wpAny_newList ?_ (aaL _));refine aaF ?_;have J3:=J2.write (x:=D) (e:=D) (o:=.lst []) (t':=s2.toks) (h':=h2.update D (Obj.mapSeq λ_=>(#[]:Array Value))) (by rw[ae];trivial) (.inl rfl) (λb u nb O=>(ba.2 b nb).trans O) ⟨_,MW⟩ ⟨aaL _,[],Y,.nil,MW⟩
 have J4:=J3.Ox (a:=D) ae MW;generalize NF:upd (upd (upd HL D (.lst (ns.map V.int))) D (.lst [])) D (.lB (seqObj "list" #[] Y) (.lst []))=H2 at J4;have at2:∀b u,HL b=some u->H2 b=some u:=λb u O=>by
  have nb:b≠D:=λz=>by rw[z,aw]at O;cases O
  rw[<-NF,ao nb,ao nb,ao nb];exact O
 have jU:H2 D=some (.lB (seqObj "list" #[] Y) (.lst [])):=by rw[<-NF,ae]
 generalize h2.update D (Obj.mapSeq λ_=>(#[]:Array Value))=h3 at J3 J4
 rw[e0];have bb:∀b u,h3.get? b=some u->((h3.push (seqObj "tuple" G.toArray 0)).push (seqObj "list" #[] 0)).get? b=some u:=λb u O=>aak _ (aak _ O)
 have hS:(h3.push (seqObj "tuple" G.toArray 0)).objs.size=h3.objs.size+1:=size_push' ..;have oK:=J4.Ln (b:=(h3.push (seqObj "tuple" G.toArray 0)).objs.size) (by show h3.objs.size<=_;rw[hS];exact abF _)
 have gK:((h3.push (seqObj "tuple" G.toArray 0)).push (seqObj "list" #[] 0)).get? (h3.push (seqObj "tuple" G.toArray 0)).objs.size=some (seqObj "list" #[] 0):=aaB _ rfl;have bo:H2 (h3.push (seqObj "tuple" G.toArray 0)).objs.size=none:=J4.hok.fresh (by show h3.objs.size<=_;rw[hS];exact abF _)
 have Ou:∀q∈(f,eR X params body scope c ctv)::pq,q.1<h3.objs.size:=λq U=>aal (J4.pin q (iO _ U)).1
 have J5:Inv X (((h3.push (seqObj "tuple" G.toArray 0)).objs.size,seqObj "list" #[] 0)::(f,eR X params body scope c ctv)::pq) σ H2 { s2 with heap:=(h3.push (seqObj "tuple" G.toArray 0)).push (seqObj "list" #[] 0)}:=by
  have K:=J4.kept (t':=s2.toks) bb;refine K.gG λq U=>?_
  rcases aaq.mp U with rfl|U
  ·exact⟨gK,bo,oK.2.1,oK.2.2.1,λv z=>by cases z⟩
  ·exact K.pin q (iO _ U)
 have pK:∀q∈(f,eR X params body scope c ctv)::pq,q.1≠(h3.push (seqObj "tuple" G.toArray 0)).objs.size:=λq U=>by
  have:=Ou q U;rw[hS];exact aay (abu this)
 have Zp:G.toArray.size=G.length:=aau ..;show wpAny (model X.prog X.w) X.A.in1.in1 (ksk_rest D (.ref f) false G.toArray Y (.ref (h3.push (seqObj "tuple" G.toArray 0)).objs.size)) _ _ { s2 with heap:=(h3.push (seqObj "tuple" G.toArray 0)).push (seqObj "list" #[] 0)}
 generalize (h3.push (seqObj "tuple" G.toArray 0)).objs.size=kS at oK J5 pK;generalize (h3.push (seqObj "tuple" G.toArray 0)).push (seqObj "list" #[] 0)=h4 at J5;unfold ksk_rest;refine aN (wpAny_rule ?_);rw[List.forIn_toArray];refine aN (ksk_fold (λi s'=>∃H3 ds en,au H2 H3/\Inv X ((kS,seqObj "list" ((ds.map Value.ref).toArray) en)::(f,eR X params body scope c ctv)::pq) σ H3 s'/\ds.length=i/\∀(j:Nat) d n,ds[j]?=some d->ns[j]?=some n->H3 d=some (.tup [.int (kf n).1,.int (kf n).2]))
  G 0 _ ⟨H2,[],0,au.refl _,J5,rfl,λj d n z=>by cases z⟩ ?_ ?_)
 ·rintro j y s' hy ⟨H3,ds,en,Dl,I3,ar,Z⟩;rw[acK]at ar ⊢;have hj:j<G.length:=(ju.mp hy).1;have Zq:ns[j]?=some (ns[j]'(by lia)):=aad _
  obtain⟨uu,hu,ru⟩:=rv.get (show(ns.map V.int)[j]?=some (.int (ns[j]'(by lia))) by rw[aai,Zq];rfl)
  rw[hy]at hu;cases hu;obtain⟨bp,_⟩:=(show bg X.prog X.w H3 s'.heap c (.lB oc (.own P)) from I3.hok c _ (Dl _ _ (at2 _ _ Ot)))
  have aT:X.A.in1.in1.depth<recursionLimit:=((hr.in1).in1).depth;refine aN (wpAny_attempt (aaD (BU (v:=.int (ns[j]'(by lia))) I3 T hx I3.ok.frames rfl aT (List.Mem.tail _ (.head _)) (a4.rec bp) (hb c ctv _) hco hgen (he f c s' H3 (((hr.in1).in1).deeper _)) ru
   (ax H3 (λb u O n1 n2=>Dl _ _ (at2 _ _ (Zo b u O n1 n2))) _ (ab4 _))) (λv s3 hv=>?_) λ_ _ z=>z))
  obtain⟨w',H4,I4,bt,Zr,d,rfl,bw⟩:=hv;cases bt;have El:=I4.pin (kS,_) (iO _ (.head _));have sb:=aaY s3.heap kS (Obj.mapSeq (·.push (.ref d)));have ea:((ds.map Value.ref).toArray).push (.ref d)=((ds++[d]).map Value.ref).toArray:=by simp
  obtain⟨c2,bD⟩:∃c2,(s3.heap.update kS (Obj.mapSeq (·.push (.ref d)))).get? kS=some (seqObj "list" (((ds++[d]).map Value.ref).toArray) c2):=⟨_,by rw[<-ea];exact get?_update_seq El.1 (·.push (.ref d))⟩
  try dsimp only
  refine aN (listUpdate_at El.1 rfl ?_ (by rw[aau,aaa,sizeLine_eq];lia) (aaE (adA (Array.size_push ..)) (by rw[aau,aaa,sizeLine_eq];lia)))
  refine aah ⟨rfl,H4,ds++[d],c2,λb u z=>Zr _ _ (Dl _ _ z),?_,by rw[aao,abb,ar],λi d' n' Y e2=>?_⟩
  ·exact I4.j9 (t':=s3.toks) oK (.head _) (λb u nb O=>(sb.2 b nb).trans O) λq U=>by
    rcases aaq.mp U with rfl|U
    ·exact .inl ⟨rfl,bD,λv z=>by cases z⟩
    ·exact .inr ⟨.tail _ U,pK q U⟩
  ·by_cases hi:i<ds.length
   ·rw[aaK hi]at Y;exact Zr _ _ (Z i d' n' Y e2)
   ·rw[aaQ (by lia)]at Y
    have b2:i=j:=by
     have:=(ju.mp Y).1;rw[abb]at this
     lia
    subst b2;rw[ar,acL]at Y;have Y:d=d':=by simpa using Y
    rw[Zq]at e2;cases e2;rw[<-Y];exact bw
 ·rintro s' ⟨H3,ds,en,Dl,I3,ar,Z⟩;rw[acK]at ar;have El:=I3.pin (kS,_) (iO _ (.head _))
  try dsimp only
  refine aN (listItems_at El.1 rfl ?_);refine HK I3 oK pK (Dl _ _ jU) rv a7 (by lia) Z hok J3 ae λs5 a3 hp XM I5=>⟨_,rfl,aah ⟨_,rfl,?_⟩⟩
  have I6:Inv X pq σ (upd (upd H3 D (.lst [])) D (.lst (a3.map V.int))) s5:=I5.gG λq U=>I5.pin q (iO _ (.tail _ U))
  have nD:∀b u,HL b=some u->b≠D:=λb u O z=>by rw[z,aw]at O;cases O
  have XN:∀b u,HL b=some u->upd (upd H3 D (.lst [])) D (.lst (a3.map V.int)) b=some u:=λb u O=>by
   rw[ao (nD b u O),ao (nD b u O)];exact Dl _ _ (at2 _ _ O)
  have I7:=BR I1 hP hc BQ a4 I6 (XN _ _ Q6) (XN _ _ Ot);refine⟨.ref D,_,I7,rfl,Q5 D a3 _ (PC D aw) (BS hP hc BQ (oc:=oc) λb u O=>XN b u (by rw[<-a8];exact O)) ?_ hp XM⟩
  unfold given;rw[ao (λz=>nD _ _ Q6 z.symm),ao (λz=>nD _ _ Ot z.symm),ae]
end
section
variable {X:Cx}{pq:aQ}{σ:St}{H:Hp}{s:Shared}
def B4{a:Addr}{ps:List (Addr×Int×Int)}{its:List Value}{E:dh}{P:PySem.Fin->Shared->Prop}{A:Around}(I:Inv X pq σ (upd H a (.lst (ps.map λq=>V.ref q.1))) s)(ha:H a=none)(ho:s.heap.get? a=some (seqObj "list" its.toArray 0))(rv:Vals (ps.map λq=>V.ref q.1) its)
 (hp:∀q∈ps,H q.1=some (.tup [.int q.2.1,.int q.2.2])) (hok:∀q∈ps,PB q.2) (h2:2<=ps.length) (hn:ps.length<64)
 (k:∀(h' : Heap) (c:Nat) (G : List (Addr×Int×Int)) (out:List Value),G.Perm ps->G.Pairwise (λx y=>kx x.2<=kx y.2)->Vals (G.map λq=>V.ref q.1) out->h'.get? a=some (listOf out.toArray c)->(∀m,s.heap.Ns X.env.locals m->h'.Ns X.env.locals m)->(∀b o,b≠X.env.locals->b≠a->s.heap.get? b=some o->h'.get? b=some o)->P (PySem.Fin.done (PySem.Flow.ret PySem.Value.none)) { s with heap:=h'}) :
 wpAny (model X.prog X.w) A (PySem.Builtin.«list.sort» { pos:=[PySem.Value.ref a]}) P E s:=by
 have hl:=rv.length;rw[aaa]at hl;obtain⟨m,F⟩:=I.fr;have ag:a≠X.env.locals:=λz=>by
  have:=I.free;rw[<-z,ae]at this;cases this
 have hb:X.base.get? a=none:=by
  cases e:X.base.get? a with
  | none=>rfl
  | some o =>
    have:=(I.bs a o e).2;rw[ae]at this;cases this
 have N:News X.base X.env.locals s.heap (rest X.base s.heap X.env.locals a):=λp hp=>AS p (aas.mp hp).1
 have at_:∀i,i<ps.length->its.getD i Value.none = .ref (ps.getD i (0,0,0)).1/\ps.getD i (0,0,0)∈ps:=λi hi=>by
  have h1:(ps.map λq=>V.ref q.1)[i]?=some (.ref (ps.getD i (0,0,0)).1):=by
   rw[aai,aae,aad hi];rfl
  obtain⟨u,hu,ru⟩:=rv.get h1;refine⟨?_,?_⟩
  ·rw[aae,hu];exact ru
  ·rw[aae,aad hi];exact ab4 hi
 refine kat_list_sort F N ho ag hb uq (by lia) (by lia) λe1 h' F' N'=>?_
 have kept:=i8 (d:=a) I.bk F' λp hp=>N' p (jt _ hp)
 have pv:∀q∈ps,yP h' (.ref q.1) q.2:=λq hq=>by
  have hH:=hp q hq;have ne1:q.1≠a:=λz=>by
   rw[z,ha]at hH;cases hH
  have Uv:upd H a (.lst (ps.map λq=>V.ref q.1)) q.1=some (.tup [.int q.2.1,.int q.2.2]):=by rw[ao ne1];exact hH
  have ne2:q.1≠X.env.locals:=λz=>by
   have:=I.free;rw[<-z,Uv]at this;cases this
  obtain⟨ts,rt,⟨o,e,hc,n,hd⟩,_⟩:=I.tuple (aR.of Uv)
  match ts,rt with
  | [_,_],.cons ⟨t,rfl⟩ (.cons ⟨u,rfl⟩ .nil)=>exact⟨q.1,o,t,u,n,rfl,kept _ _ ne2 ne1 e,hc,hd⟩
 have Uw:∀i,i<its.length->yP h' (its.getD i Value.none) (ps.getD i (0,0,0)).2:=λi hi=>by
  obtain⟨e,hm⟩:=at_ i (by lia)
  rw[e];exact pv _ hm
 refine yC (by lia) (λv hv=>?_) (uL (r:=λi=>kx (ps.getD i (0,0,0)).2) (n:=its.length) (yQ (λi hi=>hok _ (at_ i (by lia)).2) Uw) (zz (by lia)) (λZ=>?_))
 ·obtain⟨i,hi,rfl⟩:=adn.mp hv;have:=(Uw i hi).pair;rw[aae,aad hi]at this;exact this
 have U:=zL (r:=λi=>kx (ps.getD i (0,0,0)).2) (n:=its.length) (by lia)
 generalize SRun (λi=>kx (ps.getD i (0,0,0)).2) (kas_sort its.length)=O at Z U ⊢
 refine KasFin.intro F' N' (UpdF.head uq) λY c Ux Uy=>?_
 have LK:∀b o,b≠X.env.locals->b≠a->s.heap.get? b=some o->Y.get? b=some o:=i8 (d:=a) I.bk Ux λp hp=>Uy p (jt _ hp)
 have qA:(O.toList.map λi=>ps.getD i (0,0,0)).Perm ps:=by
  have h1:=List.Perm.map (λi=>ps.getD i (0,0,0)) Z
  have h2:(List.range its.length).map (λi=>ps.getD i (0,0,0))=ps:=by
   rw[<-hl];refine adC (by simp) λi h1 h2=>?_
   simp[aae,aad h2]
  rw[h2]at h1;exact h1
 have ax:O.toList.length=its.length:=by have:=Z.length_eq;rw[aav]at this;exact this
 have Oz:(O.toList.map λi=>ps.getD i (0,0,0)).Pairwise (λx y=>kx x.2<=kx y.2):=by
  rw[abO,abW];intro i j hi hj ar;have:=U.le (aaO ar) (by lia)
  have ga:∀i (hi:i<O.toList.length),O.getD i 0=O.toList[i]:=λi hi=>by
   rw[ab6,<-acv,aad hi];rfl
  unfold Kr at this;rw[ga i hi,ga j hj]at this;exact this
 refine k Y c _ _ qA Oz ?_ (Uy _ aam).1 (λm' aw=>?_) LK
 ·have:∀l:List Nat,(∀i∈l,i<ps.length)->Vals ((l.map λi=>ps.getD i (0,0,0)).map λq=>V.ref q.1) (l.map λi=>its.getD i Value.none):=λl=>by
   induction l with
   | nil=>exact λ_=>.nil
   | cons i l ih =>
     intro h;refine .cons ?_ (ih λj hj=>h j (jt _ hj))
     exact(at_ i (h i aam)).1
  refine this _ λi hi=>?_
  have:=aaA.mp (Z.mem_iff.mp hi)
  lia
 ·rw[K0 aw F.ns];exact Ux.ns
end
section
variable {X:Cx}
def LL(K:bN)(hK:X.K=K:=by rfl):fJ X (.builtin "sorted") (λxs H Q=>∃(p:Addr) (ps:List (Addr×Int×Int)),xs=[.ref p]/\aM K H p (ps.map λq=>V.ref q.1)/\(∀q∈ps,H q.1=some (.tup [.int q.2.1,.int q.2.2]))/\(∀q∈ps,PB q.2)/\ps.length<64/\
 ∀(l:Addr) (G : List (Addr×Int×Int)),H l=none->G.Perm ps->G.Pairwise (λx y=>kx x.2<=kx y.2)->Q (.ref l) (upd H l (.lst (G.map λq=>V.ref q.1)))):=by
 subst hK;intro pq s σ H xs us Q I r h;obtain⟨p,ps,rfl,hq,hp,hok,hn,q⟩:=h;obtain⟨u,rfl,rx⟩:=vals1 r;cases rx;obtain⟨its,rv,⟨o,n,ho,hc,hdt,hd⟩,hz⟩:=I.list hq;have hl:=rv.length;rw[aaa]at hl;have O:its.length<=sizeLine:=dl (abh.mpr (by lia))
 refine Calls.call_function_entry kind_sorted plain_sorted entry_sorted (args_sorted1 _) ?_;unfold Builtin.«sorted»;refine aN (m:=checkCount "sorted" 1 1 _) (aah ?_);refine aN (wpAny_collect_seq p (T:="list") (.inl rfl) ho hc hd (λh1 hk=>?_) (by rw[aau];exact O))
 have I1:=I.kept (t':=s.toks) hk;have U:H h1.objs.size=none:=I1.hok.fresh (aaf _);refine aN (wpAny_newList ?_ (by simpa using O))
 have Y:(h1.push (seqObj "list" its.toArray.toList.toArray 0)).get? h1.objs.size=some (seqObj "list" its.toArray.toList.toArray 0):=aaB _ rfl;have e0:its.toArray.toList=its:=by simp
 rw[e0]at Y;have I2:Inv X pq σ (upd H h1.objs.size (.lst (ps.map λq=>V.ref q.1))) { s with heap:=h1.push (seqObj "list" its.toArray 0)}:=by
  refine I1.laid (t':=s.toks) (λb o hb=>?_) (aaf _) ⟨?_,its,0,rv,Y⟩
  ·rw[abY _ _ _ (aay (aal hb))];exact hb
  ·rw[aaa,hl];exact O
 rw[e0];refine aN (aaF (wpAny_call_entry slot_list_sort ⟨_,Y,rfl⟩ entry_list_sort (?_) (args_list_sort _)));have LM:∀G : List (Addr×Int×Int),G.Perm ps->(G.map λq=>V.ref q.1).length<=sizeLine:=λG Dg=>by
  rw[aaa,Dg.length_eq,hl];exact O
 have kp:∀b u,h1.get? b=some u->(h1.push (seqObj "list" its.toArray 0)).get? b=some u:=λb u e=>by
  rw[abY _ _ _ (aay (aal e))];exact e
 by_cases h2:2<=ps.length
 ·refine B4 I2 U Y rv hp hok h2 hn λh' c G out qA Oz XO Z ar LN=>⟨_,rfl,aah ⟨_,rfl,?_⟩⟩
  refine⟨.ref h1.objs.size,_,I1.Po (t':=s.toks) (o:=.lst (G.map λq=>V.ref q.1)) (λb u hb e=>LN b u hb (aay (aal e)) (kp b u e)) (λm hm=>ar m ?_) (aaf _) ⟨LM _ qA,out,c,XO,Z⟩,rfl,q _ G U qA Oz⟩
  obtain⟨o',es,ep,e,z⟩:=hm;exact⟨o',es,ep,kp _ _ e,z⟩
 ·have few:ps.Pairwise (λx y=>kx x.2<=kx y.2):=by
   match ps,h2 with
   | [],_=>exact .nil
   | [x],_=>exact acW _ _
   | _::_::_,h2=>exact absurd (by simp:2<=_) h2
  refine BD Y (by lia) ⟨_,rfl,aah ⟨_,rfl,?_⟩⟩
  obtain⟨e,he⟩:=sortedHeap_at (out:=its.toArray) Y;refine⟨.ref h1.objs.size,_,I1.laid (t':=s.toks) (o:=.lst (ps.map λq=>V.ref q.1)) (λb o hb=>?_) (aaf _) ⟨LM ps (acT _),its,e,rv,he⟩,rfl,q _ ps U (acT _) few⟩
  have ag:=aal hb;show(sortedHeap (h1.push (seqObj "list" its.toArray 0)) h1.objs.size its its.toArray).get? b=some o;rw[sortedHeap_old (aay ag) (by rw[size_push'];exact abu ag)]
  exact kp b o hb
end
def gD(x y:Int×Int×Int):Prop:=x.1<y.1\/(x.1=y.1/\(x.2.1<y.2.1\/(x.2.1=y.2.1/\x.2.2<y.2.2)))
instance (x y:Int×Int×Int):Decidable (gD x y):=by unfold gD;infer_instance
def gD.trans{x y z:Int×Int×Int}(h:gD x y)(h' : gD y z):gD x z:=by
 unfold gD at h h' ⊢
 lia
def gD.irr{x:Int×Int×Int}(h:gD x x):False:=by
 unfold gD at h
 lia
def Uz(x y:Int×Int×Int):gD x y\/x=y\/gD y x:=by
 by_cases h:gD x y
 ·exact .inl h
 by_cases h' : gD y x
 ·exact .inr (.inr h')
 refine .inr (.inl ?_);unfold gD at h h';obtain⟨a,b,c⟩:=x;obtain⟨a',b',c'⟩:=y;dsimp only at h h';obtain rfl:a=a':=by lia
 obtain rfl:b=b':=by lia
 obtain rfl:c=c':=by lia
 rfl
def pD{α:Type}{p q:α->Bool}(h:∀a,p a=true->q a=true):∀l:List α,(l.filter p).length<=(l.filter q).length
 | []=>aaf _
 | a::l=>by
   have G:=pD h l;cases hp:p a with
   | true =>
     rw[abA hp,abA (h a hp)];exact Nat.succ_le_succ G
   | false =>
     rw[ab0 (by rw[hp];decide)]
     cases hq:q a with
     | true=>rw[abA hq];exact Nat.le_succ_of_le G
     | false=>rw[ab0 (by rw[hq];decide)];exact G
def LO{α:Type}{p q:α->Bool}(h:∀a,p a=true->q a=true){x:α}(hq:q x=true)(hp:p x=false):∀{l:List α},x∈l->(l.filter p).length<(l.filter q).length
 | a::l,hm=>by
   rcases aaq.mp hm with rfl|hm
   ·rw[abA hq,ab0 (by rw[hp];decide)]
    exact Nat.lt_succ_of_le (pD h l)
   ·have G:=LO h hq hp hm;cases e:p a with
    | true =>
      rw[abA e,abA (h a e)];exact Nat.succ_lt_succ G
    | false =>
      rw[ab0 (by rw[e];decide)]
      cases e2:q a with
      | true=>rw[abA e2];exact abu G
      | false=>rw[ab0 (by rw[e2];decide)];exact G
def M3(l:List (Int×Int×Int))(x:Int×Int×Int):Int:=((l.filter λy=>decide (gD y x)).length:Int)
def Em{l:List (Int×Int×Int)}{x y:Int×Int×Int}(hx:x∈l)(h:gD x y):M3 l x<M3 l y:=by
 have:=LO (p:=λz=>decide (gD z x)) (q:=λz=>decide (gD z y)) (λz hz=>cD ((jR hz).trans h)) (cD h) (dO λz=>z.irr) hx
 unfold M3
 lia
def OA{l:List (Int×Int×Int)}{x y:Int×Int×Int}(hx:x∈l)(hy:y∈l):decide (M3 l x<M3 l y)=decide (gD x y):=by
 refine aaS.mpr ⟨λh=>?_,Em hx⟩
 rcases Uz x y with z|z|z
 ·exact z
 ·subst z;exact absurd h (by lia)
 ·have:=Em hy z
  lia
def UA(h:Heap)(v:Value):Prop:=∃(a:Addr) (o:Obj) (x y z:Int) (t u r:Tok) (k:Nat),v = .ref a/\h.get? a=some o/\o.cls = .type "tuple"/\o.data = .seq #[.int x t,.int y u,.int z r] k
def LP(h:Heap)(v:Value)(z:Int×Int×Int):Prop:=∃(a:Addr) (o:Obj) (t u r:Tok) (k:Nat),v = .ref a/\h.get? a=some o/\o.cls = .type "tuple"/\o.data = .seq #[.int z.1 t,.int z.2.1 u,.int z.2.2 r] k
def LP.HA{h:Heap}{v:Value}{z:Int×Int×Int}(q:LP h v z):UA h v:=let⟨a,o,t,u,r,k,q⟩:=q;⟨a,o,z.1,z.2.1,z.2.2,t,u,r,k,q⟩
def LQ{prog:Program}{w:World}{A:Around}{s:Shared}{vs:List Value}{n:Nat}{zs:Nat->Int×Int×Int}{l:List (Int×Int×Int)}(hz:∀i,i<n->zs i∈l)(hv:∀i,i<n->LP s.heap (vs.getD i Value.none) (zs i)):
 ∀i j C,i<n->j<n->C (decide (M3 l (zs i)<M3 l (zs j))) s->kas_ask prog w A (tuples' true) vs i j C s:=by
 intro i j C hi hj G;rw[OA (hz i hi) (hz j hj)]at G;unfold kas_ask;obtain⟨a,o,t,u,r,k,e,U,_,hd⟩:=hv i hi;obtain⟨a',o',t',u',r',k',e',ho',_,hd'⟩:=hv j hj;generalize zs i=z at hd G;generalize zs j=z' at hd' G;obtain⟨x,y,m⟩:=z;obtain⟨x',y',m'⟩:=z';dsimp only at hd hd';have ht:gD (x,y,m) (x',y',m')↔(x<x'\/(x=x'/\(y<y'\/(y=y'/\m<m')))):=Iff.rfl;rw[e,e'];refine kat_lt U hd ho' hd' ?_;show KatLex prog w A true _ C [(.int x t,.int x' t'),(.int y u,.int y' u'),(.int m r,.int m' r')] 0 s;rw[KatLex.eq_2];refine wpAny_eqBool_int ?_
 by_cases ex:x=x'
 ·rw[show(x==x')=true by simpa using ex]
  rw[aac rfl,KatLex.eq_2];refine wpAny_eqBool_int ?_
  by_cases O:y=y'
  ·rw[show(y==y')=true by simpa using O]
   rw[aac rfl,KatLex.eq_2];refine wpAny_eqBool_int ?_
   by_cases em:m=m'
   ·rw[show(m==m')=true by simpa using em]
    rw[aac rfl,KatLex.eq_1];rw[dO (by rw[ht];lia)]at G
    exact G
   ·rw[show(m==m')=false by simpa using em]
    rw[aab aan];refine kat_one _ _ (lt_int ?_);have I:decide (m<m')=decide (gD (x,y,m) (x',y',m')):=aaS.mpr (by rw[ht];lia)
    rw[I];exact G
  ·rw[show(y==y')=false by simpa using O]
   rw[aab aan];refine kat_one _ _ (lt_int ?_);have I:decide (y<y')=decide (gD (x,y,m) (x',y',m')):=aaS.mpr (by rw[ht];lia)
   rw[I];exact G
 ·rw[show(x==x')=false by simpa using ex]
  rw[aab aan];refine oneLt_int ?_;have I:decide (x<x')=decide (gD (x,y,m) (x',y',m')):=aaS.mpr (by rw[ht];lia)
  rw[I];exact G
def LR{prog:Program}{w:World}{A:Around}{E:dh}{s:Shared}{vs:List Value}{Q:SortKind->Shared->Prop}(hn:0<vs.length)(G:∀v∈vs,UA s.heap v)(q:Q (tuples' true) s):wpAny (model prog w) A (keyKind' vs.toArray) Q E s:=by
 obtain⟨fs,hl,hf,hk⟩:∃fs:List Value,fs.length=vs.length/\(∀v∈fs,∃x t,v=Value.int x t)/\KatTups s.heap vs fs:=by
  clear q hn
  induction vs with
  | nil=>exact⟨[],rfl,λv G=>(by cases G),by rw[KatTups.eq_1];trivial⟩
  | cons v vs O =>
    obtain⟨fs,h1,h2,U⟩:=O λv I=>G v (jt _ I)
    obtain⟨a,o,x,y,z,t,u,r,k,e,Y,hc,hd⟩:=G v aam;refine⟨.int x t::fs,by simp[h1],λZ I=>?_,?_⟩
    ·rcases aaq.mp I with rfl|I
     ·exact⟨x,t,rfl⟩
     ·exact h2 Z I
    ·rw[KatTups.eq_2];exact⟨⟨a,o,_,k,e,Y,hc,hd,rfl⟩,U⟩
 refine kat_kind (T:=.type "int") hk (by lia) (λv G=>?_) (by decide) q
 obtain⟨x,t,rfl⟩:=hf v G;intro A Q E s _ q;exact aah q
section
variable {X:Cx}{pq:aQ}{σ:St}{H:Hp}{s:Shared}
def HM{a:Addr}{ps:List (Addr×Int×Int×Int)}{its:List Value}{E:dh}{P:PySem.Fin->Shared->Prop}{A:Around}(I:Inv X pq σ (upd H a (.lst (ps.map λq=>V.ref q.1))) s)(ha:H a=none)(ho:s.heap.get? a=some (seqObj "list" its.toArray 0))(rv:Vals (ps.map λq=>V.ref q.1) its)
 (hp:∀q∈ps,H q.1=some (.tup [.int q.2.1,.int q.2.2.1,.int q.2.2.2])) (h2:2<=ps.length) (hn:ps.length<64)
 (k:∀(h' : Heap) (c:Nat) (O : List (Addr×Int×Int×Int)) (out:List Value),O.Perm ps->O.Pairwise (λx y=>¬ gD y.2 x.2)->Vals (O.map λq=>V.ref q.1) out->h'.get? a=some (listOf out.toArray c)->(∀m,s.heap.Ns X.env.locals m->h'.Ns X.env.locals m)->(∀b o,b≠X.env.locals->b≠a->s.heap.get? b=some o->h'.get? b=some o)->P (PySem.Fin.done (PySem.Flow.ret PySem.Value.none)) { s with heap:=h'}) :
 wpAny (model X.prog X.w) A (PySem.Builtin.«list.sort» { pos:=[PySem.Value.ref a]}) P E s:=by
 have hl:=rv.length;rw[aaa]at hl;obtain⟨m,F⟩:=I.fr;have ag:a≠X.env.locals:=λz=>by
  have:=I.free;rw[<-z,ae]at this;cases this
 have hb:X.base.get? a=none:=by
  cases e:X.base.get? a with
  | none=>rfl
  | some o =>
    have:=(I.bs a o e).2;rw[ae]at this;cases this
 have N:News X.base X.env.locals s.heap (rest X.base s.heap X.env.locals a):=λp hp=>AS p (aas.mp hp).1
 have at_:∀i,i<ps.length->its.getD i Value.none = .ref (ps.getD i (0,0,0,0)).1/\ps.getD i (0,0,0,0)∈ps:=λi hi=>by
  have h1:(ps.map λq=>V.ref q.1)[i]?=some (.ref (ps.getD i (0,0,0,0)).1):=by
   rw[aai,aae,aad hi];rfl
  obtain⟨u,hu,ru⟩:=rv.get h1;refine⟨?_,?_⟩
  ·rw[aae,hu];exact ru
  ·rw[aae,aad hi];exact ab4 hi
 refine kat_list_sort F N ho ag hb uq (by lia) (by lia) λe1 h' F' N'=>?_
 have kept:=i8 (d:=a) I.bk F' λp hp=>N' p (jt _ hp)
 have pv:∀q∈ps,LP h' (.ref q.1) q.2:=λq hq=>by
  have hH:=hp q hq;have ne1:q.1≠a:=λz=>by
   rw[z,ha]at hH;cases hH
  have Uv:upd H a (.lst (ps.map λq=>V.ref q.1)) q.1=some (.tup [.int q.2.1,.int q.2.2.1,.int q.2.2.2]):=by rw[ao ne1];exact hH
  have ne2:q.1≠X.env.locals:=λz=>by
   have:=I.free;rw[<-z,Uv]at this;cases this
  obtain⟨ts,rt,⟨o,e,hc,n,hd⟩,_⟩:=I.tuple (aR.of Uv)
  match ts,rt with
  | [_,_,_],.cons ⟨t,rfl⟩ (.cons ⟨u,rfl⟩ (.cons ⟨v,rfl⟩ .nil))=>exact⟨q.1,o,t,u,v,n,rfl,kept _ _ ne2 ne1 e,hc,hd⟩
 have Uw:∀i,i<its.length->LP h' (its.getD i Value.none) (ps.getD i (0,0,0,0)).2:=λi hi=>by
  obtain⟨e,hm⟩:=at_ i (by lia)
  rw[e];exact pv _ hm
 refine LR (by lia) (λv hv=>?_) (uL (r:=λi=>M3 (ps.map λq=>q.2) (ps.getD i (0,0,0,0)).2) (n:=its.length) (LQ (λi hi=>aaz.mpr ⟨_,(at_ i (by lia)).2,rfl⟩) Uw) (zz (by lia)) (λU=>?_))
 ·obtain⟨i,hi,rfl⟩:=adn.mp hv;have:=(Uw i hi).HA;rw[aae,aad hi]at this;exact this
 have Y:=zL (r:=λi=>M3 (ps.map λq=>q.2) (ps.getD i (0,0,0,0)).2) (n:=its.length) (by lia)
 generalize SRun (λi=>M3 (ps.map λq=>q.2) (ps.getD i (0,0,0,0)).2) (kas_sort its.length)=G at U Y ⊢
 refine KasFin.intro F' N' (UpdF.head uq) λZ c Ux Uy=>?_
 have LK:∀b o,b≠X.env.locals->b≠a->s.heap.get? b=some o->Z.get? b=some o:=i8 (d:=a) I.bk Ux λp hp=>Uy p (jt _ hp)
 have qA:(G.toList.map λi=>ps.getD i (0,0,0,0)).Perm ps:=by
  have h1:=List.Perm.map (λi=>ps.getD i (0,0,0,0)) U
  have h2:(List.range its.length).map (λi=>ps.getD i (0,0,0,0))=ps:=by
   rw[<-hl];refine adC (by simp) λi h1 h2=>?_
   simp[aae,aad h2]
  rw[h2]at h1;exact h1
 have ax:G.toList.length=its.length:=by have:=U.length_eq;rw[aav]at this;exact this
 have Oz:(G.toList.map λi=>ps.getD i (0,0,0,0)).Pairwise (λx y=>¬ gD y.2 x.2):=by
  rw[abO,abW];intro i j hi hj ar;have:=Y.le (aaO ar) (by lia)
  have ga:∀i (hi:i<G.toList.length),G.getD i 0=G.toList[i]:=λi hi=>by
   rw[ab6,<-acv,aad hi];rfl
  unfold Kr at this;rw[ga i hi,ga j hj]at this;have mem:∀i (hi:i<G.toList.length),(ps.getD G.toList[i] (0,0,0,0)).2∈ps.map λq=>q.2:=λi hi=>by
   have h3:=aaA.mp (U.mem_iff.mp (ab4 hi));exact aaz.mpr ⟨_,(at_ _ (by lia)).2,rfl⟩
  dsimp only at this;exact λz=>absurd (Em (mem j hj) z) (by lia)
 refine k Z c _ _ qA Oz ?_ (Uy _ aam).1 (λm' aw=>?_) LK
 ·have:∀l:List Nat,(∀i∈l,i<ps.length)->Vals ((l.map λi=>ps.getD i (0,0,0,0)).map λq=>V.ref q.1) (l.map λi=>its.getD i Value.none):=λl=>by
   induction l with
   | nil=>exact λ_=>.nil
   | cons i l ih =>
     intro h;refine .cons ?_ (ih λj hj=>h j (jt _ hj))
     exact(at_ i (h i aam)).1
  refine this _ λi hi=>?_
  have:=aaA.mp (U.mem_iff.mp hi)
  lia
 ·rw[K0 aw F.ns];exact Ux.ns
end
section
variable {X:Cx}
def LS(K:bN)(hK:X.K=K:=by rfl):fJ X (.builtin "sorted") (λxs H Q=>∃(p:Addr) (ps:List (Addr×Int×Int×Int)),xs=[.ref p]/\aM K H p (ps.map λq=>V.ref q.1)/\(∀q∈ps,H q.1=some (.tup [.int q.2.1,.int q.2.2.1,.int q.2.2.2]))/\ps.length<64/\
 ∀(l:Addr) (G : List (Addr×Int×Int×Int)),H l=none->G.Perm ps->G.Pairwise (λx y=>¬ gD y.2 x.2)->Q (.ref l) (upd H l (.lst (G.map λq=>V.ref q.1)))):=by
 subst hK;intro pq s σ H xs us Q I r h;obtain⟨p,ps,rfl,hq,hp,hn,q⟩:=h;obtain⟨u,rfl,rx⟩:=vals1 r;cases rx;obtain⟨its,rv,⟨o,n,ho,hc,hdt,hd⟩,hz⟩:=I.list hq;have hl:=rv.length;rw[aaa]at hl;have O:its.length<=sizeLine:=dl (abh.mpr (by lia))
 refine Calls.call_function_entry kind_sorted plain_sorted entry_sorted (args_sorted1 _) ?_;unfold Builtin.«sorted»;refine aN (m:=checkCount "sorted" 1 1 _) (aah ?_);refine aN (wpAny_collect_seq p (T:="list") (.inl rfl) ho hc hd (λh1 hk=>?_) (by rw[aau];exact O))
 have I1:=I.kept (t':=s.toks) hk;have U:H h1.objs.size=none:=I1.hok.fresh (aaf _);refine aN (wpAny_newList ?_ (by simpa using O))
 have Y:(h1.push (seqObj "list" its.toArray.toList.toArray 0)).get? h1.objs.size=some (seqObj "list" its.toArray.toList.toArray 0):=aaB _ rfl;have e0:its.toArray.toList=its:=by simp
 rw[e0]at Y;have I2:Inv X pq σ (upd H h1.objs.size (.lst (ps.map λq=>V.ref q.1))) { s with heap:=h1.push (seqObj "list" its.toArray 0)}:=by
  refine I1.laid (t':=s.toks) (λb o hb=>?_) (aaf _) ⟨?_,its,0,rv,Y⟩
  ·rw[abY _ _ _ (aay (aal hb))];exact hb
  ·rw[aaa,hl];exact O
 rw[e0];refine aN (aaF (wpAny_call_entry slot_list_sort ⟨_,Y,rfl⟩ entry_list_sort (?_) (args_list_sort _)));have LM:∀G : List (Addr×Int×Int×Int),G.Perm ps->(G.map λq=>V.ref q.1).length<=sizeLine:=λG Dg=>by
  rw[aaa,Dg.length_eq,hl];exact O
 have kp:∀b u,h1.get? b=some u->(h1.push (seqObj "list" its.toArray 0)).get? b=some u:=λb u e=>by
  rw[abY _ _ _ (aay (aal e))];exact e
 by_cases h2:2<=ps.length
 ·refine HM I2 U Y rv hp h2 hn λh' c G out qA Oz XO Z ar LN=>⟨_,rfl,aah ⟨_,rfl,?_⟩⟩
  refine⟨.ref h1.objs.size,_,I1.Po (t':=s.toks) (o:=.lst (G.map λq=>V.ref q.1)) (λb u hb e=>LN b u hb (aay (aal e)) (kp b u e)) (λm hm=>ar m ?_) (aaf _) ⟨LM _ qA,out,c,XO,Z⟩,rfl,q _ G U qA Oz⟩
  obtain⟨o',es,ep,e,z⟩:=hm;exact⟨o',es,ep,kp _ _ e,z⟩
 ·have few:ps.Pairwise (λx y=>¬ gD y.2 x.2):=by
   match ps,h2 with
   | [],_=>exact .nil
   | [x],_=>exact acW _ _
   | _::_::_,h2=>exact absurd (by simp:2<=_) h2
  refine BD Y (by lia) ⟨_,rfl,aah ⟨_,rfl,?_⟩⟩
  obtain⟨e,he⟩:=sortedHeap_at (out:=its.toArray) Y;refine⟨.ref h1.objs.size,_,I1.laid (t':=s.toks) (o:=.lst (ps.map λq=>V.ref q.1)) (λb o hb=>?_) (aaf _) ⟨LM ps (acT _),its,e,rv,he⟩,rfl,q _ ps U (acT _) few⟩
  have ag:=aal hb;show(sortedHeap (h1.push (seqObj "list" its.toArray 0)) h1.objs.size its its.toArray).get? b=some o;rw[sortedHeap_old (aay ag) (by rw[size_push'];exact abu ag)]
  exact kp b o hb
end
end L2
namespace RM
section
variable {N:Net}{L:Nat->Int}
def wg(q m m' : Nat):N.par q (m^^^m')=(N.par q m^^N.par q m'):=by
 have e:∀a b:Nat,N.par a b=N.par b a:=λa b=>bF λk _=>Bool.and_comm _ _
 rw[e,ja,e m,e m']
def qB{f:Nat->Bool}:∀{n i:Nat},i<n->(∀k,k<n->k≠i->f k=false)->bQ f n=f i
 | 0,i,h,_=>absurd h (abg _)
 | n+1,i,h,hz=>by
   show(bQ f n^^f n)=f i
   by_cases e:i=n
   ·subst e;rw[hU λk hk=>hz k (by lia) (by lia),abK]
   ·rw[qB (show i<n by lia) λk hk ne=>hz k (by lia) ne,hz n (by lia) (λz=>e z.symm),aa7]
def yR{f:Nat->Bool}:∀{n:Nat},bQ f n=true->∃i,i<n/\f i=true
 | 0,h=>by cases h
 | n+1,h=>by
   have h:(bQ f n^^f n)=true:=h;cases hf:f n with
   | true=>exact⟨n,by lia,hf⟩
   | false =>
     rw[hf,aa7]at h;obtain⟨i,h1,h2⟩:=yR h;exact⟨i,by lia,h2⟩
def wj(f:Nat->Bool):∀n,bQ f (n+1)=(f 0^^bQ (λi=>f (i+1)) n)
 | 0=>by
   show(false^^f 0)=(f 0^^false);rw[abK,aa7]
 | n+1=>by
   show(bQ f (n+1)^^f (n+1))=(f 0^^(bQ (λi=>f (i+1)) n^^f (n+1)))
   rw[wj f n,Bool.xor_assoc]
def nv(m:Nat):∀(B:List Nat) (z:Nat),N.par (comb B z) m=bQ (λi=>z.testBit i&&N.par (B.getD i 0) m) B.length
 | [],z=>kZ m
 | b::B,z=>by
   show N.par ((if z.testBit 0=true then b else 0)^^^comb B (z/2)) m=bQ _ (B.length+1)
   rw[ja,nv m B (z/2),wj];have G:N.par (if z.testBit 0=true then b else 0) m=(z.testBit 0&&N.par b m):=by
    cases z.testBit 0 with
    | true=>simp
    | false=>simp[kZ]
   rw[G];have I:bQ (λi=>(z/2).testBit i&&N.par (B.getD i 0) m) B.length=bQ (λi=>z.testBit (i+1)&&N.par ((b::B).getD (i+1) 0) m) B.length:=bF λi _=>by
    rw[aci];rfl
   rw[I];rfl
def len(N:Net)(L:Nat->Int)(r:Nat):Int:=lsum L (λk=>r.testBit k) N.n
structure DP(N:Net)(L:Nat->Int)(bs us:List Nat):Prop where
 lens:bs.length=us.length
 ring:∀b∈bs,N.Ring b/\b<2^N.n
 own:∀(i b w:Nat),bs[i]?=some b->us[i]?=some w->N.par b w=true/\∀r,N.Ring r->r<2^N.n->N.par r w=true->len N L b<=len N L r
 HA:∀(i j b w:Nat),i<j->bs[i]?=some b->us[j]?=some w->N.par b w=false
def DP.start:DP N L [] []:=⟨rfl,λb h=>(ab3 h).elim,λi b w h=>(by simp at h),λi j b w _ h=>(by simp at h)⟩
def DP.snoc{bs us:List Nat}{b w:Nat}(h:DP N L bs us)(hr:N.Ring b)(U:b<2^N.n)(ho:N.par b w=true)(hm:∀r,N.Ring r->r<2^N.n->N.par r w=true->len N L b<=len N L r)(he:∀G∈bs,N.par G w=false):DP N L (bs++[b]) (us++[w]):=by
 have at_:∀{l:List Nat} {x i y:Nat},(l++[x])[i]?=some y->(i<l.length/\l[i]?=some y)\/(i=l.length/\y=x):=λ{l x i y} e=>by
  by_cases hi:i<l.length
  ·rw[aaK hi]at e;exact .inl ⟨hi,e⟩
  ·have h2:=(ju.mp e).1;rw[aao,abb]at h2;have h3:i=l.length:=by lia
   rw[aaQ (by lia),h3,acL]at e
   exact .inr ⟨h3,(Option.some.inj e).symm⟩
 refine⟨by rw[aao,aao,h.lens];rfl,λG hb=>?_,λi G Y h1 h2=>?_,λi j G Y Z h1 h2=>?_⟩
 ·rcases aaw.mp hb with z|z
  ·exact h.ring G z
  ·rw[aat.mp z];exact⟨hr,U⟩
 ·have U:=h.lens;rcases at_ h1 with⟨l1,I⟩|⟨l1,I⟩<;>rcases at_ h2 with⟨l2,O⟩|⟨l2,O⟩
  ·exact h.own i G Y I O
  ·lia
  ·lia
  ·rw[I,O];exact⟨ho,hm⟩
 ·have U:=h.lens;rcases at_ h1 with⟨l1,I⟩|⟨l1,I⟩<;>rcases at_ h2 with⟨l2,O⟩|⟨l2,O⟩
  ·exact h.HA i j G Y Z I O
  ·rw[O];exact he G (iV I)
  ·lia
  ·lia
section
variable {bs us:List Nat}
def DP.at(h:DP N L bs us){i:Nat}(hi:i<bs.length):∃w,us[i]?=some w/\bs[i]?=some (bs.getD i 0):=by
 have h1:i<us.length:=by rw[<-h.lens];exact hi
 exact⟨us[i],aad h1,by rw[aae,aad hi];rfl⟩
def zN{f:Nat->Prop}:∀{n i:Nat},i<n->f i->∃l,l<n/\f l/\∀j,l<j->j<n->¬ f j
 | 0,i,h,_=>absurd h (abg _)
 | n+1,i,h,hf=>by
   by_cases hn:f n
   ·exact⟨n,by lia,hn,λj h1 h2=>by lia⟩
   ·have hi:i<n:=by
     rcases Nat.lt_or_ge i n with z|z
     ·exact z
     ·have e:i=n:=by lia
      rw[e]at hf;exact absurd hf hn
    obtain⟨l,h1,h2,G⟩:=zN hi hf;refine⟨l,by lia,h2,λj I O=>?_⟩
    by_cases e:j=n
    ·rw[e];exact hn
    ·exact G j I (by lia)
def DP.parts(h:DP N L bs us){z:Nat}(hr:N.Ring (comb bs z))(hl:comb bs z<2^N.n):∀i,i<bs.length->z.testBit i=true->len N L (bs.getD i 0)<=len N L (comb bs z):=by
 intro i hi hz;apply aaC;intro hc;obtain⟨l,h1,⟨h2,U⟩,Y⟩:=zN (f:=λi=>z.testBit i=true/\¬ len N L (bs.getD i 0)<=len N L (comb bs z)) hi ⟨hz,hc⟩
 obtain⟨w,hw,hb⟩:=h.at h1;obtain⟨o1,o2⟩:=h.own l _ w hb hw;have hp:=nv (N:=N) w bs z
 by_cases hx:∃j,l<j/\j<bs.length/\z.testBit j=true/\N.par (bs.getD j 0) w=true
 ·obtain⟨j,Z,O,j3,j4⟩:=hx;obtain⟨_,_,G⟩:=h.at O;obtain⟨rj,lj⟩:=h.ring _ (iV G);have k1:=o2 _ rj lj j4;have k2:len N L (bs.getD j 0)<=len N L (comb bs z):=aaC λhn=>Y j Z O ⟨j3,hn⟩
  lia
 ·rw[qB (i:=l) h1 (λj hj ne=>?_),h2,o1]at hp
  ·exact U (o2 _ hr hl hp)
  ·cases XQ:z.testBit j with
   | false=>rfl
   | true =>
     rcases Nat.lt_or_ge j l with I|ag
     ·obtain⟨_,_,G⟩:=h.at hj;rw[h.HA j l _ w I G hw];rfl
     ·cases hpj:N.par (bs.getD j 0) w with
      | false=>rfl
      | true=>exact absurd ⟨j,by lia,hj,XQ,hpj⟩ hx
def DP.ind(h:DP N L bs us):Dh bs:=by
 intro z hz hc;apply aaC;intro G;obtain⟨i,hi⟩:=abt G;have I:=pJ hz hi;obtain⟨l,h1,h2,h4⟩:=zN (f:=λi=>z.testBit i=true) I hi
 obtain⟨w,hw,hb⟩:=h.at h1;obtain⟨o1,_⟩:=h.own l _ w hb hw;have hp:=nv (N:=N) w bs z;rw[hc,kZ,qB (i:=l) h1 (λj hj ne=>?_),h2,o1]at hp
 ·cases hp
 ·cases XQ:z.testBit j with
  | false=>rfl
  | true =>
    have O:j<l:=by
     rcases Nat.lt_or_ge j l with z|z
     ·exact z
     ·exact absurd XQ (h4 j (by lia) hj)
    obtain⟨_,_,U⟩:=h.at hj;rw[h.HA j l _ w O U hw];rfl
end
def Base.span{rs:List Nat}(h:Base N rs){e:Nat}(he:N.bL e)(hl:e<2^N.n):∃z,z<2^rs.length/\comb rs z=e:=by
 apply uI;apply aaC;intro hn;have h1:Dh (rs++[e]):=nj.mpr ⟨h.ind,hn⟩;have h2:=Lf (N:=N) h1 (λb hb=>by
  rcases aaw.mp hb with z|z
  ·exact⟨(h.ring b z).1.2.1,(h.ring b z).2⟩
  ·rw[aat.mp z];exact⟨he,hl⟩)
 rw[aao,abb,h.len]at h2
 lia
def LB(N:Net)(L:Nat->Int)(rs:List Nat):Prop:=Base N rs/\∀r m,N.Ring r->r<2^N.n->N.par r m=true->∃b∈rs,N.par b m=true/\len N L b<=len N L r
def LB.perm{rs rs' : List Nat}(h:LB N L rs)(p:rs'.Perm rs):LB N L rs':=⟨h.1.perm p,λr m h1 h2 G=>let⟨b,hb,q⟩:=h.2 r m h1 h2 G;⟨b,p.mem_iff.mpr hb,q⟩⟩
def DP.least{bs us:List Nat}(h:DP N L bs us)(hl:bs.length=N.aB.length):LB N L bs:=by
 have I:Base N bs:=⟨hl,h.ring,h.ind⟩;refine⟨I,λr m hr G O=>?_⟩
 obtain⟨z,hz,rfl⟩:=I.span hr.2.1 G;rw[nv]at O;obtain⟨i,hi,h1⟩:=yR O;have h1:=Sv.mp h1;obtain⟨_,_,hb⟩:=h.at hi;exact⟨_,iV hb,h1.2,h.parts hr G i hi h1.1⟩
structure Wt(N:Net)(bs ws cs:List Nat):Prop where
 lens:ws.length=cs.length
 sum:bs.length+ws.length=N.aB.length
 ch:∀c∈cs,c<N.n/\N.jT c=false
 lt:∀w∈ws,w<2^N.n
 bits:∀w∈ws,∀k,w.testBit k=true->N.jT k=false
 own:∀(i j w c:Nat),ws[i]?=some w->cs[j]?=some c->w.testBit c=decide (i=j)
 ie:∀w∈ws,∀b∈bs,N.par b w=false
def Wt.odd{bs ws cs:List Nat}{w:Nat}(h:Wt N bs (w::ws) cs):∃r,N.Ring r/\r<2^N.n/\N.par r w=true:=by
 have O:=h.lens
 match cs,O,h with
 | c::cs,O,h =>
   obtain⟨G,I⟩:=h.ch c aam;refine⟨N.ring c,rK G I,lJ G,?_⟩;have e:N.par (N.ring c) w=((N.ring c).testBit c&&w.testBit c):=qB (f:=λk=>(N.ring c).testBit k&&w.testBit k) G λk hk ne=>by
    cases hw:w.testBit k with
    | false=>exact abE _
    | true =>
      have:=gp I (h.bits w aam k hw);rw[this,dO (λz=>ne z.symm)]
      rfl
   rw[e,qi I,h.own 0 0 w c rfl rfl];rfl
def Wt.next{bs ws cs:List Nat}{w b:Nat}(h:Wt N bs (w::ws) cs)(ho:N.par b w=true):∃c G,cs=c::G/\Wt N (bs++[b]) (ws.map λv=>if N.par b v=true then v^^^w else v) G:=by
 have U:=h.lens
 match cs,U,h with
 | c::cs,U,h =>
   refine⟨c,cs,rfl,?_⟩;have hw:=h.lt w aam;have I:∀v∈ws,v∈w::ws:=λv z=>jt _ z
   refine⟨by rw[aaa];simpa using U,?_,λd hd=>h.ch d (jt _ hd),λY O=>?_,λY O k hk=>?_,λi j Y d h1 h2=>?_,λY O b' Z=>?_⟩
   ·have:=h.sum;rw[aa1]at this;rw[aao,abb,aaa]
    lia
   ·obtain⟨v,m,rfl⟩:=aaz.mp O
    split
    ·exact aaJ (h.lt v (I v m)) hw
    ·exact h.lt v (I v m)
   ·obtain⟨v,m,rfl⟩:=aaz.mp O
    split at hk
    ·rw[aag]at hk;cases h1:v.testBit k with
     | true=>exact h.bits v (I v m) k h1
     | false =>
       rw[h1,abK]at hk;exact h.bits w aam k hk
    ·exact h.bits v (I v m) k hk
   ·rw[aai]at h1;obtain⟨v,O6,rfl⟩:=tD.mp h1;have e1:=h.own (i+1) (j+1) v d (by simpa using O6) (by simpa using h2)
    have e2:=h.own 0 (j+1) w d rfl (by simpa using h2)
    have e3:decide (i+1=j+1)=decide (i=j):=aaS.mpr (by lia)
    rw[e3]at e1
    split
    ·rw[aag,e1,e2];simp
    ·exact e1
   ·obtain⟨v,m,rfl⟩:=aaz.mp O;rcases aaw.mp Z with z|z
    ·have z1:=h.ie v (I v m) b' z;have z2:=h.ie w aam b' z
     split
     ·rw[wg,z1,z2];rfl
     ·exact z1
    ·rw[aat.mp z]
     split
     ·rename_i hp
      rw[wg,hp,ho];rfl
     ·rename_i hp
      cases hq:N.par b v with
      | false=>rfl
      | true=>exact absurd hq hp
def Wt.start(nd:N.aB.Nodup):Wt N [] (N.aB.map λc=>2^c) N.aB:=by
 refine⟨aaa ..,by rw[aaa];simp,λc hc=>bh.mp hc,λw hw=>?_,λw hw k hk=>?_,λi j w c h1 h2=>?_,λw _ b hb=>by cases hb⟩
 ·obtain⟨c,hc,rfl⟩:=aaz.mp hw;exact abL (by decide) (bh.mp hc).1
 ·obtain⟨c,hc,rfl⟩:=aaz.mp hw;rw[aar]at hk;rw[<-jR hk];exact(bh.mp hc).2
 ·rw[aai]at h1;obtain⟨d,hd,rfl⟩:=tD.mp h1;rw[aar];refine aaS.mpr ⟨λz=>?_,λz=>?_⟩
  ·subst z;obtain⟨a1,a2⟩:=ju.mp hd;obtain⟨b1,b2⟩:=ju.mp h2;exact(ac4 nd).mp (a2.trans b2.symm)
  ·subst z;rw[hd]at h2;exact Option.some.inj h2
inductive Ri(N:Net)(L:Nat->Int)(VU:List Nat):List Nat->List Nat->Prop
 | start:Ri N L VU [] VU
 | step {bs ws:List Nat} {w e:Nat} {z:Int} (h:Ri N L VU bs (w::ws)) (lo:Lo N L w z e):Ri N L VU (bs++[e]) (ws.map λv=>if N.par e v=true then v^^^w else v)
end
def gO(B:List Nat):Nat->List Row3
 | 0=>[]
 | i+1=>if(cT (gO B i) (B.getD i 0) 0).1=0 then gO B i else xx (gO B i) ((cT (gO B i) (B.getD i 0) 0).1.log2,(cT (gO B i) (B.getD i 0) 0).1,(cT (gO B i) (B.getD i 0) 0).2^^^2^i)
def En{B:List Nat}{i b:Nat}{rows:List Row3}(e:rows=gO B i)(hb:B[i]?=some b)(h:(cT rows b 0).1≠0):xx rows ((cT rows b 0).1.log2,(cT rows b 0).1,(cT rows b 0).2^^^2^i)=gO B (i+1):=by
 subst e;have G:B.getD i 0=b:=by rw[aae,hb];rfl
 show _=if _ then _ else _
 rw[G,aab h]
def B5{B:List Nat}{i b:Nat}{rows:List Row3}(e:rows=gO B i)(hb:B[i]?=some b)(h:(cT rows b 0).1=0):rows=gO B (i+1):=by
 subst e;have G:B.getD i 0=b:=by rw[aae,hb];rfl
 show _=if _ then _ else _
 rw[G,aac h]
def OB(B:List Nat):∃rows,Rw B rows:=by
 suffices h:∀i,∃rows,Rw (B.take i) rows by
  obtain⟨rows,hr⟩:=h B.length;rw[aaM]at hr;exact⟨rows,hr⟩
 intro i
 induction i with
 | zero=>exact⟨[],by rw[List.take_zero];exact .start⟩
 | succ i G =>
   obtain⟨rows,hr⟩:=G;cases hb:B[i]? with
   | none=>exact⟨rows,by rw[aaW,hb,Option.toList_none,aby];exact hr⟩
   | some b =>
     rw[aaW,hb,Option.toList_some]
     by_cases h0:(cT rows b 0).1=0
     ·exact⟨_,hr.skip ((hr.nZ b 0).mp h0)⟩
     ·exact⟨_,hr.put h0⟩
section
variable {N:Net}{L:Nat->Int}
def LB.parts{rs:List Nat}(h:LB N L rs){r:Nat}(hr:N.Ring r)(G:r<2^N.n):Sp (rs.filter λb=>decide (len N L b<=len N L r)) r:=by
 obtain⟨z,hz,rfl⟩:=h.1.span hr.2.1 G;obtain⟨rows,hw⟩:=OB rs;have key:∀i b,rs[i]?=some b->z.testBit i=true->len N L b<=len N L (comb rs z):=λi b hb hi=>by
  have mk:∀j c,rs[j]?=some c->N.par c (Ring.orM (cM rows i))=decide (i=j):=λj c hc=>(hw.marks h.1.ind (λb hb=>(h.1.ring b hb).2) hc).1
  have U:=(ju.mp hb).1;have e:N.par (comb rs z) (Ring.orM (cM rows i))=true:=by
   rw[nv,qB U λk hk I=>?_]
   ·rw[hi,abo,aae,hb];show N.par b _=true;rw[mk i b hb];exact cD rfl
   ·have hc:rs[k]?=some rs[k]:=aad hk;rw[aae,hc];show(_&&N.par rs[k] _)=false;rw[mk k _ hc,dO (λz=>I z.symm),abE]
  obtain⟨c,hc,h1,h2⟩:=h.2 _ _ hr G e;obtain⟨j,hj⟩:=aaI hc;rw[mk j c hj]at h1;have h1:=jR h1;subst h1;rw[hb]at hj;rw[Option.some.inj hj];exact h2
 generalize hx:len N L (comb rs z)=x at key ⊢;clear hx hr G hw h
 suffices hh:∀i,Sp (rs.filter λb=>decide (len N L b<=x)) (comb (rs.take i) z) by
  have:=hh rs.length
  rwa [aaM]at this
 intro i
 induction i with
 | zero=>rw[List.take_zero];exact .zero
 | succ i O =>
   cases hb:rs[i]? with
   | none=>rw[aaW,hb,Option.toList_none,aby];exact O
   | some b =>
     rw[aaW,hb,Option.toList_some,ik];have G:(rs.take i).length=i:=List.length_take_of_le (aaO (ju.mp hb).1);rw[G]
     split
     ·rename_i hi
      exact O.xor (.mem (aas.mpr ⟨iV hb,cD (key i b hb hi)⟩))
     ·rw[abp];exact O
end
section
variable {N:Net}
def OD(m t:Nat):∀{n:Nat},t<n->m.testBit t=true->cnt (λk=>m.testBit k && !decide (k=t)) n+1=cnt (λk=>m.testBit k) n:=by
 intro n
 induction n with
 | zero=>exact λh=>absurd h (abg _)
 | succ n G =>
   intro h hb;show cnt _ n+(if(m.testBit n && !decide (n=t))=true then 1 else 0)+1=cnt _ n+(if m.testBit n=true then 1 else 0)
   by_cases e:n=t
   ·subst e;rw[hb,cD rfl];have:cnt (λk=>m.testBit k && !decide (k=n)) n=cnt (λk=>m.testBit k) n:=fh λk hk=>by rw[dO (by lia),Bool.not_false,acC]
    rw[this];rfl
   ·have:=G (by lia) hb
    rw[dO e,Bool.not_false,acC]
    lia
def Eo{m:Nat}(hm:m<2^N.n)(r:N.Ring m):cnt (λk=>m.testBit k) N.n+N.aB.length<=N.n+1:=by
 obtain⟨t,ht⟩:∃t,m.testBit t=true:=by
  apply aaC;intro hn;exact r.1 (aaG λk=>by
   rw[abm];cases h:m.testBit k with
   | false=>rfl
   | true=>exact absurd ⟨k,h⟩ hn)
 have I:=b8 hm ht;have h:=Oh (N:=N) (ks:=(List.range N.n).filter λk=>!(m.testBit k && !decide (k=t))) λq O ev hz=>by
  have sub:∀k,q.testBit k=true->m.testBit k=true/\k≠t:=λk hk=>by
   have G:=b8 O hk;apply aaC;intro hn;have:=hz k (aas.mpr ⟨aaA.mpr G,by
    cases h1:m.testBit k with
    | false=>rfl
    | true =>
      by_cases e:k=t
      ·rw[cD e];rfl
      ·exact absurd ⟨h1,e⟩ hn⟩)
   rw[this]at hk;cases hk
  rcases r.2.2 q (λk hk=>(sub k hk).1) ev with e|e
  ·exact e
  ·exact absurd rfl (sub t (by rw[e];exact ht)).2
 rw[ia]at h;have h1:=jY (λk=>m.testBit k && !decide (k=t)) N.n
 have h2:=OD m t I ht
 lia
def B6:Nat->Nat->Nat
 | 0,_=>0
 | n+1,z=>z%2+B6 n (z/2)
def wk{m:Nat}:∀cs:List Nat,B6 cs.length (code m cs)=(cs.filter λc=>m.testBit c).length
 | []=>rfl
 | c::cs=>by
   have O:=wk (m:=m) cs;unfold code;show((if m.testBit c=true then 1 else 0)+2*code m cs)%2+B6 cs.length (((if m.testBit c=true then 1 else 0)+2*code m cs)/2)=_
   cases h:m.testBit c with
   | true =>
     rw[aac rfl,aaR,aac h,aa1,<-O];have G:(1+2*code m cs)%2=1:=by lia
     have I:(1+2*code m cs)/2=code m cs:=by lia
     rw[G,I,Nat.add_comm]
   | false =>
     rw[aab aan,aaR,aab (by rw[h];decide),<-O]
     have G:(0+2*code m cs)%2=0:=by lia
     have I:(0+2*code m cs)/2=code m cs:=by lia
     rw[G,I,acK]
def HN{r f:Nat}(h:r+f<=9)(hr:7<=r):((List.range (2^r)).filter λz=>decide (B6 r z<=f+1)&&decide (z≠0)).length<64:=by
 have h1:r=7\/r=8\/r=9:=by lia
 rcases h1 with rfl|rfl|rfl
 ·have hf:f=0\/f=1\/f=2:=by lia
  rcases hf with rfl|rfl|rfl<;>decide +kernel
 ·have hf:f=0\/f=1:=by lia
  rcases hf with rfl|rfl<;>decide +kernel
 ·have hf:f=0:=by lia
  rcases hf with rfl
  decide +kernel
def LU(hn:N.n<=9){l:List Nat}(nd:l.Nodup)(h:∀m∈l,m<2^N.n/\N.Ring m):l.length<64:=by
 by_cases Y:N.aB.length<=6
 ·exact aap (Hs nd h) (abf (n:=2) (by decide) Y)
 have cl:N.aB.length<=N.n:=by
  have h1:N.aB.length<=(List.range N.n).length:=aaP ..
  rwa [aav]at h1
 have inj:∀m q,m<2^N.n->q<2^N.n->N.bL m->N.bL q->code m N.aB=code q N.aB->m=q:=λm q hm Z em eq e=>kY hm Z em eq λc hc hf=>code_inj e c (bh.mpr ⟨hc,hf⟩)
 have Xu:(l.map λm=>code m N.aB).Nodup:=by
  refine List.Pairwise.map _ (λa b (G:a≠b/\a∈l/\b∈l)=>?_) ?_ (R:=λa b=>a≠b/\a∈l/\b∈l)
  ·obtain⟨h1,h2⟩:=h a G.2.1;obtain⟨O,U⟩:=h b G.2.2;exact λe=>G.1 (inj a b h1 O h2.2.1 U.2.1 e)
  ·exact abw (λ{a b} ha hb I=>⟨I,ha,hb⟩) nd
 have z0:∀cs,code 0 cs=0:=λcs=>by
  induction cs with
  | nil=>rfl
  | cons c cs ih =>
    unfold code;rw[abm,ih,aab aan]
 have:=rG (L:=(List.range (2^N.aB.length)).filter λz=>decide (B6 N.aB.length z<=(N.n-N.aB.length)+1)&&decide (z≠0)) Xu λx hx=>by
  obtain⟨m,hm,rfl⟩:=aaz.mp hx;obtain⟨h1,h2⟩:=h m hm;refine aas.mpr ⟨aaA.mpr (zA _ _),Sv.mpr ⟨cD ?_,cD λe=>h2.1 (inj m 0 h1 (aa2 _) h2.2.1 bL.zero (by rw[e,z0]))⟩⟩
  rw[wk];have O:=Eo h1 h2;have U:(N.aB.filter λc=>m.testBit c).length<=cnt (λk=>m.testBit k) N.n:=by
   unfold Net.aB;rw[List.filter_filter,ia];exact pD λk _ h=>(Sv.mp h).1
  lia
 rw[aaa]at this;exact ab5 this (HN (by lia) (by lia))
end
inductive AK:List Nat->List Nat->Prop
 | nil:AK [] []
 | skip {B C:List Nat} {b:Nat} (h:AK B C) (hs:Sp B b):AK (B++[b]) C
 | put {B C:List Nat} {b:Nat} (h:AK B C) (hs : ¬ Sp B b):AK (B++[b]) (C++[b])
def AK.sub{B C:List Nat}(h:AK B C):C.Sublist B:=by
 induction h with
 | nil=>exact .slnil
 | skip h hs ih=>exact ih.trans (List.sublist_append_left _ _)
 | put h hs ih=>exact List.Sublist.append ih (List.Sublist.refl _)
def AK.sp{B C:List Nat}(h:AK B C):∀x,Sp C x↔Sp B x:=by
 induction h with
 | nil=>exact λ_=>Iff.rfl
 | skip h hs ih =>
   intro x;rw[ih];refine⟨λz=>z.mono λc hc=>.mem (C7 _ hc),λz=>z.mono λc hc=>?_⟩
   rcases aaw.mp hc with hc|hc
   ·exact .mem hc
   ·rw[aat.mp hc];exact hs
 | put h hs ih =>
   intro x;refine⟨λz=>z.mono λc hc=>?_,λz=>z.mono λc hc=>?_⟩
   ·rcases aaw.mp hc with hc|hc
    ·exact((ih c).mp (.mem hc)).mono λd hd=>.mem (C7 _ hd)
    ·exact .mem (iO _ hc)
   ·rcases aaw.mp hc with hc|hc
    ·exact((ih c).mpr (.mem hc)).mono λd hd=>.mem (C7 _ hd)
    ·exact .mem (iO _ hc)
def AK.ind{B C:List Nat}(h:AK B C):Dh C:=by
 induction h with
 | nil=>exact(Og _).mpr λi b hb=>by simp at hb
 | skip h hs ih=>exact ih
 | put h hs ih=>exact nj.mpr ⟨ih,λz=>hs ((h.sp _).mp z)⟩
def AK.parts{f:Nat->Int}{B C:List Nat}(h:AK B C):B.Pairwise (λx y=>f x<=f y)->∀b∈B,Sp (C.filter λc=>decide (f c<=f b)) b:=by
 have all:∀{B C:List Nat} {b:Nat},AK B C->(∀c∈B,f c<=f b)->C.filter (λc=>decide (f c<=f b))=C:=λ{B C b} h hb=>by
  refine adt.mpr λc hc=>cD (hb c (h.sub.mem hc))
 induction h with
 | nil=>exact λ_ b hb=>by cases hb
 | @skip B C b h hs ih =>
   intro G x hx;obtain⟨p1,_,p2⟩:=List.pairwise_append.mp G;rcases aaw.mp hx with hx|hx
   ·exact ih p1 x hx
   ·rw[aat.mp hx,all h λc hc=>p2 c hc b (by simp)]
    exact(h.sp _).mpr hs
 | @put B C b h hs ih =>
   intro G x hx;obtain⟨p1,_,p2⟩:=List.pairwise_append.mp G;rcases aaw.mp hx with hx|hx
   ·refine(ih p1 x hx).mono λc hc=>.mem ?_
    rw[abV];exact C7 _ hc
   ·rw[aat.mp hx];refine .mem (aas.mpr ⟨iO _ (by simp),cD (abI _)⟩)
section
variable {N:Net}
def AK.base{l C:List Nat}(h:AK l C)(hl:∀r,r∈l↔r<2^N.n/\N.Ring r):Base N C:=by
 have hc:∀c∈C,N.Ring c/\c<2^N.n:=λc hc=>((hl c).mp (h.sub.mem hc)).symm
 refine⟨Nat.le_antisymm (Lf h.ind λb hb=>⟨(hc b hb).1.2.1,(hc b hb).2⟩) ?_,hc,h.ind⟩
 have hs:∀z,∃y,y<2^C.length/\comb C y=N.fM z N.aB 0:=λz=>by
  refine uI ((h.sp _).mpr ?_);have ev:=lN (N:=N) (z:=z);rw[<-Hx ev.2 ev.1];have go:∀ks:List Nat,(∀k∈ks,k<N.n/\N.jT k=false)->Sp l (Ring.xorL (ks.map N.ring)):=λks=>by
   induction ks with
   | nil=>exact λ_=>.zero
   | cons k ks G =>
     intro hk;rw[aaN,Ring.xorL_cons,acN];have h1:=hk k aam;refine(G λj hj=>hk j (jt _ hj)).xor (.mem ((hl _).mpr ⟨?_,rK h1.1 h1.2⟩))
     exact cI λj hj=>by
      rcases kX hj with z|z
      ·rw[z];exact h1.1
      ·exact z.1
  exact go _ λk hk=>bh.mp (aas.mp hk).1
 refine zF (f:=λz=>Classical.choose (hs z)) (λz _=>(adg (hs z)).1) λz y hz I e=>?_
 have e:Classical.choose (hs z)=Classical.choose (hs y):=e;have O:N.fM z N.aB 0=N.fM y N.aB 0:=by rw[<-(adg (hs z)).2,<-(adg (hs y)).2,e]
 rcases Nat.lt_trichotomy z y with h|h|h
 ·have:=Gd h I;lia
 ·exact h
 ·have:=Gd h hz;lia
end
end RM
namespace L2
open PySem
def eX{lo:Int}{n:Nat}{g:TG}{tb:TS}{D:Ends}{σ:St}{H:Hp}(Pv:Nat->St->Hp->Prop)(h0:Pv 0 σ H)
 (hs:∀i,let I : Ends:={ D with nx:=Pv (i+1),ct:=Pv (i+1),bk:=D.nx};∀σ H,i<n->Pv i σ H->g (.int (lo+i)) σ H λσ2 H2=>tb I σ2 H2) (hd:∀σ H,Pv n σ H->D.nx σ H) :
 ∃W:Nat->Nat->St->Hp->Prop,(∃m,W 0 m σ H)/\∀i m σ H,W i m σ H->
   ((Jt lo n).stop i H/\D.nx σ H)\/((Jt lo n).go i H/\∃N:St->Hp->Prop,(∀σ' H',N σ' H'->∃G,G<m/\W (i+1) G σ' H')/\∀x H',(Jt lo n).MU i H x H'->g x σ H' λσ2 H2=>tb { D with nx:=N,ct:=N,bk:=D.nx} σ2 H2) :=
 GH Pv h0 (λi σ H hi p=>hs i σ H hi p) hd
def eG{K:bN}{a:Addr}{xs:List V}{g:TG}{tb:TS}{D:Ends}{σ:St}{H:Hp}(Pv:Nat->St->Hp->Prop)(h0:Pv 0 σ H)(hl:∀i σ H,i<=xs.length->Pv i σ H->aM K H a xs)
 (hs:∀i x,let I : Ends:={ D with nx:=Pv (i+1),ct:=Pv (i+1),bk:=D.nx};∀σ H,xs[i]?=some x->Pv i σ H->g x σ H λσ2 H2=>tb I σ2 H2) (hd:∀σ H,Pv xs.length σ H->D.nx σ H) :
 ∃W:Nat->Nat->St->Hp->Prop,(∃m,W 0 m σ H)/\∀i m σ H,W i m σ H->
   ((Nj K a).stop i H/\D.nx σ H)\/((Nj K a).go i H/\∃N:St->Hp->Prop,(∀σ' H',N σ' H'->∃G,G<m/\W (i+1) G σ' H')/\∀x H',(Nj K a).MU i H x H'->g x σ H' λσ2 H2=>tb { D with nx:=N,ct:=N,bk:=D.nx} σ2 H2) :=
 uV Pv h0 hl (λi x σ H hi p=>hs i x σ H hi p) hd
def Ji{X:Cx}{e:Expr}{T:String}{r:V->List V->Hp->VK->Prop}{to:TE}{t:TA}(K:bN)(p:PE X e (WT X.K T r to t))(h:X.K=K:=by rfl):PE X e (WT K T r to t):=by subst h;exact p
def cg{K:bN}{H:Hp}{a:Addr}{xs:List V}{k:Int}{v:V}{R:V->Prop}(hs:aR K H a xs)(ha:Jc xs k=some v)(q:R v):∃p ys G w,V.ref a = .ref p/\V.int k = .int G/\aR K H p ys/\Jc ys G = some w/\R w:=⟨a,xs,k,v,rfl,rfl,hs,ha,q⟩
def jn{K:bN}{H:Hp}{a:Addr}{xs:List V}{k:Int}{v:V}{R:V->Prop}(hs:aM K H a xs)(ha:Jc xs k=some v)(q:R v):∃p ys G w,V.ref a = .ref p/\V.int k = .int G/\aM K H p ys/\Jc ys G = some w/\R w:=⟨a,xs,k,v,rfl,rfl,hs,ha,q⟩
def cj{i j:Int}{R:Int->Int->Prop}(h:R i j):∃G I,V.int i = .int G/\V.int j = .int I/\R G I:=⟨i,j,rfl,rfl,h⟩
def oM{K:bN}{H:Hp}{a:Addr}{xs:List V}{E:Addr->Prop}{R:List V->Prop}(e:E a)(h:aM K H a xs\/aR K H a xs)(q:R xs):∃p ys,E p/\(aM K H p ys\/aR K H p ys)/\R ys:=⟨a,xs,e,h,q⟩
def aq{α:Type}{A R:α->Prop}{x:α}(h:A x)(r:R x):∃x,A x/\R x:=⟨x,h,r⟩
open PySem PySem.Spec PyProof.Rows
section
variable {K:bN}{mg:mQ}{x:Str}{st:Stmt}{f c0 p0:Addr}{fd:FuncData}{ps:List Str}{h:Heap}
structure Dc(K:bN)(mg:mQ)(x:Str)(f:Addr)(fd:FuncData)(ps:List Str):Prop where
 m:mg x=some (.ref f)
 k:PySem.W.keepIn K (.ref f)=true
 b:Binds K fd ps []
structure Dk(K:bN)(x:Str)(st:Stmt)(f:Addr)(fd:FuncData):Prop where
 F:JM K x x st f fd
 n:PySem.W.nsIn K mainGlobals x=some (some (.ref f))
structure Rj(K:bN)(x:Str)(st:Stmt)(f:Addr)(fd:FuncData)(c0 p0:Addr):Prop where
 F:Eh K x x st f fd c0 p0
 n:PySem.W.nsIn K mainGlobals x=some (some (.ref f))
structure Dn(K:bN)(mg:mQ)(x:Str)(st:Stmt)(f:Addr)(fd:FuncData)(ps:List Str):Prop where
 F:JM K x x st f fd
 c:Dc K mg x f fd ps
structure PD(K:bN)(mg:mQ)(x:Str)(st:Stmt)(f:Addr)(fd:FuncData)(ps:List Str)(c0 p0:Addr):Prop where
 F:Eh K x x st f fd c0 p0
 c:Dc K mg x f fd ps
def dk{oc:Value}{od an:Option Addr}{osl:Array (Option Value)}{kV doc pm cdv ct:Value}(a:PySem.W.nsIn K mainGlobals x=some (some (.ref f)))
 (l:K.lookup f=some ⟨oc,od,.func (PySem.W.fnOf x x (eT st) (cE st) (aj st) .none kV doc pm an cdv ct),osl⟩) (c:PySem.W.codeIn K cdv x=true) (k:PySem.W.keepIn K (.ref f)=true) :
 Dk K x st f (PySem.W.fnOf x x (eT st) (cE st) (aj st) .none kV doc pm an cdv ct):=⟨JN l c k,a⟩
def dkL{oc:Value}{od an:Option Addr}{osl:Array (Option Value)}{kV doc pm ct:Value}(a:PySem.W.nsIn K mainGlobals x=some (some (.ref f)))
 (l:K.lookup f=some ⟨oc,od,.func (PySem.W.fnOf x x (eT st) (cE st) (aj st) .none kV doc pm an (.ref c0) ct),osl⟩) (c:PySem.W.codeIn K (.ref c0) x=true) (k:PySem.W.keepIn K (.ref f)=true) (d:PySem.W.codeHdIn K c0 p0=true) :
 Rj K x st f (PySem.W.fnOf x x (eT st) (cE st) (aj st) .none kV doc pm an (.ref c0) ct) c0 p0:=⟨Ow l c k d,a⟩
structure Ng(K:bN)(x:Str):Prop where
 n:PySem.W.nsIn K mainGlobals x=some none
def Bn(x:Str)(st:Stmt)(ps:List Str)(us:List Value):Prop:=∀(kV doc pm:Value) (an:Option Addr) (cdv ct:Value),bindArgs (PySem.W.fnOf x x (eT st) (cE st) (aj st) .none kV doc pm an cdv ct) ⟨us,[]⟩=pure (ps.zip us)
def PF(h:∀us:List Value,us.length=ps.length->Bn x st ps us)(kV doc pm:Value)(an:Option Addr)(cdv ct:Value)(us:List Value)(hl:us.length=ps.length):
 bindArgs (PySem.W.fnOf x x (eT st) (cE st) (aj st) .none kV doc pm an cdv ct) ⟨us,[]⟩=pure (ps.zip us):=h us hl kV doc pm an cdv ct
def Dk.dn(X:K.In h)(G:h.Ns mainGlobals mg)(D:Dk K x st f fd)(hb:∀us:List Value,us.length=ps.length->Bn x st ps us):Dn K mg x st f fd ps:=⟨D.F,PySem.W.mg_of X G D.n,D.F.kp,D.F.binds (PF hb)⟩
def Rj.dn(X:K.In h)(G:h.Ns mainGlobals mg)(D:Rj K x st f fd c0 p0)(hb:∀us:List Value,us.length=ps.length->Bn x st ps us):PD K mg x st f fd ps c0 p0:=⟨D.F,PySem.W.mg_of X G D.n,D.F.kp,D.F.binds (PF hb)⟩
def bn1{y:Str}(h:∀a,Bn x st [y] [a])(us:List Value)(hl:us.length=[y].length):Bn x st [y] us:=by obtain⟨_,rfl⟩:=Xe us hl;exact h _
def Zs{y z:Str}(h:∀a b,Bn x st [y,z] [a,b])(us:List Value)(hl:us.length=[y,z].length):Bn x st [y,z] us:=by obtain⟨_,_,rfl⟩:=Xf us hl;exact h _ _
def Zt{y z u:Str}(h:∀a b c,Bn x st [y,z,u] [a,b,c])(us:List Value)(hl:us.length=[y,z,u].length):Bn x st [y,z,u] us:=by obtain⟨_,_,_,rfl⟩:=T3 us hl;exact h _ _ _
def Ep{y:Str}(X:K.In h)(G:h.Ns mainGlobals mg)(D:Dk K x st f fd)(e:∀a,Bn x st [y] [a]:=by intros;exact λ_ _ _ _ _ _=>rfl):Dn K mg x st f fd [y]:=D.dn X G (bn1 e)
def mU{y z:Str}(X:K.In h)(G:h.Ns mainGlobals mg)(D:Dk K x st f fd)(e:∀a b,Bn x st [y,z] [a,b]:=by intros;exact λ_ _ _ _ _ _=>rfl):Dn K mg x st f fd [y,z]:=D.dn X G (Zs e)
def Rk{y z u:Str}(X:K.In h)(G:h.Ns mainGlobals mg)(D:Dk K x st f fd)(e:∀a b c,Bn x st [y,z,u] [a,b,c]:=by intros;exact λ_ _ _ _ _ _=>rfl):Dn K mg x st f fd [y,z,u]:=D.dn X G (Zt e)
def dl2{y z:Str}(X:K.In h)(G:h.Ns mainGlobals mg)(D:Rj K x st f fd c0 p0)(e:∀a b,Bn x st [y,z] [a,b]:=by intros;exact λ_ _ _ _ _ _=>rfl):PD K mg x st f fd [y,z] c0 p0:=D.dn X G (Zs e)
def dl3{y z u:Str}(X:K.In h)(G:h.Ns mainGlobals mg)(D:Rj K x st f fd c0 p0)(e:∀a b c,Bn x st [y,z,u] [a,b,c]:=by intros;exact λ_ _ _ _ _ _=>rfl):PD K mg x st f fd [y,z,u] c0 p0:=D.dn X G (Zt e)
def Dn.ok{P:Program}{w:World}{base:Heap}{N:List Str}{k:Nat}{sp:Sp}(D:Dn K mg x st f fd ps)(S:aE N ps (aj st))
 (hbody:∀(cdv:Value) (A:Around) (outer:List Env) (s:Shared) (H:Hp) (vs:List V) (Q:VK) (E:XK),eN k (A.deeper (envOfC x (aj st) s.heap.objs.size f cdv))->sp vs H Q E->
  ∃t,uw (tU De P w K mg base N x (aj st) f cdv A outer s H E).Dd (cE st) t/\t { nx:=λ_ H'=>Q .eE H',rt:=Q} (start N vs) H)
 (len:∀vs H Q E,sp vs H Q E->vs.length=ps.length:=by
  intro vs H Q E h
  first
  | (obtain⟨_,rfl,_⟩:=h;rfl)
  | (obtain⟨_,_,rfl,_⟩:=h;rfl)
  | (obtain⟨_,_,_,rfl,_⟩:=h;rfl)
  | (obtain⟨_,_,_,_,rfl,_⟩:=h;rfl)
  | (obtain⟨_,_,_,_,_,rfl,_⟩:=h;rfl)
  | (obtain⟨_,_,_,_,_,_,rfl,_⟩:=h;rfl)
  | (obtain⟨_,_,_,_,_,_,_,rfl,_⟩:=h;rfl)
  | (obtain⟨_,_,_,_,_,_,_,_,rfl,_⟩:=h;rfl)
  | (obtain⟨_,_,_,_,_,_,_,_,_,rfl,_⟩:=h;rfl)):lE P w K mg base De (k+1) f fd ps sp:=D.F.ok S len hbody
def PD.ok{P:Program}{w:World}{base:Heap}{N:List Str}{k:Nat}{sp:Sp}(D:PD K mg x st f fd ps c0 p0)(S:aE N ps (aj st))
 (hbody:∀(A:Around) (outer:List Env) (s:Shared) (H:Hp) (vs:List V) (Q:VK) (E:XK),eN k (A.deeper (envOfC x (aj st) s.heap.objs.size f (.ref c0)))->sp vs H Q E->
  ∃t,uw (tU De P w K mg base N x (aj st) f (.ref c0) A outer s H E).Dd (cE st) t/\t { nx:=λ_ H'=>Q .eE H',rt:=Q} (start N vs) H)
 (len:∀vs H Q E,sp vs H Q E->vs.length=ps.length:=by
  intro vs H Q E h
  first
  | (obtain⟨_,rfl,_⟩:=h;rfl)
  | (obtain⟨_,_,rfl,_⟩:=h;rfl)
  | (obtain⟨_,_,_,rfl,_⟩:=h;rfl)
  | (obtain⟨_,_,_,_,rfl,_⟩:=h;rfl)
  | (obtain⟨_,_,_,_,_,rfl,_⟩:=h;rfl)
  | (obtain⟨_,_,_,_,_,_,rfl,_⟩:=h;rfl)
  | (obtain⟨_,_,_,_,_,_,_,rfl,_⟩:=h;rfl)
  | (obtain⟨_,_,_,_,_,_,_,_,rfl,_⟩:=h;rfl)
  | (obtain⟨_,_,_,_,_,_,_,_,_,rfl,_⟩:=h;rfl)):lE P w K mg base De (k+1) f fd ps sp:=D.F.ok S len hbody
def Dn.DI{P:Program}{w:World}{base:Heap}{N:List Str}{k:Nat}{sp:Sp}(D:Dn K mg x st f fd ps)(S:aE N ps (aj st))
 (hbody:∀(cdv:Value) (A:Around) (outer:List Env) (s:Shared) (H:Hp) (vs:List V) (Q:VK) (E:XK),eN k (A.deeper (envOfC x (aj st) s.heap.objs.size f cdv))->sp vs H Q E->
  ∃t,uw (tU (Df P w) P w K mg base N x (aj st) f cdv A outer s H E) (cE st) t/\t { nx:=λ_ H'=>Q .eE H',rt:=Q} (start N vs) H)
 (len:∀vs H Q E,sp vs H Q E->vs.length=ps.length:=by
  intro vs H Q E h
  first
  | (obtain⟨_,rfl,_⟩:=h;rfl)
  | (obtain⟨_,_,rfl,_⟩:=h;rfl)
  | (obtain⟨_,_,_,rfl,_⟩:=h;rfl)
  | (obtain⟨_,_,_,_,rfl,_⟩:=h;rfl)
  | (obtain⟨_,_,_,_,_,rfl,_⟩:=h;rfl)
  | (obtain⟨_,_,_,_,_,_,rfl,_⟩:=h;rfl)
  | (obtain⟨_,_,_,_,_,_,_,rfl,_⟩:=h;rfl)
  | (obtain⟨_,_,_,_,_,_,_,_,rfl,_⟩:=h;rfl)
  | (obtain⟨_,_,_,_,_,_,_,_,_,rfl,_⟩:=h;rfl)):lE P w K mg base (Df P w) (k+1) f fd ps sp:=D.F.DI S len hbody
def Rl{y:Str}(D:Dk K x st f fd)(e:∀a,Bn x st [y] [a]:=by intros;exact λ_ _ _ _ _ _=>rfl)(s:Shared)(v:Value):BindsTo s fd ⟨[v],[]⟩ [(y,v)]:=by
 obtain⟨oc,od,kV,doc,pm,an,cdv,ct,osl,rfl,I,G⟩:=D.F.ex;exact .of_eq (e v kV doc pm an cdv ct)
end
section
variable {X:Cx}
def aG{CX:Jb}{k r:Nat}{f:Addr}{fd:FuncData}{ps:List Str}{sp:Sp}{x:Str}{E:XK}{e:Expr}{es:List Expr}{t:TA}{p pos:Pos}
 (F:lE X.prog X.w X.K X.mg X.base CX k f fd ps sp) (hr:eN r X.A) (D:Dc X.K X.mg x f fd ps) (hx:Passes CX X E) (ha:PA X (e::es) t) (hk:k<=r:=by decide) (hg:Gl X x:=by rfl)
 (hdb:(x==("__debug__":Str))=false:=by decide) (he:starEach (e::es) X.env=(false,eval e X.env)::starEach es X.env:=by rfl) (hpl:(backTo pos (starEach es X.env)).any (·.1)=false:=by rfl) :
 PE X (.Call (.Name x p) (e::es) [] pos) (O4 sp [] E t):=Nq F (hr.mono hk) hg D.m D.k D.b .nil hx ha hdb he hpl
def jo(l:List Str)(h:l.Nodup:=by decide +kernel):l.Nodup:=h
def bW{p pos:Pos}{e:Expr}{es:List Expr}{t:TA}(K:bN)(hm:X.mg "len"=none)(ha:PA X (e::es) t)(hK:X.K=K:=by rfl)(hg:Gl X "len":=by rfl)
 (he:starEach (e::es) X.env=(false,eval e X.env)::starEach es X.env:=by rfl) (hpl:(backTo pos (starEach es X.env)).any (·.1)=false:=by rfl):PE X (.Call (.Name "len" p) (e::es) [] pos) (WN (TJ K) t) :=
 bI (WY K hK) hg hm PySem.boot_len ha (by decide) (by decide) he hpl
def aH{a b:Expr}{ta tb:TE}{pos:Pos}{r:R2}(hr:R1 X r)(ha:PE X a ta)(hb:PE X b tb)(hs:FA b:=by exact λ_ _=>rfl):PE X (.Subscript a b pos) (SY r ta tb):=Td hr ha hb hs
def bq{x:Str}{pos:Pos}(i:Nat)(hN:X.N.Nodup)(hi:X.N[i]?=some x:=by exact rfl)(hx:Loc X.env.scope x:=by exact Or.inl rfl)(hf:X.fn x=true\/X.env.scope.names.lookup x=some .local:=by first | exact .inl rfl | exact .inr rfl | assumption):PG X (.Name x pos) (Js i):=ux hN hi hx hf
end
end L2
set_option maxHeartbeats 4000000
namespace K31
open PySem L2 Ring
local macro_rules | `(tactic| trivial)=>`(tactic| exact⟨rfl,rfl,rfl,by decide +kernel,rfl,by decide +kernel,by decide +kernel⟩)
def top(i:Nat):Stmt:=PySem.Challenge.pw_ringbase_k31_parts_of_even_sets.main.body.getD i (.Pass ⟨0,0,0,0⟩)
section
variable {gz gE iL kQ qT AL Gi M4 M5 Sb OE UC UD UE UG UH:TS}{i7 M6 R3 Zu:TT}{mW VV:TI}{mX VW:TG}{D:Ends}{σ:St}{H:Hp}
abbrev rS:Stmt:=top 8
def Er:aE ["tie_set","tie"] ["tie_set","tie"] (aj rS):=by trivial
abbrev om:Stmt:=top 9
def Es:aE ["tie_set"] ["tie_set"] (aj om):=by trivial
abbrev wm:Stmt:=top 10
def oq:aE ["web","ties","found","tie"] ["web","ties"] (aj wm):=by trivial
def yS(h:let G:=gz;let I:=gE;let O:=iL;let U:=(ay (bO i7 O aV) I);let Y:=(ay (dM mW mX U) G);(ay kQ Y) D σ H):(ay kQ (ay (dM mW mX (ay (bO i7 iL aV) gE)) gz)) D σ H:=h
abbrev pL:Stmt:=top 11
def B7:aE ["web"] ["web"] (aj pL):=by trivial
abbrev wq:Stmt:=top 12
def HP:aE ["web","number"] ["web","number"] (aj wq):=by trivial
abbrev ny:Stmt:=top 13
def zO:aE ["web","tie_set"] ["web","tie_set"] (aj ny):=by trivial
def zP(h:let G:=gz;(bO i7 G aV) D σ H):(bO i7 gz aV) D σ H:=h
abbrev je:Stmt:=top 14
def xy:aE ["web","tie_set"] ["web","tie_set"] (aj je):=by trivial
def fP(h:let G:=gz;(ay gE G) D σ H):(ay gE gz) D σ H:=h
abbrev kc:Stmt:=top 15
def zQ:aE ["web","tie_set"] ["web","tie_set"] (aj kc):=by trivial
abbrev jf:Stmt:=top 16
def fQ:aE ["web","tie_set","ends","one","other","length"] ["web","tie_set"] (aj jf):=by trivial
def xA(h:let G:=gz;let I:=gE;let O:=(ay iL I);let U:=(ay (dM mW mX O) G);(ay kQ U) D σ H):(ay kQ (ay (dM mW mX (ay iL gE)) gz)) D σ H:=h
abbrev fu:Stmt:=top 17
def gP:aE ["leasts","one","other","low","high"] ["leasts","one","other"] (aj fu):=by trivial
def gQ(h:let G:=gz;let I:=(ay gE G);(ay iL I) D σ H):(ay iL (ay gE gz)) D σ H:=h
abbrev qC:Stmt:=top 18
def gA:aE ["web","tie_set","leasts","one","other","length","found","start"] ["web","tie_set"] (aj qC):=by trivial
def HQ(h:let G:=gz;let I:=gE;let O:=(bO i7 I aV);let U:=(ay (dM mW mX O) G);let Y:=(ay iL U);let Z:=kQ;let tP:=(ay (dM VV VW Z) Y);(ay qT tP) D σ H):(ay qT (ay (dM VV VW kQ) (ay iL (ay (dM mW mX (bO i7 gE aV)) gz)))) D σ H:=h
abbrev Et:Stmt:=top 19
def OF:aE ["web"] ["web"] (aj Et):=by trivial
abbrev rT:Stmt:=top 21
def Eu:aE ["web","tie_set"] ["web","tie_set"] (aj rT):=by trivial
abbrev lP:Stmt:=top 22
def oX:aE ["web","tie_set","odd"] ["web","tie_set"] (aj lP):=by trivial
def xB(h:let G:=gz;let I:=(bO i7 G aV);(ay gE I) D σ H):(ay gE (bO i7 gz aV)) D σ H:=h
abbrev fX:Stmt:=top 23
def bx:aE ["web","leasts","trails","tie","one","other","bridge","moved"] ["web"] (aj fX):=by trivial
def rV(h:let G:=gz;let I:=gE;let O:=(ay iL I);let U:=(ay kQ O);let Y:=(ay qT U);let Z:=(bO i7 Y aV);let tP:=(ay AL Z);let yT:=(ay Gi tP);let Gj:=(ay (dM mW mX yT) G);let Gk:=(ay M4 Gj);(ay M5 Gk) D σ H):(ay M5 (ay M4 (ay (dM mW mX (ay Gi (ay AL (bO i7 (ay qT (ay kQ (ay iL gE))) aV)))) gz))) D σ H:=h
abbrev wu:Stmt:=top 24
def ou:aE ["web","found","trail"] ["web"] (aj wu):=by trivial
def HR(h:let G:=gz;let I:=gE;let O:=(ay (dM mW mX I) G);(ay iL O) D σ H):(ay iL (ay (dM mW mX gE) gz)) D σ H:=h
abbrev wA:Stmt:=top 25
def HS:aE ["web"] ["web"] (aj wA):=by trivial
abbrev kE:Stmt:=top 26
def nB:aE ["web","trails","chord","tie"] ["web","trails","chord"] (aj kE):=by trivial
abbrev lQ:Stmt:=top 27
def xC:aE ["web","tie"] ["web","tie"] (aj lQ):=by trivial
def iM(h:let G:=gz;let I:=gE;(ay (bO i7 I aV) G) D σ H):(ay (bO i7 gE aV) gz) D σ H:=h
abbrev oz:Stmt:=top 29
def wB:aE ["web","tie_set","touched"] ["web","tie_set"] (aj oz):=by trivial
def Ew(h:let G:=gz;let I:=(ay gE G);let O:=iL;(ay (bO i7 O aV) I) D σ H):(ay (bO i7 iL aV) (ay gE gz)) D σ H:=h
abbrev iq:Stmt:=top 30
def qD:aE ["web","number"] ["web","number"] (aj iq):=by trivial
abbrev kg:Stmt:=top 31
def zR:aE ["web","rings"] ["web","rings"] (aj kg):=by trivial
def gR:Pos:=⟨104,29,104,70⟩
abbrev wC:Stmt:=top 33
def HU:aE ["one","other"] ["one","other"] (aj wC):=by trivial
abbrev kF:Stmt:=top 34
def wF:aE ["tie_set","marks"] ["tie_set","marks"] (aj kF):=by trivial
abbrev rW:Stmt:=top 35
def lR:aE ["web","side","ahead","point"] ["web","side"] (aj rW):=by trivial
abbrev qF:Stmt:=top 36
def HV:aE ["web","side"] ["web","side"] (aj qF):=by trivial
abbrev oA:Stmt:=top 37
def lS:aE ["web","tie_set","trails","side","amiss"] ["web","tie_set"] (aj oA):=by trivial
def Ex(h:let G:=gz;let I:=gE;let O:=(ay (bO i7 I aV) G);let U:=(ay iL O);let Y:=(ay kQ U);let Z:=(ay qT Y);(ay AL Z) D σ H):(ay AL (ay qT (ay kQ (ay iL (ay (bO i7 gE aV) gz))))) D σ H:=h
abbrev fB:Stmt:=top 39
def dz:aE ["web","marks","steps","tie","ends","turn"] ["web","marks"] (aj fB):=by trivial
def qG(h:let G:=gz;let I:=gE;let O:=(ay iL I);let U:=(ay kQ O);let Y:=(ay (dM mW mX U) G);(ay qT Y) D σ H):(ay qT (ay (dM mW mX (ay kQ (ay iL gE))) gz)) D σ H:=h
abbrev gU:Stmt:=top 40
def bK:aE ["web","marks","start","steps","found","waiting","nearest","way","tie","point","turn","part","further"] ["web","marks","start"] (aj gU):=by trivial
def xD(h:let G:=gz;let I:=gE;let O:=(bO M6 I aV);let U:=(ay iL O);let Y:=(ay kQ U);let Z:=(dM mW mX Y);let tP:=(ay qT Z);let yT:=(ay AL tP);let Gj:=(ay Gi yT);let Gk:=(ay (uU i7 Gj) G);let wG:=(ay M4 Gk);let zS:=(ay M5 wG);(ay Sb zS) D σ H):(ay Sb (ay M5 (ay M4 (ay (uU i7 (ay Gi (ay AL (ay qT (dM mW mX (ay kQ (ay iL (bO M6 gE aV)))))))) gz)))) D σ H:=h
def cB:Pos:=⟨142,35,142,63⟩
abbrev iZ:Stmt:=top 41
def rX:aE ["way"] ["way"] (aj iZ):=by trivial
abbrev fC:Stmt:=top 42
def qH:aE ["ways"] ["ways"] (aj fC):=by trivial
abbrev fD:Stmt:=top 44
def qI:aE ["web","marks"] ["web","marks"] (aj fD):=by trivial
abbrev fY:Stmt:=top 45
def rY:aE ["ways"] ["ways"] (aj fY):=by trivial
abbrev lT:Stmt:=top 46
def xE:aE ["web","marks"] ["web","marks"] (aj lT):=by trivial
abbrev kh:Stmt:=top 47
def lU:aE ["web","marks","ways","rounds"] ["web","marks"] (aj kh):=by trivial
def zT(h:let G:=gz;let I:=gE;let O:=(ay (bO i7 I aV) G);let U:=(ay iL O);let Y:=(ay kQ U);(ay qT Y) D σ H):(ay qT (ay kQ (ay iL (ay (bO i7 gE aV) gz)))) D σ H:=h
abbrev rZ:Stmt:=top 49
def eY:aE ["rows","tie_set","left","used","lead","row","places"] ["rows","tie_set"] (aj rZ):=by trivial
def Ey(h:let G:=gz;let I:=gE;let O:=(ay iL I);let U:=(bO i7 O aV);let Y:=(ay (dM mW mX U) G);let Z:=(ay kQ Y);(ay qT Z) D σ H):(ay qT (ay kQ (ay (dM mW mX (bO i7 (ay iL gE) aV)) gz))) D σ H:=h
abbrev pM:Stmt:=top 50
def nC:aE ["rows","added","found","old"] ["rows","added"] (aj pM):=by trivial
def B8(h:let G:=gz;let I:=gE;let O:=iL;let U:=(bO i7 I O);let Y:=(ay (dM mW mX U) G);(ay kQ Y) D σ H):(ay kQ (ay (dM mW mX (bO i7 gE iL)) gz)) D σ H:=h
abbrev r6:Stmt:=top 51
def ir:aE ["sets","rows","place","tie_set","rest"] ["sets"] (aj r6):=by trivial
def Ez(h:let G:=gz;let I:=gE;let O:=(bO i7 I aV);let U:=(ay iL O);let Y:=(ay (dM mW mX U) G);(ay kQ Y) D σ H):(ay kQ (ay (dM mW mX (ay iL (bO i7 gE aV))) gz)) D σ H:=h
abbrev oB:Stmt:=top 52
def EA:aE ["web","rings"] ["web","rings"] (aj oB):=by trivial
abbrev ki:Stmt:=top 53
def jg:aE ["web","rings","rows","found","place"] ["web","rings"] (aj ki):=by trivial
def zU(h:let G:=gz;let I:=gE;let O:=(ay (dM mW mX I) G);let U:=(ay iL O);let Y:=(ay kQ U);let Z:=qT;(ay (bO i7 Z aV) Y) D σ H):(ay (bO i7 qT aV) (ay kQ (ay iL (ay (dM mW mX gE) gz)))) D σ H:=h
abbrev fR:Stmt:=top 54
def dW:aE ["web","waiting","found","marks","ring"] ["web"] (aj fR):=by trivial
def wH(h:let G:=gz;let I:=gE;let O:=(ay iL I);let U:=(ay kQ O);let Y:=(ay qT U);let Z:=(ay (uU i7 Y) G);let tP:=(ay AL Z);(ay Gi tP) D σ H):(ay Gi (ay AL (ay (uU i7 (ay qT (ay kQ (ay iL gE)))) gz))) D σ H:=h
abbrev jh:Stmt:=top 55
def kG:aE ["web","rings","marks"] ["web"] (aj jh):=by trivial
abbrev lV:Stmt:=top 57
def B9:aE ["web","base","tie_set"] ["web","base","tie_set"] (aj lV):=by trivial
abbrev kH:Stmt:=top 59
def wI:aE ["script","k"] ["script","k"] (aj kH):=by trivial
abbrev nE:Stmt:=top 60
def lW:aE ["cell","k","near","stir"] ["cell","k"] (aj nE):=by trivial
abbrev lX:Stmt:=top 61
def xF:aE ["cell","way"] ["cell","way"] (aj lX):=by trivial
def xG(h:let G:=gz;let I:=gE;let O:=(ay (bO i7 I aV) G);let U:=iL;(ay (bO M6 U aV) O) D σ H):(ay (bO M6 iL aV) (ay (bO i7 gE aV) gz)) D σ H:=h
abbrev r9:Stmt:=top 62
def lY:aE ["cell","points","way","one","other"] ["cell","points","way"] (aj r9):=by trivial
def EB(h:let G:=gz;let I:=(ay gE G);let O:=(ay iL I);(ay kQ O) D σ H):(ay kQ (ay iL (ay gE gz))) D σ H:=h
abbrev iw:Stmt:=top 63
def bR:aE ["script","most","ranked","head","points","way","cells","ties","marks","free","cell","tie","joined","old"] ["script","most","ranked"] (aj iw):=by trivial
def EC(h:let G:=gz;let I:=gE;let O:=(ay iL I);let U:=(ay kQ O);let Y:=(ay qT U);let Z:=(bO i7 Y aV);let tP:=(ay AL Z);let yT:=(ay Gi tP);let Gj:=(ay (dM mW mX yT) G);let Gk:=(ay M4 Gj);let wG:=(ay M5 Gk);let zS:=(ay Sb wG);let LV:=OE;let LW:=(ay UC LV);let LX:=(ay (bO M6 LW aV) zS);let UI:=(ay UD LX);let UJ:=(ay UE UI);let UK:=(ay UG UJ);(ay UH UK) D σ H):(ay UH (ay UG (ay UE (ay UD (ay (bO M6 (ay UC OE) aV) (ay Sb (ay M5 (ay M4 (ay (dM mW mX (ay Gi (ay AL (bO i7 (ay qT (ay kQ (ay iL gE))) aV)))) gz))))))))) D σ H:=h
abbrev nF:Stmt:=top 64
def zV:aE ["found"] ["found"] (aj nF):=by trivial
abbrev lZ:Stmt:=top 65
def kI:aE ["web","some","counts","k"] ["web","some"] (aj lZ):=by trivial
def oY(h:let G:=gz;let I:=gE;let O:=(ay iL I);let U:=(bO i7 O aV);let Y:=(ay (dM mW mX U) G);(ay kQ Y) D σ H):(ay kQ (ay (dM mW mX (bO i7 (ay iL gE) aV)) gz)) D σ H:=h
abbrev gV:Stmt:=top 66
def fT:aE ["web","some","marks","k","old"] ["web","some"] (aj gV):=by trivial
abbrev l6:Stmt:=top 68
def Ca:aE ["web","some"] ["web","some"] (aj l6):=by trivial
abbrev jJ:Stmt:=top 69
def tQ:aE ["web","some","counts"] ["web","some"] (aj jJ):=by trivial
def Cb(h:let G:=gz;let I:=gE;let O:=(ay (bO i7 I aV) G);(ay iL O) D σ H):(ay iL (ay (bO i7 gE aV) gz)) D σ H:=h
abbrev l7:Stmt:=top 70
def Cc:aE ["web","some"] ["web","some"] (aj l7):=by trivial
abbrev nG:Stmt:=top 72
def l8:aE ["kept","some","one"] ["kept","some"] (aj nG):=by trivial
def zW(h:let G:=gz;let I:=(ay gE G);let O:=iL;let U:=(ay (bO i7 O aV) I);let Y:=kQ;(ay (dM mW mX Y) U) D σ H):(ay (dM mW mX kQ) (ay (bO i7 iL aV) (ay gE gz))) D σ H:=h
abbrev ji:Stmt:=top 73
def oZ:aE ["sets","kept"] ["sets"] (aj ji):=by trivial
abbrev cU:Stmt:=top 74
def bA:aE ["web","cell","pairs","some","rings","marks","told","k"] ["web","cell"] (aj cU):=by trivial
def qJ(h:let G:=gz;let I:=gE;let O:=(ay iL I);let U:=(ay (dM mW mX O) G);let Y:=(ay kQ U);let Z:=(ay qT Y);let tP:=(ay AL Z);let yT:=(ay Gi tP);let Gj:=M4;let Gk:=(bO i7 Gj aV);let wG:=(ay (dM VV VW Gk) yT);(ay M5 wG) D σ H):(ay M5 (ay (dM VV VW (bO i7 M4 aV)) (ay Gi (ay AL (ay qT (ay kQ (ay (dM mW mX (ay iL gE)) gz))))))) D σ H:=h
abbrev jK:Stmt:=top 75
def fZ:aE ["web","cell","some","k"] ["web","cell"] (aj jK):=by trivial
def t8(h:let G:=gz;let I:=gE;let O:=(bO i7 I aV);let U:=(ay (dM mW mX O) G);(ay iL U) D σ H):(ay iL (ay (dM mW mX (bO i7 gE aV)) gz)) D σ H:=h
abbrev kJ:Stmt:=top 76
def gW:aE ["web","base","some","caught","e"] ["web","base","some"] (aj kJ):=by trivial
def wJ(h:let G:=gz;let I:=gE;let O:=(ay (bO i7 I aV) G);let U:=iL;let Y:=(ay (bO M6 U aV) O);let Z:=kQ;let tP:=(ay (bO R3 Z aV) Y);let yT:=(ay qT tP);(ay AL yT) D σ H):(ay AL (ay qT (ay (bO R3 kQ aV) (ay (bO M6 iL aV) (ay (bO i7 gE aV) gz))))) D σ H:=h
abbrev eZ:Stmt:=top 77
def cN:aE ["web","base","cell","places","total","k","found","longer","spoilt","odd"] ["web","base","cell"] (aj eZ):=by trivial
def zX(h:let G:=gz;let I:=(ay gE G);let O:=(ay iL I);let U:=kQ;let Y:=(ay (bO i7 U aV) O);let Z:=qT;let tP:=(bO R3 Z aV);let yT:=(ay AL tP);let Gj:=(ay (bO M6 yT aV) Y);let Gk:=Gi;let wG:=(ay (bO Zu Gk aV) Gj);let zS:=(ay M4 wG);let LV:=M5;let LW:=(ay (dM mW mX LV) zS);let LX:=(ay Sb LW);(ay OE LX) D σ H):(ay OE (ay Sb (ay (dM mW mX M5) (ay M4 (ay (bO Zu Gi aV) (ay (bO M6 (ay AL (bO R3 qT aV)) aV) (ay (bO i7 kQ aV) (ay iL (ay gE gz))))))))) D σ H:=h
abbrev LY:Stmt:=top 78
def pN:aE ["script","web","base","head","other","cell","far"] ["script"] (aj LY):=by trivial
def Rm(h:let G:=gz;let I:=(ay gE G);let O:=iL;let U:=(bO i7 O aV);let Y:=(ay (dM mW mX U) I);let Z:=(ay kQ Y);let tP:=(ay qT Z);let yT:=(ay AL tP);(ay Gi yT) D σ H):(ay Gi (ay AL (ay qT (ay kQ (ay (dM mW mX (bO i7 iL aV)) (ay gE gz)))))) D σ H:=h
abbrev jL:Stmt:=inClass (top 6) 0
def ua:aE ["self","words","point"] ["self","words","point"] (aj jL):=by trivial
end
set_option genInjectivity false
set_option genSizeOf false
structure XR where
 HW:Addr
 HX:FuncData
 HY:Addr
 HZ:FuncData
 LZ:Addr
 L6:FuncData
 ED:Addr
 EF:FuncData
 L7:Addr
 L8:FuncData
 Cd:Addr
 Ce:FuncData
 zY:Addr
 zZ:FuncData
 Cf:Addr
 Cg:FuncData
 z7:Addr
 z9:FuncData
 se:Addr
 sj:FuncData
 Ma:Addr
 Mb:FuncData
 Rn:Addr
 Ro:FuncData
 Ia:Addr
 Ib:FuncData
 Aa:Addr
 Ab:FuncData
 uc:Addr
 ud:FuncData
 Mc:Addr
 Me:FuncData
 Mf:Addr
 Mg:FuncData
 xH:Addr
 xJ:FuncData
 Ac:Addr
 Ad:FuncData
 Ic:Addr
 Ie:FuncData
 sr:Addr
 su:FuncData
 Ci:Addr
 Cj:FuncData
 Mh:Addr
 Mi:FuncData
 xK:Addr
 xM:FuncData
 Ig:Addr
 Ih:FuncData
 Mj:Addr
 Mk:FuncData
 Ii:Addr
 Ij:FuncData
 sy:Addr
 sA:FuncData
 Ae:Addr
 Af:FuncData
 ue:Addr
 uf:FuncData
 sC:Addr
 sD:FuncData
 sE:Addr
 sF:FuncData
 ug:Addr
 uh:FuncData
 Ag:Addr
 Ah:FuncData
 Ck:Addr
 Cn:FuncData
 Ik:Addr
 Il:FuncData
 EG:Addr
 EH:FuncData
 Im:Addr
 Io:FuncData
 Ip:Addr
 Iq:FuncData
 Co:Addr
 Cp:FuncData
 xN:Addr
 xO:FuncData
 Ai:Addr
 Aj:FuncData
 EI:Addr
 EJ:FuncData
 xP:Addr
 xQ:FuncData
 Cq:Addr
 Cr:FuncData
 Ak:Addr
 Al:FuncData
 Ir:Addr
 Iu:FuncData
 Iv:Addr
 Iw:FuncData
 Cs:Addr
 Ct:FuncData
 Am:Addr
 An:FuncData
 Ao:Addr
 Aq:FuncData
 EK:Addr
 EL:FuncData
 EM:Addr
 EN:FuncData
 EO:Addr
 ER:FuncData
 Cu:Addr
 Cv:FuncData
 Ar:Addr
 As:FuncData
 sG:Addr
 sH:FuncData
 wK:Addr
 wL:FuncData
 xR:Addr
 xS:FuncData
 Cw:Addr
 Cy:FuncData
 UL:Addr
 UM:FuncData
 e7:Addr
 jM:FuncData
 e8:Addr
 aU:Addr
 pO:Addr
 k9:Addr
 nH:Addr
 aX:Addr
 Cz:Addr
 iS:Addr
 Au:Addr
 cO:Addr
structure Txt(P:Program)(w:World)(base:Heap)(K:bN)(mg:mQ)(a:XR):Prop where
 iy:Dn K mg "has_tie" rS a.HW a.HX ["tie_set","tie"]
 iz:Dn K mg "ties_in" om a.HY a.HZ ["tie_set"]
 qK:Dn K mg "set_of" wm a.LZ a.L6 ["web","ties"]
 jN:Dn K mg "all_ties" pL a.ED a.EF ["web"]
 qL:Dn K mg "is_set" wq a.L7 a.L8 ["web","number"]
 iT:Dn K mg "check_set" ny a.Cd a.Ce ["web","tie_set"]
 gX:Dn K mg "triples_in" je a.zY a.zZ ["web","tie_set"]
 nJ:Dn K mg "length_of" kc a.Cf a.Cg ["web","tie_set"]
 jj:Dn K mg "odd_points" jf a.z7 a.z9 ["web","tie_set"]
 fE:Dn K mg "drawn_together" fu a.se a.sj ["leasts","one","other"]
 qM:Dn K mg "pieces" qC a.Ma a.Mb ["web","tie_set"]
 ES:Dn K mg "rank" Et a.Rn a.Ro ["web"]
 sI:Dn K mg "is_even" rT a.Ia a.Ib ["web","tie_set"]
 l9:Dn K mg "check_even" lP a.Aa a.Ab ["web","tie_set"]
 eB:Dn K mg "forest_trails" fX a.uc a.ud ["web"]
 wM:Dn K mg "forest" wu a.Mc a.Me ["web"]
 qN:Dn K mg "chords" wA a.Mf a.Mg ["web"]
 kK:Dn K mg "ring_closed" kE a.xH a.xJ ["web","trails","chord"]
 mh:Dn K mg "chord_ring" lQ a.Ac a.Ad ["web","tie"]
 sJ:Dn K mg "is_ring" oz a.Ic a.Ie ["web","tie_set"]
 iA:Dn K mg "is_ring_number" iq a.sr a.su ["web","number"]
 kj:PD K mg "by_length" kg a.Ci a.Cj ["web","rings"] a.Cz a.iS
 wN:Dn K mg "common" wC a.Mh a.Mi ["one","other"]
 fU:Dn K mg "bears_oddly" kF a.xK a.xM ["tie_set","marks"]
 sL:Dn K mg "is_side" rW a.Ig a.Ih ["web","side"]
 wO:Dn K mg "cut_of" qF a.Mj a.Mk ["web","side"]
 sM:Dn K mg "side_of" oA a.Ii a.Ij ["web","tie_set"]
 iB:Dn K mg "steps_by_point" fB a.sy a.sA ["web","marks"]
 jk:PD K mg "least_ways" gU a.Ae a.Af ["web","marks","start"] a.Au a.cO
 gb:Dn K mg "length_of_way" iZ a.ue a.uf ["way"]
 iC:Dn K mg "worths_of_ways" fC a.sC a.sD ["ways"]
 fF:Dn K mg "all_least_ways" fD a.sE a.sF ["web","marks"]
 gf:Dn K mg "worths_of_all" fY a.ug a.uh ["ways"]
 mj:Dn K mg "worths_for" lT a.Ag a.Ah ["web","marks"]
 ko:Dn K mg "least_odd" kh a.Ck a.Cn ["web","marks"]
 sN:Dn K mg "reduced" rZ a.Ik a.Il ["rows","tie_set"]
 pP:Dn K mg "with_row" pM a.EG a.EH ["rows","added"]
 oE:Dn K mg "rows_of" r6 a.Im a.Io ["sets"]
 sO:Dn K mg "is_base" oB a.Ip a.Iq ["web","rings"]
 kq:Dn K mg "marks_for" ki a.Co a.Cp ["web","rings"]
 kL:Dn K mg "least_rings" fR a.xN a.xO ["web"]
 mq:Dn K mg "least_base" jh a.Ai a.Aj ["web"]
 mw:Dn K mg "parts_by" lV a.EI a.EJ ["web","base","tie_set"]
 iN:Dn K mg "_law_cell_at" kH a.xP a.xQ ["script","k"]
 dB:Dn K mg "_law_mixed" nE a.Cq a.Cr ["cell","k"]
 my:Dn K mg "_law_length" lX a.Ak a.Al ["cell","way"]
 sP:Dn K mg "_law_tie" r9 a.Ir a.Iu ["cell","points","way"]
 sQ:Dn K mg "_law_web" iw a.Iv a.Iw ["script","most","ranked"]
 nK:Dn K mg "_law_whole" nF a.Cs a.Ct ["found"]
 gY:Dn K mg "_law_counts" lZ a.Am a.An ["web","some"]
 mz:Dn K mg "_law_pieces" gV a.Ao a.Aq ["web","some"]
 pQ:Dn K mg "_law_even" l6 a.EK a.EL ["web","some"]
 mC:Dn K mg "_law_ring" jJ a.EM a.EN ["web","some"]
 iD:Dn K mg "_law_long" l7 a.EO a.ER ["web","some"]
 nL:Dn K mg "_law_added" nG a.Cu a.Cv ["kept","some"]
 mD:Dn K mg "_law_chosen" ji a.Ar a.As ["sets"]
 iE:Dn K mg "_law_other_base" cU a.sG a.sH ["web","cell"]
 jO:Dn K mg "_law_side_cut" jK a.wK a.wL ["web","cell"]
 fV:Dn K mg "_law_refusal" kJ a.xR a.xS ["web","base","some"]
 kr:Dn K mg "_law_right" eZ a.Cw a.Cy ["web","base","cell"]
 PJ:Dn K mg "law" LY a.UL a.UM ["script"]
 wQ:JM K "__init__" "NotEven.__init__" jL a.e7 a.jM
 xi_NotEven:oU K a.aX a.e8 a.e7 "point"
 wR:Binds K a.jM ["self","words","point"] []
 Av:mg "ValueError"=none
 UN:mg "all"=none
 Ml:mg "bool"=none
 iU:mg "enumerate"=none
 Gm:mg "int"=none
 dD:mg "isinstance"=none
 cR:mg "len"=none
 ET:mg "list"=none
 PK:mg "max"=none
 Gn:mg "min"=none
 bV:mg "range"=none
 UO:mg "set"=none
 wU:mg "sorted"=none
 PM:mg "sum"=none
 qO:mg "tuple"=none
 PN:mg "zip"=none
 tR:mg "RingError"=some (.ref a.e8)
 CA:mg "BadSet"=some (.ref a.aU)
 Rp:mg "BadPoint"=some (.ref a.pO)
 Sd:mg "NoChord"=some (.ref a.k9)
 UP:mg "NoBase"=some (.ref a.nH)
 yU:mg "NotEven"=some (.ref a.aX)
 Mm:∀h:Heap,K.In h->h.Ns mainGlobals mg->PyProof.Rows.OwnCls "BadSet" a.aU [.type "ValueError",.type "Exception",.type "BaseException",.type "object"] "ValueError.__new__" mg h
 qP:pB K a.aU
 Mn:PySem.W.exmOne K (.ref a.aU) (.ref a.e8)=some true
 Iz:PySem.W.kitOne K (.ref a.aU) (.type "ValueError")=some true
 q_BadSet_BadSet:PySem.W.kitOne K (.ref a.aU) (.ref a.aU)=some true
 q_BadSet_BadPoint:PySem.W.kitOne K (.ref a.aU) (.ref a.pO)=some false
 q_BadSet_NoChord:PySem.W.kitOne K (.ref a.aU) (.ref a.k9)=some false
 q_BadSet_NoBase:PySem.W.kitOne K (.ref a.aU) (.ref a.nH)=some false
 q_BadSet_NotEven:PySem.W.kitOne K (.ref a.aU) (.ref a.aX)=some false
 IA:∀h:Heap,K.In h->h.Ns mainGlobals mg->PyProof.Rows.OwnCls "NoChord" a.k9 [.type "ValueError",.type "Exception",.type "BaseException",.type "object"] "ValueError.__new__" mg h
 Mp:∀h:Heap,K.In h->h.Ns mainGlobals mg->PyProof.Rows.OwnCls "NoBase" a.nH [.type "ValueError",.type "Exception",.type "BaseException",.type "object"] "ValueError.__new__" mg h
 jq:pB K a.aX
 IB:PySem.W.exmOne K (.ref a.aX) (.ref a.e8)=some true
 EU:PySem.W.kitOne K (.ref a.aX) (.type "ValueError")=some true
 q_NotEven_BadSet:PySem.W.kitOne K (.ref a.aX) (.ref a.aU)=some false
 q_NotEven_BadPoint:PySem.W.kitOne K (.ref a.aX) (.ref a.pO)=some false
 q_NotEven_NoChord:PySem.W.kitOne K (.ref a.aX) (.ref a.k9)=some false
 q_NotEven_NoBase:PySem.W.kitOne K (.ref a.aX) (.ref a.nH)=some false
 q_NotEven_NotEven:PySem.W.kitOne K (.ref a.aX) (.ref a.aX)=some true
 tS:∀h:Heap,K.In h->h.Ns mainGlobals mg->PyProof.Rows.OwnCls "RingError" a.e8 [.type "ValueError",.type "Exception",.type "BaseException",.type "object"] "ValueError.__new__" mg h
section
variable {P:Program}{w:World}{K:bN}{mg:mQ}{base:Heap}{a:XR}{x:Str}{st:Stmt}{f c0 p0:Addr}{fd:FuncData}{ps:List Str}
abbrev Ok(_:Txt P w base K mg a)(_:Dn K mg x st f fd ps)(k:Nat)(sp:Sp):=lE P w K mg base De k f fd ps sp
abbrev IC(_:Txt P w base K mg a)(_:Dn K mg x st f fd ps)(k:Nat)(sp:Sp):=lE P w K mg base (Df P w) k f fd ps sp
abbrev Zv(_:Txt P w base K mg a)(_:PD K mg x st f fd ps c0 p0)(k:Nat)(sp:Sp):=lE P w K mg base De k f fd ps sp
end
def EV:Sp:=λvs H Q _=>∃(S:Int) (k:Nat),vs=[.int S,.int (k:Int)]/\Q (.bl (bit S k)) H
def EW:Sp:=λvs H Q _=>∃m:Nat,vs=[.int (m:Int)]/\Builtin.Int.intBits (m:Int)<=1000/\∀D H',H D=none->au H H'->H' D=some (.lst (aA (bC (m:Int))))->Q (.ref D) H'
def CC:Sp:=λvs H Q _=>∃w p ts,vs=[.ref w]/\bz H w p ts/\NR p ts/\Q (.int (2^ts.length-1)) H
def ID:Sp:=λvs H Q _=>∃w p ts S,vs=[.ref w,.int S]/\bz H w p ts/\NR p ts/\Q (.bl (decide (0<=S/\S<2^ts.length))) H
def mS(ts:List eO)(S:Int)(bad:Prop)(R:Nat->Prop):Prop:=(∃m:Nat,S=(m:Int)/\m<2^ts.length/\R m)\/((S<0\/2^ts.length<=S)/\bad)
def Aw(C:Addr):Sp:=λvs H Q E=>∃w p ts S,vs=[.ref w,.int S]/\bz H w p ts/\NR p ts/\mS ts S (E (.ref C) none H) λ_=>Q .eE H
def xT(C:Addr):Sp:=λvs H Q E=>∃w p ts S,vs=[.ref w,.int S]/\bz H w p ts/\NR p ts/\mS ts S (E (.ref C) none H) λm =>
 ∀D ys H',H D=none->au H H'->H' D=some (.lst ys)->Paired (TupAt H') ys ((bC (m:Int)).map (b7 ts))->Q (.ref D) H'
def xU(C:Addr):Sp:=λvs H Q E=>∃w p ts S,vs=[.ref w,.int S]/\bz H w p ts/\NR p ts/\mS ts S (∀H',au H H'->E (.ref C) none H') λm =>
 ∀D H',au H H'->H' D=some (.lst (aA (i0 p ts (m:Int))))->Q (.ref D) H'
def EX(C:Addr):Sp:=λvs H Q E=>∃w p ts S,vs=[.ref w,.int S]/\bz H w p ts/\NR p ts/\mS ts S (∀H',au H H'->E (.ref C) none H') λm=>∀H',au H H'->Q (.bl (decide (i0 p ts (m:Int)=[]))) H'
section
variable {P:Program}{w:World}{K:bN}{mg:mQ}{base:Heap}{a:XR}(T:Txt P w base K mg a)
def cy:Ok T T.iy 1 EV:=by
 refine T.iy.ok Er λ_ A _ s H vs Q E hr h=>?_
 ·obtain⟨S,k,rfl,q⟩:=h;refine⟨_,(av (aJ (cZ dm (aI Jw (aI o9 (pv 0) (pv 1)) ah) ah (aO _)))),?_⟩;refine(aq rfl (aq rfl (cj ⟨(by lia),cj ⟨rfl,?_⟩⟩)))
  rw[aaj,QD];exact q
def cz:Ok T T.iz 2 EW:=by
 have cy:=cy T;refine T.iz.ok Es λ_ A _ s H vs Q E hr h=>?_
 ·obtain⟨m,rfl,hm,k⟩:=h;refine⟨_,(av (aJ (bB (own:=["tie"]) (fq:=["tie_set"]) (js:=[0]) (az (aj om) ["tie_set"]) rfl (br (by rfl) T.bV (aa (JK PySem.F.plainAttrs_int ada adb FG (pv 0)) af)) (λ_ _ _ _=>(bq 0 (jo ["tie","tie_set"]))) (λ_ _ _ _=>(dw (cF (aG cy hr T.iy.c aK (aa (pv 1) (aa (pv 0) af)))))) (λ_ _ _ _=>(pv 0))))),?_⟩
  refine(aq rfl ⟨rfl,aq rfl ⟨rfl,aq rfl ⟨(by lia),(by lia),λD G=>bY (lo:=0) (m:=Builtin.Int.intBits (m:Int)) (lH (bit (m:Int)) H D) (.start G) (λi acc H2 _ p=>p.len) (dl (abh.mpr hm)) ?_ ?_⟩⟩⟩)
  ·intro i acc H2 hi p;rw[aa6];refine⟨rfl,aq rfl (aq rfl ⟨(m:Int),i,rfl,aq rfl (?_)⟩)⟩;cases hb:bit (m:Int) i with
   | true=>exact(aq rfl (p.yes G (au.refl _) hb))
   | false=>exact p.no (au.refl _) hb
  ·intro acc H2 p;exact k D H2 G p.1 (by rw[p.2.1,p.2.2];rfl)
def dZ:Ok T T.jN 1 CC:=by
 refine T.jN.ok B7 λ_ A _ s H vs Q E hr h=>?_
 ·obtain⟨I,p,ts,rfl,hw,W,q⟩:=h;refine⟨_,(av (aJ (aI o8 (aI jx ah (bW K T.cR (aa (aH (cf K) (pv 0) ah) af))) ah))),?_⟩;obtain⟨b,xs,h1,h2,h3⟩:=hw.ex;have G:=h3.length;have wl:=W.len;refine(aq rfl (cg (aR.of h1) (ak (j:=1) rfl) (oM rfl (.inr (aR.of h2)) (cj ⟨⟨by lia,by lia,by decide⟩,cj (?_)⟩))))
  rw[aaj,G,Int.one_mul];exact q
def lg:Ok T T.qL 2 ID:=by
 have dZ:=dZ T;refine T.qL.ok HP λ_ A _ s H vs Q E hr h=>?_
 ·obtain⟨I,p,ts,S,rfl,hw,W,q⟩:=h;refine⟨_,(av (aJ (uS (cZ JB (pv 1) ah (aO _)) (uR (cZ JA (pv 1) (aG dZ hr T.jN.c aK (aa (pv 0) af)) (aO _)))))),?_⟩;refine(aq rfl (cj (aq rfl (oG (λG=>?_) (λG=>?_)))))
  ·have G:0<=S:=jR G;refine(aq rfl (aq rfl ⟨I,p,ts,rfl,hw,W,_,_,rfl,rfl,?_⟩));have e:decide (S<=2^ts.length-1)=decide (0<=S/\S<2^ts.length):=aaS.mpr ⟨λz=>⟨G,by lia⟩,λz=>by lia⟩
   rw[<-e]at q;exact q
  ·have G : ¬ 0<=S:=λz=>G (cD z)
   rw[dO (λz=>G z.1)]at q
   exact q
def dF:IC T T.iT 3 (Aw a.aU):=by
 have lg:=lg T;refine T.iT.DI zO λ_ A _ s H vs Q E hr h=>?_
 ·obtain⟨G,p,ts,S,rfl,hw,W,q⟩:=h;refine⟨_,(av (cA (kB (cF (aG lg hr T.qL.c aK (aa (pv 0) (aa (pv 1) af))))) (av (u9 eV.W9 rfl (by rfl) T.Mm abT (aa iW af))) aZ)),?_⟩
  refine zP ?_;intro I;refine(aq rfl (aq rfl ⟨G,p,ts,S,rfl,hw,W,?_⟩));have h2:((2:Int)^ts.length)=((2^ts.length:Nat):Int):=by simp
  rcases q with⟨m,rfl,hm,q⟩|⟨O,q⟩
  ·rw[cD ⟨by lia,by lia⟩]
   exact(aq rfl (dN q))
  ·rw[dO (by lia)]
   exact(aq rfl (fK ⟨dl rfl,q⟩))
def cP:IC T T.gX 4 (xT a.aU):=by
 have dF:=dF T;have cz:=cz T;refine T.gX.DI xy λ_ A _ s H vs Q E hr h=>?_
 ·obtain⟨wb,p,ts,S,rfl,hw,W,q⟩:=h;refine⟨_,(ai (cY (aG dF hr T.iT.c eV.passes (aa (pv 0) (aa (pv 1) af))))
   (av (aJ (bB (own:=["tie"]) (fq:=["web"]) (js:=[0]) (az (aj je) ["web","tie_set"]) rfl (oH K (aG cz hr T.iz.c aK (aa (pv 1) af))) (λ_ _ _ _=>(bq 0 (jo ["tie","web"]))) (λ_ _ _ _=>bX) (λ_ _ _ _=>(aH (cf K) (aH (cf K) (pv 1) ah) (pv 0))))))),?_⟩
  refine fP ?_;intro cJ;refine(aq rfl (aq rfl ⟨wb,p,ts,S,rfl,hw,W,?_⟩));rcases q with⟨m,rfl,hm,q⟩|⟨hS,q⟩
  ·refine .inl ⟨m,rfl,hm,?_⟩;have wl:=W.len;have hb:Builtin.Int.intBits (m:Int)<=ts.length:=bits_le hm;refine(aq rfl ⟨m,rfl,by lia,λL H1 _ s1 Y=>⟨L,rfl,⟨_,aM.of Y⟩,λD O=>?_⟩⟩)
   obtain⟨b,xs,h1,h2,Z⟩:=(hw.same s1).ex;have um:=Z.length;refine bu (xs:=aA (bC (m:Int))) (λi acc H2=>au H1 H2/\H2 D=some (.lst acc)/\Paired (TupAt H2) acc (((bC (m:Int)).take i).map (b7 ts))/\acc.length=i) ⟨au.new O,ae,.nil,rfl⟩ ?_ ?_ ?_ ?_
   ·rintro i acc H2 _ ⟨s2,hd,pr,G⟩;exact⟨aM.of (s2 _ _ Y),hd,adA G⟩
   ·rw[aC];refine dl (abh.mpr (aaE (aaP _ _) ?_));rw[aav]
    lia
   ·rintro i x acc H2 hx ⟨s2,hd,pr,G⟩;obtain⟨k,hk,rfl⟩:=gr hx;have mV:k<ts.length:=uz hm (iV hk);have I:k<xs.length:=by lia
    obtain⟨t,ht,c,hc,U⟩:=Paired.pA Z (i:=k) (x:=xs[k]) (by simp[I])
    have Ud:b7 ts k=t:=by
     unfold b7;rw[aae,ht];rfl
    refine⟨rfl,aq rfl (cg (aR.of (s2 _ _ h1)) (ak (j:=1) rfl) (aq rfl (cg (v:=xs[k]) (aR.of (s2 _ _ h2)) (ak (j:=k) (by simp[I])) (?_))))⟩
    rw[hc];refine⟨hd,s2.put O,ae,?_,by rw[aao,abb,G]⟩
    rw[aaW,hk,aax];refine Paired.snoc (Paired.imp' (λ_ _ z=>z.tups (dI.put hd)) pr) ?_
    rw[Ud];exact⟨c,rfl,dI.put hd _ _ (s2 _ _ U)⟩
   ·rintro acc H2 ⟨s2,hd,pr,G⟩;rw[aC,aaM]at pr;exact q D acc H2 (s1.free O) (s1.trans s2) hd pr
  ·exact .inr ⟨hS,q⟩
def fG:IC T T.jj 5 (xU a.aU):=by
 have cP:=cP T;refine T.jj.DI fQ λ_ A _ s H vs Q E hr h=>?_
 ·obtain⟨Z,p,ts,S,rfl,hw,W,q⟩:=h;refine⟨_,(ai (aF (i:=2) fQ.nd rfl (Or.inr rfl) (aI DF (dH (aa ah af)) (aH (cf K) (pv 0) ah)))
   (ai (uy rfl (oH K (aG cP hr T.gX.c eV.passes (aa (pv 0) (aa (pv 1) af)))) (Je K (n:=3) rfl (aS (bq 3 fQ.nd) (aS (bq 4 fQ.nd) (aS (bq 5 fQ.nd) fc))))
   (ai (Fj (pv 2) (pv 3) (getL K) ah Fo set_list)
   (av (Fj (pv 2) (pv 4) (getL K) ah Fo set_list))))
   (av (aJ (bB (own:=["point"]) (fq:=["ends"]) (js:=[2]) (az (aj jf) ["web","tie_set","ends","one","other","length"]) rfl (br (by rfl) T.bV (aa (aH (cf K) (pv 0) ah) af)) (λ_ _ _ _=>(bq 0 (jo ["point","ends"]))) (λ_ _ _ _=>(dw (aP dm (aI cG (aH (jA K) (pv 1) (pv 0)) ah) ah (aO _)))) (λ_ _ _ _=>(pv 0))))))),?_⟩
  refine xA ?_;intro cJ c7 dY fN;obtain⟨b,xs,h1,h2,h3⟩:=id hw.ex;have wp:=W.VH;refine⟨dl rfl,λl0 FD=>?_⟩
  have s0:au H (upd H l0 (.lst [.int 0])):=au.new FD;refine(aq rfl (cg (aR.of (s0 _ _ h1)) (ak (j:=0) rfl) ⟨l0,(p:Int),aq rfl ⟨rfl,ae,by lia,by lia,(by rw[aaj];show 1*p<=sizeLine;exact dl (abh.mpr (by lia))),λe he=>?_⟩⟩))
  have s1:=s0.trans (au.new (o:=.lst (List.replicate (p:Int).toNat [V.int 0]).flatten) he);have O:upd (upd H l0 (.lst [.int 0])) e (.lst (List.replicate (p:Int).toNat [V.int 0]).flatten) e=some (.lst (m7 (List.replicate p 0))):=by
   rw[ae,aaj,Kl]
  generalize upd (upd H l0 (.lst [.int 0])) e (.lst (List.replicate (p:Int).toNat [V.int 0]).flatten)=H1 at s1 O;have UQ:H e=none:=s0.free he;refine(aq rfl (aq rfl ⟨Z,p,ts,S,rfl,hw.same s1,W,?_⟩));rcases q with⟨m,rfl,hm,q⟩|⟨hS,q⟩
  ·refine .inl ⟨m,rfl,hm,λL ys H2 Zw s2 hL pr=>⟨L,rfl,⟨_,aM.of hL⟩,?_⟩⟩
   have ag:=s1.trans s2;have ar:e≠L:=bj O Zw;have UR:ys.length<=24:=by
    rw[pr.length,aaa];have hb:Builtin.Int.intBits (m:Int)<=ts.length:=bits_le hm;have wl:=W.len;have:=aaP (bit (m:Int)) (List.range (Builtin.Int.intBits (m:Int)));rw[aav]at this;exact aaE this (by lia)
   refine eG (K:=K) (a:=L) (xs:=ys) (λi σ H3=>∃v1 v2 v3,σ=[some (.ref Z),some (.int (m:Int)),some (.ref e),v1,v2,v3]/\(∀x o,H2 x=some o->x≠e->H3 x=some o)/\H3 e=some (.lst (m7 ((((bC (m:Int)).map (b7 ts)).take i).foldl stepT (List.replicate p 0)))))
    ⟨none,none,none,rfl,λ_ _ z _=>z,s2 _ _ O⟩ (λi σ H3 _ ⟨_,_,_,_,z,_⟩=>aM.of (z _ _ hL (aba ar))) ?_ ?_
   ·rintro i y D' σ H3 hi ⟨v1,v2,v3,rfl,U,I⟩;obtain⟨t,ht,c,rfl,hc⟩:=Paired.pA pr hi;have aw:c≠e:=aW hc (s2 _ _ O) (by intro z;cases z)
    have ax:=U _ _ hc aw;have US:t∈ts:=by
     obtain⟨k,hk,rfl⟩:=aaz.mp (iV ht);unfold b7;have mV:=uz hm hk;rw[aae];simp[mV]
    obtain⟨a0,a1,b0,b1⟩:=W.Y8.ends t US;obtain⟨t1,t2,t3⟩:=t;dsimp only at a0 a1 b0 b1;obtain⟨j1,rfl⟩:=abN a0;obtain⟨j2,rfl⟩:=abN b0;generalize Y:(((bC (m:Int)).map (b7 ts)).take i).foldl stepT (List.replicate p 0)=EE at I;have Zx:EE.length=p:=by rw[<-Y,q9,abv]
    have Zy:j1<EE.length:=by lia
    have MZ:j2<(bump EE (j1:Int)).length:=by rw[kW];lia
    refine⟨c,_,rfl,aR.of ax,rfl,_,_,rfl,_,_,rfl,_,_,rfl,rfl,?_⟩;refine(aq rfl (aq rfl ⟨e,_,j1,_,rfl,rfl,aM.of I,rf Zy,_,_,rfl,rfl,e,_,_,j1,rfl,rfl,I,qb (by rw[m7,aaa];exact Zy),?_⟩))
    rw[ve];refine(aq rfl (aq rfl ⟨e,_,j2,_,rfl,rfl,aM.of ae,rf MZ,_,_,rfl,rfl,e,_,_,j2,rfl,rfl,ae,qb (by rw[m7,aaa];exact MZ),?_⟩))
    rw[ve];refine⟨_,_,_,rfl,λx o z hx=>by rw[ao hx,ao hx];exact U x o z hx,?_⟩
    rw[ae,aaW,ht,acd,Y];rfl
   ·rintro σ H3 ⟨v1,v2,v3,rfl,U,I⟩;have aT:Z≠e:=bj h1 UQ;have sR:au H H3:=λx o z=>U x o (ag x o z) (bj z UQ)
    have Y:H3 e=some (.lst (m7 (kC p ts (m:Int)))):=by
     rw[I,acZ (by rw[<-pr.length];exact aaf _),yi hm]
    have Zx:(kC p ts (m:Int)).length=p:=by rw[yi hm,q9,abv]
    refine(aq rfl (cg (aR.of (sR _ _ h1)) (ak (j:=0) rfl) (aq rfl ⟨(by lia),(by lia),λD hD=>bY (lo:=0) (m:=p) (lH (λi=>decide ((kC p ts (m:Int)).getD i 0%2=1)) H3 D) (.start hD) (λi acc H4 _ p=>p.len) (dl (abh.mpr (by lia))) ?_ ?_⟩)))
    ·intro i acc H4 hi G;rw[aa6];refine⟨rfl,aq rfl (aq rfl (jn (aM.of (G.1 _ _ Y)) (ak (j:=i) (rf (by rw[Zx];exact hi))) (cj ⟨(kU rfl),rfl,aq rfl (?_)⟩)))⟩
     rw[NS];cases hb:decide ((kC p ts (m:Int)).getD i 0%2=1) with
     | true=>exact(aq rfl (G.yes hD (au.refl _) hb))
     | false=>exact G.no (au.refl _) hb
    ·intro acc H4 G;exact q D H4 (sR.trans G.1) (by rw[G.2.1,G.2.2];rfl)
  ·exact .inr ⟨hS,q _ s1⟩
def sS:IC T T.sI 6 (EX a.aU):=by
 have fG:=fG T;refine T.sI.DI Eu λ_ A _ s H vs Q E hr h=>?_
 ·obtain⟨G,p,ts,S,rfl,hw,W,q⟩:=h;refine⟨_,(av (aJ (cZ (JS K hr.units) (aG fG hr T.jj.c eV.passes (aa (pv 0) (aa (pv 1) af))) (dH af) (aO _)))),?_⟩;refine(aq rfl (aq rfl ⟨G,p,ts,S,rfl,hw,W,?_⟩));rcases q with⟨m,rfl,hm,q⟩|⟨hS,q⟩
  ·refine .inl ⟨m,rfl,hm,λD H1 s1 I=>⟨dl rfl,λl O=>?_⟩⟩
   have s2:au H1 (upd H1 l (.lst [])):=au.new O;refine⟨_,_,.lst (aM.of (s2 _ _ I)) (m8 _),.lst (aM.of ae) .nil,jX _,rfl,?_⟩;rw[FN];exact q _ (s1.trans s2)
  ·exact .inr ⟨hS,q⟩
def Mq:Sp:=λvs H Q _=>∃(l:Addr) (L:Nat->Nat) (p u v:Nat),vs=[.ref l,.int (u:Int),.int (v:Int)]/\H l=some (.lst (cK L p))/\p<=10/\u<p/\v<p/\
 ∀D H',H D=none->au H H'->H' D=some (.lst (cK (RM.join L u v) p))->Q (.ref D) H'
def IF(C:Addr):Sp:=λvs H Q E=>∃w p ts,∃g:aD p ts,∃S,vs=[.ref w,.int S]/\bz H w p ts/\mS ts S (∀H',au H H'->E (.ref C) none H') λm =>
 ∀D ys H',H D=none->au H H'->H' D=some (.lst ys)->Paired (Pg D H H') ys ((fj (bT p ts g m) p).map (pieceOf (bT p ts g m) p))->Q (.ref D) H'
def OG:Sp:=λvs H Q _=>∃w p ts,∃g:aD p ts,vs=[.ref w]/\bz H w p ts/\∀H',au H H'->Q (.int (g.N.aB.length:Int)) H'
def cV:Ok T T.fE 1 Mq:=by
 refine T.fE.ok gP λ_ A _ s H vs Q E hr h=>?_
 ·obtain⟨l,L,p,u,v,rfl,I,hp,U,Y,q⟩:=h;refine⟨_,(ai (aF (i:=3) gP.nd rfl (Or.inr rfl) (bI (x9 rfl) (by rfl) T.Gn adi (aa (aH (jA K) (pv 0) (pv 1)) (aa (aH (jA K) (pv 0) (pv 2)) af))))
   (ai (aF (i:=4) gP.nd rfl (Or.inr rfl) (bI (x8 rfl) (by rfl) T.PK PyProof.Rows.boot_max (aa (aH (jA K) (pv 0) (pv 1)) (aa (aH (jA K) (pv 0) (pv 2)) af))))
   (av (aJ (bB (own:=["least"]) (fq:=["low","high"]) (js:=[3,4]) (az (aj fu) ["leasts","one","other","low","high"]) rfl (oH K (pv 0)) (λ_ _ _ _=>(bq 0 (jo ["least","low","high"]))) (λ_ _ _ _=>bX) (λ_ _ _ _=>(m5 (aP dm (pv 0) (pv 2) (aO _)) (pv 1) (pv 0)))))))),?_⟩
  refine gQ ?_;intro Z c7;refine(aq rfl (aq rfl (jn (aM.of I) (ak (j:=u) (bJ U)) (aq rfl (aq rfl (jn (aM.of I) (ak (j:=v) (bJ Y)) ⟨_,_,rfl,?_⟩))))));refine(aq rfl (aq rfl (jn (aM.of I) (ak (j:=u) (bJ U)) (aq rfl (aq rfl (jn (aM.of I) (ak (j:=v) (bJ Y)) ⟨_,_,rfl,?_⟩))))));refine(aq rfl ⟨l,rfl,⟨_,aM.of I⟩,λD O=>bu (xs:=cK L p) (vn (RM.join L u v) H D) (.start O) (λi acc H2 _ G=>⟨aM.of (G.1 _ _ I),G.len⟩) (by rw[bZ];exact dl (abh.mpr (by lia))) ?_ ?_⟩)
  ·intro i x acc H2 hx G;obtain⟨hi,rfl⟩:=j6 hx;refine⟨rfl,aq rfl (aq rfl ⟨rfl,aq rfl (?_)⟩)⟩;rw[FU,j7]
   by_cases hm:L i=max (L u) (L v)
   ·rw[cD hm];refine fK (aq rfl (G.next O (au.refl _) ?_));rw[FT];unfold RM.join;rw[aac hm]
   ·rw[dO hm];refine dN (aq rfl (G.next O (au.refl _) ?_));unfold RM.join;rw[aab hm]
  ·intro acc H2 G;rw[bZ]at G;exact q D H2 O G.1 (by rw[G.2.1,G.2.2])
def lq:IC T T.qM 5 (IF a.aU):=by
 have cP:=cP T;have cV:=cV T;refine T.qM.DI gA λ_ A _ s H vs Q E hr h=>?_
 ·obtain⟨wb,p,ts,g,S,rfl,hw,q⟩:=h;refine⟨_,(ai (aF (i:=2) gA.nd rfl (Or.inr rfl) (cS (Pe rfl) (by rfl) T.ET ac1 (aa (cS Bc (by rfl) T.bV PyProof.Rows.boot_range (aa (aH (cf K) (pv 0) ah) af)) af)))
   (ai (uy rfl (oH K (aG cP hr T.gX.c eV.passes (aa (pv 0) (aa (pv 1) af)))) (Je K (n:=3) rfl (aS (bq 3 gA.nd) (aS (bq 4 gA.nd) (aS (bq 5 gA.nd) fc))))
   (av (aF (i:=2) gA.nd rfl (Or.inr rfl) (aG cV hr T.fE.c aK (aa (pv 2) (aa (pv 3) (aa (pv 4) af)))))))
   (ai (aF (i:=6) gA.nd rfl (Or.inl rfl) (dH af))
   (ai (uy rfl (br (by rfl) T.bV (aa (aH (cf K) (pv 0) ah) af)) (ux (i:=7) gA.nd rfl (Or.inr rfl))
   (av (cA (aP dm (aH (jA K) (pv 2) (pv 7)) (pv 7) (aO _)) (av (cY (Ji K (mR aaZ aa3 aa4 c9 (pv 6) (aa (bB (own:=["point"]) (fq:=["leasts","start"]) (js:=[2,7]) (az (aj qC) ["web","tie_set","leasts","one","other","length","found","start"]) rfl (br (by rfl) T.bV (aa (aH (cf K) (pv 0) ah) af)) (λ_ _ _ _=>(bq 0 (jo ["point","leasts","start"]))) (λ_ _ _ _=>(dw (aP dm (aH (jA K) (pv 1) (pv 0)) (pv 2) (aO _)))) (λ_ _ _ _=>(pv 0))) af))))) aZ)))
   (av (aJ (pv 6))))))),?_⟩
  refine HQ ?_;intro cJ c7 dY fN gF nA tP;obtain⟨b,xs,h1,h2,h3⟩:=id hw.ex;have W:=g.Jf;have wp:=W.VH;have wl:=W.len;refine(aq rfl (cg (aR.of h1) (ak (j:=0) rfl) (aq rfl (λr hr=>⟨r,p,rfl,ae,by lia,λl hl=>?_⟩))))
  have s1:au H (upd (upd H r (.Gx 0 (p:Int))) l (.lst (xr p))):=(au.new hr).trans (au.new hl);have U:upd (upd H r (.Gx 0 (p:Int))) l (.lst (xr p)) l=some (.lst (cK (λx=>x) p)):=ae
  generalize upd (upd H r (.Gx 0 (p:Int))) l (.lst (xr p))=H1 at s1 U;refine(aq rfl (aq rfl ⟨wb,p,ts,S,rfl,hw.same s1,W,?_⟩));rcases q with⟨m,rfl,hm,q⟩|⟨hS,q⟩
  ·refine .inl ⟨m,rfl,hm,λT0 ys H2 Y6 s2 hT pr=>⟨T0,rfl,⟨_,aM.of hT⟩,?_⟩⟩
   have UR:ys.length<=24:=by
    rw[pr.length,aaa];have hb:Builtin.Int.intBits (m:Int)<=ts.length:=bits_le hm;have:=aaP (bit (m:Int)) (List.range (Builtin.Int.intBits (m:Int)));rw[aav]at this;exact aaE this (by lia)
   refine eG (K:=K) (a:=T0) (xs:=ys) (λi σ H3=>∃Y v3 v4 v5,σ=[some (.ref wb),some (.int (m:Int)),some (.ref Y),v3,v4,v5,none,none]/\au H2 H3/\H3 Y=some (.lst (cK (tG p ts g ((bC (m:Int)).take i)) p)))
    ⟨l,none,none,none,rfl,au.refl _,s2 _ _ U⟩ (λi σ H3 _ ⟨_,_,_,_,_,z,_⟩=>aM.of (z _ _ hT)) ?_ ?_
   ·rintro i y D' σ H3 hi ⟨Y,v3,v4,v5,rfl,s3,G⟩;obtain⟨t,ht,c,rfl,hc⟩:=Paired.pA pr hi;have ag:=s3 _ _ hc;rw[aai]at ht;obtain⟨k,hk,hkt⟩:=tD.mp ht;have mV:=uz hm (iV hk);have ea:=FP (g:=g) mV;have eb:=FQ (g:=g) mV;rw[hkt]at ea eb;have ar:=g.N.al k mV;have aw:=g.N.bl k mV;refine⟨c,_,rfl,aR.of ag,rfl,_,_,rfl,_,_,rfl,_,_,rfl,rfl,?_⟩;refine(aq rfl (aq rfl (aq rfl ⟨Y,tG p ts g ((bC (m:Int)).take i),p,g.N.a k,g.N.b k,?_,G,wp,ar,aw,λD H4 Mr s4 hD=>?_⟩)))
    ·rw[<-ea,<-eb];rfl
    ·refine⟨D,_,_,_,rfl,s3.trans s4,?_⟩;rw[hD,aaW,hk];show _=some (HO.lst (cK (tG p ts g ((bC (m:Int)).take i++[k])) p));rw[DO]
   ·rintro σ H3 ⟨Y,v3,v4,v5,rfl,s3,G⟩;have ax:ys.length=(bC (m:Int)).length:=by rw[pr.length,aaa]
    rw[ax,aaM,DQ hm]at G;have sR:au H H3:=(s1.trans s2).trans s3;refine⟨dl rfl,λD hD=>?_⟩
    have t0:vp (bT p ts g m) p H3 D 0 (upd H3 D (.lst [])):=vp.start hD;generalize upd H3 D (.lst [])=H4 at t0;refine(aq rfl (cg (aR.of (t0.1 _ _ (sR _ _ h1))) (ak (j:=0) rfl) (aq rfl ⟨(by lia),(by lia),?_⟩)))
    refine eX (lo:=0) (n:=(p:Int).toNat) (λi σ Z=>∃v7,σ=[some (.ref wb),some (.int (m:Int)),some (.ref Y),v3,v4,v5,some (.ref D),v7]/\vp (bT p ts g m) p H3 D i Z) ⟨none,rfl,t0⟩ ?_ ?_
    ·rintro i D' σ Z hi ⟨v7,rfl,O⟩;rw[aaj]at hi;rw[aa6];have UT:=O.1 _ _ G;refine(aq rfl (aq rfl (jn (aM.of UT) (ak (j:=i) (bJ hi)) (aq rfl ⟨rfl,aq rfl (?_)⟩))));rw[j7]
     by_cases hr:bT p ts g m i=i
     ·rw[cD hr];obtain⟨a6,IG⟩:∃ys,Z D=some (.lst ys):=let⟨_,ys,z,_⟩:=O;⟨ys,z⟩;refine fK (aq rfl ⟨.inl ⟨rfl,_,aM.of IG⟩,aq rfl (cg (aR.of (O.1 _ _ (sR _ _ h1))) (ak (j:=0) rfl) (aq rfl ⟨(by lia),(by lia),λB hB=>bY (lo:=0) (m:=(p:Int).toNat) (lH (λx=>decide (bT p ts g m x=i)) Z B) (.start hB) (λi acc H6 _ I=>I.len) (dl (abh.mpr (by lia))) ?_ ?_⟩))⟩)
      ·intro x acc H6 hx I;rw[aaj]at hx;rw[aa6];refine⟨rfl,aq rfl (aq rfl (jn (aM.of (I.1 _ _ UT)) (ak (j:=x) (bJ hx)) (aq rfl ⟨rfl,aq rfl (?_)⟩)))⟩;rw[j7];cases hb:decide (bT p ts g m x=i) with
       | true=>exact(aq rfl (I.yes hB (au.refl _) hb))
       | false=>exact I.no (au.refl _) hb
      ·intro acc H6 I;have aT:H6 B=some (.lst (aA (pieceOf (bT p ts g m) p i))):=by rw[I.2.1,I.2.2,aaj];rfl
       obtain⟨a3,Se,U,t7⟩:=O.push hD hr I.1 hB aT;exact⟨D,a3,_,rfl,rfl,Se,dS (by lia),aq rfl (t7)⟩
     ·rw[dO hr];exact dN (aq rfl (O.skip hr))
    ·rintro σ Z ⟨v7,rfl,O⟩;rw[aaj]at O;obtain⟨s5,a4,IG,a5,a7⟩:=O;exact(aq rfl (q D a4 Z (sR.free hD) (sR.trans s5) IG (Paired.imp' (λ_ _ ⟨e,he,hn,h0,z⟩=>⟨e,he,hn,sR.free h0,z⟩) a5)))
  ·exact .inr ⟨hS,q _ s1⟩
def EY:Ok T T.ES 6 OG:=by
 have lq:=lq T;have dZ:=dZ T;refine T.ES.ok OF λ_ A _ s H vs Q E hr h=>?_
 ·obtain⟨I,p,ts,g,rfl,hw,q⟩:=h;refine⟨_,(av (aJ (aI eM (aI o8 (bW K T.cR (aa (aH (cf K) (pv 0) ah) af)) (aH (cf K) (pv 0) ah)) (bW K T.cR (aa (aG lq hr T.qM.c tF (aa (pv 0) (aa (aG dZ hr T.jN.c aK (aa (pv 0) af)) af))) af))))),?_⟩;obtain⟨b,xs,h1,h2,h3⟩:=id hw.ex;have O:=h3.length;have U:((2:Int)^ts.length-1)=((2^ts.length-1:Nat):Int):=by
   have h:((2:Int)^ts.length)=((2^ts.length:Nat):Int):=by simp
   have:=aa2 ts.length
   lia
  have G:2^ts.length-1<2^ts.length:=by have:=aa2 ts.length;lia
  refine(aq rfl (cg (aR.of h1) (ak (j:=1) rfl) (oM rfl (.inr (aR.of h2)) (aq rfl (cg (aR.of h1) (ak (j:=0) rfl) (cj (?_)))))));refine(aq rfl (aq rfl ⟨I,p,ts,rfl,hw,g.Jf,I,p,ts,g,_,rfl,hw,.inl ⟨2^ts.length-1,U,G,λD ys H' Mr s' Y pr=>(oM rfl (.inl (aM.of Y)) (cj (?_)))⟩⟩))
  have Z:=NW (g:=g);have hy:ys.length=(fj (bT p ts g (2^ts.length-1)) p).length:=by rw[pr.length,aaa]
  show Q (.int ((xs.length:Int)-(p:Int)+(ys.length:Int))) H';rw[O,hy,Z];exact q H' s'
def EZ(C:Addr):Sp:=λvs H Q E=>∃w p ts,∃g:aD p ts,∃S,vs=[.ref w,.int S]/\bz H w p ts/\mS ts S (∀H',au H H'->E (.ref C) none H') λm=>∀H',au H H'->Q (.bl (tI p ts g m)) H'
def sU:IC T T.sJ 7 (EZ a.aU):=by
 have sS:=sS T;have lq:=lq T;have cz:=cz T;refine T.sJ.DI wB λ_ A _ s H vs Q E hr h=>?_
 ·obtain⟨Y,p,ts,g,S,rfl,hw,q⟩:=h;refine⟨_,(ai (cA (kB (cF (aG sS hr T.sI.c eV.passes (aa (pv 0) (aa (pv 1) af))))) (av (aJ m3)) aZ)
   (ai (ff (i:=2) wB.nd rfl rfl (own:=["piece"]) (fq:=[]) (js:=[]) (az (aj oz) ["web","tie_set","touched"]) rfl (oH K (aG lq hr T.qM.c eV.passes (aa (pv 0) (aa (pv 1) af)))) (λ_ _ _ _=>(bq 0 (jo ["piece"]))) (λ_ _ _ _=>(dw (aP uW (bW K T.cR (aa (pv 0) af)) ah (aO _)))) (λ_ _ _ _=>(pv 0)))
   (av (aJ (uS (cZ dm (bW K T.cR (aa (pv 2) af)) ah (aO _)) (uR (cZ dm (bW K T.cR (aa (aH (jA K) (pv 2) ah) af)) (bW K T.cR (aa (aG cz hr T.iz.c aK (aa (pv 1) af)) af)) (aO _)))))))),?_⟩
  refine Ew ?_;intro cJ c7 dY;have W:=g.Jf;have wp:=g.p2;have wl:=g.len;refine(aq rfl (aq rfl ⟨Y,p,ts,S,rfl,hw,W,?_⟩));rcases q with⟨m,rfl,hm,q⟩|⟨hS,q⟩
  ·refine .inl ⟨m,rfl,hm,λH1 s1=>(aq rfl (?_))⟩
   by_cases ev:i0 p ts (m:Int)=[]
   ·rw[cD ev];rw[DW ev]at q;refine dN (aq rfl (aq rfl ⟨Y,p,ts,g,_,rfl,hw.same s1,.inl ⟨m,rfl,hm,λD ys H2 Mr s2 Z pr=>⟨D,rfl,⟨_,aM.of Z⟩,λC hC=>?_⟩⟩⟩))
    have UR:ys.length<=10:=by
     rw[pr.length,aaa];unfold fj;have:=aaP (λx=>decide (bT p ts g m x=x)) (List.range p)
     rw[aav]at this;exact aaE this wp
    refine bu (xs:=ys) (vC (λl=>decide (1<l.length)) ((fj (bT p ts g m) p).map (pieceOf (bT p ts g m) p)) H2 C) (.start hC) (λi acc H3 _ I=>⟨aM.of (I.1 _ _ Z),I.len⟩) (c5 (by lia)) ?_ ?_
    ·intro i x acc H3 hx I;obtain⟨l,hl,b,rfl,ag,ar,hb⟩:=Paired.pA pr hx;refine⟨rfl,aq rfl (oM rfl (.inl (aM.of (I.1 _ _ hb))) (cj (aq rfl (?_))))⟩;cases uH:decide (1<l.length) with
     | true =>
       have e:decide ((1:Int)<((aA l).length:Int))=true:=cD (by have:=jR uH;rw[aC];lia)
       show if decide ((1:Int)<((aA l).length:Int))=true then _ else _
       rw[e];exact fK (aq rfl (I.yes hC hl uH ⟨b,rfl,hb⟩))
     | false =>
       have e:decide ((1:Int)<((aA l).length:Int))=false:=dO (by have:=of_decide_eq_false uH;rw[aC];lia)
       show if decide ((1:Int)<((aA l).length:Int))=true then _ else _
       rw[e];exact dN (I.no hl uH)
    ·intro acc H3 I;have O:Paired (QK H2) acc ((eF (bT p ts g m) p).map (pieceOf (bT p ts g m) p)):=by
      have h:=I.2.2;rw[pr.length,aaM,List.filter_map]at h;exact h
     have G:=O.length;rw[aaa]at G;refine(aq rfl (oM rfl (.inl (aM.of I.2.1)) ⟨rfl,aq rfl (?_)⟩));have U:=(s1.trans s2).trans I.1;have aw:Builtin.Int.intBits (m:Int)<=ts.length:=bits_le hm;generalize eF (bT p ts g m) p=tl at q O G;cases tl with
     | nil =>
       have G:acc.length=0:=G;rw[G];exact dN (q H3 U)
     | cons s r =>
       cases r with
       | nil =>
         cases O with
         | cons hy pn =>
           cases pn;obtain⟨b,rfl,hb⟩:=hy;refine fK (aq rfl (jn (aM.of I.2.1) (ak (j:=0) rfl) (oM rfl (.inl (aM.of (I.1 _ _ hb))) (aq rfl ⟨m,rfl,by lia,λD4 H4 ax s4 qQ=>(oM rfl (.inl (aM.of qQ)) ⟨rfl,?_⟩)⟩))))
           rw[aC,aC,j7];exact q H4 (U.trans s4)
       | cons t r =>
         have G:acc.length=r.length+2:=G;have e:decide (V.int ((acc.length:Nat):Int)=V.int 1)=false:=dO λz=>by
          have:=V.int.inj z
          lia
         rw[e];exact dN (q H3 U)
   ·rw[dO ev];have er:tI p ts g m=false:=by
     unfold tI;rw[dO ev,acQ]
    rw[er]at q;exact fK (q H1 s1)
  ·exact .inr ⟨hS,q⟩
def qR:Sp:=λvs H Q _=>∃w p ts,∃g:aD p ts,∃S:Int,vs=[.ref w,.int S]/\bz H w p ts/\∀H' (d:Bool),au H H'->(d=true↔∃m:Nat,S=(m:Int)/\m<2^ts.length/\g.N.Ring m)->Q (.bl d) H'
def iF:Ok T T.iA 8 qR:=by
 have lg:=lg T;have sU:=sU T;refine T.iA.ok qD λ_ A _ s H vs Q E hr h=>?_
 ·obtain⟨G,p,ts,g,S,rfl,hw,q⟩:=h;refine⟨_,(av (aJ (uS (aG lg hr T.qL.c aK (aa (pv 0) (aa (pv 1) af))) (uR (aG sU hr T.sJ.c tF (aa (pv 0) (aa (pv 1) af))))))),?_⟩;have O:((2:Int)^ts.length)=((2^ts.length:Nat):Int):=by simp
  refine(aq rfl (aq rfl ⟨G,p,ts,S,rfl,hw,g.Jf,_,rfl,?_⟩))
  by_cases hs:0<=S/\S<2^ts.length
  ·rw[cD hs];obtain⟨m,rfl⟩:=abN hs.1;have hm:m<2^ts.length:=by lia
   refine fK (aq rfl (aq rfl ⟨G,p,ts,g,_,rfl,hw,.inl ⟨m,rfl,hm,λH1 s1=>q H1 _ s1 ?_⟩⟩))
   rw[G7 g hm];exact⟨λr=>⟨m,rfl,hm,r⟩,λ⟨I,e,_,r⟩=>by
    have:m=I:=by lia
    rw[this];exact r⟩
  ·rw[dO hs];refine dN (q H false (au.refl _) ⟨λz=>(aan z).elim,λ⟨I,e,hm,_⟩=>absurd ⟨by lia,by lia⟩ hs⟩)
def II:Sp:=λvs H Q _=>∃w p ts,∃g:aD p ts,vs=[.ref w]/\bz H w p ts/\∀D H',H D=none->au H H'->H' D=some (.lst (cK (g.N.trail ts.length) p))->Q (.ref D) H'
def IJ:Sp:=λvs H Q _=>∃w p ts,∃g:aD p ts,vs=[.ref w]/\bz H w p ts/\∀H',au H H'->Q (.int ((j8 p ts g:Nat):Int)) H'
def IK:Sp:=λvs H Q _=>∃w p ts,∃g:aD p ts,vs=[.ref w]/\bz H w p ts/\∀D H',H D=none->au H H'->H' D=some (.lst (aA g.N.aB))->Q (.ref D) H'
def wW:Sp:=λvs H Q _=>∃w p ts,∃g:aD p ts,∃(D:Addr) (c:Nat),vs=[.ref w,.ref D,.int (c:Int)]/\bz H w p ts/\H D=some (.lst (cK (g.N.trail ts.length) p))/\c<ts.length/\Q (.int ((g.N.ring c:Nat):Int)) H
def E2{H:Hp}{xs:List V}{p:Nat}{ts:List eO}{g:aD p ts}{k:Nat}(h3:Paired (TupAt H) xs ts)(hk:k<ts.length):∃c,xs[k]?=some (.ref c)/\H c=some (.tup [.int ((g.N.a k:Nat):Int),.int ((g.N.b k:Nat):Int),.int (b7 ts k).2.2]):=by
 have G:k<xs.length:=by rw[h3.length];exact hk
 obtain⟨t,ht,c,hc,I⟩:=Paired.pA h3 (i:=k) (x:=xs[k]) (by simp[G])
 have O:t=b7 ts k:=by
  have z:=rq hk;rw[ht]at z;exact Option.some.inj z
 refine⟨c,by rw[<-hc];simp[G],?_⟩
 rw[I,<-FP hk,<-FQ hk,O];rfl
def bM:Ok T T.eB 2 II:=by
 have cV:=cV T;refine T.eB.ok bx λ_ A _ s H vs Q E hr h=>?_
 ·obtain⟨wb,p,ts,g,rfl,hw,q⟩:=h;refine⟨_,(ai (aF (i:=1) bx.nd rfl (Or.inl rfl) (cS (Pe rfl) (by rfl) T.ET ac1 (aa (cS Bc (by rfl) T.bV PyProof.Rows.boot_range (aa (aH (cf K) (pv 0) ah) af)) af)))
   (ai (aF (i:=2) bx.nd rfl (Or.inl rfl) (aI DF (dH (aa ah af)) (aH (cf K) (pv 0) ah)))
   (ai (eK PassesOwn.never rfl (br (by rfl) T.bV (aa (bW K T.cR (aa (aH (cf K) (pv 0) ah) af)) af)) (bq 3 bx.nd)
   (ai (aF (i:=4) bx.nd rfl (Or.inl rfl) (aH (cf K) (aH (cf K) (aH (cf K) (pv 0) ah) (pv 3)) ah))
   (ai (aF (i:=5) bx.nd rfl (Or.inl rfl) (aH (cf K) (aH (cf K) (aH (cf K) (pv 0) ah) (pv 3)) ah))
   (av (cA (aP AX (aH (jA K) (pv 1) (pv 4)) (aH (jA K) (pv 1) (pv 5)) (aO _)) (ai (aF (i:=6) bx.nd rfl (Or.inr rfl) (aI eU (aI eU (aH (jA K) (pv 2) (pv 4)) (aH (jA K) (pv 2) (pv 5))) (aI jx ah (pv 3))))
   (ai (aF (i:=7) bx.nd rfl (Or.inr rfl) (bI (x8 rfl) (by rfl) T.PK PyProof.Rows.boot_max (aa (aH (jA K) (pv 1) (pv 4)) (aa (aH (jA K) (pv 1) (pv 5)) af))))
   (ai (ff (i:=2) bx.nd rfl rfl (own:=["trail","least"]) (fq:=["bridge","moved"]) (js:=[6,7]) (az (aj fX) ["web","leasts","trails","tie","one","other","bridge","moved"]) rfl (Kd K (by rfl) T.PN (aa (pv 2) (aa (pv 1) af))) (λ_ _ _ _=>(Je K (n:=2) rfl (aS (bq 0 (jo ["trail","least","bridge","moved"])) (aS (bq 1 (jo ["trail","least","bridge","moved"])) fc)))) (λ_ _ _ _=>bX) (λ_ _ _ _=>(m5 (aP dm (pv 1) (pv 3) (aO _)) (aI eU (pv 0) (pv 2)) (pv 0))))
   (av (aF (i:=1) bx.nd rfl (Or.inl rfl) (aG cV hr T.fE.c aK (aa (pv 1) (aa (pv 4) (aa (pv 5) af))))))))) aZ)))))
   (av (aJ (pv 2)))))),?_⟩
  refine rV ?_;intro cJ c7 dY fN gF nA tP yT Gj Gk;obtain⟨bt,xs,h1,h2,h3⟩:=id hw.ex;have wp:=g.p2;have wl:=g.len;have um:=h3.length;refine(aq rfl (cg (aR.of h1) (ak (j:=0) rfl) (aq rfl (λr hr=>⟨r,p,rfl,ae,by lia,λl hl=>?_⟩))))
  have s1:au H (upd (upd H r (.Gx 0 (p:Int))) l (.lst (xr p))):=(au.new hr).trans (au.new hl);have ag:upd (upd H r (.Gx 0 (p:Int))) l (.lst (xr p)) l=some (.lst (cK (g.N.fg 0) p)):=ae;generalize upd (upd H r (.Gx 0 (p:Int))) l (.lst (xr p))=H1 at s1 ag;refine⟨dl rfl,λl0 FD=>?_⟩
  have s0:au H1 (upd H1 l0 (.lst [.int 0])):=au.new FD;refine(aq rfl (cg (aR.of (s0 _ _ (s1 _ _ h1))) (ak (j:=0) rfl) ⟨l0,(p:Int),aq rfl ⟨rfl,ae,by lia,by lia,(by rw[aaj];show 1*p<=sizeLine;exact dl (abh.mpr (by lia))),λe he=>?_⟩⟩))
  have s2:=s0.trans (au.new (o:=.lst (List.replicate (p:Int).toNat [V.int 0]).flatten) he);have NP:upd (upd H1 l0 (.lst [.int 0])) e (.lst (List.replicate (p:Int).toNat [V.int 0]).flatten) e=some (.lst (cK (g.N.trail 0) p)):=by
   rw[ae,aaj,Bl];rfl
  generalize upd (upd H1 l0 (.lst [.int 0])) e (.lst (List.replicate (p:Int).toNat [V.int 0]).flatten)=H2 at s2 NP;refine(aq rfl (cg (aR.of ((s1.trans s2) _ _ h1)) (ak (j:=1) rfl) (oM rfl (.inr (aR.of ((s1.trans s2) _ _ h2))) (aq rfl ⟨(by lia),(by lia),?_⟩))))
  refine eX (lo:=0) (n:=(xs.length:Int).toNat) (λk σ H3=>∃Z ta v3 v4 v5 v6 v7,σ=[some (.ref wb),some (.ref Z),some (.ref ta),v3,v4,v5,v6,v7]/\au H H3/\H3 Z=some (.lst (cK (g.N.fg k) p))/\H3 ta=some (.lst (cK (g.N.trail k) p))/\H ta=none)
   ⟨l,e,none,none,none,none,none,rfl,s1.trans s2,s2 _ _ ag,NP,s1.free (s0.free he)⟩ ?_ ?_
  ·rintro k D' σ H3 hk ⟨Z,ta,v3,v4,v5,v6,v7,rfl,s3,G,Y,Pp⟩;rw[aaj,um]at hk;rw[aa6];obtain⟨c,ar,aw⟩:=E2 (g:=g) h3 hk;have hA:=g.N.al k hk;have hB:=g.N.bl k hk;have U:=RM.Bg (N:=g.N) k;have OH:g.N.jT k = !decide (g.N.fg k (g.N.a k)=g.N.fg k (g.N.b k)):=rfl;have O:g.N.trail (k+1)=if g.N.jT k=true then λv=>if g.N.fg k v=max (g.N.fg k (g.N.a k)) (g.N.fg k (g.N.b k)) then g.N.trail k v^^^(g.N.trail k (g.N.a k)^^^g.N.trail k (g.N.b k)^^^2^k) else g.N.trail k v else g.N.trail k:=rfl
   generalize g.N.a k=A0 at *;generalize g.N.b k=B0 at *;refine(aq rfl (cg (aR.of (s3 _ _ h1)) (ak (j:=1) rfl) (aq rfl (cg (aR.of (s3 _ _ h2)) (ak (j:=k) ar) (cg (aR.of (s3 _ _ aw)) (ak (j:=0) rfl) (?_))))));refine(aq rfl (cg (aR.of (s3 _ _ h1)) (ak (j:=1) rfl) (aq rfl (cg (aR.of (s3 _ _ h2)) (ak (j:=k) ar) (cg (aR.of (s3 _ _ aw)) (ak (j:=1) rfl) (?_))))));refine(aq rfl (aq rfl (jn (aM.of G) (ak (j:=A0) (bJ hA)) (aq rfl (aq rfl (jn (aM.of G) (ak (j:=B0) (bJ hB)) ⟨rfl,aq rfl (?_)⟩))))));rw[j7]
   by_cases he:g.N.fg k A0=g.N.fg k B0
   ·rw[cD he]at OH;rw[OH,aab (by decide)]at U O
    rw[cD he];exact dN ⟨Z,ta,_,_,_,_,_,rfl,s3,by rw[U];exact G,by rw[O];exact Y,Pp⟩
   ·rw[dO he]at OH;rw[OH,aac (by rfl)]at U O
    rw[dO he];have ax:Builtin.bitXor (Builtin.bitXor ((g.N.trail k A0:Nat):Int) ((g.N.trail k B0:Nat):Int)) (1*2^(k:Int).toNat)=((g.N.trail k A0^^^g.N.trail k B0^^^2^k:Nat):Int):=by
     rw[i9,xor_int,xor_int]
    refine fK (aq rfl (aq rfl (jn (aM.of Y) (ak (j:=A0) (bJ hA)) (aq rfl (aq rfl (jn (aM.of Y) (ak (j:=B0) (bJ hB)) (cj (aq rfl (cj ⟨⟨by lia,by lia,by decide⟩,cj (?_)⟩)))))))))
    refine(aq rfl (aq rfl (jn (aM.of G) (ak (j:=A0) (bJ hA)) (aq rfl (aq rfl (jn (aM.of G) (ak (j:=B0) (bJ hB)) ⟨_,_,rfl,?_⟩))))));refine(aq rfl (aq rfl ⟨ta,Z,rfl,⟨_,aM.of Y⟩,⟨_,aM.of G⟩,λD hD=>Bb (xs:=cK (g.N.trail k) p) (ys:=cK (g.N.fg k) p) (by rw[bZ,bZ]) (vn (g.N.trail (k+1)) H3 D) (.start hD) (λi acc H4 _ I=>⟨aM.of (I.1 _ _ Y),aM.of (I.1 _ _ G),I.len⟩) (by rw[bZ];exact dl (abh.mpr (by lia))) ?_ ?_⟩))
    ·intro i x y T0 acc H4 hx hy I hT;obtain⟨hi,rfl⟩:=j6 hx;obtain⟨_,rfl⟩:=j6 hy;refine⟨T0,_,rfl,aR.of ae,rfl,_,_,rfl,_,_,rfl,rfl,rfl,aq rfl (aq rfl ⟨rfl,aq rfl (?_)⟩)⟩;rw[FU,j7]
     by_cases hm:g.N.fg k i=max (g.N.fg k A0) (g.N.fg k B0)
     ·rw[cD hm];refine fK (aq rfl (aq rfl (cj (I.next hD (au.new hT) ?_))));show V.int (Builtin.bitXor _ (Builtin.bitXor (Builtin.bitXor _ _) _))=_;rw[ax,xor_int,O];show _=V.int (((if _ then _ else _:Nat)):Int)
      rw[aac hm]
     ·rw[dO hm];refine dN (aq rfl (I.next hD (au.new hT) ?_));rw[O];show _=V.int (((if _ then _ else _:Nat)):Int)
      rw[aab hm]
    ·intro acc H4 I;rw[bZ]at I;have qQ:H4 D=some (.lst (cK (g.N.trail (k+1)) p)):=by rw[I.2.1,I.2.2]
     refine(aq rfl (aq rfl (aq rfl ⟨Z,g.N.fg k,p,A0,B0,rfl,I.1 _ _ G,wp,hA,hB,λD2 H5 aT s5 jU=>?_⟩)))
     exact⟨D2,D,_,_,_,_,_,rfl,(s3.trans I.1).trans s5,by rw[U];exact jU,s5 _ _ qQ,s3.free hD⟩
  ·rintro σ H3 ⟨Z,ta,v3,v4,v5,v6,v7,rfl,s3,G,Y,Pp⟩;rw[aaj,um]at Y;exact(aq rfl (q ta H3 Pp s3 Y))
def wX:Ok T T.wM 3 IJ:=by
 have bM:=bM T;refine T.wM.ok ou λ_ A _ s H vs Q E hr h=>?_
 ·obtain⟨G,p,ts,g,rfl,hw,q⟩:=h;refine⟨_,(ai (aF (i:=1) ou.nd rfl (Or.inl rfl) ah)
   (ai (eK PassesOwn.never rfl (oH K (aG bM hr T.eB.c aK (aa (pv 0) af))) (bq 2 ou.nd)
   (av (y9 (i:=1) ou.nd rfl (Or.inl rfl) (pv 2) Jx)))
   (av (aJ (pv 1))))),?_⟩
  refine HR ?_;intro O U Y;refine(aq rfl ⟨G,p,ts,g,rfl,hw,λD H1 Z s1 I=>⟨D,rfl,⟨_,aM.of I⟩,?_⟩⟩)
  refine eG (K:=K) (a:=D) (xs:=cK (g.N.trail ts.length) p) (λi σ H2=>∃v2,σ=[some (.ref G),some (.int ((R6 (g.N.trail ts.length) i:Nat):Int)),v2]/\H2=H1) ⟨none,rfl,rfl⟩ (λi σ H2 _ ⟨_,_,z⟩=>by rw[z];exact aM.of I) ?_ ?_
  ·rintro i x D' σ H2 hx ⟨v2,rfl,rfl⟩;obtain⟨hi,rfl⟩:=j6 hx;refine(aq rfl (aq rfl (cj ⟨some (.int ((g.N.trail ts.length i:Nat):Int)),?_,rfl⟩)));show[_,some (V.int (Builtin.bitOr _ _)),_]=_;rw[or_int];rfl
  ·rintro σ H2 ⟨v2,rfl,rfl⟩;rw[bZ,DS];exact(aq rfl (q _ s1))
def ly:Ok T T.qN 4 IK:=by
 have wX:=wX T;have dZ:=dZ T;have cz:=cz T;refine T.qN.ok HS λ_ A _ s H vs Q E hr h=>?_
 ·obtain⟨G,p,ts,g,rfl,hw,q⟩:=h;refine⟨_,(av (aJ (aG cz hr T.iz.c aK (aa (aI eU (aG dZ hr T.jN.c aK (aa (pv 0) af)) (aG wX hr T.wM.c aK (aa (pv 0) af))) af)))),?_⟩;have wl:=g.len;refine(aq rfl ⟨G,p,ts,rfl,hw,g.Jf,_,rfl,G,p,ts,g,rfl,hw,λH1 s1=>(cj ⟨(2^ts.length-1)^^^j8 p ts g,?_,?_,λD H2 O s2 I=>?_⟩)⟩)
  ·show[V.int (Builtin.bitXor _ _)]=_;rw[NY,xor_int]
  ·exact aaE (bits_le yq) (by lia)
  ·rw[Bm]at I;exact q D H2 (s1.free O) (s1.trans s2) I
def kM:Ok T T.kK 1 wW:=by
 refine T.kK.ok nB λ_ A _ s H vs Q E hr h=>?_
 ·obtain⟨Y,p,ts,g,D,c,rfl,hw,G,hc,q⟩:=h;refine⟨_,(ai (aF (i:=3) nB.nd rfl (Or.inl rfl) (aH (cf K) (aH (cf K) (pv 0) ah) (pv 2)))
   (av (aJ (aI eU (aI eU (aH (jA K) (pv 1) (aH (cf K) (pv 3) ah)) (aH (jA K) (pv 1) (aH (cf K) (pv 3) ah))) (aI jx ah (pv 2)))))),?_⟩
  refine fP ?_;intro Z;obtain⟨bt,xs,h1,h2,I⟩:=id hw.ex;have wl:=g.len;obtain⟨b,hxc,hct⟩:=E2 (g:=g) I hc;have O:=g.N.al c hc;have U:=g.N.bl c hc;refine(aq rfl (cg (aR.of h1) (ak (j:=1) rfl) (aq rfl (cg (aR.of h2) (ak (j:=c) hxc) (?_)))));refine(aq rfl (aq rfl (cg (aR.of hct) (ak (j:=0) rfl) (jn (aM.of G) (ak (j:=g.N.a c) (bJ O)) (aq rfl (aq rfl (cg (aR.of hct) (ak (j:=1) rfl) (jn (aM.of G) (ak (j:=g.N.b c) (bJ U)) (cj (aq rfl (cj ⟨⟨by lia,by lia,by decide⟩,cj (?_)⟩)))))))))))
  show Q (V.int (Builtin.bitXor (Builtin.bitXor _ _) _)) H;rw[i9,xor_int,xor_int];exact q
def xV(C:Addr):Sp:=λvs H Q E=>∃w p ts,∃g:aD p ts,∃S,vs=[.ref w,.int S]/\bz H w p ts/\
 ((∃c:Nat,S=(c:Int)/\c∈g.N.aB/\∀H',au H H'->Q (.int ((g.N.ring c:Nat):Int)) H')\/((∀c∈g.N.aB,S≠((c:Nat):Int))/\∀H',au H H'->E (.ref C) none H'))
def mE:IC T T.mh 5 (xV a.k9):=by
 have ly:=ly T;have bM:=bM T;have kM:=kM T;refine T.mh.DI xC λ_ A _ s H vs Q E hr h=>?_
 ·obtain⟨G,p,ts,g,S,rfl,hw,q⟩:=h;refine⟨_,(ai (cA (aP (DH K) (pv 1) (aG ly hr T.qN.c aK (aa (pv 0) af)) (by with_unfolding_all rfl)) (av (u9 eV.W9 rfl (by rfl) T.IA abT (aa iW af))) aZ)
   (av (aJ (aG kM hr T.kK.c aK (aa (pv 0) (aa (aG bM hr T.eB.c aK (aa (pv 0) af)) (aa (pv 1) af))))))),?_⟩
  refine iM ?_;intro Z c7;refine(aq rfl (aq rfl ⟨G,p,ts,g,rfl,hw,λD H1 Mr s1 I=>(oM rfl (.inl (aM.of I)) ⟨rfl,nW _,_,rfl,?_⟩)⟩))
  rcases q with⟨c,rfl,hc,q⟩|⟨O,q⟩
  ·rw[nc,cD hc];refine dN (aq rfl (aq rfl ⟨G,p,ts,g,rfl,hw.same s1,λD2 H2 U s2 Y=>(aq rfl ⟨G,p,ts,g,D2,c,rfl,hw.same (s1.trans s2),Y,(RM.bh.mp hc).1,q _ (s1.trans s2)⟩)⟩))
  ·rw[QI O];exact fK ⟨dl rfl,q _ s1⟩
def IL:Sp:=λvs H Q _=>∃G I,∃a b:Nat,vs=[.int G,.int I]/\G=(a:Int)/\I=(b:Int)/\Builtin.Int.intBits ((a&&&b:Nat):Int)<=1000/\∀H',au H H'->Q (.int (((bC ((a&&&b:Nat):Int)).length:Nat):Int)) H'
def Ms:Sp:=λvs H Q _=>∃G I,∃a b:Nat,vs=[.int G,.int I]/\G=(a:Int)/\I=(b:Int)/\Builtin.Int.intBits ((a&&&b:Nat):Int)<=1000/\∀H',au H H'->Q (.bl (decide ((bC ((a&&&b:Nat):Int)).length%2=1))) H'
structure Rq(p:Nat)(xs:List Nat):Prop where
 up:xs.Pairwise (· < ·)
 lt:∀x∈xs,x<p
def E3:Sp:=λvs H Q _=>∃w p ts,∃(l:Addr) (xs:List Nat),vs=[.ref w,.ref l]/\bz H w p ts/\H l=some (.lst (aA xs))/\Rq p xs/\Q (.bl true) H
def IM:Sp:=λvs H Q _=>∃w p ts,∃(l:Addr) (ks:List Nat),vs=[.ref w,.ref l]/\bz H w p ts/\NR p ts/\H l=some (.lst (aA ks))/\(∀k∈ks,k<ts.length)/\Q (.int ((orM ks:Nat):Int)) H
def IP:Sp:=λvs H Q _=>∃w p ts,∃g:aD p ts,∃(l:Addr) (xs:List Nat),vs=[.ref w,.ref l]/\bz H w p ts/\H l=some (.lst (aA xs))/\Rq p xs/\
 ∀H',au H H'->Q (.int ((g.N.cut (λx=>decide (x∈xs)):Nat):Int)) H'
def CD(p:Nat)(f:Nat->Bool):Rq p ((List.range p).filter f):=⟨DR,λx hx=>aaA.mp (aas.mp hx).1⟩
def OI(n:Nat):decide (V.int (((n:Nat):Int)%2)=V.int 1)=decide (n%2=1):=aaS.mpr ⟨λz=>by have:=V.int.inj z;lia,λz=>aaU V.int (by lia)⟩
def wY:Ok T T.wN 3 IL:=by
 have cz:=cz T;refine T.wN.ok HU λ_ A _ s H vs Q E hr h=>?_
 ·obtain⟨I,O,u,v,rfl,rfl,rfl,hb,q⟩:=h;refine⟨_,(av (aJ (bW K T.cR (aa (aG cz hr T.iz.c aK (aa (aI Jw (pv 0) (pv 1)) af)) af)))),?_⟩;refine(aq rfl (aq rfl (cj ⟨u&&&v,?_,hb,λD H1 hn s1 G=>(oM rfl (.inl (aM.of G)) (?_))⟩)))
  ·show[V.int (Builtin.bitAnd _ _)]=_;rw[and_int]
  ·rw[aC];exact q H1 s1
def cC:Ok T T.fU 4 Ms:=by
 have wY:=wY T;refine T.fU.ok wF λ_ A _ s H vs Q E hr h=>?_
 ·obtain⟨G,I,u,v,rfl,rfl,rfl,hb,q⟩:=h;refine⟨_,(av (aJ (cZ dm (aI cG (aG wY hr T.wN.c aK (aa (pv 0) (aa (pv 1) af))) ah) ah (aO _)))),?_⟩;refine(aq rfl (aq rfl ⟨_,_,u,v,rfl,rfl,rfl,hb,λH1 s1=>(cj ⟨(kU rfl),rfl,?_⟩)⟩))
  rw[OI];exact q H1 s1
def sV:Ok T T.sL 1 E3:=by
 refine T.sL.ok lR λ_ A _ s H vs Q E hr h=>?_
 ·obtain⟨wb,p,ts,l,zs,rfl,hw,U,Y,q⟩:=h;refine⟨_,(ai (aF (i:=2) lR.nd rfl (Or.inl rfl) (O3 Jy ah))
   (ai (eK PassesOwn.never rfl (oH K (pv 1)) (bq 3 lR.nd)
   (ai (cA (PW.pt (pW (aP JA (pv 3) (pv 2) (aO _)) (m4 (aP JB (pv 3) (aH (cf K) (pv 0) ah) (aO _))))) (av (aJ m3)) aZ)
   (av (aF (i:=2) lR.nd rfl (Or.inl rfl) (pv 3)))))
   (av (aJ m3)))),?_⟩
  refine yS ?_;intro cJ c7 dY fN gF;obtain⟨bt,xs,h1,h2,h3⟩:=id hw.ex;refine(aq rfl (aq rfl ⟨l,rfl,⟨_,aM.of U⟩,uV (K:=K) (a:=l) (xs:=aA zs) (λi σ H2=>∃z I,σ=[some (.ref wb),some (.ref l),some (.int z),I]/\H2=H/\∀x∈zs.drop i,z<(x:Int)) ⟨_,none,rfl,rfl,λx _=>by show(-1:Int)<_;lia⟩ (λi σ H2 _ ⟨_,_,_,z,_⟩=>by rw[z];exact aM.of U) ?_ ?_⟩))
  ·rintro i y σ H2 O ⟨z,I,rfl,rfl,hz⟩;obtain⟨x,hx,rfl⟩:=gr O;have G:zs.drop i=x::zs.drop (i+1):=by
    obtain⟨hi,e⟩:=ju.mp hx;rw[List.drop_eq_getElem_cons hi,e]
   have ag:=hz x (by rw[G];exact aam)
   have ar:=Y.lt x (iV hx);refine(aq rfl (aq rfl (cj (aq rfl (zh (by lia) (aq rfl (aq rfl (cg (aR.of h1) (ak (j:=0) rfl) (cj (aq rfl (zh (by lia) ?_)))))))))))
   refine(aq rfl ⟨(x:Int),aq rfl ⟨rfl,λy O=>?_⟩⟩)
   have Z:(zs.drop i).Pairwise (· < ·):=Y.up.sublist (List.drop_sublist _ _);rw[G]at Z;have:=(acP.mp Z).1 y O
   lia
  ·rintro σ H2 ⟨z,I,rfl,rfl,_⟩;exact q
def lz:Ok T T.qK 1 IM:=by
 refine T.qK.ok oq λ_ A _ s H vs Q E hr h=>?_
 ·obtain⟨U,p,ts,l,ks,rfl,hw,W,O,hk,q⟩:=h;refine⟨_,(ai (aF (i:=2) oq.nd rfl (Or.inl rfl) ah)
   (ai (eK PassesOwn.never rfl (oH K (pv 1)) (bq 3 oq.nd)
   (ai (cA (PW.pt (pW (aP Fw (pv 3) ah (aO _)) (m4 (aP JB (pv 3) (bW K T.cR (aa (aH (cf K) (pv 0) ah) af)) (aO _))))) x6 aZ)
   (av (y9 (i:=2) oq.nd rfl (Or.inl rfl) (aI jx ah (pv 3)) Jx))))
   (av (aJ (pv 2))))),?_⟩
  refine yS ?_;intro cJ c7 dY fN gF;obtain⟨bt,xs,h1,h2,Y⟩:=id hw.ex;have um:=Y.length;have wl:=W.len;refine(aq rfl ⟨l,rfl,⟨_,aM.of O⟩,uV (K:=K) (a:=l) (xs:=aA ks) (λi σ H2=>∃I,σ=[some (.ref U),some (.ref l),some (.int ((orM (ks.take i):Nat):Int)),I]/\H2=H) ⟨none,rfl,rfl⟩ (λi σ H2 _ ⟨_,_,z⟩=>by rw[z];exact aM.of O) ?_ ?_⟩)
  ·rintro i x σ H2 hx ⟨I,rfl,rfl⟩;obtain⟨k,G,rfl⟩:=gr hx;have Z:=hk k (iV G);refine(aq rfl (cj (aq rfl (zh (by lia) (aq rfl (aq rfl (cg (aR.of h1) (ak (j:=1) rfl) (oM rfl (.inr (aR.of h2)) (cj (aq rfl (zh (by lia) ?_)))))))))))
   refine(aq rfl (aq rfl (cj ⟨⟨by lia,by lia,by decide⟩,cj ⟨some (.int (k:Int)),?_,rfl⟩⟩)))
   show[_,_,some (V.int (Builtin.bitOr _ (1*2^(k:Int).toNat))),_]=_;rw[i9,or_int,aaW,G];unfold Ring.orM;rw[acd];rfl
  ·rintro σ H2 ⟨I,rfl,rfl⟩;rw[aC,aaM];exact(aq rfl (q))
def wZ:Ok T T.wO 2 IP:=by
 have sV:=sV T;have lz:=lz T;refine T.wO.ok HV λ_ A _ s H vs Q E hr h=>?_
 ·obtain⟨wb,p,ts,g,l,zs,rfl,hw,hl,sd,q⟩:=h;refine⟨_,(ai (cA (kB (cF (aG sV hr T.sL.c aK (aa (pv 0) (aa (pv 1) af))))) x6 aZ)
   (av (aJ (aG lz hr T.qK.c aK (aa (pv 0) (aa (bB (own:=["k","tie"]) (fq:=["side"]) (js:=[1]) (az (aj qF) ["web","side"]) rfl (vD K (by rfl) T.iU (aa (aH (cf K) (pv 0) ah) af)) (λ_ _ _ _=>(Je K (n:=2) rfl (aS (bq 0 (jo ["k","tie","side"])) (aS (bq 1 (jo ["k","tie","side"])) fc)))) (λ_ _ _ _=>(dw (aP AX (cZ (VC K) (aH (cf K) (pv 1) ah) (pv 2) (by with_unfolding_all rfl)) (cZ (VC K) (aH (cf K) (pv 1) ah) (pv 2) (by with_unfolding_all rfl)) (aO _)))) (λ_ _ _ _=>(pv 0))) af)))))),?_⟩
  refine iM ?_;intro cJ c7;obtain⟨bt,xs,h1,h2,h3⟩:=id hw.ex;have um:=h3.length;have wl:=g.len;refine(aq rfl (aq rfl ⟨wb,p,ts,l,zs,rfl,hw,hl,sd,_,rfl,dN ?_⟩));refine(aq rfl (aq rfl (cg (aR.of h1) (ak (j:=1) rfl) ⟨bt,rfl,⟨_,aR.of h2⟩,λD Y=>vE (xs:=xs) (lH (λk=>decide (g.N.a k∈zs)^^decide (g.N.b k∈zs)) H D) (.start Y) (λi acc H2 _ G=>⟨aR.of (G.1 _ _ h2),G.len⟩) (c5 (by lia)) ?_ ?_⟩)))
  ·intro i x T0 acc H2 hx G I;have hi:i<ts.length:=by have:=(ju.mp hx).1;lia
   obtain⟨b,O,Z⟩:=E2 (g:=g) h3 hi;rw[hx]at O;cases O;have UU:upd H2 T0 (.tup [.int (i:Int),.ref b]) b=some _:=au.new I _ _ (G.1 _ _ Z);have U:upd H2 T0 (.tup [.int (i:Int),.ref b]) l=some _:=au.new I _ _ (G.1 _ _ hl);refine⟨T0,_,rfl,aR.of ae,rfl,_,_,rfl,_,_,rfl,rfl,rfl,?_⟩;refine(aq rfl (cg (aR.of UU) (ak (j:=0) rfl) (aq rfl (oM rfl (.inl (aM.of U)) ⟨rfl,nW _,_,rfl,cg (aR.of UU) (ak (j:=1) rfl) (aq rfl (oM rfl (.inl (aM.of U)) ⟨rfl,nW _,rfl,aq rfl (?_)⟩))⟩))));rw[nc,nc];cases e1:decide (g.N.a i∈zs)<;>cases e2:decide (g.N.b i∈zs)
   ·exact G.no (au.new I) (by rw[e1,e2];rfl)
   ·exact(aq rfl (G.yes Y (au.new I) (by rw[e1,e2];rfl)))
   ·exact(aq rfl (G.yes Y (au.new I) (by rw[e1,e2];rfl)))
   ·exact G.no (au.new I) (by rw[e1,e2];rfl)
  ·intro acc H2 G;refine⟨wb,p,ts,D,_,rfl,hw.same G.1,g.Jf,by rw[G.2.1,G.2.2],λk hk=>?_,?_⟩
   ·have:=aaA.mp (aas.mp hk).1
    lia
   ·rw[D0,um];exact q H2 G.1
def tT(p:Nat)(ts:List eO)(g:aD p ts)(m:Nat):List Nat:=(List.range p).filter λx=>g.N.par (g.N.trail ts.length x) m
def Told(p:Nat)(ts:List eO)(g:aD p ts)(m:Nat)(H H' : Hp)(t:Addr):Prop :=
 (m=g.N.cut (λx=>decide (x∈tT p ts g m))/\∃l,H l=none/\H' t=some (.tup [.str "side",.ref l])/\H' l=some (.lst (aA (tT p ts g m))))\/
 (∃c,c∈g.N.aB/\g.N.par (g.N.ring c) m=true/\H' t=some (.tup [.str "ring",.int ((g.N.ring c:Nat):Int)]))
def E4(C:Addr):Sp:=λvs H Q E=>∃w p ts,∃g:aD p ts,∃S,vs=[.ref w,.int S]/\bz H w p ts/\mS ts S (E (.ref C) none H) λm=>∀t H',H t=none->au H H'->Told p ts g m H H' t->Q (.ref t) H'
def CF{p:Nat}{ts:List eO}{g:aD p ts}{m:Nat}:g.N.cut (λx=>decide (x∈tT p ts g m))=g.N.cut λx=>g.N.par (g.N.trail g.N.n x) m:=RM.Hf λx hx=>by
 unfold tT;rw[abd,decide_eq_true_eq,aas,aaA];exact⟨λz=>z.2,λz=>⟨hx,z⟩⟩
def E5{m:Nat}(h:m≠0):∃c,(bC (m:Int))[0]?=some c/\m.testBit c=true:=by
 obtain⟨k,hk⟩:=abt h;have hm:k∈bC (m:Int):=by
  unfold bC;refine aas.mpr ⟨aaA.mpr (Nat.lt_of_not_le λz=>?_),by rw[fW];exact hk⟩
  have:=Bf z;rw[fW,hk]at this;cases this
 cases e:bC (m:Int) with
 | nil =>
   rw[e]at hm;cases hm
 | cons c r =>
   have hc:c∈bC (m:Int):=by rw[e];exact aam
   unfold bC at hc;have:=(aas.mp hc).2;rw[fW]at this;exact⟨c,rfl,this⟩
def gy{u v:Nat}(h:u^^^v=0):u=v:=by
 have:=aaU (λx=>x^^^v) h
 simpa[aa9]using this
def Mt(n:Nat):decide (V.int ((n:Nat):Int)=V.int 0)=decide (n=0):=aaS.mpr ⟨λz=>by have:=V.int.inj z;lia,λz=>by rw[z];rfl⟩
def sW:IC T T.sM 6 (E4 a.aU):=by
 have dF:=dF T;have bM:=bM T;have cC:=cC T;have wZ:=wZ T;have cz:=cz T;have mE:=mE T;refine T.sM.DI lS λ_ A _ s H vs Q E hr h=>?_
 ·obtain⟨I,p,ts,g,S,rfl,hw,q⟩:=h;refine⟨_,(ai (cY (aG dF hr T.iT.c eV.passes (aa (pv 0) (aa (pv 1) af))))
   (ai (aF (i:=2) lS.nd rfl (Or.inr rfl) (aG bM hr T.eB.c aK (aa (pv 0) af)))
   (ai (ff (i:=3) lS.nd rfl rfl (own:=["point"]) (fq:=["tie_set","trails"]) (js:=[1,2]) (az (aj oA) ["web","tie_set","trails","side","amiss"]) rfl (br (by rfl) T.bV (aa (aH (cf K) (pv 0) ah) af)) (λ_ _ _ _=>(bq 0 (jo ["point","tie_set","trails"]))) (λ_ _ _ _=>(dw (cF (aG cC hr T.fU.c aK (aa (aH (jA K) (pv 2) (pv 0)) (aa (pv 1) af)))))) (λ_ _ _ _=>(pv 0)))
   (ai (aF (i:=4) lS.nd rfl (Or.inl rfl) (aI eU (pv 1) (aG wZ hr T.wO.c aK (aa (pv 0) (aa (pv 3) af)))))
   (ai (cA (aP dm (pv 4) ah (aO _)) (av (aJ (c8 (aa iW (aa (pv 3) af))))) aZ)
   (av (aJ (c8 (aa iW (aa (aG mE hr T.mh.c eV.passes (aa (pv 0) (aa (aH (jA K) (aG cz hr T.iz.c aK (aa (pv 4) af)) ah) af))) af)))))))))),?_⟩
  refine Ex ?_;intro cJ c7 dY fN gF nA;obtain⟨bt,xs,h1,h2,h3⟩:=id hw.ex;have wl:=g.len;have wp:=g.p2;have W:=g.Jf;rcases q with⟨m,rfl,hm,q⟩|⟨hS,q⟩
  case inr=>exact(aq rfl (aq rfl ⟨I,p,ts,_,rfl,hw,W,.inr ⟨hS,q⟩⟩))
  refine(aq rfl (aq rfl ⟨I,p,ts,_,rfl,hw,W,.inl ⟨m,rfl,hm,?_⟩⟩));refine(aq rfl ⟨I,p,ts,g,rfl,hw,λD H1 aw s1 hD=>?_⟩)
  refine(aq rfl (cg (aR.of (s1 _ _ h1)) (ak (j:=0) rfl) (aq rfl ⟨(by lia),(by lia),λC hC=>bY (lo:=0) (m:=(p:Int).toNat) (lH (λx=>g.N.par (g.N.trail ts.length x) m) H1 C) (.start hC) (λi acc H2 _ G=>G.len) (c5 (by lia)) ?_ ?_⟩)))
  ·intro i acc H2 hi G;rw[aaj]at hi;rw[aa6];have CG:Builtin.Int.intBits ((g.N.trail ts.length i&&&m:Nat):Int)<=1000:=aaE (bits_le (acM _ hm)) (by lia)
   refine⟨rfl,aq rfl (aq rfl (jn (aM.of (G.1 _ _ hD)) (ak (j:=i) (bJ hi)) (aq rfl ⟨_,_,g.N.trail ts.length i,m,rfl,rfl,rfl,CG,λH3 s3=>(aq rfl (?_))⟩)))⟩
   rw[zx (g:=g) hm];cases hb:g.N.par (g.N.trail ts.length i) m with
   | true=>exact(aq rfl (G.yes hC s3 hb))
   | false=>exact G.no s3 hb
  ·intro acc H2 G;have vJ:H2 C=some (.lst (aA (tT p ts g m))):=by rw[G.2.1,G.2.2,aaj];rfl
   have O:=s1.trans G.1;refine(aq rfl (aq rfl (aq rfl ⟨I,p,ts,g,C,_,rfl,hw.same O,vJ,CD p _,λH3 s3=>(cj (?_))⟩)))
   have Y:=O.trans s3;dsimp only;rw[xor_int,CF];have ac:=λk=>RM.Br (N:=g.N) (m:=m) (k:=k) hm
   have U:(m^^^g.N.cut λx=>g.N.par (g.N.trail g.N.n x) m)<2^ts.length:=aaJ hm (RM.Kz _)
   have hz:(m^^^g.N.cut λx=>g.N.par (g.N.trail g.N.n x) m)=0->m=g.N.cut (λx=>decide (x∈tT p ts g m)):=λz=>by rw[CF];exact gy z
   generalize (m^^^g.N.cut λx=>g.N.par (g.N.trail g.N.n x) m)=A at ac U hz
   refine(aq rfl ⟨rfl,aq rfl (?_)⟩);rw[Mt]
   by_cases Z:A=0
   ·rw[cD Z];refine fK (aq rfl ⟨dl rfl,λt ht=>q t _ (Y.free ht) (Y.trans (au.new ht)) (.inl ⟨hz Z,C,s1.free hC,ae,au.new ht _ _ (s3 _ _ vJ)⟩)⟩)
   ·rw[dO Z];obtain⟨c,ag,ar⟩:=E5 Z;obtain⟨hcn,hcf,hcp⟩:=ac c ar;refine dN (aq rfl (aq rfl ⟨A,rfl,aaE (bits_le U) (by lia),λD4 H4 ax s4 qQ=>(jn (aM.of qQ) (ak (j:=0) (lK ag)) ⟨I,p,ts,g,_,rfl,hw.same (Y.trans s4),.inl ⟨c,rfl,RM.bh.mpr ⟨hcn,hcf⟩,λH5 s5=>⟨dl rfl,λt ht=>?_⟩⟩⟩)⟩))
    have UW:=(Y.trans s4).trans s5;exact q t _ (UW.free ht) (UW.trans (au.new ht)) (.inr ⟨c,RM.bh.mpr ⟨hcn,hcf⟩,hcp,ae⟩)
def Ax(C:Addr):Sp:=λvs H Q E=>∃w p ts S,vs=[.ref w,.int S]/\bz H w p ts/\NR p ts/\mS ts S (∀H',au H H'->E (.ref C) none H') λm=>∀H',au H H'->Q (.int (lenOf ts m)) H'
def nM:IC T T.nJ 5 (Ax a.aU):=by
 have cP:=cP T;refine T.nJ.DI zQ λ_ A _ s H vs Q E hr h=>?_
 ·obtain⟨U,p,ts,S,rfl,hw,W,q⟩:=h;refine⟨_,(av (aJ (bI (sumK K rfl) (by rfl) T.PM PyProof.Rows.boot_sum (aa (bB (own:=["tie"]) (fq:=[]) (js:=[]) (az (aj kc) ["web","tie_set"]) rfl (oH K (aG cP hr T.gX.c eV.passes (aa (pv 0) (aa (pv 1) af)))) (λ_ _ _ _=>(bq 0 (jo ["tie"]))) (λ_ _ _ _=>bX) (λ_ _ _ _=>(aH (cf K) (pv 0) ah))) af)))),?_⟩
  refine(aq rfl (aq rfl ⟨U,p,ts,S,rfl,hw,W,?_⟩));rcases q with⟨m,rfl,hm,q⟩|⟨Y,q⟩
  ·refine .inl ⟨m,rfl,hm,λL ys H1 Zw s1 G pr=>⟨L,rfl,⟨_,aM.of G⟩,λD I=>?_⟩⟩
   have wl:=W.len;have O:ys.length=(bC (m:Int)).length:=by rw[pr.length,aaa]
   have Z:ys.length<=24:=by
    rw[O];have hb:Builtin.Int.intBits (m:Int)<=ts.length:=bits_le hm;have:=aaP (bit (m:Int)) (List.range (Builtin.Int.intBits (m:Int)));rw[aav]at this;exact aaE this (by lia)
   refine bu (xs:=ys) (xu (λk=>(b7 ts k).2.2) (bC (m:Int)) H1 D) (.start I) (λi acc H2 _ pm=>⟨aM.of (pm.1 _ _ G),pm.len⟩) (c5 Z) ?_ ?_
   ·intro i x acc H2 hx pm;obtain⟨t,ht,c,rfl,hc⟩:=Paired.pA pr hx;rw[aai]at ht;obtain⟨k,hk,rfl⟩:=tD.mp ht;exact⟨rfl,aq rfl (cg (aR.of (pm.1 _ _ hc)) (ak (j:=2) rfl) (pm.next I (au.refl _) hk rfl))⟩
   ·intro acc H2 pm;rw[O]at pm;exact⟨D,_,rfl,aM.of pm.fin,q H2 (s1.trans pm.1)⟩
  ·exact .inr ⟨Y,q _ (au.refl _)⟩
def Gp(ts:List eO)(x y:Nat):Prop:=lenOf ts x<lenOf ts y\/(lenOf ts x=lenOf ts y/\x<=y)
def Mu(t:Addr)(lp:Pos):Sp:=λvs H Q _=>∃w p ts,∃g:aD p ts,∃(l:Addr) (ms:List Nat),vs=[.ref w,.ref l]/\bz H w p ts/\H l=some (.lst (aA ms))/\ms.length<64/\(∀m∈ms,m<2^ts.length)/\H t=some (.jV (fk (qz "by_length") lp))/\
 ∀D G H',H D=none->au H H'->H' D=some (.lst (aA G))->G.Perm ms->G.Pairwise (Gp ts)->Q (.ref D) H'
def PU:∀{l:List Int},(∀x∈l,0<=x)->∃ms:List Nat,l=ms.map (λx=>((x:Nat):Int))
 | [],_=>⟨[],rfl⟩
 | x::r,h=>by
   obtain⟨ms,e⟩:=PU (l:=r) λy G=>h y (jt _ G)
   have hx:=h x aam;refine⟨x.toNat::ms,?_⟩;rw[aaN,<-e]
   congr 1
   lia
def nN:Zv T T.kj 9 (Mu a.iS gR):=by
 have nM:=nM T;refine T.kj.ok zR λA _ s H vs Q E hr h=>?_
 ·obtain⟨wb,p,ts,g,l,ms,rfl,hw,hl,O,G,U,q⟩:=h;refine⟨_,(av (aJ (LJ (x:="ring") (fq:=["web"]) (js:=[0]) hr (az (aj kg) ["web","rings"]) rfl (by rfl) T.wU rfl T.kj.F.hd (aa (pv 1) af) (λ_ _ _ _ hr=>(c8 (aa (aG nM hr T.nJ.c tF (aa (pv 1) (aa (pv 0) af))) (aa (pv 0) af))))))),?_⟩
  have W:=g.Jf;have wl:=g.len;have big:(2:Nat)^ts.length<=2^24:=abf (by decide) wl
  have Y:∀n,n∈ms.map (λx=>((x:Nat):Int))->∃m:Nat,n=(m:Int)/\m∈ms:=λn hn=>by
   obtain⟨m,hm,rfl⟩:=aaz.mp hn;exact⟨m,rfl,hm⟩
  refine(aq rfl ⟨l,ms.map (λx=>((x:Nat):Int)),λz=>(lenOf ts z.toNat,z),rfl,by rw[<-ic];exact hl,by rw[aaa];exact O,λn hn=>?_,U,λH3 hk n hn=>?_,λD Z H4 hD s4 qQ hp hs=>?_⟩)
  ·obtain⟨m,rfl,hm⟩:=Y n hn;have:=G m hm;exact⟨by show(0:Int)<=(m:Int);lia,by show(m:Int)<1073741824;lia⟩
  ·obtain⟨m,rfl,hm⟩:=Y n hn;have tp:dI H H3:=λb xs e=>hk b _ e (λy z=>nomatch z) (λy z=>nomatch z)
   refine(aq rfl (aq rfl ⟨wb,p,ts,_,rfl,hw.tups tp,W,.inl ⟨m,rfl,G m hm,λH4 s4=>(aq rfl ⟨dl rfl,λd hd=>?_⟩)⟩⟩))
   exact⟨s4.trans (au.new hd),d,rfl,ae⟩
  ·obtain⟨I,rfl⟩:∃I : List Nat,Z = I.map (λx=>((x:Nat):Int)):=by
    refine PU λx hx=>?_
    obtain⟨m,rfl,_⟩:=Y x (hp.mem_iff.mp hx)
    lia
   have XT:I.Perm ms:=by
    have:=hp.map Int.toNat;rw[abl,abl]at this;have e:∀l:List Nat,l.map (Int.toNat∘λx=>((x:Nat):Int))=l:=λl=>by
     induction l with
     | nil=>rfl
     | cons x r ih=>rw[aaN,ih];rfl
    rw[e,e]at this;exact this
   refine q D I H4 hD s4 (by rw[ic];exact qQ) XT ?_
   rw[abO]at hs;refine abw (λ{x y} hx hy h=>?_) hs
   have hx:=G x (XT.mem_iff.mp hx);have hy:=G y (XT.mem_iff.mp hy);have h:lenOf ts x*1073741824+(x:Int)<=lenOf ts y*1073741824+(y:Int):=h;unfold Gp
   lia
def Mv:Sp:=λvs H Q _=>∃w p ts,∃g:aD p ts,∃m:Nat,vs=[.ref w,.int (m:Int)]/\bz H w p ts/\m<2^ts.length/\
 ∀D es S H',es.length=p->HG m H D es S H'->Pz g.N ts.length S->Q (.ref D) H'
def Rt{b:Bool}{σ:St}{f:VK}{H:Hp}(h:f (.int (b.toNat:Int)) H):if b=true then tC (.int 1) σ H f else tC (.int 0) σ H f:=by
 cases b<;>exact h
def iG:Ok T T.iB 2 Mv:=by
 have cy:=cy T;refine T.iB.ok dz λ_ A _ s H vs Q E hr h=>?_
 ·obtain⟨wb,p,ts,g,m,rfl,hw,hm,q⟩:=h;refine⟨_,(ai (ff (i:=2) dz.nd rfl rfl (own:=["point"]) (fq:=[]) (js:=[]) (az (aj fB) ["web","marks","steps","tie","ends","turn"]) rfl (br (by rfl) T.bV (aa (aH (cf K) (pv 0) ah) af)) (λ_ _ _ _=>(bq 0 (jo ["point"]))) (λ_ _ _ _=>bX) (λ_ _ _ _=>(dH af)))
   (ai (eK PassesOwn.never rfl (vD K (by rfl) T.iU (aa (aH (cf K) (pv 0) ah) af)) (Je K (n:=2) rfl (aS (bq 3 dz.nd) (aS (bq 4 dz.nd) fc)))
   (ai (aF (i:=5) dz.nd rfl (Or.inl rfl) (m5 (cF (aG cy hr T.iy.c aK (aa (pv 1) (aa (pv 3) af)))) ah ah))
   (ai (cY (Ji K (mR aaZ aa3 aa4 c9 (aH (jA K) (pv 2) (aH (cf K) (pv 4) ah)) (aa (c8 (aa (pv 3) (aa (aH (cf K) (pv 4) ah) (aa (pv 5) af)))) af))))
   (av (cY (Ji K (mR aaZ aa3 aa4 c9 (aH (jA K) (pv 2) (aH (cf K) (pv 4) ah)) (aa (c8 (aa (pv 3) (aa (aH (cf K) (pv 4) ah) (aa (pv 5) af)))) af))))))))
   (av (aJ (pv 2))))),?_⟩
  refine qG ?_;intro cJ c7 dY fN gF;obtain⟨bt,xs,h1,h2,h3⟩:=id hw.ex;have um:=h3.length;have wp:=g.p2;have wl:=g.len;refine(aq rfl (cg (aR.of h1) (ak (j:=0) rfl) (aq rfl ⟨(by lia),(by lia),λD hD=>bY (lo:=0) (m:=p) (Py m H D) (.start hD) (λi acc H2 _ z=>z.len) (dl (abh.mpr (by lia))) ?_ ?_⟩)))
  ·rintro i acc H2 hi f2;exact⟨rfl,dl rfl,λl hl=>f2.next hl⟩
  rintro acc H2 ⟨es,rfl,I,f2⟩;refine(aq rfl (cg (aR.of (f2.same _ _ h1)) (ak (j:=1) rfl) ⟨bt,rfl,⟨_,aR.of (f2.same _ _ h2)⟩,?_⟩));refine Ho (K:=K) (a:=bt) (xs:=xs) (λk σ H3=>∃O v4 U,σ=[some (.ref wb),some (.int (m:Int)),some (.ref D),O,v4,U]/\∃S,HG m H D es S H3/\Pz g.N k S) ⟨none,none,none,rfl,_,f2,Pz.start⟩ (λk σ H3 _ ⟨_,_,_,_,_,z,_⟩=>aR.of (z.same _ _ h2)) ?_ ?_
  ·rintro k x T0 σ H3 hk ⟨O,v4,U,rfl,S,f3,k3⟩ hT;have ar:k<xs.length:=(ju.mp hk).1;have Y:k<ts.length:=by lia
   obtain⟨ct,ex,G⟩:=rE (g:=g) h3 Y;rw[hk]at ex;cases ex;have s4:au H3 (upd H3 T0 (.tup [.int (k:Int),.ref ct])):=au.new hT;have VG:upd H3 T0 (.tup [.int (k:Int),.ref ct]) T0=some (.tup [.int (k:Int),.ref ct]):=ae;have f4:=f3.go s4;generalize upd H3 T0 (.tup [.int (k:Int),.ref ct])=H4 at f4 VG;refine⟨T0,_,rfl,aR.of VG,rfl,_,_,rfl,_,_,rfl,rfl,?_⟩;refine(aq rfl (aq rfl ⟨(m:Int),k,rfl,aq rfl (?_)⟩));rw[fW];have ha:g.N.a k<p:=g.N.al k Y;have hb:g.N.b k<p:=g.N.bl k Y;have Z:=f4.same _ _ G;refine Rt ?_;obtain⟨b1,XU,e1,XW,hb1,q1⟩:=f4.get (i:=g.N.a k) (by lia)
   refine(aq rfl (aq rfl (cg (aR.of Z) (ak (j:=0) rfl) (jn (aM.of f4.lst) (ak e1) (?_)))));have l1:XU.length<=2*k:=by rw[q1.length];exact k3.len _
   refine⟨.inl ⟨rfl,_,aM.of hb1⟩,aq rfl (aq rfl (cg (aR.of Z) (ak (j:=1) rfl) (aq rfl ⟨dl rfl,λt1 Mw=>?_⟩)))⟩
   have s5:au H4 (upd H4 t1 (.tup [.int (k:Int),.int (g.N.b k:Int),.int ((m.testBit k).toNat:Int)])):=au.new Mw;have u5:jI m (upd H4 t1 (.tup [.int (k:Int),.int (g.N.b k:Int),.int ((m.testBit k).toNat:Int)])) t1 (k,g.N.b k):=ae;have f5:=f4.go s5;have Zz:=s5 _ _ hb1;have aw:=s5 _ _ Z;have q5:Paired (jI m (upd H4 t1 (.tup [.int (k:Int),.int (g.N.b k:Int),.int ((m.testBit k).toNat:Int)]))) XU (S (g.N.a k)):=Paired.yY q1 λ_ _ z=>s5 _ _ z
   refine⟨b1,_,_,rfl,rfl,Zz,dS (by rw[aaa];lia),?_⟩
   have f6:=f5.put XW Zz q5 u5;have Rv:=f6.same _ _ G;generalize upd (upd H4 t1 (.tup [.int (k:Int),.int (g.N.b k:Int),.int ((m.testBit k).toNat:Int)])) b1 (.lst (XU.map V.ref++[.ref t1]))=H6 at f6 Rv;obtain⟨b2,ag,e2,XX,uH,q2⟩:=f6.get (i:=g.N.b k) (by lia)
   refine(aq rfl (aq rfl (cg (aR.of Rv) (ak (j:=1) rfl) (jn (aM.of f6.lst) (ak e2) (?_)))));have l2:ag.length<=2*k+1:=by
    rw[q2.length];unfold vY;have:=k3.len (g.N.b k)
    split
    ·rw[aao,abb];lia
    ·lia
   refine⟨.inl ⟨rfl,_,aM.of uH⟩,aq rfl (aq rfl (cg (aR.of Rv) (ak (j:=0) rfl) (aq rfl ⟨dl rfl,λt2 CH=>?_⟩)))⟩
   have s7:au H6 (upd H6 t2 (.tup [.int (k:Int),.int (g.N.a k:Int),.int ((m.testBit k).toNat:Int)])):=au.new CH;have u7:jI m (upd H6 t2 (.tup [.int (k:Int),.int (g.N.a k:Int),.int ((m.testBit k).toNat:Int)])) t2 (k,g.N.a k):=ae;have f7:=f6.go s7;have Sf:=s7 _ _ uH;refine⟨b2,_,_,rfl,rfl,Sf,dS (by rw[aaa];lia),?_⟩
   exact⟨_,_,_,rfl,_,f7.put XX Sf (Paired.yY q2 λ_ _ z=>s7 _ _ z) u7,k3.next⟩
  ·rintro σ H3 ⟨O,v4,U,rfl,S,f3,k3⟩;refine(aq rfl (q D es S H3 I f3 ?_));rw[<-um];exact k3
def kN(p:Nat)(N:RM.Net)(L:Nat->Int)(m u:Nat)(D:Addr)(F:RM.OW)(H0 H:Hp):Prop:=∃es:List Addr,es.length=p/\H D=some (.lst (es.map V.ref))/\
 (∀(i:Nat) b,es[i]?=some b->∃v0 v1,H b=some (.lst [v0,v1])/\wV H (F i false) v0/\wV H (F i true) v1)/\(∀x s,RM.Hy N L m u x s ((F x s).map (·.1)))/\(∀x s d,F x s=some d->RM.Wz N L m u x s d.1 d.2)/\(∀b∈es,H0 b=none)/\RM.Fx N L m u F
def OJ(a b:Bool):Builtin.bitXor ((a.toNat:Nat):Int) ((b.toNat:Nat):Int)=(((a^^b).toNat:Nat):Int):=by
 cases a<;>cases b<;>decide
def xW(t:Addr)(lp:Pos):Sp:=λvs H Q _=>∃w p ts,∃g:aD p ts,∃(m u:Nat),vs=[.ref w,.int (m:Int),.int (u:Int)]/\bz H w p ts/\m<2^ts.length/\u<p/\H t=some (.jV (fk (qz "least_ways") lp))/\
 ∀D F H',H D=none->au H H'->kN p g.N (bG ts) m u D F H H'->Q (.ref D) H'
def mF:Zv T T.jk 5 (xW a.cO cB):=by
 have iG:=iG T;refine T.jk.ok bK λA _ s H vs Q E hr h=>?_
 ·obtain⟨wb,p,ts,g,m,u,rfl,hw,hm,hu,ba,q⟩:=h;refine⟨_,(ai (aF (i:=3) bK.nd rfl (Or.inl rfl) (aG iG hr T.iB.c aK (aa (pv 0) (aa (pv 1) af))))
   (ai (ff (i:=4) bK.nd rfl rfl (own:=["point"]) (fq:=[]) (js:=[]) (az (aj gU) ["web","marks","start","steps","found","waiting","nearest","way","tie","point","turn","part","further"]) rfl (br (by rfl) T.bV (aa (aH (cf K) (pv 0) ah) af)) (λ_ _ _ _=>(bq 0 (jo ["point"]))) (λ_ _ _ _=>bX) (λ_ _ _ _=>(dH (aa o6 (aa o6 af)))))
   (ai (aF (i:=5) bK.nd rfl (Or.inr rfl) (Lv (by exact A5 hr) (c8 (aa (pv 2) (aa ah af))) (c8 (aa ah (aa ah af)))))
   (ai (AU PassesOwn.never (aP uW (bI XA (by rfl) T.cR PySem.boot_len (aa (pv 5) af)) ah (aO _)) (ai (aF (i:=6) bK.nd rfl (Or.inl rfl) (Oq (x:="place") (fq:=["waiting"]) (js:=[5]) hr (az (aj gU) ["web","marks","start","steps","found","waiting","nearest","way","tie","point","turn","part","further"]) rfl (by rfl) T.Gn rfl T.jk.F.hd (aa (pv 5) af) (λ_ _ _ _ hr=>(N4 (by exact A5 hr) (pv 1) (pv 0) (λ_ _=>rfl)))))
   (ai (aF (i:=7) bK.nd rfl (Or.inl rfl) (Lu (by exact A5 hr) (pv 5) (pv 6) ⟨rfl,rfl,rfl,rfl⟩))
   (ai (Dq (pv 7) (Dp (aH (jA K) (pv 4) (aH (cf K) (pv 6) ah)) (aH (cf K) (pv 6) ah) set_list))
   (av (eK PassesOwn.never rfl (oH K (aH (jA K) (pv 3) (aH (cf K) (pv 6) ah))) (Je K (n:=3) rfl (aS (bq 8 bK.nd) (aS (bq 9 bK.nd) (aS (bq 10 bK.nd) fc))))
   (ai (aF (i:=11) bK.nd rfl (Or.inl rfl) (aI eU (aH (cf K) (pv 6) ah) (pv 10)))
   (ai (aF (i:=12) bK.nd rfl (Or.inl rfl) (c8 (aa (aI eM (aH (cf K) (pv 7) ah) (aH (cf K) (aH (cf K) (aH (cf K) (pv 0) ah) (pv 8)) ah)) (aa (aI eU (aH (cf K) (pv 7) ah) (aI jx ah (pv 8))) af))))
   (av (cA (PW.pt (Dm (aP JC (aH (jA K) (aH (jA K) (pv 4) (pv 9)) (pv 11)) o6 (aO _)) (yZ (aP (Rg hr.Dz) (pv 12) (KO (by exact A5 hr) (pv 5) (c8 (aa (pv 9) (aa (pv 11) af))) (pv 12) ⟨rfl,rfl,rfl,rfl⟩) (aO _))))) (av (N5 (by exact A5 hr) (pv 5) (c8 (aa (pv 9) (aa (pv 11) af))) (pv 12) rfl)) aZ))))))))))
   (av (aJ (pv 4))))))),?_⟩
  refine xD ?_;intro cJ c7 dY fN gF nA tP yT Gj Gk wG zS;obtain⟨bt,xs,h1,h2,h3⟩:=id hw.ex;have um:=h3.length;have wp:=g.p2;have wl:=g.len;refine(aq rfl (aq rfl ⟨wb,p,ts,g,m,rfl,hw,hm,λDs dv S H1 du f1 k1=>?_⟩))
  have s1:=f1.same;refine(aq rfl (cg (aR.of (s1 _ _ h1)) (ak (j:=0) rfl) (aq rfl ⟨(by lia),(by lia),λD hD=>bY (lo:=0) (m:=p) (BH H1 D) (.start hD) (λi acc H2 _ z=>z.len) (dl (abh.mpr (by lia))) ?_ ?_⟩)))
  ·rintro i acc H2 hi f2;exact⟨rfl,dl rfl,λl U=>f2.next U⟩
  rintro acc H2 ⟨es,rfl,bb,f2⟩;refine λwd ZA=>(aq rfl ⟨dl rfl,λt1 Mw=>⟨dl rfl,λt2 CH=>?_⟩⟩)
  have ZC:au (upd H2 wd (.dT [])) (upd (upd H2 wd (.dT [])) t1 (.tup [.int (u:Int),.int 0])):=au.new Mw;have XY:au (upd (upd H2 wd (.dT [])) t1 (.tup [.int (u:Int),.int 0])) (upd (upd (upd H2 wd (.dT [])) t1 (.tup [.int (u:Int),.int 0])) t2 (.tup [.int 0,.int 0])):=au.new CH;have f3:=((f2.go (au.new ZA (o:=.dT []))).go ZC).go XY;have w3:=XY _ _ (ZC _ _ (ae (H:=H2) (a:=wd) (o:=.dT [])));have u3:=XY _ _ (ae (H:=upd H2 wd (.dT [])) (a:=t1) (o:=.tup [.int (u:Int),.int 0]));have v3:(upd (upd (upd H2 wd (.dT [])) t1 (.tup [.int (u:Int),.int 0])) t2 (.tup [.int 0,.int 0])) t2=some (.tup [.int 0,.int 0]):=ae;generalize upd (upd (upd H2 wd (.dT [])) t1 (.tup [.int (u:Int),.int 0])) t2 (.tup [.int 0,.int 0])=H3 at f3 w3 u3 v3;refine⟨t1,ky u false,rfl,u3,w3,?_⟩;have bc:=vX.start f3 hu w3 (f2.same.free ZA) v3;have XZ:=s1 _ _ ba;have hL:∀k,k<g.N.n->0<=bG ts k:=yH g;have Rx:∀k,k<g.N.n->0<bG ts k:=λk hk=>by
   have:=(g.zo _ (gw hk)).l0;unfold bG
   lia
  refine⟨λn σ H4=>∃v6 v7 v8 v9 v10 v11 Jj,σ=[some (.ref wb),some (.int (m:Int)),some (.int (u:Int)),some (.ref Ds),some (.ref D),some (.ref wd),v6,v7,v8,v9,v10,v11,Jj]/\∃kvs F W,vX p H1 D wd es kvs F W H4/\RM.Dx g.N (bG ts) m u F W none (λ_ _=>False)/\n=RM.left F p,⟨_,none,none,none,none,none,none,none,rfl,_,_,_,bc,RM.Dx.start,rfl⟩,?_⟩
  rintro n σ H4 ⟨v6,v7,v8,v9,v10,v11,Jj,rfl,kvs,F,W,lw,dj,rfl⟩;refine(aq rfl ⟨wd,kvs,rfl,.inl lw.dt,_,_,rfl,rfl,aq rfl (oG (λhlen=>?_) (λhlen=>?_))⟩)
  case refine_2 =>
   have U : ¬(0:Int)<(kvs.length:Int):=λz=>hlen (cD z)
   have e:kvs=[]:=adq (by lia)
   subst e;have hW:∀x s,W x s=none:=λx s=>by
    rcases lw.val x s with⟨z,_⟩|⟨_,_,_,z,_⟩
    ·exact z
    ·rw[vF]at z;cases z
   exact(aq rfl (q D F H4 (s1.free lw.Dn) (s1.trans lw.same) ⟨es,bb,lw.lst,lw.at_,dj.dj.best hW,dj.dj.fw,λb hb=>s1.free (lw.fr b hb),dj.fin Rx hu hW⟩))
  have hlen:(0:Int)<(kvs.length:Int):=jR hlen;refine⟨λσ' H'=>∃v6 v7 v8 v9 v10 v11 Jj,σ' = [some (.ref wb),some (.int (m:Int)),some (.int (u:Int)),some (.ref Ds),some (.ref D),some (.ref wd),v6,v7,v8,v9,v10,v11,Jj]/\∃I F' W',vX p H1 D wd es I F' W' H'/\RM.Dx g.N (bG ts) m u F' W' none (λ_ _=>False)/\RM.left F' p<RM.left F p,λσ' H' ⟨a6,a7,a8,a9,X0,X3,X4,e,I,F',W',b1,b2,b3⟩=>⟨_,b3,a6,a7,a8,a9,X0,X3,X4,e,I,F',W',b1,b2,rfl⟩,?_⟩
  refine(aq rfl ⟨wd,kvs,LA W kvs,rfl,lw.dt,(by lia),lw.same _ _ XZ,λob H5 Hz bo i kv b ag hb=>?_,λi kv b H5 ag ar s5 hb=>?_⟩)
  ·obtain⟨x,t,d,c,hx,ek,UX,X5,_,hc,X6⟩:=lw.entry ag;have bp:c≠wd:=aW hc lw.dt (by intro z;cases z)
   refine(aq rfl (aq rfl ⟨wd,.ref c,rfl,.inr ⟨kvs,ky x t,b,.inr ⟨ob,bo⟩,rfl,by rw[<-ek];exact hb,X5.symm⟩,au.refl _,c,rfl,?_⟩))
   rw[X6];exact aR.of (Hz c _ hc bp (by intro y z;cases z) (by intro y z;cases z))
  obtain⟨x,t,d,c,hx,ek,UX,X5,_,hc,X6⟩:=lw.entry ag;rw[ek]at hb;have bD:∀y t' d',W y t' = some d'->d.1<=d'.1:=λy t' d' bP=>by
   obtain⟨j,Zn,hj,_,ej⟩:=lw.find bP;have:=ar j (ju.mp hj).1;rw[ej,X6]at this;exact zJ this
  have Y:=lw.go s5;have aw:=s5 _ _ hc;have hF:F x t=none:=dj.dj.dj x t d UX;refine(aq rfl ⟨wd,rfl,.inr ⟨kvs,.inl Y.dt⟩,aq rfl ⟨kvs,ky x t,b,.ref c,Y.dt,rfl,hb,X5,?_⟩⟩);obtain⟨rb,r0,r1,er,b4,Z,dy,dA⟩:=Y.row (i:=x) (by lia)
  have bw:b≠wd:=aW hb Y.dt (by intro z;cases z)
  have b5:rb≠wd:=aW Z Y.dt (by intro z;cases z)
  have ZD:upd H5 wd (.dT (eA kvs (ky x t))) b=some (.tup [.int (x:Int),.int (t.toNat:Int)]):=by rw[ao bw];exact hb
  have Se:upd H5 wd (.dT (eA kvs (ky x t))) D=some (.lst (es.map V.ref)):=by rw[ao (aba Y.wD)];exact Y.lst
  have b6:upd H5 wd (.dT (eA kvs (ky x t))) rb=some (.lst [r0,r1]):=by rw[ao b5];exact Z
  refine(aq rfl (aq rfl (aq rfl (cg (aR.of ZD) (ak (j:=0) rfl) (jn (aM.of Se) (ak er) (aq rfl (cg (aR.of ZD) (ak (j:=1) rfl) ⟨rb,_,_,t.toNat,rfl,rfl,b6,qb (n:=2) (j:=t.toNat) (by cases t<;>decide),?_⟩)))))))
  have Sg:=Y.take UX aw b4 Z;have X7:=dj.pop UX bD;have cb:0<=d.1:=by
   obtain⟨pre,w0⟩:=dj.dj.ww x t d UX;exact(RM.qv hL hu w0).2.2.2.2.2
  have ax:RM.left (RM.jH F x t d) p<RM.left F p:=RM.BX hF hx;have ZE:dI H5 (upd (upd H5 wd (.dT (eA kvs (ky x t)))) rb (.lst (([r0,r1]:List V).set t.toNat (.ref c)))):=λz ys e=>by
   rw[ao (aW e Z (by intro z;cases z)),ao (aW e Y.dt (by intro z;cases z))]
   exact e
  have Sf:=ZE _ _ hb;have Sh:=ZE _ _ aw;generalize upd (upd H5 wd (.dT (eA kvs (ky x t)))) rb (.lst (([r0,r1]:List V).set t.toNat (.ref c)))=H7 at Sg Sf Sh;generalize RM.zI W x t=W7 at Sg X7;have VY:RM.jH F x t d x t=some d:=RM.b9 _ _ _ _;generalize RM.jH F x t d=F7 at Sg X7 ax VY;obtain⟨sb,cs,cn,dC,Uj,X8⟩:=f1.get (i:=x) (by lia)
  have dE:=k1.len x;refine(aq rfl (aq rfl (cg (aR.of Sf) (ak (j:=0) rfl) (jn (aM.of (Sg.same _ _ f1.lst)) (ak cn) ⟨sb,rfl,⟨_,aM.of (Sg.same _ _ Uj)⟩,?_⟩))));refine eG (K:=K) (a:=sb) (xs:=cs.map V.ref) (λj σ O=>∃v8 v9 v10 v11 Jj,σ=[some (.ref wb),some (.int (m:Int)),some (.int (u:Int)),some (.ref Ds),some (.ref D),some (.ref wd),some (.ref b),some (.ref c),v8,v9,v10,v11,Jj]/\dI H7 O/\∃Ay W8,vX p H1 D wd es Ay F7 W8 O/\RM.Dx g.N (bG ts) m u F7 W8 (some (x,t)) (λk y=>∃G,G<j/\(S x)[G]?=some (k,y)))
   ⟨_,_,_,_,_,rfl,(au.refl _).tups,_,_,Sg,?_⟩ (λj σ O _ ⟨_,_,_,_,_,_,_,_,_,z,_⟩=>aM.of (z.same _ _ Uj)) ?_ ?_
  ·exact X7.less λk y ⟨G,h0,_⟩=>absurd h0 (abg _)
  ·rintro j y cp σ O hj ⟨v8,v9,v10,v11,Jj,rfl,VZ,Ay,W8,Ry,UY⟩;obtain⟨cc,aT,rfl⟩:∃cc,cs[j]?=some cc/\y = .ref cc:=by
    rw[aai]at hj;obtain⟨cc,h1,h2⟩:=tD.mp hj;exact⟨cc,h1,h2.symm⟩
   have Pu:j<(S x).length:=by rw[<-X8.length];exact(ju.mp aT).1
   have eS:(S x)[j]?=some (S x)[j]:=aad Pu;have ZF:=L2.rQ X8 aT eS;generalize dV:(S x)[j]=kw at eS ZF;obtain⟨k,y⟩:=kw;have a3:=(k1.mem x (k,y)).mp (iV eS);obtain⟨hk,Di⟩:=a3;have hk:k<ts.length:=hk;have Di:RM.Jn g.N k x y:=Di;have hy:y<p:=Di.lt hk;have X9:=Ry.same _ _ ZF;have X9:O cc=some (.tup [.int (k:Int),.int (y:Int),.int ((m.testBit k).toNat:Int)]):=X9;refine⟨cc,_,rfl,aR.of X9,rfl,_,_,rfl,_,_,rfl,_,_,rfl,rfl,?_⟩;have cq:=VZ _ _ Sf;have ZG:=VZ _ _ Sh;refine(aq rfl (cg (aR.of cq) (ak (j:=1) rfl) (aq rfl (cj (?_)))));dsimp only;rw[OJ];obtain⟨ct,ex,hct⟩:=rE (g:=g) h3 hk;have cv:=Ry.same _ _ (s1 _ _ h1);have cw:=Ry.same _ _ (s1 _ _ h2);have Yb:=Ry.same _ _ (s1 _ _ hct);refine(aq rfl (cg (aR.of ZG) (ak (j:=0) rfl) (aq rfl (cg (aR.of cv) (ak (j:=1) rfl) (aq rfl (cg (aR.of cw) (ak (j:=k) ex) (cg (aR.of Yb) (ak (j:=2) rfl) (?_))))))));refine(cj (aq rfl (cg (aR.of ZG) (ak (j:=1) rfl) (aq rfl (cj ⟨⟨by lia,by lia,by decide⟩,cj ⟨dl rfl,λf hf=>?_⟩⟩)))))
   have ef:Builtin.bitXor ((d.2:Nat):Int) (1*2^((k:Nat):Int).toNat)=((d.2^^^2^k:Nat):Int):=by
    rw[aaj,Int.one_mul,show((2:Int)^k)=((2^k:Nat):Int) by simp]
    exact xor_int _ _
   dsimp only;rw[ef];have s9:au O (upd O f (.tup [.int (d.1+(b7 ts k).2.2),.int ((d.2^^^2^k:Nat):Int)])):=au.new hf;have ZH:upd O f (.tup [.int (d.1+(b7 ts k).2.2),.int ((d.2^^^2^k:Nat):Int)]) f=some (.tup [.int (d.1+bG ts k),.int ((d.2^^^2^k:Nat):Int)]):=ae;have Si:=Ry.go s9;have Yc:dI H7 (upd O f (.tup [.int (d.1+(b7 ts k).2.2),.int ((d.2^^^2^k:Nat):Int)])):=λz ys e=>s9 _ _ (VZ _ _ e)
   generalize upd O f (.tup [.int (d.1+(b7 ts k).2.2),.int ((d.2^^^2^k:Nat):Int)])=H9 at Si ZH Yc;obtain⟨ea,q0,q1,c1,eb,Yd,DV,c3⟩:=Si.row (i:=y) (by lia)
   obtain⟨vv,c4,Sj⟩:∃vv,([q0,q1]:List V)[(t^^m.testBit k).toNat]?=some vv/\wV H9 (F7 y (t^^m.testBit k)) vv:=by
    cases(t^^m.testBit k) with
    | false=>exact⟨q0,rfl,DV⟩
    | true=>exact⟨q1,rfl,c3⟩
   have Lk:=hL k hk;refine(aq rfl (aq rfl (jn (aM.of Si.lst) (ak c1) (aq rfl (jn (aM.of Yd) (ak c4) (?_))))));refine⟨rfl,aq rfl (?_)⟩;have dn:∀{Gq:Nat->Nat->Prop} {Wx:RM.OW},RM.Dx g.N (bG ts) m u F7 Wx (some (x,t)) (λk' y'=>(∃G,G<j/\(S x)[G]?=some (k',y'))\/(k' = k/\y' = y))->
    RM.Dx g.N (bG ts) m u F7 Wx (some (x,t)) (λk' y'=>∃G,G<j+1/\(S x)[G]?=some (k',y')):=λ{Gq Wx} h =>
    h.less λk' y' ⟨G,h0,h5⟩=>by
     by_cases ej:G = j
     ·subst ej;rw[eS]at h5;cases h5;exact .inr ⟨rfl,rfl⟩
     ·exact .inl ⟨G,by lia,h5⟩
   cases V0:F7 y (t^^m.testBit k) with
   | some d2 =>
     rw[V0]at Sj;obtain⟨c2,rfl,a4⟩:=Sj;refine zh (λz=>nomatch z) ?_
     exact⟨_,_,_,_,_,rfl,Yc,Ay,W8,Si,dn (Gq:=λ_ _=>False) (UY.skip VY (Rx k hk) (.inl V0))⟩
   | none =>
     rw[V0]at Sj;have Sj:vv = .eE:=Sj;subst Sj;refine TH rfl ?_;refine(aq rfl (aq rfl ⟨wd,rfl,.inr ⟨Ay,.inl Si.dt⟩,aq rfl (aq rfl ⟨dl rfl,λt3 c6=>?_⟩)⟩))
     have Pd:au H9 (upd H9 t3 (.tup [.int (y:Int),.int ((t^^m.testBit k).toNat:Int)])):=au.new c6;have UZ:upd H9 t3 (.tup [.int (y:Int),.int ((t^^m.testBit k).toNat:Int)]) t3=some (.tup ((ky y (t^^m.testBit k)).map kV)):=ae;have IQ:=Si.go Pd;have Mx:=Pd _ _ ZH;have Rz:dI H7 (upd H9 t3 (.tup [.int (y:Int),.int ((t^^m.testBit k).toNat:Int)])):=λz ys e=>Pd _ _ (Yc _ _ e)
     generalize upd H9 t3 (.tup [.int (y:Int),.int ((t^^m.testBit k).toNat:Int)])=AM at IQ Mx UZ Rz;refine(aq rfl ⟨eW Ay (ky y (t^^m.testBit k)),.inr ⟨Ay,ky y (t^^m.testBit k),t3,.inl IQ.dt,rfl,UZ,rfl⟩,?_⟩);have ZI:=IQ.len;have put:(∀d',W8 y (t^^m.testBit k)=some d'->RM.lx (RM.stp (bG ts) d k) d')->c7 cp [some (.ref wb),some (.int (m:Int)),some (.int (u:Int)),some (.ref Ds),some (.ref D),some (.ref wd),some (.ref b),some (.ref c),some (.int (k:Int)),some (.int (y:Int)),some (.int ((m.testBit k).toNat:Int)),some (.int ((t^^m.testBit k).toNat:Int)),some (.ref f)] AM:=λhle=>by
      refine(aq rfl (aq rfl (aq rfl (aq rfl ⟨dl rfl,λt4 Ye=>?_⟩))))
      have M7:au AM (upd AM t4 (.tup [.int (y:Int),.int ((t^^m.testBit k).toNat:Int)])):=au.new Ye;have Yg:upd AM t4 (.tup [.int (y:Int),.int ((t^^m.testBit k).toNat:Int)]) t4=some (.tup ((ky y (t^^m.testBit k)).map kV)):=ae;have RA:=IQ.go M7;have Yh:=M7 _ _ Mx;refine⟨wd,_,rfl,KJ.t RA.dt Yg (kT (by lia)),?_⟩
      have Yi:=RA.wait (x:=y) (s:=(t^^m.testBit k)) (d:=(d.1+bG ts k,d.2^^^2^k)) hy Yh;refine⟨_,_,_,_,_,rfl,λz ys e=>?_,_,_,Yi,dn (Gq:=λ_ _=>False) (UY.put VY cb hk (Rx k hk) Di V0 hle)⟩
      have ZJ:=M7 _ _ (Rz _ _ e);rw[ao (aW ZJ RA.dt (by intro z;cases z))]
      exact ZJ
     rcases IQ.val y (t^^m.testBit k) with⟨da,de⟩|⟨d2,c2,ZK,df,a4⟩
     ·rw[de];refine⟨f,f,_,_,_,_,rfl,rfl,aR.of Mx,aR.of Mx,_,rfl,oG (λ_=>put λd' e=>by rw[da]at e;cases e) λz=>absurd ((HT.zG _ _ _ _).mpr (.inr ⟨rfl,abI _⟩)) z⟩
     ·rw[df];refine⟨f,c2,_,_,_,_,rfl,rfl,aR.of Mx,aR.of a4,_,rfl,oG (λU=>?_) (λU=>?_)⟩
      ·have U:=(HT.zG _ _ _ _).mp U;refine put λd' e=>?_
       rw[ZK]at e;cases e;unfold RM.lx RM.stp;simp only
       lia
      ·have U:=λz=>U ((HT.zG _ _ _ _).mpr z)
       refine⟨_,_,_,_,_,rfl,Rz,Ay,W8,IQ,dn (Gq:=λ_ _=>False) (UY.skip VY (Rx k hk) (.inr ⟨ZK,?_⟩))⟩
       have h6 : ¬ d.1+bG ts k<d2.1:=λz=>U (.inl z)
       have h7 : ¬(d.1+bG ts k=d2.1/\((d.2^^^2^k:Nat):Int)<=(d2.2:Int)):=λz=>U (.inr z)
       unfold RM.lx RM.stp;simp only
       lia
  ·rintro σ O ⟨v8,v9,v10,v11,Jj,rfl,VZ,Ay,W8,Ry,UY⟩;refine⟨_,_,_,_,_,_,_,rfl,Ay,F7,W8,Ry,UY.all λk y hk Di=>?_,ax⟩
   have dq:=(k1.mem x (k,y)).mpr ⟨hk,Di⟩;obtain⟨G,a5⟩:=aaI dq;have Yj:=(ju.mp a5).1;exact⟨G,by rw[aaa,X8.length];exact Yj,a5⟩
def IS:Sp:=λvs H Q _=>∃v o,vs=[v]/\wV H o v/\Q (oV (o.map (·.1))) H
abbrev xX(F:RM.OW):Nat->Bool->Option Int:=λx s=>(F x s).map (·.1)
def CI:Sp:=λvs H Q _=>∃(D:Addr) (es:List Addr) (F:RM.OW),vs=[.ref D]/\H D=some (.lst (es.map V.ref))/\es.length<=900/\(∀(i:Nat) b,es[i]?=some b->∃v0 v1,H b=some (.lst [v0,v1])/\wV H (F i false) v0/\wV H (F i true) v1)/\
 ∀b ys H',au H H'->H' b=some (.tup ys)->Paired (jD H') ys (k6 (xX F) es.length)->Q (.ref b) H'
def gi:Ok T T.gb 1 IS:=by
 refine T.gb.ok rX λ_ A _ s H vs Q E hr h=>?_
 ·obtain⟨v,o,rfl,G,q⟩:=h;refine⟨_,(av (aJ (m5 (aP JC (pv 0) o6 (aO _)) o6 (aH (cf K) (pv 0) ah)))),?_⟩;cases o with
  | none =>
    have G:v = .eE:=G;subst G;exact(aq rfl ⟨rfl,aq rfl (TH rfl q)⟩)
  | some d =>
    obtain⟨c,rfl,hc⟩:=G;exact(aq rfl ⟨rfl,aq rfl (zh (λz=>nomatch z) (aq rfl (cg (aR.of hc) (ak (j:=0) rfl) (q))))⟩)
def iH:Ok T T.iC 2 CI:=by
 have gi:=gi T;refine T.iC.ok qH λ_ A _ s H vs Q E hr h=>?_
 ·obtain⟨D,es,F,rfl,O,I,Y,q⟩:=h;refine⟨_,(av (aJ (cS (A8 K) (by rfl) T.qO ab2 (aa (bB (own:=["even","odd"]) (fq:=[]) (js:=[]) (az (aj fC) ["ways"]) rfl (oH K (pv 0)) (λ_ _ _ _=>(XH K rfl (aS (bq 0 (jo ["even","odd"])) (aS (bq 1 (jo ["even","odd"])) fc)))) (λ_ _ _ _=>bX) (λ_ _ _ _=>(c8 (aa (aG gi hr T.gb.c aK (aa (pv 0) af)) (aa (aG gi hr T.gb.c aK (aa (pv 1) af)) af))))) af)))),?_⟩
  refine(aq rfl ⟨D,rfl,⟨_,aM.of O⟩,λL U=>bu (K:=K) (a:=D) (xs:=es.map V.ref) (λi acc H2=>au H H2/\H2 L=some (.lst acc)/\Paired (jD H2) acc (k6 (xX F) i)) ⟨au.new U,ae,.nil⟩ (λi acc H2 _ z=>⟨aM.of (z.1 _ _ O),z.2.1,by rw[z.2.2.length,zE];exact aaf _⟩) (dl (abh.mpr (by rw[aaa];lia))) ?_ ?_⟩)
  ·rintro i x acc H2 hx ⟨s2,G,pr⟩;obtain⟨b,hb,rfl⟩:∃b,es[i]?=some b/\x = .ref b:=by
    rw[aai]at hx;obtain⟨b,h1,h2⟩:=tD.mp hx;exact⟨b,h1,h2.symm⟩
   obtain⟨v0,v1,Z,w0,w1⟩:=Y i b hb;refine⟨b,v0,v1,rfl,aM.of (s2 _ _ Z),_,_,rfl,_,_,rfl,rfl,rfl,aq rfl ⟨v0,_,rfl,w0.tups s2.tups,_,rfl,v1,_,rfl,w1.tups s2.tups,dl rfl,λt ht=>?_⟩⟩
   have s3:au H2 (upd H2 t (.tup [oV (xX F i false),oV (xX F i true)])):=au.new ht;have tL:t≠L:=λz=>by rw[z,G]at ht;cases ht
   have Us:H L=none:=U;refine⟨s3 _ _ G,(s2.trans s3).put Us,ae,?_⟩;rw[K9];have keep:∀z pr,jD H2 z pr->jD (upd (upd H2 t (.tup [oV (xX F i false),oV (xX F i true)])) L (.lst (acc++[.ref t]))) z pr:=λz pr ⟨b,e,hb⟩=>⟨b,e,by rw[ao (aW hb G (by intro z;cases z))];exact s3 _ _ hb⟩
   exact Paired.snoc (Paired.imp' (λ_ _ z=>keep _ _ z) pr) ⟨t,rfl,by rw[ao tL,ae]⟩
  ·rintro acc H2 ⟨s2,G,pr⟩;rw[aaa]at pr;refine⟨L,_,rfl,.inl ⟨aM.of G,λl I=>?_⟩⟩
   exact q l acc _ (s2.trans (au.new I)) ae (Paired.imp' (λ_ _ ⟨b,e,hb⟩=>⟨b,e,au.new I _ _ hb⟩) pr)
def kN.same{p:Nat}{N:RM.Net}{L:Nat->Int}{m u:Nat}{D:Addr}{F:RM.OW}{H0 H H' : Hp}(h:kN p N L m u D F H0 H)(s:au H H'):kN p N L m u D F H0 H':=by
 obtain⟨es,G,I,O,U,Y,Z⟩:=h;exact⟨es,G,s _ _ I,λi b hb=>let⟨v0,v1,q1,q2,q3⟩:=O i b hb;⟨v0,v1,s _ _ q1,q2.tups s.tups,q3.tups s.tups⟩,U,Y,Z⟩
def kN.put{p:Nat}{N:RM.Net}{L:Nat->Int}{m u:Nat}{D X:Addr}{F:RM.OW}{H0 H:Hp}{xs ys:List V}(h:kN p N L m u D F H0 H)(hD:H0 D=none)(hX:H X=some (.lst xs))(hX0:∃o,H0 X=some o):kN p N L m u D F H0 (upd H X (.lst ys)):=by
 obtain⟨es,I,O,U,Y,Z,G⟩:=h;obtain⟨o,ho⟩:=hX0;have ne:∀b,H0 b=none->b≠X:=λb hb z=>by rw[z,ho]at hb;cases hb
 have tp:dI H (upd H X (.lst ys)):=dI.put hX;refine⟨es,I,by rw[ao (ne D hD)];exact O,λi b hb=>?_,Y,Z,G⟩
 obtain⟨v0,v1,q1,q2,q3⟩:=U i b hb;exact⟨v0,v1,by rw[ao (ne b (G.1 b (iV hb)))];exact q1,q2.tups tp,q3.tups tp⟩
def Gr(p:Nat)(N:RM.Net)(L:Nat->Int)(m i:Nat)(ds:List Addr)(Fs:Nat->RM.OW)(H:Hp):Prop:=ds.length=i/\∀(j:Nat) d,ds[j]?=some d->∃H0,kN p N L m j d (Fs j) H0 H
def CJ(t:Addr)(lp:Pos):Sp:=λvs H Q _=>∃w p ts,∃g:aD p ts,∃m:Nat,vs=[.ref w,.int (m:Int)]/\bz H w p ts/\m<2^ts.length/\H t=some (.jV (fk (qz "least_ways") lp))/\
 ∀D ds G H',H D=none->au H H'->H' D=some (.lst (ds.map V.ref))->Gr p g.N (bG ts) m p ds G H'->Q (.ref D) H'
def cW:Ok T T.fF 6 (CJ a.cO cB):=by
 have mF:=mF T;refine T.fF.ok qI λ_ A _ s H vs Q E hr h=>?_
 ·obtain⟨wb,p,ts,g,m,rfl,hw,hm,U,q⟩:=h;refine⟨_,(av (aJ (bB (own:=["start"]) (fq:=["web","marks"]) (js:=[0,1]) (az (aj fD) ["web","marks"]) rfl (br (by rfl) T.bV (aa (aH (cf K) (pv 0) ah) af)) (λ_ _ _ _=>(bq 0 (jo ["start","web","marks"]))) (λ_ _ _ _=>bX) (λ_ _ _ _=>(aG mF hr T.jk.c aK (aa (pv 1) (aa (pv 2) (aa (pv 0) af)))))))),?_⟩
  obtain⟨bt,xs,h1,h2,h3⟩:=id hw.ex;have wp:=g.p2;refine(aq rfl (cg (aR.of h1) (ak (j:=0) rfl) (aq rfl ⟨(by lia),(by lia),λD Y=>bY (lo:=0) (m:=(p:Int).toNat) (λi acc H2=>au H H2/\H2 D=some (.lst acc)/\∃ds G,acc=ds.map V.ref/\ds.length=i/\∀(j:Nat) d,ds[j]?=some d->∃H0,kN p g.N (bG ts) m j d (G j) H0 H2/\H0 d=none/\∃o,H0 D=some o) ⟨au.new Y,ae,[],λ_ _ _=>none,rfl,rfl,λj d e=>by cases e⟩ (λi acc H2 _ ⟨_,z,ds,_,e,l,_⟩=>⟨z,by rw[e,aaa];lia⟩) (dl (abh.mpr (by lia))) ?_ ?_⟩)))
  ·rintro i acc H2 hi ⟨s2,I,ds,G,rfl,O,all⟩;rw[aaj]at hi;rw[aa6];refine⟨rfl,aq rfl (aq rfl (aq rfl ⟨wb,p,ts,g,m,i,rfl,hw.same s2,hm,hi,s2 _ _ U,λd F H3 hd s3 wa=>?_⟩))⟩
   have Z:=s3 _ _ I;refine⟨Z,(s2.trans s3).put Y,ae,ds++[d],λj=>if j=i then F else G j,by simp,by simp[O],λj d' e=>?_⟩
   by_cases ej:j<ds.length
   ·rw[aaK ej]at e;obtain⟨H0,w0,n0,o0⟩:=all j d' e;dsimp only;rw[aab (show ¬ j=i by lia)]
    exact⟨H0,(w0.same s3).put n0 Z o0,n0,o0⟩
   ·rw[aaQ (by lia)]at e
    have hj:j=i:=by
     have:=(ju.mp e).1;simp at this
     lia
    subst hj;rw[O,acL]at e;have e:d=d':=by simpa using e
    subst e;dsimp only;rw[aac rfl];exact⟨H2,wa.put hd Z ⟨_,I⟩,hd,_,I⟩
  ·rintro acc H2 ⟨s2,I,ds,G,rfl,O,all⟩;rw[aaj]at O;exact q D ds G H2 Y s2 I ⟨O,λj d e=>let⟨H0,w0,_⟩:=all j d e;⟨H0,w0⟩⟩
def Az:Sp:=λvs H Q _=>∃(D:Addr) (ds:List Addr) (G:Nat->RM.OW),∃p N L m,vs=[.ref D]/\H D=some (.lst (ds.map V.ref))/\p<=900/\Gr p N L m p ds G H/\
 ∀b H',au H H'->jE H' b ((List.range p).map λi=>k6 (xX (G i)) p)->Q (.ref b) H'
def dc:Ok T T.gf 3 Az:=by
 have iH:=iH T;refine T.gf.ok rY λ_ A _ s H vs Q E hr h=>?_
 ·obtain⟨D,ds,U,p,N,L,m,rfl,Y,hp,⟨I,all⟩,q⟩:=h;refine⟨_,(av (aJ (cS (A8 K) (by rfl) T.qO ab2 (aa (bB (own:=["from_point"]) (fq:=[]) (js:=[]) (az (aj fY) ["ways"]) rfl (oH K (pv 0)) (λ_ _ _ _=>(bq 0 (jo ["from_point"]))) (λ_ _ _ _=>bX) (λ_ _ _ _=>(aG iH hr T.iC.c aK (aa (pv 0) af)))) af)))),?_⟩
  refine(aq rfl ⟨D,rfl,⟨_,aM.of Y⟩,λX Z=>bu (K:=K) (a:=D) (xs:=ds.map V.ref) (λi acc H2=>au H H2/\H2 X=some (.lst acc)/\Paired (RowW H2) acc ((List.range i).map λi=>k6 (xX (U i)) p)) ⟨au.new Z,ae,.nil⟩ (λi acc H2 _ z=>⟨aM.of (z.1 _ _ Y),z.2.1,by rw[z.2.2.length,aaa,aav];exact aaf _⟩) (dl (abh.mpr (by rw[aaa];lia))) ?_ ?_⟩)
  ·rintro i x acc H2 hx ⟨s2,G,pr⟩;obtain⟨d,hd,rfl⟩:∃d,ds[i]?=some d/\x = .ref d:=by
    rw[aai]at hx;obtain⟨b,h1,h2⟩:=tD.mp hx;exact⟨b,h1,h2.symm⟩
   obtain⟨H0,wa⟩:=all i d hd;obtain⟨es,e1,e2,e3,_⟩:=wa.same s2;refine⟨rfl,aq rfl ⟨d,es,U i,rfl,e2,(by lia),e3,λb ys H3 s3 hb Sk=>?_⟩⟩
   have O:=s3 _ _ G;refine⟨O,(s2.trans s3).put Z,ae,?_⟩;rw[abG,aax,e1]at *;exact Paired.snoc (Paired.imp' (λ_ _ z=>z.tups (s3.tups.trans (dI.put O))) pr) (RowW.tups (dI.put O) ⟨b,ys,rfl,hb,Sk⟩)
  ·rintro acc H2 ⟨s2,G,pr⟩;rw[aaa,I]at pr;refine⟨X,_,rfl,.inl ⟨aM.of G,λl I=>?_⟩⟩
   exact q l _ (s2.trans (au.new I)) ⟨acc,ae,Paired.imp' (λ_ _ z=>z.same (au.new I)) pr⟩
def U1{x y:V}{A B:Prop}(h:x≠y)(ha:A):if(!decide (x=y))=true then A else B:=by
 rw[dO h];exact fK ha
def OM(p:Nat)(ts:List eO)(g:aD p ts)(m:Nat)(H H' : Hp)(t:Addr):Prop :=
 ((∀x z,x<p->¬ RM.Wy g.N (bG ts) m x x true z)/\m=g.N.cut (λx=>decide (x∈tT p ts g m))/\∃l,H l=none/\H' t=some (.tup [.str "side",.ref l])/\H' l=some (.lst (aA (tT p ts g m))))\/
 ∃(z:Int) (e:Nat) (b:Addr) (W:List (List Pr)),RM.Lo g.N (bG ts) m z e/\RM.vZ g.N (bG ts) m z e/\H' t=some (.tup [.str "ring",.int (e:Int),.ref b])/\jE H' b W/\W.length=p/\(∀R∈W,R.length=p)/\Gf p ts g m W
def AA(C t:Addr)(lp:Pos):Sp:=λvs H Q E=>∃w p ts,∃g:aD p ts,∃S,vs=[.ref w,.int S]/\bz H w p ts/\H t=some (.jV (fk (qz "least_ways") lp))/\mS ts S (E (.ref C) none H) λm=>∀r H',H r=none->au H H'->OM p ts g m H H' r->Q (.ref r) H'
def w4(H:Hp)(v:V)(d:Int×Nat):Prop:=∃c,v = .ref c/\H c=some (.tup [.int d.1,.int (d.2:Int)])
def w4.tups{H H' : Hp}{v:V}{d:Int×Nat}(h:w4 H v d)(s:dI H H'):w4 H' v d:=let⟨c,e,q⟩:=h;⟨c,e,s _ _ q⟩
def pR(d:Int×Nat):PyData:=.tuple [.int d.1,.int (d.2:Int)]
def CK{K:bN}{H:Hp}:∀{ys:List V} {R:List (Int×Nat)},Paired (w4 H) ys R->DatVs K H ys (R.map pR)
 | _,_,.nil=>.nil
 | _,_,.cons h r=>by
   obtain⟨b,rfl,hb⟩:=h;exact .cons (.tup (aR.of hb) (.cons (.int _) (.cons (.int _) .nil))) (CK r)
def My:∀l:List (Int×Nat),PyData.eqv (.list (l.map pR)) (.list [])=decide (l=[])
 | []=>rfl
 | _::_=>rfl
def CL:∀R:List (Int×Nat),PyData.canLayAll0 (R.map pR)=true
 | []=>rfl
 | q::r=>by
   have G:=CL r;have e:(pR q).canLay0=true:=by simp[pR,PyData.canLay0,PyData.canLayAll0]
   simp only[aaN,PyData.canLayAll0,G,acC,e]
def yV:∀R:List (Int×Nat),PyData.depthAll (R.map pR)<=1
 | []=>aaL _
 | q::r=>by
   have G:=yV r;show max (PyData.depth (pR q)) (PyData.depthAll (r.map pR))<=1;have e:PyData.depth (pR q)=1:=by simp[pR,PyData.depth,PyData.depthAll]
   lia
def yW{H:Hp}:∀{ys:List V} {R:List (Int×Nat)},Paired (w4 H) ys R->∃cs:List Addr,ys=cs.map V.ref/\Paired (λ(c:Addr) (d:Int×Nat)=>H c=some (.tup [.int d.1,.int (d.2:Int)])) cs R
 | _,_,.nil=>⟨[],rfl,.nil⟩
 | _,_,.cons h r=>by
   obtain⟨b,rfl,hb⟩:=h;obtain⟨cs,rfl,pr⟩:=yW r;exact⟨b::cs,rfl,.cons hb pr⟩
def CM(R:List (Int×Nat)):SeqAt.shaped (.list (R.map pR))=true:=by
 unfold SeqAt.shaped;have e:(PyData.list (R.map pR)).canLay0=PyData.canLayAll0 (R.map pR):=by simp[PyData.canLay0]
 rw[e,CL,abo];refine cD ?_;have h:=yV R;have G:PyData.depth (PyData.list (R.map pR))=PyData.depthAll (R.map pR)+1:=by simp[PyData.depth]
 rw[G]
 lia
def zJ{a b:Int×Nat}(h:HT.lexLt [a.1,(a.2:Int)] [b.1,(b.2:Int)]=false):RM.lx b a:=by
 rw[HT.g8]at h;unfold RM.lx
 by_cases e:a.1=b.1
 ·rw[aac e,HT.g8]at h;refine .inr ⟨e.symm,?_⟩
  by_cases G:(a.2:Int)=(b.2:Int)
  ·lia
  ·rw[aab G]at h;have:=of_decide_eq_false h
   lia
 ·rw[aab e]at h;have:=of_decide_eq_false h;exact .inl (by lia)
def gB:IC T T.ko 7 (AA a.aU a.cO cB):=by
 have dF:=dF T;have cW:=cW T;have dc:=dc T;have sW:=sW T;refine T.ko.DI lU λ_ A _ s H vs Q E hr h=>?_
 ·obtain⟨wb,p,ts,g,S,rfl,hw,a6,q⟩:=h;refine⟨_,(ai (cY (aG dF hr T.iT.c eV.passes (aa (pv 0) (aa (pv 1) af))))
   (ai (aF (i:=2) lU.nd rfl (Or.inr rfl) (aG cW hr T.fF.c aK (aa (pv 0) (aa (pv 1) af))))
   (ai (ff (i:=3) lU.nd rfl rfl (own:=["point"]) (fq:=["ways"]) (js:=[2]) (az (aj kh) ["web","marks","ways","rounds"]) rfl (br (by rfl) T.bV (aa (aH (cf K) (pv 0) ah) af)) (λ_ _ _ _=>(bq 0 (jo ["point","ways"]))) (λ_ _ _ _=>(dw (aP Nm (aH (jA K) (aH (jA K) (aH (jA K) (pv 1) (pv 0)) (pv 0)) ah) o6 (aO _)))) (λ_ _ _ _=>(aH (jA K) (aH (jA K) (aH (jA K) (pv 1) (pv 0)) (pv 0)) ah)))
   (ai (cA (aP (JS K hr.units) (pv 3) (dH af) (aO _)) (av (aJ (aG sW hr T.sM.c eV.passes (aa (pv 0) (aa (pv 1) af))))) aZ)
   (av (aJ (c8 (aa iW (aa (aH (cf K) (bI (XJ hr.hd hr.in1.Dz) (by rfl) T.Gn adi (aa (pv 3) af)) ah) (aa (aG dc hr T.gf.c aK (aa (pv 2) af)) af)))))))))),?_⟩
  refine zT ?_;intro cJ c7 dY fN gF;obtain⟨bt,xs,h1,h2,h3⟩:=id hw.ex;have wp:=g.p2;have W:=g.Jf;rcases q with⟨m,rfl,hm,q⟩|⟨hS,q⟩
  case inr=>exact(aq rfl (aq rfl ⟨wb,p,ts,_,rfl,hw,W,.inr ⟨hS,q⟩⟩))
  refine(aq rfl (aq rfl ⟨wb,p,ts,_,rfl,hw,W,.inl ⟨m,rfl,hm,?_⟩⟩));refine(aq rfl (aq rfl ⟨wb,p,ts,g,m,rfl,hw,hm,a6,λD ds G H1 hD s1 tZ al=>?_⟩))
  obtain⟨hl,all⟩:=id al;have IT:∀i,i<p->∃d H0,ds[i]?=some d/\kN p g.N (bG ts) m i d (G i) H0 H1:=λi hi=>by
   have e:ds[i]?=some ds[i]:=aad (by lia)
   obtain⟨H0,h0⟩:=all i _ e;exact⟨_,H0,e,h0⟩
  refine(aq rfl (cg (aR.of (s1 _ _ h1)) (ak (j:=0) rfl) (aq rfl ⟨(by lia),(by lia),λX hX=>bY (lo:=0) (m:=(p:Int).toNat) (λi acc H2=>au H1 H2/\H2 X=some (.lst acc)/\Paired (w4 H2) acc ((List.range i).filterMap λj=>G j j true)) ⟨au.new hX,ae,.nil⟩ (λi acc H2 _ z=>⟨z.2.1,by rw[z.2.2.length];exact aaE (List.length_filterMap_le ..) (by simp)⟩) (dl (abh.mpr (by lia))) ?_ ?_⟩)))
  ·rintro i acc H2 hi ⟨s2,I,pr⟩;rw[aaj]at hi;rw[aa6];obtain⟨d,H0,hd,es,e1,e2,e3,_⟩:=IT i hi;have ag:es[i]?=some es[i]:=aad (by lia)
   obtain⟨v0,v1,hv,w0,Z⟩:=e3 i _ ag;have fm:(List.range (i+1)).filterMap (λj=>G j j true)=(List.range i).filterMap (λj=>G j j true)++(G i i true).toList:=by
    rw[abG,List.filterMap_append];cases O:G i i true<;>simp[O]
   rw[fm];have ZL:(ds.map V.ref)[i]?=some (.ref d):=by rw[aai,hd];rfl
   have ar:(es.map V.ref)[i]?=some (.ref es[i]):=by rw[aai,ag];rfl
   refine⟨rfl,aq rfl (aq rfl (jn (aM.of (s2 _ _ tZ)) (ak (j:=i) ZL) (aq rfl (jn (aM.of (s2 _ _ e2)) (ak (j:=i) ar) (jn (aM.of (s2 _ _ hv)) (ak (j:=1) rfl) ⟨rfl,aq rfl (?_)⟩)))))⟩;cases O:G i i true with
   | none =>
     rw[O]at Z;have Z:v1 = .eE:=Z;subst Z;refine O8 rfl ⟨s2,I,?_⟩;rw[show(none:Option (Int×Nat)).toList=[] from rfl,aby]
     exact pr
   | some dd =>
     rw[O]at Z;obtain⟨c,rfl,hc⟩:=Z;refine U1 (λz=>nomatch z) (aq rfl (aq rfl (jn (aM.of (s2 _ _ tZ)) (ak (j:=i) ZL) (aq rfl (jn (aM.of (s2 _ _ e2)) (ak (j:=i) ar) (jn (aM.of (s2 _ _ hv)) (ak (j:=1) rfl) ⟨I,s2.put hX,ae,?_⟩))))))
     have tp:dI H2 (upd H2 X (.lst (acc++[.ref c]))):=dI.put I;exact Paired.snoc (Paired.imp' (λ_ _ z=>z.tups tp) pr) ⟨c,rfl,tp _ _ (s2 _ _ hc)⟩
  ·rintro acc H2 ⟨s2,I,pr⟩;rw[aaj]at pr;generalize hR:(List.range p).filterMap (λj=>G j j true)=R at pr
   have a7:=s1.trans s2;have Rx:∀k,k<g.N.n->0<bG ts k:=λk hk=>by
    have:=(g.zo _ (gw hk)).l0;unfold bG
    lia
   have inR:∀j d,j<p->G j j true=some d->d∈R:=λj d hj hd=>by
    rw[<-hR];exact abU.mpr ⟨j,aaA.mpr hj,hd⟩
   have a8:∀d,d∈R->∃j,j<p/\G j j true=some d:=λd hd=>by
    rw[<-hR]at hd;obtain⟨j,hj,e⟩:=abU.mp hd;exact⟨j,aaA.mp hj,e⟩
   have best:∀i,i<p->∀x s,RM.Hy g.N (bG ts) m i x s ((G i x s).map (·.1)):=λi hi=>by
    obtain⟨d,H0,hd,es,e1,e2,e3,e4,_⟩:=IT i hi;exact e4
   refine(aq rfl ⟨dl rfl,λl0 FD=>⟨_,_,.lst (aM.of (au.new FD _ _ I)) (CK (Paired.imp' (λ_ _ z=>z.tups (au.new FD).tups) pr)),.lst (aM.of ae) .nil,CM _,rfl,aq rfl (?_)⟩⟩)
   rw[My];have s3:=a7.trans (au.new (o:=.lst []) FD);have Yk:=s2.trans (au.new (o:=.lst []) FD);have IU:=au.new (o:=.lst []) FD _ _ I;have Sk:=Paired.imp' (λ_ _ z=>w4.tups z (au.new (o:=.lst []) FD).tups) pr
   clear I pr;generalize upd H2 l0 (.lst [])=H3 at s3 Yk IU Sk
   by_cases U:R=[]
   ·rw[cD U];have no:∀x z,x<p->¬ RM.Wy g.N (bG ts) m x x true z:=λx z hx hw=>by
     have b:=best x hx x true;cases O:G x x true with
     | none=>rw[O]at b;exact b z hw
     | some d=>have:=inR x d hx O;rw[U]at this;cases this
    refine fK (aq rfl (aq rfl ⟨wb,p,ts,g,_,rfl,hw.same s3,.inl ⟨m,rfl,hm,λt H4 ht s4 told=>?_⟩⟩))
    refine q t H4 (s3.free ht) (s3.trans s4) (.inl ⟨no,?_⟩);rcases told with⟨h0,l,hl,Ye,ZM⟩|⟨c,hc,hp,_⟩
    ·exact⟨h0,l,s3.free hl,Ye,ZM⟩
    ·obtain⟨c1,c2⟩:=RM.bh.mp hc;rw[RM.LF (λk hk=>acw (Rx k hk)) no (RM.rK c1 c2) (RM.lJ c1)]at hp
     cases hp
   ·rw[dO U];obtain⟨cs,rfl,ZN⟩:=yW Sk;have bb:=ZN.length;have aw:0<cs.length:=by
     have:=List.length_pos_iff.mpr U
     lia
    have ax:∀(i:Nat) c,cs[i]?=some c->∃d,R[i]?=some d/\H3 c=some (.tup [.int d.1,.int (d.2:Int)]):=λi c hc=>Paired.pA ZN hc
    refine dN (aq rfl ⟨X,cs,λi=>[(R.getD i (0,0)).1,((R.getD i (0,0)).2:Int)],rfl,aM.of IU,aw,λi c hc=>?_,λi c hc aT=>?_⟩)
    ·obtain⟨d,hd,h⟩:=ax i c hc;have e:R.getD i (0,0)=d:=by rw[aae,hd];rfl
     dsimp only;rw[e];exact aR.of h
    obtain⟨d,hd,a9⟩:=ax i c hc;obtain⟨u,hu,ZO⟩:=a8 d (iV hd);have a3:∀j d',j<p->G j j true=some d'->RM.lx d d':=λj d' hj O=>by
     obtain⟨i',a4⟩:=aaI (inR j d' hj O);have ba:i'<cs.length:=by
      have:=(ju.mp a4).1
      lia
     have Y:=aT i' ba;have e:R.getD i (0,0)=d:=by rw[aae,hd];rfl
     have e' : R.getD i' (0,0)=d':=by rw[aae,a4];rfl
     dsimp only at Y;rw[e,e']at Y;exact zJ Y
    have a5:∀x z',x<p->RM.Wy g.N (bG ts) m x x true z'->d.1<=z':=λx z' hx hw=>by
     have b:=best x hx x true;cases O:G x x true with
     | none=>rw[O]at b;exact absurd hw (b z')
     | some d' =>
       rw[O]at b;have h1:d'.1<=z':=b.2 z' hw;have h2:=a3 x d' hx O;unfold RM.lx at h2
       lia
    obtain⟨_,_,_,es,_,_,_,_,wz,_,_⟩:=IT u hu;have ZP:=wz u true d ZO;obtain⟨r1,r2,r3,r4⟩:=RM.Ej Rx (show u<g.N.p from hu) ZP a5
    refine(cg (aR.of a9) (ak (j:=1) rfl) (aq rfl ⟨D,ds,G,p,g.N,bG ts,m,rfl,Yk _ _ tZ,(by lia),⟨hl,λj d e=>let⟨H0,w0⟩:=all j d e;⟨H0,w0.same Yk⟩⟩,λb H4 s4 hW=>⟨dl rfl,λt ht=>?_⟩⟩))
    have s5:au H4 (upd H4 t (.tup [.str "ring",.int (d.2:Int),.ref b])):=au.new ht;refine q t _ ((s3.trans s4).free ht) ((s3.trans s4).trans s5) (.inr ⟨d.1,d.2,b,_,⟨G,λi hi=>?_,⟨u,hu,ZO⟩,a3⟩,⟨r1,r2,r3,r4,⟨u,hu,?_⟩,a5⟩,ae,hW.same s5,by rw[aaa,aav],λR hR=>?_,λi hi x s hx=>?_⟩)
    ·obtain⟨_,_,_,_,_,_,_,_,_,_,fx⟩:=IT i hi;exact fx
    ·obtain⟨pre,w0⟩:=ZP;exact⟨pre,_,w0⟩
    ·obtain⟨i,_,rfl⟩:=aaz.mp hR;exact zE _ _
    ·rw[aae,aai,abQ hi];show RM.Hy _ _ m i x s (sel (KQ (k6 (xX (G i)) p) x) s);rw[K8 hx];exact best i hi x s
def E6:Sp:=λvs H Q _=>∃(l:Addr) (rows:List RM.Row3) (x:Nat),vs=[.ref l,.int (x:Int)]/\jd H l rows/\∀c H',au H H'->H' c=some (.tup [.int (((RM.cT rows x 0).1:Nat):Int),.int (((RM.cT rows x 0).2:Nat):Int)])->Q (.ref c) H'
def CO:Sp:=λvs H Q _=>∃(l b:Addr) (rows:List RM.Row3) (a:RM.Row3),vs=[.ref l,.ref b]/\jd H l rows/\H b=some (.tup (tM a))/\rows.length<=200/\∀G H',au H H'->jd H' G (RM.xx rows a)->Q (.ref G) H'
def E7:Sp:=λvs H Q _=>∃(l:Addr) (B:List Nat),vs=[.ref l]/\H l=some (.lst (aA B))/\B.length<=200/\∀G rows H',au H H'->jd H' G rows->RM.Rw B rows->rows=RM.gO B B.length->Q (.ref G) H'
def PV(p:Nat)(ts:List eO)(g:aD p ts)(zs:List Int):Prop:=∃rs:List Nat,zs=rs.map (λx=>((x:Nat):Int))/\RM.Base g.N rs
def E8:Sp:=λvs H Q _=>∃w p ts,∃g:aD p ts,∃(l:Addr) (zs:List Int),vs=[.ref w,.ref l]/\bz H w p ts/\H l=some (.lst (zs.map V.int))/\zs.length<=200/\∀H' (d:Bool),au H H'->(d=true↔PV p ts g zs)->Q (.bl d) H'
def cast_inj{xs ys:List Nat}(e:xs.map (λx=>((x:Nat):Int))=ys.map λx=>((x:Nat):Int)):xs=ys:=by
 have:=aaU (List.map Int.toNat) e;rw[abl,abl]at this;have h1:(Int.toNat∘λx=>((x:Nat):Int))=id:=funext λx=>rfl
 rw[h1,ac2,ac2]at this;exact this
def U3{x y:V}{A B:Prop}(h:x≠y)(ha:A):if(!decide (x=y))=true then A else B:=by
 rw[dO h];exact fK ha
def sX:Ok T T.sN 2 E6:=by
 have cy:=cy T;refine T.sN.ok eY λ_ A _ s H vs Q E hr h=>?_
 ·obtain⟨l,rows,x,rfl,Y,q⟩:=h;refine⟨_,(ai (aF (i:=2) eY.nd rfl (Or.inl rfl) (pv 1))
   (ai (aF (i:=3) eY.nd rfl (Or.inl rfl) ah)
   (ai (eK PassesOwn.never rfl (oH K (pv 0)) (Je K (n:=3) rfl (aS (bq 4 eY.nd) (aS (bq 5 eY.nd) (aS (bq 6 eY.nd) fc))))
   (av (cA (cF (aG cy hr T.iy.c aK (aa (pv 2) (aa (pv 4) af)))) (ai (y9 (i:=2) eY.nd rfl (Or.inl rfl) (pv 5) Fp)
   (av (y9 (i:=3) eY.nd rfl (Or.inl rfl) (pv 6) Fp))) aZ)))
   (av (aJ (c8 (aa (pv 2) (aa (pv 3) af)))))))),?_⟩
  refine Ey ?_;intro cJ c7 dY fN gF nA;obtain⟨xs,U,pr⟩:=id Y;refine(aq rfl (aq rfl ⟨l,rfl,⟨_,aM.of U⟩,eG (K:=K) (a:=l) (xs:=xs) (λi σ H2=>∃v4 O v6,σ=[some (.ref l),some (.int (x:Int)),some (.int (((RM.cT (rows.take i) x 0).1:Nat):Int)),some (.int (((RM.cT (rows.take i) x 0).2:Nat):Int)),v4,O,v6]/\H2=H) ⟨none,none,none,rfl,rfl⟩ (λi σ H2 _ ⟨_,_,_,_,z⟩=>by rw[z];exact aM.of U) ?_ ?_⟩))
  ·rintro i y D' σ H2 hi ⟨v4,O,v6,rfl,rfl⟩;obtain⟨G,Z,b,rfl,hb⟩:=Paired.pA pr hi;refine⟨b,_,rfl,aR.of hb,rfl,_,_,rfl,_,_,rfl,_,_,rfl,rfl,?_⟩;refine(aq rfl (aq rfl ⟨_,G.1,rfl,aq rfl (?_)⟩));rw[fW];have I:=HB (rows.take i) G x 0;rw[<-take3 Z]at I;cases qt:(RM.cT (rows.take i) x 0).1.testBit G.1 with
   | true =>
     rw[qt,aac rfl]at I;refine fK (aq rfl (aq rfl (cj (aq rfl (aq rfl (cj ⟨some (.int (G.1:Int)),some (.int (G.2.1:Int)),some (.int (G.2.2:Int)),?_,rfl⟩))))));rw[I];show[_,_,some (V.int (Builtin.bitXor _ _)),some (V.int (Builtin.bitXor _ _)),_,_,_]=_;rw[xor_int,xor_int]
   | false =>
     rw[qt,aab (by decide)]at I
     refine dN ⟨some (.int (G.1:Int)),some (.int (G.2.1:Int)),some (.int (G.2.2:Int)),?_,rfl⟩;rw[I];rfl
  ·rintro σ H2 ⟨v4,O,v6,rfl,rfl⟩;rw[pr.length,aaM];exact(aq rfl (aq rfl ⟨dl rfl,λc hc=>q c _ (au.new hc) ae⟩))
def pU:Ok T T.pP 2 CO:=by
 have cy:=cy T;refine T.pP.ok nC λ_ A _ s H vs Q E hr h=>?_
 ·obtain⟨l,b,rows,ad,rfl,hR,hb,hlen,q⟩:=h;refine⟨_,(ai (aF (i:=2) nC.nd rfl (Or.inl rfl) (dH (aa (pv 1) af)))
   (ai (eK PassesOwn.never rfl (oH K (pv 0)) (bq 3 nC.nd)
   (av (cA (cF (aG cy hr T.iy.c aK (aa (aH (cf K) (pv 3) ah) (aa (aH (cf K) (pv 1) ah) af)))) (av (cY (Ji K (mR aaZ aa3 aa4 c9 (pv 2) (aa (c8 (aa (aH (cf K) (pv 3) ah) (aa (aI eU (aH (cf K) (pv 3) ah) (aH (cf K) (pv 1) ah)) (aa (aI eU (aH (cf K) (pv 3) ah) (aH (cf K) (pv 1) ah)) af)))) af))))) (av (cY (Ji K (mR aaZ aa3 aa4 c9 (pv 2) (aa (pv 3) af))))))))
   (av (aJ (pv 2))))),?_⟩
  refine B8 ?_;intro cJ c7 dY fN gF;obtain⟨xs,hl,pr⟩:=id hR;have Y:=pr.length;refine(aq rfl ⟨dl rfl,λD Z=>?_⟩)
  have s1:au H (upd H D (.lst [.ref b])):=au.new Z;have tZ:upd H D (.lst [.ref b]) D=some (.lst [.ref b]):=ae;generalize upd H D (.lst [.ref b])=H1 at s1 tZ;refine(aq rfl ⟨l,rfl,⟨_,aM.of (s1 _ _ hl)⟩,eG (K:=K) (a:=l) (xs:=xs) (λi σ H2=>∃v3 acc,σ=[some (.ref l),some (.ref b),some (.ref D),v3]/\au H H2/\H2 D=some (.lst acc)/\acc.length=i+1/\Paired (vP H2) acc (RM.xx (rows.take i) ad)) ⟨none,_,rfl,s1,tZ,rfl,.cons ⟨b,rfl,s1 _ _ hb⟩ .nil⟩ (λi σ H2 _ ⟨_,_,_,z,_⟩=>aM.of (z _ _ hl)) ?_ ?_⟩)
  ·rintro i y D' σ H2 hi ⟨v3,acc,rfl,s2,O,al,U⟩;obtain⟨G,hq,c,rfl,hc⟩:=Paired.pA pr hi;have Bt:=(ju.mp hi).1;have I:=s2 _ _ hc;have uH:=s2 _ _ hb;have put:RM.xx (rows.take (i+1)) ad=RM.xx (rows.take i) ad++[if G.2.1.testBit ad.1=true then(G.1,G.2.1^^^ad.2.1,G.2.2^^^ad.2.2) else G]:=by
    unfold RM.xx;rw[take3 hq,aax];rfl
   refine(aq rfl (cg (aR.of I) (ak (j:=1) rfl) (aq rfl (cg (aR.of uH) (ak (j:=0) rfl) ⟨_,ad.1,rfl,aq rfl (?_)⟩))));rw[fW];cases qt:G.2.1.testBit ad.1 with
   | true =>
     rw[qt,aac rfl]at put;refine fK (aq rfl ⟨.inl ⟨rfl,_,aM.of O⟩,aq rfl (cg (aR.of I) (ak (j:=0) rfl) (aq rfl (cg (aR.of I) (ak (j:=1) rfl) (aq rfl (cg (aR.of uH) (ak (j:=1) rfl) (cj (aq rfl (cg (aR.of I) (ak (j:=2) rfl) (aq rfl (cg (aR.of uH) (ak (j:=2) rfl) (cj ⟨dl rfl,λd hd=>?_⟩)))))))))))⟩)
     have s3:au H2 (upd H2 d (.tup (tM (G.1,G.2.1^^^ad.2.1,G.2.2^^^ad.2.2)))):=au.new hd;have Pf:upd H2 d (.tup (tM (G.1,G.2.1^^^ad.2.1,G.2.2^^^ad.2.2))) d=some (.tup (tM (G.1,G.2.1^^^ad.2.1,G.2.2^^^ad.2.2))):=ae;have ev:[V.int (G.1:Int),V.int (Builtin.bitXor (G.2.1:Int) (ad.2.1:Int)),V.int (Builtin.bitXor (G.2.2:Int) (ad.2.2:Int))]=tM (G.1,G.2.1^^^ad.2.1,G.2.2^^^ad.2.2):=by
      rw[xor_int,xor_int];rfl
     dsimp only;rw[ev];generalize upd H2 d (.tup (tM (G.1,G.2.1^^^ad.2.1,G.2.2^^^ad.2.2)))=H3 at s3 Pf;have xo:=s3 _ _ O;refine⟨D,_,_,rfl,rfl,xo,dS (by lia),_,acc++[.ref d],rfl,(s2.trans s3).put Z,ae,by rw[aao,al];rfl,?_⟩
     rw[put];exact Paired.snoc (Paired.imp' (λ_ _ z=>z.tups (s3.tups.trans (dI.put xo))) U) ⟨d,rfl,dI.put xo _ _ Pf⟩
   | false =>
     rw[qt,aab (by decide)]at put
     refine dN (aq rfl ⟨.inl ⟨rfl,_,aM.of O⟩,aq rfl ⟨D,_,_,rfl,rfl,O,dS (by lia),_,acc++[.ref c],rfl,s2.put Z,ae,by rw[aao,al];rfl,?_⟩⟩)
     rw[put];exact Paired.snoc (Paired.imp' (λ_ _ z=>z.tups (dI.put O)) U) ⟨c,rfl,dI.put O _ _ I⟩
  ·rintro σ H2 ⟨v3,acc,rfl,s2,O,al,U⟩;rw[Y,aaM]at U;exact(aq rfl (q D H2 s2 ⟨acc,O,U⟩))
def jr:Ok T T.oE 3 E7:=by
 have sX:=sX T;have pU:=pU T;refine T.oE.ok ir λ_ A _ s H vs Q E hr h=>?_
 ·obtain⟨l,B,rfl,hl,hB,q⟩:=h;refine⟨_,(ai (aF (i:=1) ir.nd rfl (Or.inl rfl) (dH af))
   (ai (eK PassesOwn.never rfl (FJ K (by rfl) T.iU (aa (pv 0) af)) (Je K (n:=2) rfl (aS (bq 2 ir.nd) (aS (bq 3 ir.nd) fc)))
   (ai (aF (i:=4) ir.nd rfl (Or.inl rfl) (aG sX hr T.sN.c aK (aa (pv 1) (aa (pv 3) af))))
   (av (cA (aP uW (aH (cf K) (pv 4) ah) ah (aO _)) (av (aF (i:=1) ir.nd rfl (Or.inl rfl) (aG pU hr T.pP.c aK (aa (pv 1) (aa (c8 (aa (aI o8 (JK PySem.F.plainAttrs_int ada adb FG (aH (cf K) (pv 4) ah)) ah) (aa (aH (cf K) (pv 4) ah) (aa (aI eU (aH (cf K) (pv 4) ah) (aI jx ah (pv 2))) af)))) af))))) aZ))))
   (av (aJ (pv 1))))),?_⟩
  refine Ez ?_;intro cJ c7 dY fN gF;refine⟨dl rfl,λD hD=>?_⟩
  have s1:au H (upd H D (.lst [])):=au.new hD;have tZ:upd H D (.lst []) D=some (.lst []):=ae;generalize upd H D (.lst [])=H1 at s1 tZ;refine(aq rfl ⟨l,rfl,⟨_,aM.of (s1 _ _ hl)⟩,Ke (K:=K) (a:=l) (xs:=aA B) (λi σ H2=>∃G rows v2 Z v4,σ=[some (.ref l),some (.ref G),v2,Z,v4]/\au H H2/\jd H2 G rows/\RM.Rw (B.take i) rows/\rows=RM.gO B i) ⟨D,[],none,none,none,rfl,s1,⟨[],tZ,.nil⟩,RM.Rw.start,rfl⟩ (λi σ H2 _ ⟨_,_,_,_,_,_,z,_⟩=>aM.of (z _ _ hl)) ?_ ?_⟩)
  ·rintro i x T0 σ H2 hx ⟨G,rows,v2,Z,v4,rfl,s2,U,I,Y⟩ hT;obtain⟨b,hb,rfl⟩:=gr hx;have Bt:=(ju.mp hb).1;have s3:au H2 (upd H2 T0 (.tup [.int (i:Int),.int (b:Int)])):=au.new hT;have ZQ:upd H2 T0 (.tup [.int (i:Int),.int (b:Int)]) T0=some (.tup [.int (i:Int),.int (b:Int)]):=ae;generalize upd H2 T0 (.tup [.int (i:Int),.int (b:Int)])=H3 at s3 ZQ;refine⟨T0,_,rfl,aR.of ZQ,rfl,_,_,rfl,_,_,rfl,rfl,?_⟩;refine(aq rfl (aq rfl ⟨G,rows,b,rfl,U.same s3,λc H4 s4 hc=>?_⟩))
   have ag:(B.take i).length=i:=by rw[aa0];lia
   refine(aq rfl (cg (aR.of hc) (ak (j:=0) rfl) (cj (aq rfl (oG (λh0=>?_) (λh0=>?_))))))
   ·have h0:(0:Int)<_:=jR h0;have O:(RM.cT rows b 0).1≠0:=by lia
    have U5:=I.put O;rw[ag,<-take3 hb]at U5;have U6:=(U.same s3).same s4;have ar:rows.length<=200:=by have:=I.le;lia
    refine(aq rfl (aq rfl (cg (aR.of hc) (ak (j:=0) rfl) ⟨rfl,aq rfl ⟨rfl,cj (aq rfl (cg (aR.of hc) (ak (j:=0) rfl) (aq rfl (cg (aR.of hc) (ak (j:=1) rfl) (aq rfl (cj ⟨⟨by lia,by lia,by decide⟩,cj ⟨dl rfl,λd hd=>?_⟩⟩))))))⟩⟩)))
    have ev:[V.int (((Builtin.Int.intBits (((RM.cT rows b 0).1:Nat):Int):Nat):Int)-1),V.int (((RM.cT rows b 0).1:Nat):Int),V.int (Builtin.bitXor (((RM.cT rows b 0).2:Nat):Int) (1*2^((i:Nat):Int).toNat))]=tM ((RM.cT rows b 0).1.log2,(RM.cT rows b 0).1,(RM.cT rows b 0).2^^^2^i):=by
     rw[Lh O,i9,xor_int];rfl
    dsimp only;rw[ev];refine⟨G,d,rows,_,rfl,U6.same (au.new hd),ae,ar,λl5 H5 s5 aw=>?_⟩
    exact⟨l5,_,_,_,_,rfl,((s2.trans (s3.trans s4)).trans (au.new hd)).trans s5,aw,U5,RM.En Y hb O⟩
   ·have O:(RM.cT rows b 0).1=0:=by
     have : ¬(0:Int)<_:=λz=>h0 (cD z)
     lia
    have ZR:=I.skip ((I.nZ b 0).mp O);rw[<-take3 hb]at ZR;exact⟨G,rows,_,_,_,rfl,s2.trans (s3.trans s4),(U.same s3).same s4,ZR,RM.B5 Y hb O⟩
  ·rintro σ H2 ⟨G,rows,v2,Z,v4,rfl,s2,U,I,Y⟩;rw[aC]at Y;rw[aC,aaM]at I;exact(aq rfl (q G rows H2 s2 U I Y))
def sY:Ok T T.sO 9 E8:=by
 have EY:=EY T;have iF:=iF T;have jr:=jr T;refine T.sO.ok EA λ_ A _ s H vs Q E hr h=>?_
 ·obtain⟨wb,p,ts,g,l,zs,rfl,hw,hl,hz,q⟩:=h;refine⟨_,(ai (cA (PW.pt (pW (aP AX (bW K T.cR (aa (pv 1) af)) (aG EY hr T.ES.c aK (aa (pv 0) af)) (aO _)) (m4 (kB (cF (bI (Xx K rfl) (by rfl) T.UN PyProof.Rows.boot_all (aa (bB (own:=["ring"]) (fq:=["web"]) (js:=[0]) (az (aj oB) ["web","rings"]) rfl (oH K (pv 1)) (λ_ _ _ _=>(bq 0 (jo ["ring","web"]))) (λ_ _ _ _=>bX) (λ_ _ _ _=>(aG iF hr T.iA.c aK (aa (pv 1) (aa (pv 0) af))))) af))))))) (av (aJ m3)) aZ)
   (av (aJ (cZ dm (bW K T.cR (aa (aG jr hr T.oE.c aK (aa (pv 1) af)) af)) (bW K T.cR (aa (pv 1) af)) (aO _))))),?_⟩
  refine iM ?_;intro cJ c7;refine(aq rfl (oM rfl (.inl (aM.of hl)) (aq rfl ⟨wb,p,ts,g,rfl,hw,λH1 s1=>⟨rfl,aq rfl (?_)⟩⟩)))
  by_cases hn:zs.length=g.N.aB.length
  case neg =>
   refine U3 (λz=>hn ?_) (q H1 false s1 ⟨(λz=>nomatch z),λ⟨rs,e,b⟩=>absurd b.len (λz=>hn ?_)⟩)
   ·have z:=V.int.inj z;rw[aaa]at z
    lia
   ·rw[e,aaa];exact z
  refine O8 (by rw[aaa,hn]) ?_
  have I:=s1 _ _ hl;refine(aq rfl ⟨l,rfl,⟨_,aM.of I⟩,λD hD=>bu (xs:=zs.map V.int) (λi acc H2=>au H1 H2/\H2 D=some (.lst acc)/\∃bs:List Bool,acc=bs.map V.bl/\bs.length=i/\∀(j:Nat) z d,j<i->zs[j]?=some z->bs[j]?=some d->(d=true↔∃m:Nat,z=(m:Int)/\m<2^ts.length/\g.N.Ring m)) ⟨au.new hD,ae,[],rfl,rfl,(λj z d h=>by lia)⟩ (λi acc H2 _ z=>⟨aM.of (z.1 _ _ I),z.2.1,by obtain⟨bs,e,e2,_⟩:=z.2.2;rw[e,aaa,e2];exact aaf _⟩) (aaO (dS (by rw[aaa];lia))) ?_ ?_⟩)
  ·rintro i x acc H2 hx ⟨s2,Z,bs,rfl,bl,all⟩;rw[aai]at hx;obtain⟨z,hz,rfl⟩:=tD.mp hx;refine⟨rfl,aq rfl (aq rfl ⟨wb,p,ts,g,z,rfl,hw.same (s1.trans s2),λH3 d s3 hd=>?_⟩)⟩
   refine⟨s3 _ _ Z,(s2.trans s3).put hD,ae,bs++[d],by rw[aax];rfl,by rw[aao,bl];rfl,λj z' d' hj G O=>?_⟩
   by_cases e:j=i
   ·subst e;rw[hz]at G;cases G;rw[aaQ (by lia),bl,acL]at O
    cases O;exact hd
   ·rw[aaK (by lia)]at O
    exact all j z' d' (by lia) G O
  ·rintro acc H2 ⟨s2,Z,bs,rfl,bl,all⟩;rw[aaa]at bl all;refine⟨D,_,rfl,aM.of Z,_,rfl,?_⟩;have ok:bs.all id=true↔∃rs:List Nat,zs=rs.map (λx=>((x:Nat):Int))/\∀r∈rs,g.N.Ring r/\r<2^ts.length:=by
    rw[acg]
    constructor
    ·intro h;have each:∀z∈zs,∃m:Nat,z=(m:Int)/\m<2^ts.length/\g.N.Ring m:=λz G=>by
      obtain⟨j,hj⟩:=aaI G;have Pu:=(ju.mp hj).1;have hb:bs[j]?=some (bs[j]'(by lia)):=aad _
      exact(all j z _ Pu hj hb).mp (h _ (iV hb))
     refine⟨zs.map Int.toNat,?_,λr hr=>?_⟩
     ·rw[abl];refine(ac2 zs).symm.trans (acD λz G=>?_)
      obtain⟨m,rfl,_⟩:=each z G;rfl
     ·obtain⟨z,G,rfl⟩:=aaz.mp hr;obtain⟨m,rfl,h1,h2⟩:=each z G;exact⟨h2,h1⟩
    ·rintro⟨rs,rfl,U⟩ d hd;obtain⟨j,hj⟩:=aaI hd;have Pu:=(ju.mp hj).1;have hr:rs[j]?=some (rs[j]'(by rw[aaa]at bl;lia)):=aad _
     have hm:=U _ (iV hr);exact(all j _ d (by lia) (by rw[aai,hr];rfl) hj).mpr (aq rfl ⟨hm.2,hm.1⟩)
   cases hall:bs.all id with
   | false =>
     refine fK (q H2 false (s1.trans s2) ⟨(λz=>nomatch z),λ⟨rs,e,b⟩=>?_⟩)
     rw[ok.mpr ⟨rs,e,b.ring⟩]at hall;cases hall
   | true =>
     obtain⟨rs,rfl,U⟩:=ok.mp hall;rw[aaa]at hz hn;rw[<-ic]at I;have Y:=s2 _ _ I;refine dN (aq rfl ⟨l,rs,rfl,Y,hz,λl3 rows H3 s3 V1 ZS _=>?_⟩)
     obtain⟨xs,ON,Sk⟩:=id V1;refine(oM rfl (.inl (aM.of ON)) (aq rfl (oM rfl (.inl (aM.of (s3 _ _ Y))) ⟨rfl,q H3 _ ((s1.trans s2).trans s3) ?_⟩)));rw[aC,Sk.length,aa5]
     constructor
     ·intro e;have e:=V.int.inj e;exact⟨rs,rfl,hn,U,ZS.len.mp (by lia)⟩
     ·rintro⟨ag,e,b⟩;rw[<-cast_inj e]at b;have:=ZS.len.mpr b.ind;rw[this]
def MarksOf(N:RM.Net)(rs ms:List Nat):Prop:=ms.length=rs.length/\∀(i m:Nat),ms[i]?=some m->m<2^N.n/\∀(j r:Nat),rs[j]?=some r->N.par r m=decide (i=j)
def AB(C:Addr):Sp:=λvs H Q E=>∃w p ts,∃g:aD p ts,∃(l:Addr) (zs:List Int),vs=[.ref w,.ref l]/\bz H w p ts/\H l=some (.lst (zs.map V.int))/\zs.length<=200/\
 ((∃rs:List Nat,zs=rs.map (λx=>((x:Nat):Int))/\RM.Base g.N rs/\∀(D:Addr) (ms:List Nat) (H' : Hp),H D=none->au H H'->H' D=some (.lst (aA ms))->MarksOf g.N rs ms->ms=(List.range rs.length).map (λi=>orM (RM.cM (RM.gO rs rs.length) i))->Q (.ref D) H')\/(¬ PV p ts g zs/\∀H',au H H'->E (.ref C) none H'))
def gC:IC T T.kq 10 (AB a.nH):=by
 have sY:=sY T;have jr:=jr T;have cy:=cy T;have lz:=lz T;refine T.kq.DI jg λ_ A _ s H vs Q E hr h=>?_
 ·obtain⟨wb,p,ts,g,l,zs,rfl,hw,U,hz,q⟩:=h;refine⟨_,(ai (cA (kB (cF (aG sY hr T.sO.c aK (aa (pv 0) (aa (pv 1) af))))) (av (u9 eV.W9 rfl (by rfl) T.Mp abT (aa iW af))) aZ)
   (ai (aF (i:=2) jg.nd rfl (Or.inl rfl) (aG jr hr T.oE.c aK (aa (pv 1) af)))
   (ai (aF (i:=3) jg.nd rfl (Or.inl rfl) (dH af))
   (ai (uy rfl (br (by rfl) T.bV (aa (bW K T.cR (aa (pv 1) af)) af)) (ux (i:=4) jg.nd rfl (Or.inr rfl))
   (av (cY (Ji K (mR aaZ aa3 aa4 c9 (pv 3) (aa (aG lz hr T.qK.c aK (aa (pv 0) (aa (bB (own:=["lead","row","places"]) (fq:=["place"]) (js:=[4]) (az (aj ki) ["web","rings","rows","found","place"]) rfl (oH K (pv 2)) (λ_ _ _ _=>(Je K (n:=3) rfl (aS (bq 0 (jo ["lead","row","places","place"])) (aS (bq 1 (jo ["lead","row","places","place"])) (aS (bq 2 (jo ["lead","row","places","place"])) fc))))) (λ_ _ _ _=>(dw (cF (aG cy hr T.iy.c aK (aa (pv 2) (aa (pv 3) af)))))) (λ_ _ _ _=>(pv 0))) af))) af))))))
   (av (aJ (pv 3))))))),?_⟩
  refine zU ?_;intro cJ c7 dY fN gF nA;refine(aq rfl (aq rfl ⟨wb,p,ts,g,l,zs,rfl,hw,U,hz,λH1 d s1 hd=>(aq rfl (?_))⟩))
  rcases q with⟨rs,rfl,bs,q⟩|⟨hn,q⟩
  case inr =>
   cases d with
   | true=>exact absurd (hd.mp rfl) hn
   | false=>exact fK ⟨dl rfl,q H1 s1⟩
  rw[hd.mpr ⟨rs,rfl,bs⟩];refine dN ?_;rw[aaa]at hz;rw[<-ic]at U;have ag:=s1 _ _ U;refine(aq rfl ⟨l,rs,rfl,ag,hz,λY rows H2 s2 PX Mz RB=>?_⟩)
  refine⟨dl rfl,λD Z=>?_⟩
  have s3:au H2 (upd H2 D (.lst [])):=au.new Z;have xo:upd H2 D (.lst []) D=some (.lst (aA [])):=ae;generalize upd H2 D (.lst [])=H3 at s3 xo;have sR:=(s1.trans s2).trans s3;have Mr:H D=none:=(s1.trans s2).free Z;have ON:=sR _ _ U;have V1:=PX.same s3;obtain⟨xs,a3,a4⟩:=id V1;have a5:=Mz.le;refine(aq rfl (oM rfl (.inl (aM.of ON)) (aq rfl ⟨(by rw[aC];lia),(by rw[aC];lia),?_⟩)))
  refine eX (lo:=0) (n:=((aA rs).length:Int).toNat) (λi σ H4=>∃v4 ms,σ=[some (.ref wb),some (.ref l),some (.ref Y),some (.ref D),v4]/\au H H4/\jd H4 Y rows/\H4 D=some (.lst (aA ms))/\ms=(List.range i).map λj=>orM (RM.cM rows j)) ⟨none,[],rfl,sR,V1,xo,rfl⟩ ?_ ?_
  ·rintro i D' σ H4 hi ⟨v4,ms,rfl,s4,U6,qQ,G⟩;rw[aC,aaj]at hi;rw[aa6];obtain⟨ar,U7,RD⟩:=id U6;have a6:ms.length=i:=by rw[G,aaa,aav]
   have Yl:D≠Y:=λe=>by
    obtain⟨ys,e1,_⟩:=PX;rw[e,e1]at Z;cases Z
   refine(aq rfl ⟨.inl ⟨rfl,_,aM.of qQ⟩,aq rfl (aq rfl ⟨Y,rfl,⟨_,aM.of U7⟩,λC hC=>bu (xs:=ar) (λj acc O=>au H4 O/\O C=some (.lst acc)/\acc=aA (RM.cM (rows.take j) i)) ⟨au.new hC,ae,rfl⟩ ?_ (aaO (dS (by rw[RD.length];lia))) ?_ ?_⟩)⟩)
   ·rintro j acc O hj ⟨s5,I,rfl⟩;refine⟨aM.of (s5 _ _ U7),I,?_⟩;rw[aC];unfold RM.cM;rw[aaa];have h1:=aaP (λq:RM.Row3=>q.2.2.testBit i) (rows.take j)
    rw[aa0]at h1
    lia
   ·rintro j x acc O hx ⟨s5,I,rfl⟩;obtain⟨qq,hq,c,rfl,hc⟩:=Paired.pA RD hx;have aw:=s5 _ _ hc;have lead:RM.cM (rows.take (j+1)) i=RM.cM (rows.take j) i++(if qq.2.2.testBit i=true then[qq.1] else[]):=by
     unfold RM.cM;rw[take3 hq,abV,aax]
     congr 1
     rw[aaR];cases qq.2.2.testBit i<;>rfl
    refine⟨c,_,rfl,aR.of aw,rfl,_,_,rfl,_,_,rfl,_,_,rfl,rfl,rfl,aq rfl (aq rfl ⟨_,i,rfl,aq rfl (?_)⟩)⟩;rw[fW];cases hb:qq.2.2.testBit i with
    | true =>
      rw[hb,aac rfl]at lead;refine(aq rfl ⟨I,s5.put hC,ae,?_⟩);rw[lead,cH]
    | false =>
      rw[hb,aab (by decide),aby]at lead
      exact⟨s5,I,by rw[lead]⟩
   ·rintro acc O ⟨s5,I,rfl⟩;rw[RD.length,aaM]at I;have ax:rs[i]?=some rs[i]:=aad hi;have mk:=Mz.marks (N:=g.N) bs.ind (λb hb=>(bs.ring b hb).2) (i:=i) ax
    refine⟨wb,p,ts,C,_,rfl,hw.same (s4.trans s5),g.Jf,I,mk.2,?_⟩;have IG:=s5 _ _ qQ;refine⟨D,_,_,rfl,rfl,IG,dS (by rw[aC];lia),_,ms++[orM (RM.cM rows i)],rfl,(s4.trans s5).put Mr,?_,?_,?_⟩
    ·obtain⟨ys,e1,e2⟩:=U6.same s5;exact⟨ys,by rw[ao Yl.symm];exact e1,Paired.imp' (λ_ _ z=>z.tups (dI.put IG)) e2⟩
    ·rw[ae,cH]
    ·rw[abG,aax,G];rfl
  ·rintro σ H4 ⟨v4,ms,rfl,s4,U6,qQ,G⟩;rw[aC,aaj]at G;refine(aq rfl (q D ms H4 Mr s4 qQ ⟨by rw[G,aaa,aav],λi m hm=>?_⟩ (by rw[G,<-RB])))
   rw[G,aai]at hm;obtain⟨j,hj,rfl⟩:=tD.mp hm;have ej:j=i/\i<rs.length:=by
    obtain⟨h1,h2⟩:=ju.mp hj;rw[List.getElem_range]at h2;rw[aav]at h1;exact⟨h2.symm,h1⟩
   obtain⟨rfl,Pu⟩:=ej;have mk:=λj' r (h:rs[j']?=some r)=>Mz.marks (N:=g.N) bs.ind (λb hb=>(bs.ring b hb).2) (i:=j) h
   have aT:rs[j]?=some rs[j]:=aad Pu;exact⟨QM (mk j _ aT).2,λj' r hr=>(mk j' r hr).1⟩
def IV(t1 t2:Addr)(Ym Yn:Pos):Sp:=λvs H Q _=>∃w p ts,∃g:aD p ts,vs=[.ref w]/\bz H w p ts/\H t1=some (.jV (fk (qz "least_ways") Ym))/\H t2=some (.jV (fk (qz "by_length") Yn))/\
 ∀D rs H',H D=none->au H H'->H' D=some (.lst (aA rs))->RM.LB g.N (bG ts) rs->rs.Pairwise (Gp ts)->(∃bs,RM.Ri g.N (bG ts) (g.N.aB.map λc=>2^c) bs []/\rs.Perm bs)->Q (.ref D) H'
def kO:Ok T T.kL 10 (IV a.cO a.iS cB gR):=by
 have ly:=ly T;have gB:=gB T;have cC:=cC T;have nN:=nN T;refine T.kL.ok dW λ_ A _ s H vs Q E hr h=>?_
 ·obtain⟨wb,p,ts,g,rfl,hw,Mw,CH,q⟩:=h;refine⟨_,(ai (ff (i:=1) dW.nd rfl rfl (own:=["chord"]) (fq:=[]) (js:=[]) (az (aj fR) ["web","waiting","found","marks","ring"]) rfl (oH K (aG ly hr T.qN.c aK (aa (pv 0) af))) (λ_ _ _ _=>(bq 0 (jo ["chord"]))) (λ_ _ _ _=>bX) (λ_ _ _ _=>(aI jx ah (pv 0))))
   (ai (aF (i:=2) dW.nd rfl (Or.inl rfl) (dH af))
   (ai (AU PassesOwn.never (aP uW (bW K T.cR (aa (pv 1) af)) ah (aO _)) (ai (aF (i:=3) dW.nd rfl (Or.inr rfl) (aH (jA K) (pv 1) ah))
   (ai (aF (i:=4) dW.nd rfl (Or.inr rfl) (aH (cf K) (aG gB hr T.ko.c tF (aa (pv 0) (aa (pv 3) af))) ah))
   (ai (cY (Ji K (mR aaZ aa3 aa4 c9 (pv 2) (aa (pv 4) af))))
   (av (ff (i:=1) dW.nd rfl rfl (own:=["later"]) (fq:=["marks","ring"]) (js:=[3,4]) (az (aj fR) ["web","waiting","found","marks","ring"]) rfl (oH K (pZ (VB K) (pv 1) (pY ah) za)) (λ_ _ _ _=>(bq 0 (jo ["later","marks","ring"]))) (λ_ _ _ _=>bX) (λ_ _ _ _=>(m5 (cF (aG cC hr T.fU.c aK (aa (pv 2) (aa (pv 0) af)))) (aI eU (pv 0) (pv 1)) (pv 0)))))))))
   (av (aJ (aG nN hr T.kj.c aK (aa (pv 0) (aa (pv 2) af)))))))),?_⟩
  refine wH ?_;intro cJ c7 dY fN gF nA tP;have wl:=g.len;have cn:g.N.aB.length<=24:=by
   have:g.N.aB.length<=(List.range g.N.n).length:=aaP ..;rw[aav]at this;have h2:g.N.n=ts.length:=rfl
   lia
  have ZT:(100:Nat)<sizeLine:=by decide
  refine(aq rfl ⟨wb,p,ts,g,rfl,hw,λDc H1 ZU s1 ag=>⟨Dc,rfl,⟨_,aM.of ag⟩,λX hX=>bu (K:=K) (a:=Dc) (xs:=aA g.N.aB) (λi acc H2=>au H1 H2/\H2 X=some (.lst acc)/\acc=aA ((g.N.aB.take i).map λc=>2^c)) ⟨au.new hX,ae,rfl⟩ (λi acc H2 _ z=>⟨aM.of (z.1 _ _ ag),z.2.1,by rw[z.2.2,aC,aaa,aa0];lia⟩) (c5 (by rw[aC];lia)) ?_ ?_⟩⟩)
  ·rintro i x acc H2 hx ⟨s2,G,rfl⟩;obtain⟨c,U8,rfl⟩:∃c,g.N.aB[i]?=some c/\x = .int (c:Int):=by
    unfold aA at hx;rw[aai]at hx;obtain⟨c,h1,h2⟩:=tD.mp hx;exact⟨c,h1,h2.symm⟩
   have ar:=(RM.bh.mp (iV U8)).1;have ar:c<ts.length:=ar;refine⟨rfl,aq rfl (cj ⟨⟨by lia,by lia,by decide⟩,G,s2.put hX,ae,?_⟩)⟩
   rw[aaW,U8];show _=aA (List.map _ (List.take i g.N.aB++[c]));rw[aax,acp,cH];dsimp only;rw[i9]
  rintro acc H2 ⟨s2,G,rfl⟩;rw[aC,aaM]at G;refine⟨dl rfl,λF hF=>?_⟩
  have s3:au H2 (upd H2 F (.lst [])):=au.new hF;have IU:=s3 _ _ G;have ZV:upd H2 F (.lst []) F=some (.lst (aA [])):=ae;have aw:H F=none:=(s1.trans s2).free hF;have ax:X≠F:=λz=>by rw[<-z,G]at hF;cases hF
  have ZW:=(s1.trans s2).trans s3;generalize upd H2 F (.lst [])=H3 at IU ZV ZW;have nd:g.N.aB.Nodup:=RM.rJ;have hL:=yH g;refine⟨λn σ H4=>∃X bs us ws cs Y v4,σ=[some (.ref wb),some (.ref X),some (.ref F),Y,v4]/\au H H4/\H4 X=some (.lst (aA ws))/\H4 F=some (.lst (aA bs))/\X≠F/\RM.DP g.N (bG ts) bs us/\RM.Wt g.N bs ws cs/\RM.Ri g.N (bG ts) (g.N.aB.map λc=>2^c) bs ws/\n=ws.length,⟨_,X,[],[],_,_,none,none,rfl,ZW,IU,ZV,ax,RM.DP.start,RM.Wt.start nd,.start,rfl⟩,?_⟩
  rintro n σ H4 ⟨X,bs,us,ws,cs,Y,v4,rfl,U,Yo,ZX,Yp,dp,O,lr,rfl⟩;refine(aq rfl (oM rfl (.inl (aM.of Yo)) (cj (aq rfl (oG (λhlen=>?_) (λhlen=>?_))))))
  case refine_2 =>
   have hl : ¬(0:Int)<((aA ws).length:Int):=λz=>hlen (cD z)
   have e:ws=[]:=adq (by rw[aC]at hl;lia)
   subst e;have hb:bs.length=g.N.aB.length:=by
    have:=O.sum;rw[ab7]at this
    lia
   refine(aq rfl (aq rfl ⟨wb,p,ts,g,F,bs,rfl,hw.same U,ZX,by lia,λm hm=>(dp.ring m hm).2,U _ _ CH,λD aT Z hD s5 IG hp hs=>?_⟩))
   exact q D aT Z (U.free hD) (U.trans s5) IG ((dp.least hb).perm hp) hs ⟨bs,lr,hp⟩
  have hlen:(0:Int)<((aA ws).length:Int):=jR hlen;rw[aC]at hlen;refine⟨λσ' H'=>∃X bs us I cs Y v4,σ' = [some (.ref wb),some (.ref X),some (.ref F),Y,v4]/\au H H'/\H' X=some (.lst (aA I))/\H' F=some (.lst (aA bs))/\X≠F/\RM.DP g.N (bG ts) bs us/\RM.Wt g.N bs I cs/\RM.Ri g.N (bG ts) (g.N.aB.map λc=>2^c) bs I/\I.length<ws.length,λσ' H' ⟨X,bs,us,I,cs,Y,v4,e,a1,a2,a3,a4,a5,a6,a8,a7⟩=>⟨_,a7,X,bs,us,I,cs,Y,v4,e,a1,a2,a3,a4,a5,a6,a8,rfl⟩,?_⟩
  obtain⟨m,ws,rfl⟩:∃m I,ws=m::I:=by
   cases ws with
   | nil=>simp at hlen
   | cons m I=>exact⟨m,I,rfl⟩
  have a9:m<2^ts.length:=O.lt m aam;refine(aq rfl (jn (aM.of Yo) (ak (j:=0) rfl) (?_)));refine(aq rfl (aq rfl ⟨wb,p,ts,g,(m:Int),rfl,hw.same U,U _ _ Mw,.inl ⟨m,rfl,a9,λr Z bo s5 told=>?_⟩⟩))
  obtain⟨r0,g1,g2,g3⟩:=O.odd;rcases told with⟨n1,_⟩|⟨z,e,b2,W,lo,le,a1,_⟩
  ·obtain⟨x,hx,V2⟩:=RM.qw hL m g1 g2;rw[g3]at V2;exact absurd V2 (n1 x _ hx)
  refine(cg (aR.of a1) (ak (j:=1) rfl) (?_));have ZY:=s5 _ _ ZX;have ba:=s5 _ _ Yo;have bp:bs.length<=24:=by have:=O.sum;lia
  refine(aq rfl ⟨(.inl ⟨rfl,_,aM.of ZY⟩),aq rfl ⟨F,_,_,rfl,rfl,ZY,(by rw[aC];lia),?_⟩⟩)
  have ZZ:au H (upd Z F (.lst (aA bs++[.int (e:Int)]))):=(U.trans s5).put aw;have V3:upd Z F (.lst (aA bs++[.int (e:Int)])) F=some (.lst (aA (bs++[e]))):=by rw[ae,cH]
  have MA:upd Z F (.lst (aA bs++[.int (e:Int)])) X=some (.lst (aA (m::ws))):=by rw[ao Yp];exact ba
  generalize upd Z F (.lst (aA bs++[.int (e:Int)]))=H6 at ZZ V3 MA;have Yq:xj (aA (m::ws)) (some (1:Int)) none=aA ws:=KC (m::ws) (i:=1) (by simp)
  have Yr:=O.next le.par;obtain⟨cc,bb,_,Yr⟩:=Yr;have bc:=dp.snoc le.ring le.lt le.par (λr h1 h2 h3=>by
   have:=le.least hL h1 h2 h3;have e1:RM.len g.N (bG ts) e=z:=le.len;rw[e1];exact this) (O.ie m aam)
  have bt:ws.length<=24:=by have:=O.sum;rw[aa1]at this;lia
  refine(aq rfl (aq rfl ⟨X,_,rfl,aM.of MA,λc hc=>?_⟩))
  rw[Yq];have Z0:au H (upd H6 c (.lst (aA ws))):=ZZ.trans (au.new hc);have Ys:=au.new hc (o:=.lst (aA ws)) _ _ V3;have Sh:upd H6 c (.lst (aA ws)) c=some (.lst (aA ws)):=ae;generalize upd H6 c (.lst (aA ws))=H7 at Z0 Ys Sh;refine⟨c,rfl,⟨_,aM.of Sh⟩,λX' U9=>bu (K:=K) (a:=c) (xs:=aA ws) (λi acc H8=>au H7 H8/\H8 X' = some (.lst acc)/\acc=aA ((ws.take i).map λv=>if g.N.par e v=true then v^^^m else v)) ⟨au.new U9,ae,rfl⟩ (λi acc H8 _ z=>⟨aM.of (z.1 _ _ Sh),z.2.1,by rw[z.2.2,aC,aaa,aa0];lia⟩) (c5 (by rw[aC];lia)) ?_ ?_⟩
  ·rintro i x acc H8 hx ⟨s8,V4,rfl⟩;obtain⟨v,O6,rfl⟩:∃v,ws[i]?=some v/\x = .int (v:Int):=by
    unfold aA at hx;rw[aai]at hx;obtain⟨c,h1,h2⟩:=tD.mp hx;exact⟨c,h1,h2.symm⟩
   have V5:v<2^ts.length:=O.lt v (jt _ (iV O6));have CG:Builtin.Int.intBits ((e&&&v:Nat):Int)<=1000:=aaE (bits_le (acM _ V5)) (by lia)
   have snoc:∀y,(if g.N.par e v=true then v^^^m else v)=y->aA ((ws.take i).map λv=>if g.N.par e v=true then v^^^m else v)++[.int (y:Int)]=aA ((ws.take (i+1)).map λv=>if g.N.par e v=true then v^^^m else v):=λy hy=>by
    rw[aaW,O6];show _=aA (List.map _ (List.take i ws++[v]));rw[aax,acp,cH,hy]
   refine⟨rfl,aq rfl (aq rfl ⟨_,_,e,v,rfl,rfl,rfl,CG,λH9 s9=>(aq rfl (?_))⟩)⟩
   rw[zx (g:=g) V5];have Z1:=s8.trans s9;have Z2:=s9 _ _ V4;cases hb:g.N.par e v with
   | true =>
     refine fK (aq rfl (aq rfl (cj ⟨Z2,Z1.put U9,ae,?_⟩)));dsimp only;rw[xor_int];exact snoc _ (aac hb)
   | false=>exact dN (aq rfl ⟨Z2,Z1.put U9,ae,snoc _ (aab (by rw[hb];decide))⟩)
  ·rintro acc H8 ⟨s8,V4,rfl⟩;rw[aC,aaM]at V4;refine⟨X',bs++[e],us++[m],_,bb,_,_,rfl,Z0.trans s8,V4,s8 _ _ Ys,?_,bc,Yr,lr.step lo,by rw[aaa];simp⟩
   intro z;rw[z,Ys]at U9;cases U9
def AD(t:Addr)(lp:Pos):Sp:=λvs H Q _=>∃w p ts,∃g:aD p ts,∃m:Nat,vs=[.ref w,.int (m:Int)]/\bz H w p ts/\m<2^ts.length/\H t=some (.jV (fk (qz "least_ways") lp))/\∀b W H',au H H'->jE H' b W->Xs p W->Gf p ts g m W->Q (.ref b) H'
abbrev Sm:=Nat×Nat×List (List Pr)
def AE(H:Hp)(v:V)(t:Sm):Prop:=∃c b,v = .ref c/\H c=some (.tup [.int (t.1:Int),.int (t.2.1:Int),.ref b])/\jE H b t.2.2
def AE.tups{H H' : Hp}{v:V}{t:Sm}(s:dI H H')(h:AE H v t):AE H' v t:=let⟨c,b,e,h1,ys,h2,h3⟩:=h;⟨c,b,e,s _ _ h1,ys,s _ _ h2,Paired.imp' (λ_ _ z=>z.tups s) h3⟩
def MB(t1 t2:Addr)(Ym Yn:Pos):Sp:=λvs H Q _=>∃w p ts,∃g:aD p ts,vs=[.ref w]/\bz H w p ts/\H t1=some (.jV (fk (qz "least_ways") Ym))/\H t2=some (.jV (fk (qz "by_length") Yn))/\
 ∀b ys (G:List Sm) H',H b=none->au H H'->H' b=some (.tup ys)->Paired (AE H') ys G->RM.LB g.N (bG ts) (G.map (·.1))->(G.map (·.1)).Pairwise (Gp ts)->MarksOf g.N (G.map (·.1)) (G.map (·.2.1))->(∀t∈G,Xs p t.2.2/\Gf p ts g t.2.1 t.2.2)->(∃bs,RM.Ri g.N (bG ts) (g.N.aB.map λc=>2^c) bs []/\(G.map (·.1)).Perm bs)->G.map (·.2.1)=(List.range (G.map (·.1)).length).map (λi=>orM (RM.cM (RM.gO (G.map (·.1)) (G.map (·.1)).length) i))->Q (.ref b) H'
def mG:Ok T T.mj 7 (AD a.cO cB):=by
 have cW:=cW T;have dc:=dc T;refine T.mj.ok xE λ_ A _ s H vs Q E hr h=>?_
 ·obtain⟨O,p,ts,g,m,rfl,hw,hm,G,q⟩:=h;refine⟨_,(av (aJ (aG dc hr T.gf.c aK (aa (aG cW hr T.fF.c aK (aa (pv 0) (aa (pv 1) af))) af)))),?_⟩;have wp:=g.p2;refine(aq rfl (aq rfl ⟨O,p,ts,g,m,rfl,hw,hm,G,λD ds I H1 hD s1 U al=>?_⟩))
  obtain⟨hl,all⟩:=id al;refine⟨D,ds,I,p,g.N,bG ts,m,rfl,U,(by lia),al,λb H2 s2 Y=>?_⟩
  refine q b _ H2 (s1.trans s2) Y ⟨by rw[aaa,aav],λR Z=>?_⟩ λi hi x s hx=>?_
  ·obtain⟨i,_,rfl⟩:=aaz.mp Z;exact zE _ _
  ·have e:ds[i]?=some ds[i]:=aad (by lia)
   obtain⟨H0,es,e1,e2,e3,e4,_⟩:=all i _ e;rw[aae,aai,abQ hi];show RM.Hy _ _ m i x s (sel (KQ (k6 (xX (I i)) p) x) s);rw[K8 hx];exact e4 x s
def mH:Ok T T.mq 11 (MB a.cO a.iS cB gR):=by
 have kO:=kO T;have gC:=gC T;have mG:=mG T;refine T.mq.ok kG λ_ A _ s H vs Q E hr h=>?_
 ·obtain⟨Y,p,ts,g,rfl,hw,Mw,CH,q⟩:=h;refine⟨_,(ai (aF (i:=1) kG.nd rfl (Or.inl rfl) (aG kO hr T.kL.c aK (aa (pv 0) af)))
   (ai (aF (i:=2) kG.nd rfl (Or.inl rfl) (aG gC hr T.kq.c tF (aa (pv 0) (aa (pv 1) af))))
   (av (aJ (cS (A8 K) (by rfl) T.qO ab2 (aa (bB (own:=["ring","own"]) (fq:=["web"]) (js:=[0]) (az (aj jh) ["web","rings","marks"]) rfl (Kd K (by rfl) T.PN (aa (pv 1) (aa (pv 2) af))) (λ_ _ _ _=>(Je K (n:=2) rfl (aS (bq 0 (jo ["ring","own","web"])) (aS (bq 1 (jo ["ring","own","web"])) fc)))) (λ_ _ _ _=>bX) (λ_ _ _ _=>(c8 (aa (pv 0) (aa (pv 1) (aa (aG mG hr T.mj.c aK (aa (pv 2) (aa (pv 1) af))) af)))))) af)))))),?_⟩
  refine gQ ?_;intro cJ c7;have wl:=g.len;refine(aq rfl ⟨Y,p,ts,g,rfl,hw,Mw,CH,λD rs H1 hD s1 tZ Z pw lr=>?_⟩)
  have aT:rs.length<=24:=by
   have h1:g.N.aB.length<=(List.range g.N.n).length:=aaP ..;rw[aav,<-Z.1.len]at h1;exact aaE h1 wl
  refine(aq rfl (aq rfl ⟨Y,p,ts,g,D,rs.map (λx=>((x:Nat):Int)),rfl,hw.same s1,by rw[<-ic];exact tZ,by rw[aaa];lia,.inl ⟨rs,rfl,Z.1,λD2 ms H2 jU s2 Va mo ag=>?_⟩⟩))
  have Vb:=s2 _ _ tZ;have O:=s1.trans s2;have ar:=mo.1;refine(aq rfl (aq rfl ⟨D,D2,rfl,⟨_,aM.of Vb⟩,⟨_,aM.of Va⟩,λX hX=>Bb (xs:=aA rs) (ys:=aA ms) (by rw[aC,aC];lia) (λi acc H3=>au H2 H3/\H3 X=some (.lst acc)/\∃G:List Sm,Paired (AE H3) acc G/\G.map (·.1)=rs.take i/\G.map (·.2.1)=ms.take i/\∀t∈G,Xs p t.2.2/\Gf p ts g t.2.1 t.2.2) ⟨au.new hX,ae,[],.nil,rfl,rfl,λt ht=>by cases ht⟩ (λi acc H3 _ ⟨z1,z2,G,z3,z4,_⟩=>⟨aM.of (z1 _ _ Vb),aM.of (z1 _ _ Va),z2,?_⟩) (c5 (by rw[aC];lia)) ?_ ?_⟩))
  ·have h1:=z3.length;have h2:=aaU List.length z4;rw[aaa,aa0]at h2
   lia
  ·rintro i x y T0 acc H3 hx hy ⟨s3,IU,G,pr,I,U,al⟩ aw;have item:∀{l:List Nat} {v:V},(aA l)[i]?=some v->∃c,l[i]?=some c/\v = .int (c:Int):=λ{l v} h=>by
    unfold aA at h;rw[aai]at h;obtain⟨c,h1,h2⟩:=tD.mp h;exact⟨c,h1,h2.symm⟩
   obtain⟨r,JG,rfl⟩:=item hx;obtain⟨m,hmi,rfl⟩:=item hy;have ax:=(mo.2 i m hmi).1;have s4:au H3 (upd H3 T0 (.tup [.int (r:Int),.int (m:Int)])):=au.new aw;have Z3:=(O.trans s3).trans s4;refine⟨T0,_,rfl,aR.of ae,rfl,_,_,rfl,_,_,rfl,rfl,rfl,aq rfl (aq rfl (aq rfl (aq rfl ⟨Y,p,ts,g,m,rfl,hw.same Z3,ax,Z3 _ _ Mw,λb W H5 s5 hW sq bw=>⟨dl rfl,λc hc=>?_⟩⟩)))⟩
   have s6:au H5 (upd H5 c (.tup [.int (r:Int),.int (m:Int),.ref b])):=au.new hc;have Yt:=(s4.trans s5).trans s6;have MA:=Yt _ _ IU;refine⟨MA,(s3.trans Yt).put hX,ae,G++[(r,m,W)],?_,?_,?_,λt ht=>?_⟩
   ·exact Paired.snoc (Paired.imp' (λ_ _ z=>AE.tups (Yt.tups.trans (dI.put MA)) z) pr) (AE.tups (dI.put MA) ⟨c,b,rfl,ae,hW.same s6⟩)
   ·rw[aax,I,aaW,JG];rfl
   ·rw[aax,U,aaW,hmi];rfl
   ·rcases aaw.mp ht with z|z
    ·exact al t z
    ·rw[aat.mp z];exact⟨sq,bw⟩
  ·rintro acc H3 ⟨s3,IU,G,pr,I,U,al⟩;rw[aC,aaM]at I;rw[aC,<-ar,aaM]at U;refine⟨X,_,rfl,.inl ⟨aM.of IU,λl hl=>?_⟩⟩
   have s4:au H3 (upd H3 l (.tup acc)):=au.new hl;exact q l acc G _ ((O.trans s3).free hl) ((O.trans s3).trans s4) ae (Paired.imp' (λ_ _ z=>AE.tups s4.tups z) pr) (by rw[I];exact Z) (by rw[I];exact pw) (by rw[I,U];exact mo) al (by rw[I];exact lr) (by rw[I,U];exact ag)
def MC(C:Addr)(f:Str):Sp:=λvs H Q _=>∃x u v,vs=[.ref x,u,v]/\H x=some (qu x (.ref C) none)/\∀d,H d=none->d≠x->Q .eE (upd (upd H x (qu x (.ref C) (some d))) d (.xd [(f,v)]))
def xY(CB CN:Addr):Sp:=λvs H Q E=>∃w p ts,∃g:aD p ts,∃S,vs=[.ref w,.int S]/\bz H w p ts/\mS ts S (∀H',au H H'->E (.ref CB) none H') λm =>
 (g.N.bL m->∀H',au H H'->Q .eE H')/\∀(pt:Nat) d H',au H H'->(i0 p ts (m:Int))[0]?=some pt->H' d=some (.xd [("point",.int (pt:Int))])->E (.ref CN) (some d) H'
def jP(T:Txt P w base K mg a):lE P w K mg base De 1 a.e7 a.jM ["self","words","point"] (MC a.aX "point"):=by
 refine T.wQ.ok ua (λvs H Q E h=>?_) (λ_ A _ s H vs Q E hr h=>?_)
 ·obtain⟨x,u,v,rfl,_⟩:=h;rfl
 ·obtain⟨x,u,v,rfl,hx,q⟩:=h;refine⟨_,(ai (cY (K3 T.xi_NotEven T.tS (by rfl) T.tR (aa (pv 0) (aa (pv 1) af))))
   (av (Od T.xi_NotEven (pv 0) (pv 2)))),?_⟩
  refine fP ?_;intro O;refine(aq rfl (aq rfl ⟨x,none,[u],rfl,dl rfl,hx,λH2 I=>?_⟩))
  rw[QV hx]at I;subst I;exact(aq rfl (aq rfl ⟨x,rfl,hx,λd hd G=>q d hd G⟩))
def mJ:IC T T.l9 6 (xY a.aU a.aX):=by
 have fG:=fG T;have jP:=jP T;refine T.l9.DI oX λ_ A _ s H vs Q E hr h=>?_
 ·obtain⟨wb,p,ts,g,S,rfl,hw,q⟩:=h;refine⟨_,(ai (aF (i:=2) oX.nd rfl (Or.inl rfl) (aG fG hr T.jj.c eV.passes (aa (pv 0) (aa (pv 1) af))))
   (av (cA (aP (DG K hr.units) (pv 2) (dH af) (aO _)) (av (Ht eV rfl (by rfl) T.yU T.xi_NotEven T.tS jP (hr.mono (by decide)) T.wR (aa iW (aa (aH (jA K) (pv 2) ah) af)))) aZ))),?_⟩
  refine xB ?_;intro cJ c7;refine(aq rfl (aq rfl ⟨wb,p,ts,S,rfl,hw,g.Jf,?_⟩));rcases q with⟨m,rfl,hm,q,q2⟩|⟨hS,q⟩
  case inr=>exact .inr ⟨hS,q⟩
  refine .inl ⟨m,rfl,hm,λD H1 s1 hD=>(aq rfl ⟨dl rfl,λl Z=>?_⟩)⟩
  have s2:au H (upd H1 l (.lst [])):=s1.trans (au.new Z);have Y:upd H1 l (.lst []) D=some (.lst (aA (i0 p ts (m:Int)))):=au.new Z _ _ hD;have I:upd H1 l (.lst []) l=some (.lst []):=ae;generalize upd H1 l (.lst [])=H2 at s2 Y I;refine⟨_,_,.lst (aM.of Y) (m8 _),.lst (aM.of I) .nil,jX _,rfl,aq rfl (?_)⟩;rw[FN]
  by_cases U:i0 p ts (m:Int)=[]
  ·rw[cD U];exact dN (q ((qm g hm).mp U) _ s2)
  ·rw[dO U];obtain⟨pt,V6⟩:∃pt,(i0 p ts (m:Int))[0]?=some pt:=by
    cases e:i0 p ts (m:Int) with
    | nil=>exact absurd e U
    | cons x r=>exact⟨x,rfl⟩
   refine fK (aq rfl (jn (aM.of Y) (ak (j:=0) (lK V6)) ⟨dl rfl,λx hx=>⟨x,_,_,rfl,ae,λd hd G=>⟨rfl,some d,?_,?_⟩⟩⟩))
   ·rw[ao (aba G),ae]
   ·refine q2 pt d _ (λb o hb=>?_) V6 ?_
    ·have O:=s2 b o hb;have h1:b≠x:=bj O hx;have h2:b≠d:=λz=>by rw[z]at O;rw[ao G]at hd;rw[hd]at O;cases O
     rw[lM h1,ao h2,ao h1,ao h1];exact O
    ·rw[lM G,ae]
def kP(H:Hp)(v:V)(t:Nat×Nat):Prop:=∃c x,v = .ref c/\H c=some (.tup [.int (t.1:Int),.int (t.2:Int),x])
def kP.same{H H' : Hp}{v:V}{t:Nat×Nat}(s:au H H')(h:kP H v t):kP H' v t:=let⟨c,x,e,h1⟩:=h;⟨c,x,e,s _ _ h1⟩
def kP.tups{H H' : Hp}{v:V}{t:Nat×Nat}(s:dI H H')(h:kP H v t):kP H' v t:=let⟨c,x,e,h1⟩:=h;⟨c,x,e,s _ _ h1⟩
def MD{H:Hp}:∀{ys:List V} {G:List Sm},Paired (AE H) ys G->Paired (kP H) ys (G.map λt=>(t.1,t.2.1))
 | _,_,.nil=>.nil
 | _,_,.cons ⟨c,b,e,h,_⟩ r=>.cons ⟨c,_,e,h⟩ (MD r)
def E9(CB CN:Addr):Sp:=λvs H Q E=>∃w p ts,∃g:aD p ts,∃(b:Addr) (ys:List V) (G:List (Nat×Nat)) (S:Int),vs=[.ref w,.ref b,.int S]/\bz H w p ts/\H b=some (.tup ys)/\Paired (kP H) ys G/\G.length<=24/\(∀t∈G,t.2<2^ts.length)/\mS ts S (∀H',au H H'->E (.ref CB) none H') λm =>
 (g.N.bL m->∀D H',H D=none->au H H'->H' D=some (.lst (aA ((List.range G.length).filter λi=>g.N.par m ((G.map (·.2)).getD i 0))))->Q (.ref D) H')/\∀(pt:Nat) d H',au H H'->(i0 p ts (m:Int))[0]?=some pt->H' d=some (.xd [("point",.int (pt:Int))])->E (.ref CN) (some d) H'
def iI:IC T T.mw 7 (E9 a.aU a.aX):=by
 have mJ:=mJ T;have cC:=cC T;refine T.mw.DI B9 λ_ A _ s H vs Q E hr h=>?_
 ·obtain⟨wb,p,ts,g,b,ys,tr,S,rfl,hw,hb,pd,tl,hm,q⟩:=h;refine⟨_,(ai (cY (aG mJ hr T.l9.c eV.passes (aa (pv 0) (aa (pv 2) af))))
   (av (aJ (bB (own:=["place","told"]) (fq:=["tie_set"]) (js:=[2]) (az (aj lV) ["web","base","tie_set"]) rfl (vD K (by rfl) T.iU (aa (pv 1) af)) (λ_ _ _ _=>(Je K (n:=2) rfl (aS (bq 0 (jo ["place","told","tie_set"])) (aS (bq 1 (jo ["place","told","tie_set"])) fc)))) (λ_ _ _ _=>(dw (cF (aG cC hr T.fU.c aK (aa (pv 2) (aa (aH (cf K) (pv 1) ah) af)))))) (λ_ _ _ _=>(pv 0)))))),?_⟩
  refine fP ?_;intro cJ;have wl:=g.len;have yl:=pd.length;refine(aq rfl (aq rfl ⟨wb,p,ts,g,S,rfl,hw,?_⟩));rcases q with⟨m,rfl,Yu,q,q2⟩|⟨hS,q⟩
  case inr=>exact .inr ⟨hS,q⟩
  refine .inl ⟨m,rfl,Yu,λev H1 s1=>?_,λpt d H' s' h1 h2=>q2 pt d H' s' h1 h2⟩
  have I:=s1 _ _ hb;refine(aq rfl ⟨b,rfl,⟨_,aR.of I⟩,λD U=>vE (xs:=ys) (lH (λi=>g.N.par m ((tr.map (·.2)).getD i 0)) H1 D) (.start U) (λi acc H2 _ G=>⟨aR.of (G.1 _ _ I),G.len⟩) (c5 (by lia)) ?_ ?_⟩)
  ·intro i x T0 acc H2 hx G hT;obtain⟨t,O,c,bw,rfl,hc⟩:=Paired.pA pd hx;have Y:=hm t (iV O);have e:(tr.map (·.2)).getD i 0=t.2:=by rw[aae,aai,O];rfl
   have Z:upd H2 T0 (.tup [.int (i:Int),.ref c]) c=some _:=au.new hT _ _ (G.1 _ _ (s1 _ _ hc));have CG:Builtin.Int.intBits ((m&&&t.2:Nat):Int)<=1000:=aaE (bits_le (acM _ Y)) (by lia)
   refine⟨T0,_,rfl,aR.of ae,rfl,_,_,rfl,_,_,rfl,rfl,rfl,aq rfl (aq rfl (cg (aR.of Z) (ak (j:=1) rfl) ⟨_,_,m,t.2,rfl,rfl,rfl,CG,λH3 s3=>(aq rfl (?_))⟩))⟩
   have s4:=(au.new hT).trans s3
   by_cases z:g.N.par m t.2=true
   ·rw[cD ((Gg Y).mpr z)];exact fK (aq rfl (G.yes U s4 (by rw[e];exact z)))
   ·rw[dO λy=>z ((Gg Y).mp y)]
    exact dN (G.no s4 (by rw[e];exact RV.mpr z))
  ·intro acc H2 G;rw[yl]at G;exact q ev D H2 (by cases e:H D with | none=>rfl | some o=>exact absurd (U.symm.trans (s1 _ _ e)) (by intro z;cases z)) (s1.trans G.1) (by rw[G.2.1,G.2.2])
def OO(K:bN):Sp:=λvs H Q _=>∃(a:Addr) (ns:List Int) (k:Int),vs=[.ref a,.int k]/\0<=k/\aM K H a (ns.map V.int)/\∀z,Q (.int z) H
def ME:Sp:=λvs H Q _=>∃(c k:Int),vs=[.int c,.int k]/\0<=k/\k<=1000/\∀z,0<=z->z<1000000007->Q (.int z) H
def OP:Sp:=λvs H Q _=>∃(c:Int) (k:Nat),vs=[.int c,.int (k:Int)]/\∀z,1<=z->z<=1000000000000000000000000000000->Q (.int z) H
def RH:Sp:=λvs H Q _=>∃(c:Int) (p m:Nat),vs=[.int c,.int (p:Int),.int (m:Int)]/\2<=p/\p<=10/\∀t b H',au H H'->qf (p:Int) t->H' b=some (.tup (NQ t))->Q (.ref b) H'
def RI(K:bN):Sp:=λvs H Q _=>∃(a:Addr) (ns:List Int) (mt G:Nat),vs=[.ref a,.int (mt:Int),.int (G:Int)]/\aM K H a (ns.map V.int)/\ns.length<=63/\mt<=24/\
 ∀w p ts H',au H H'->aD p ts->2<=p->p<=6->ts.length<=mt->bz H' w p ts->Q (.ref w) H'
def Vc(H:Hp)(D:Addr)(n p:Nat):Prop:=∃ks:List Nat,H D=some (.lst (aA ks))/\ks.length=n/\∀k∈ks,k<p
def eI:Ok T T.iN 1 (OO K):=by
 refine T.iN.ok wI λ_ A _ s H vs Q E hr h=>?_
 ·obtain⟨b,ns,k,rfl,I,O,q⟩:=h;refine⟨_,(ai (cA (aP Fw (pv 1) (bW K T.cR (aa (pv 0) af)) (aO _)) (av (aJ (aH (jA K) (pv 0) (pv 1)))) aZ)
   (av (aJ ah))),?_⟩
  refine iM ?_;intro U Y;refine(aq rfl (aq rfl ⟨b,_,rfl,.inl O,_,_,rfl,rfl,aq rfl (oG (λG=>?_) (λ_=>q 0))⟩))
  have G:=jR G;rw[aaa]at G;obtain⟨k,rfl⟩:=abN I;exact(aq rfl (aq rfl ⟨b,_,_,_,rfl,rfl,O,ak (j:=k) (NT (by lia)),q _⟩))
def bU:Ok T T.dB 1 ME:=by
 refine T.dB.ok lW λ_ A _ s H vs Q E hr h=>?_
 ·obtain⟨c,k,rfl,hk,G,q⟩:=h;refine⟨_,(ai (aF (i:=2) lW.nd rfl (Or.inl rfl) (aI eM (aI cG (pv 0) ah) (aI Dv ah (pv 1))))
   (ai (aF (i:=3) lW.nd rfl (Or.inl rfl) (aI cG (aI Dv (aI eM (pv 2) ah) (aI eM (pv 2) ah)) ah))
   (av (aJ (aI lD (aI cG (aI Dv (pv 3) (pv 3)) ah) ah))))),?_⟩
  refine gQ ?_;intro O U;have h1:=oQ c 1000000007 (by decide)
  refine(aq rfl (cj ⟨(kU rfl),aq rfl (cj ⟨.inl ⟨by decide,by decide⟩,cj (?_)⟩)⟩))
  refine(aq rfl (cj (aq rfl (cj (cj ⟨.inl ⟨by lia,by lia⟩,cj ⟨(kU rfl),?_⟩⟩)))))
  have h2:=oQ ((c%1000000007+7919*k+11)*(c%1000000007+7919*k+48271)) 998244353 (by decide)
  dsimp only;generalize (c%1000000007+7919*k+11)*(c%1000000007+7919*k+48271)%998244353=st at h2;refine(aq rfl (aq rfl (cj ⟨.inl ⟨by lia,by lia⟩,cj ⟨(kU rfl),cj ⟨⟨by decide,by decide⟩,?_⟩⟩⟩)))
  have I:=oQ (st*st) 1000000007 (by decide)
  dsimp only;generalize st*st%1000000007=y at I;exact q _ (by lia) (by lia)
def mK:Ok T T.my 1 OP:=by
 refine T.my.ok xF λ_ A _ s H vs Q E hr h=>?_
 ·obtain⟨c,k,rfl,q⟩:=h;refine⟨_,(ai (cA (aP dm (pv 1) ah (aO _)) (av (aJ (aI eM ah (aI cG (pv 0) ah)))) aZ)
   (ai (cA (aP dm (pv 1) ah (aO _)) (av (aJ (aI eM ah (aI cG (pv 0) ah)))) aZ)
   (av (aJ (aI eM ah (aI cG (pv 0) (aI Jv ah ah))))))),?_⟩
  refine xG ?_;intro I O U Y;have Z:=oQ c 9 (by decide)
  have h3:=oQ c 3 (by decide)
  have G:=oQ c (10^(30:Int).toNat) (by decide)
  have e:(10:Int)^(30:Int).toNat=1000000000000000000000000000000:=by decide
  refine(aq rfl ⟨rfl,aq rfl (oG (λ_=>(aq rfl (cj ⟨(kU rfl),cj (q _ (by lia) (by lia))⟩))) (λ_=>(aq rfl ⟨rfl,aq rfl (oG (λ_=>(aq rfl (cj ⟨(kU rfl),cj (q _ (by lia) (by lia))⟩))) (λ_=>(aq rfl (cj ⟨⟨by decide,by decide,by decide⟩,cj ⟨(kU (by decide)),cj (q _ (by lia) (by lia))⟩⟩))))⟩)))⟩)
def sZ:Ok T T.sP 2 RH:=by
 have mK:=mK T;refine T.sP.ok lY λ_ A _ s H vs Q E hr h=>?_
 ·obtain⟨c,p,m,rfl,hp,U,q⟩:=h;refine⟨_,(ai (aF (i:=3) lY.nd rfl (Or.inl rfl) (aI cG (pv 0) (pv 1)))
   (ai (aF (i:=0) lY.nd rfl (Or.inl rfl) (aI lD (pv 0) (pv 1)))
   (ai (aF (i:=4) lY.nd rfl (Or.inl rfl) (aI cG (aI eM (aI eM (pv 3) ah) (aI cG (pv 0) (aI o8 (pv 1) ah))) (pv 1)))
   (av (aJ (c8 (aa (pv 3) (aa (pv 4) (aa (aG mK hr T.my.c aK (aa (aI lD (pv 0) (aI o8 (pv 1) ah)) (aa (pv 2) af))) af))))))))),?_⟩
  refine EB ?_;intro Y Z dY;obtain⟨h1,h2⟩:=oQ c (p:Int) (by lia)
  obtain⟨I,O⟩:=oQ (c/(p:Int)) ((p:Int)-1) (by lia)
  obtain⟨g1,g2,g3⟩:=Km h1 h2 I O;refine(aq rfl (aq rfl (cj ⟨(by lia),?_⟩)))
  refine(aq rfl (aq rfl (cj ⟨⟨by lia,by lia⟩,?_⟩)))
  refine(aq rfl (cj (aq rfl (aq rfl (cj (cj ⟨(by lia),cj (aq rfl (cj ⟨(by lia),?_⟩))⟩))))))
  refine(aq rfl (aq rfl (aq rfl (aq rfl (cj (cj ⟨⟨by lia,by lia⟩,aq rfl ⟨_,m,rfl,λz hz G=>⟨dl rfl,λb hb=>?_⟩⟩⟩))))))
  exact q (_,_,z) b _ (au.new hb) ⟨h1,h2,g1,g2,g3,hz,G⟩ ae
def tu:Ok T T.sQ 3 (RI K):=by
 have eI:=eI T;have bU:=bU T;have sZ:=sZ T;refine T.sQ.ok bR λ_ A _ s H vs Q E hr h=>?_
 ·obtain⟨b,ns,mt,rk,rfl,hS,hn,bw,q⟩:=h;refine⟨_,(ai (aF (i:=3) bR.nd rfl (Or.inr rfl) (aG eI hr T.iN.c aK (aa (pv 0) (aa ah af))))
   (ai (aF (i:=4) bR.nd rfl (Or.inl rfl) (aI eM ah (aI cG (pv 3) ah)))
   (ai (aF (i:=5) bR.nd rfl (Or.inl rfl) (aI cG (aI lD (pv 3) ah) ah))
   (ai (aF (i:=6) bR.nd rfl (Or.inl rfl) (pZ (VB K) (pv 0) (pY ah) za))
   (ai (cA (aP dm (aI cG (aI lD (pv 3) ah) ah) ah (aO _)) (ai (ff (i:=6) bR.nd rfl rfl (own:=["k","cell"]) (fq:=[]) (js:=[]) (az (aj iw) ["script","most","ranked","head","points","way","cells","ties","marks","free","cell","tie","joined","old"]) rfl (FJ K (by rfl) T.iU (aa (pZ (VB K) (pv 0) (pY ah) za) af)) (λ_ _ _ _=>(Je K (n:=2) rfl (aS (bq 0 (jo ["k","cell"])) (aS (bq 1 (jo ["k","cell"])) fc)))) (λ_ _ _ _=>bX) (λ_ _ _ _=>(aG bU hr T.dB.c aK (aa (pv 1) (aa (pv 0) af)))))
   (av (cY (Ji K (mR aaZ PySem.F.slot_list_extend PySem.F.type_list_extend GN (pv 6) (aa (bB (own:=["k"]) (fq:=["head"]) (js:=[3]) (az (aj iw) ["script","most","ranked","head","points","way","cells","ties","marks","free","cell","tie","joined","old"]) rfl (br (by rfl) T.bV (aa ah af)) (λ_ _ _ _=>(bq 0 (jo ["k","head"]))) (λ_ _ _ _=>bX) (λ_ _ _ _=>(aG bU hr T.dB.c aK (aa (pv 1) (aa (aI eM ah (pv 0)) af))))) af)))))) aZ)
   (ai (aF (i:=7) bR.nd rfl (Or.inl rfl) (dH af))
   (ai (aF (i:=8) bR.nd rfl (Or.inr rfl) (bB (own:=["point"]) (fq:=[]) (js:=[]) (az (aj iw) ["script","most","ranked","head","points","way","cells","ties","marks","free","cell","tie","joined","old"]) rfl (br (by rfl) T.bV (aa (pv 4) af)) (λ_ _ _ _=>(bq 0 (jo ["point"]))) (λ_ _ _ _=>bX) (λ_ _ _ _=>(pv 0))))
   (ai (aF (i:=9) bR.nd rfl (Or.inl rfl) ah)
   (ai (eK PassesOwn.never rfl (oH K (pv 6)) (bq 10 bR.nd)
   (ai (aF (i:=11) bR.nd rfl (Or.inr rfl) (aG sZ hr T.sP.c aK (aa (pv 10) (aa (pv 4) (aa (pv 5) af)))))
   (ai (aF (i:=12) bR.nd rfl (Or.inl rfl) (cZ AX (aH (jA K) (pv 8) (aH (cf K) (pv 11) ah)) (aH (jA K) (pv 8) (aH (cf K) (pv 11) ah)) (aO _)))
   (av (cA (PW.pt (Dm (aP Fw (bW K T.cR (aa (pv 7) af)) (pv 1) (aO _)) (yZ (PW.pt (pW (cF (pv 12)) (m4 (aP Fw (pv 9) (pv 2) (aO _)))))))) (ai (cY (Ji K (mR aaZ aa3 aa4 c9 (pv 7) (aa (pv 11) af))))
   (ai (aF (i:=9) bR.nd rfl (Or.inl rfl) (aI eM (pv 9) (cS qV (by rfl) T.Gm acy (aa (Jq (pv 12)) af))))
   (ai (aF (i:=13) bR.nd rfl (Or.inr rfl) (aH (jA K) (pv 8) (aH (cf K) (pv 11) ah)))
   (av (aF (i:=8) bR.nd rfl (Or.inr rfl) (bB (own:=["mark"]) (fq:=["marks","tie","old"]) (js:=[8,11,13]) (az (aj iw) ["script","most","ranked","head","points","way","cells","ties","marks","free","cell","tie","joined","old"]) rfl (oH K (pv 8)) (λ_ _ _ _=>(bq 0 (jo ["mark","marks","tie","old"]))) (λ_ _ _ _=>bX) (λ_ _ _ _=>(aH (jA K) (dH (aa (pv 0) (aa (aH (jA K) (pv 1) (aH (cf K) (pv 2) ah)) af))) (cS qV (by rfl) T.Gm acy (aa (cZ dm (pv 0) (pv 3) (aO _)) af)))))))))) aZ)))))
   (av (aJ (c8 (aa (pv 4) (aa (cS (A8 K) (by rfl) T.qO ab2 (aa (pv 7) af)) af)))))))))))))),?_⟩
  refine EC ?_;intro cJ c7 dY fN gF nA tP yT Gj Gk wG zS LV LW LX UI UJ UK;refine(aq rfl ⟨b,ns,0,rfl,(by decide),hS,λz=>?_⟩)
  refine(aq rfl (cj ⟨(kU rfl),cj (?_)⟩));obtain⟨p,hp,p1,p2⟩:∃p:Nat,2+z%5=(p:Int)/\2<=p/\p<=6:=by
   obtain⟨h1,h2⟩:=oQ z 5 (by decide)
   exact⟨(2+z%5).toNat,by lia,by lia,by lia⟩
  dsimp only;rw[hp];refine(aq rfl (cj ⟨⟨by decide,by decide⟩,cj ⟨(kU rfl),?_⟩⟩))
  obtain⟨wy,V2⟩:∃y:Nat,z/5%3=(y:Int):=by
   obtain⟨h1,h2⟩:=oQ (z/5) 3 (by decide)
   exact⟨(z/5%3).toNat,by lia⟩
  dsimp only;rw[V2];refine(aq rfl (aq rfl ⟨b,_,rfl,hS,λc hc=>?_⟩))
  have RJ:=A7 ns (some 1) none;have a6:((ns.drop (HT.tE ns.length 0 (some 1))).take (HT.tE ns.length ns.length none-HT.tE ns.length 0 (some 1))).length<=63:=by
   rw[aa0,acA]
   lia
  generalize (ns.drop (HT.tE ns.length 0 (some 1))).take (HT.tE ns.length ns.length none-HT.tE ns.length 0 (some 1))=ms at RJ a6;rw[RJ];have cont:∀(c1:Addr) (ag:List Int) (H1:Hp),au H H1->H1 c1=some (.lst (ag.map V.int))->zS { nx:=λ_ H'=>Q V.eE H',rt:=Q} [some (.ref b),some (.int (mt:Int)),some (.int (rk:Int)),some (.int z),some (.int (p:Int)),some (.int (wy:Int)),some (.ref c1),none,none,none,none,none,none,none] H1:=by
   intro c1 ag H1 s1 ax;refine⟨dl rfl,λL hL=>?_⟩
   have t2:tX (p:Int) H1 L 0 (upd H1 L (.lst [])):=.start hL;generalize upd H1 L (.lst [])=H2 at t2;refine(aq rfl (aq rfl ⟨(by lia),(by lia),λM hM=>bY (lo:=0) (m:=(p:Int).toNat) (lH (λ_=>true) H2 M) (.start hM) (λi acc H3 _ O=>O.len) (c5 (by lia)) ?_ ?_⟩))
   ·intro i acc H3 hi O;rw[aa6];exact⟨rfl,aq rfl (O.yes hM (au.refl _) rfl)⟩
   intro acc H3 O;have b3:Vc H3 M p p:=by
    refine⟨(List.range p).filter (λ_=>true),by rw[O.2.1,O.2.2,aaj],?_,λk hk=>aaA.mp (aas.mp hk).1⟩
    rw[adt.mpr (λ_ _=>rfl),aav]
   have t3:tX (p:Int) H1 L 0 H3:=by
    obtain⟨a1,acc,ts,a2,a3,a4⟩:=t2;exact⟨a1.trans O.1,acc,ts,O.1 _ _ a2,Paired.imp' (λ_ _ z=>z.tups O.1.tups) a3,a4⟩
   clear O;have fr:H1 M=none:=t2.1.free hM;refine(aq rfl ⟨c1,rfl,⟨_,aM.of (t3.1 _ _ ax)⟩,eG (K:=K) (a:=c1) (xs:=ag.map V.int) (λi σ H4=>∃(M:Addr) (n:Nat) (f:Int) (v10 v11 Jj Vd:Option V),σ=[some (.ref b),some (.int (mt:Int)),some (.int (rk:Int)),some (.int z),some (.int (p:Int)),some (.int (wy:Int)),some (.ref c1),some (.ref L),some (.ref M),some (.int f),v10,v11,Jj,Vd]/\tX (p:Int) H1 L n H4/\n<=mt/\Vc H4 M p p/\H1 M=none/\M≠L) ⟨M,0,0,none,none,none,none,rfl,t3,aaL _,b3,fr,λe=>?_⟩ (λi σ H4 _ ⟨_,_,_,_,_,_,_,_,t,_⟩=>aM.of (t.1 _ _ ax)) ?_ ?_⟩)
   ·obtain⟨_,acc,_,a2,_⟩:=t2;rw[e,a2]at hM;cases hM
   ·rintro i y D' σ H4 hi ⟨M,n,f,v10,v11,Jj,Vd,rfl,t4,aT,b4,Z4,Yv⟩;rw[aai]at hi;obtain⟨ce,a5,rfl⟩:=tD.mp hi;refine(aq rfl (aq rfl (aq rfl ⟨ce,p,wy,rfl,p1,by lia,λt U Y s5 gt V7=>?_⟩)))
    obtain⟨ks,a7,kl,kb⟩:=b4;have V8:=s5 _ _ a7;have t5:tX (p:Int) H1 L n Y:=by
     obtain⟨a1,acc,ts,a2,a3,a4⟩:=t4;exact⟨a1.trans s5,acc,ts,s5 _ _ a2,Paired.imp' (λ_ _ z=>z.tups s5.tups) a3,a4⟩
    obtain⟨u,hu⟩:=abN gt.a0;obtain⟨v,hv⟩:=abN gt.b0;have Z5:u<ks.length:=by have:=gt.a1;lia
    have V5:v<ks.length:=by have:=gt.b1;lia
    have a8:(aA ks)[u]?=some (.int (ks[u]:Int)):=lK (aad Z5);have a9:(aA ks)[v]?=some (.int (ks[v]:Int)):=lK (aad V5);have iu:Jc (aA ks) t.1=some (.int (ks[u]:Int)):=by rw[hu];exact ak a8
    have iv:Jc (aA ks) t.2.1=some (.int (ks[v]:Int)):=by rw[hv];exact ak a9
    have ba:=kb _ (ab4 Z5);refine(aq rfl (aq rfl (cg (aR.of V7) (ak (j:=0) rfl) (jn (aM.of V8) (iu) (aq rfl (aq rfl (cg (aR.of V7) (ak (j:=1) rfl) (jn (aM.of V8) (iv) ⟨rfl,?_⟩))))))));obtain⟨bD,Fb,bP,Ve,b2,b5,b6⟩:=id t5;have skip:D'.nx [some (.ref b),some (.int (mt:Int)),some (.int (rk:Int)),some (.int z),some (.int (p:Int)),some (.int (wy:Int)),some (.ref c1),some (.ref L),some (.ref M),some (.int f),some (.int ce),some (.ref U),some (.bl (!decide (V.int (ks[u]:Int)=V.int (ks[v]:Int)))),Vd] Y:=⟨M,n,f,_,_,_,_,rfl,t5,aT,⟨ks,V8,kl,kb⟩,Z4,Yv⟩;generalize (!decide (V.int (ks[u]:Int)=V.int (ks[v]:Int)))=jb at skip;have put:Fb.length<mt->gF D' [some (.ref b),some (.int (mt:Int)),some (.int (rk:Int)),some (.int z),some (.int (p:Int)),some (.int (wy:Int)),some (.ref c1),some (.ref L),some (.ref M),some (.int f),some (.int ce),some (.ref U),some (.bl jb),Vd] Y:=λcb=>by
     obtain⟨cc,e6,t6⟩:∃acc,Y L=some (.lst acc)/\tX (p:Int) H1 L (n+1) (upd Y L (.lst (acc++[.ref U]))):=by
      have:=t5.push hL (au.refl _) gt V7;obtain⟨acc,e1,_,e2⟩:=this;exact⟨acc,e1,e2⟩
     rw[Ve]at e6;cases e6;refine(aq rfl ⟨.inl ⟨rfl,_,aM.of Ve⟩,aq rfl ⟨L,_,_,rfl,rfl,Ve,dS (by lia),?_⟩⟩)
     have Vf:upd Y L (.lst (Fb++[.ref U])) M=some (.lst (aA ks)):=by rw[ao Yv];exact V8
     have RK:upd Y L (.lst (Fb++[.ref U])) U=some (.tup (NQ t)):=dI.put Ve _ _ V7;have Z6:upd Y L (.lst (Fb++[.ref U])) L=some (.lst (Fb++[.ref U])):=ae;generalize upd Y L (.lst (Fb++[.ref U]))=H6 at t6 Vf RK Z6;refine(aq rfl (aq rfl (aq rfl (.inr (aq rfl (cj (?_)))))));refine(aq rfl (aq rfl (cg (aR.of RK) (ak (j:=1) rfl) (jn (aM.of Vf) (iv) (?_)))));refine(aq rfl ⟨M,rfl,⟨_,aM.of Vf⟩,λM2 OQ=>bu (xs:=aA ks) (λi acc Z=>au H6 Z/\Z M2=some (.lst acc)/\∃I:List Nat,acc=aA I/\I.length=i/\∀k∈I,k<p) ⟨au.new OQ,ae,[],rfl,rfl,(λk hk=>nomatch hk)⟩ (λi acc Z _ z=>⟨aM.of (z.1 _ _ Vf),z.2.1,by obtain⟨I,e,e2,_⟩:=z.2.2;rw[e,aC,e2];exact aaf _⟩) (c5 (by rw[aC];lia)) ?_ ?_⟩)
     ·rintro i x acc Z hx ⟨s7,Yw,I,rfl,V9,kb2⟩;obtain⟨k,hk,rfl⟩:=gr hx;have bb:=kb k (iV hk);refine⟨rfl,aq rfl (aq rfl (aq rfl (cg (aR.of (s7 _ _ RK)) (ak (j:=0) rfl) (jn (aM.of (s7 _ _ Vf)) (iu) ⟨dl rfl,λl hl=>?_⟩))))⟩
      have s8:au Z (upd Z l (.lst [.int (k:Int),.int (ks[u]:Int)])):=au.new hl;have Yx:upd Z l (.lst [.int (k:Int),.int (ks[u]:Int)]) l=some (.lst [.int (k:Int),.int (ks[u]:Int)]):=ae;generalize upd Z l (.lst [.int (k:Int),.int (ks[u]:Int)])=H8 at s8 Yx;refine(aq rfl (aq rfl ⟨rfl,.inr (aq rfl (?_))⟩));have Z7:∀k' : Nat,k'<p->H8 M2=some (.lst (aA I))/\au H6 (upd H8 M2 (.lst (aA I++[.int (k' : Int)])))/\upd H8 M2 (.lst (aA I++[.int (k' : Int)])) M2=some (.lst (aA I++[.int (k' : Int)]))/\∃ar:List Nat,aA I++[.int (k' : Int)]=aA ar/\ar.length=i+1/\∀k∈ar,k<p:=λk' cn=>by
       refine⟨s8 _ _ Yw,(s7.trans s8).put OQ,ae,I++[k'],(cH I k').symm,by rw[aao,V9];rfl,λx hx=>?_⟩
       rcases aaw.mp hx with hx|hx
       ·exact kb2 x hx
       ·have e:x=k':=by simpa using hx
        lia
      cases hd:decide (V.int (k:Int)=V.int (ks[v]:Int)) with
      | true=>exact(jn (aM.of Yx) (ak (j:=1) rfl) (Z7 _ ba))
      | false=>exact(jn (aM.of Yx) (ak (j:=0) rfl) (Z7 _ bb))
     ·rintro acc Z ⟨s7,Yw,I,rfl,V9,kb2⟩;rw[aC,kl]at V9;refine⟨M2,n+1,_,_,_,_,_,rfl,?_,by lia,⟨I,Yw,V9,kb2⟩,t6.1.free OQ,λe=>?_⟩
      ·obtain⟨a1,acc,ts,a2,a3,a4⟩:=t6;exact⟨a1.trans s7,acc,ts,s7 _ _ a2,Paired.imp' (λ_ _ z=>z.tups s7.tups) a3,a4⟩
      ·rw[e,Z6]at OQ;cases OQ
    refine(aq rfl (oM rfl (.inl (aM.of Ve)) (aq rfl (cj (aq rfl (oG (λh1=>?_) (λ_=>skip)))))))
    have h1:(Fb.length:Int)<(mt:Int):=jR h1;refine(aq rfl (aq rfl (?_)));cases jb with
    | true=>exact fK (put (by lia))
    | false=>exact dN (aq rfl (aq rfl (cj (aq rfl (oG (λ_=>put (by lia)) (λ_=>skip))))))
   ·rintro σ H4 ⟨M,n,f,v10,v11,Jj,Vd,rfl,t4,aT,b4,Z4,Yv⟩;obtain⟨acc,ts,bc,ZM,gd,mk⟩:=t4.fin;refine(aq rfl (aq rfl ⟨L,_,rfl,.inl ⟨aM.of bc,λl hl=>⟨dl rfl,λw hw=>?_⟩⟩⟩))
    obtain⟨sm,bo⟩:=mk l hl w hw;exact q w p ts _ (s1.trans sm) ⟨by lia,by lia,by lia,gd⟩ p1 p2 (by lia) bo
  refine(aq rfl (cj ⟨⟨by decide,by decide⟩,cj ⟨(kU rfl),rfl,aq rfl (oG (λ_=>?_) (λ_=>cont c ms _ (au.new hc) ae))⟩⟩))
  have s1:au H (upd H c (.lst (ms.map V.int))):=au.new hc;generalize upd H c (.lst (ms.map V.int))=H1 at s1;refine(aq rfl (aq rfl ⟨b,_,rfl,s1.seq hS,λc3 bp=>?_⟩))
  rw[RJ];have s2:au H1 (upd H1 c3 (.lst (ms.map V.int))):=au.new bp;have aw:upd H1 c3 (.lst (ms.map V.int)) c3=some (.lst (ms.map V.int)):=ae;generalize upd H1 c3 (.lst (ms.map V.int))=H2 at s2 aw;refine⟨c3,rfl,⟨_,aM.of aw⟩,λD hD=>Ed (xs:=ms.map V.int) (λi acc H3=>au H2 H3/\H3 D=some (.lst acc)/\∃G:List Int,acc=G.map V.int/\G.length=i) ⟨au.new hD,ae,[],rfl,rfl⟩ (λi acc H3 _ z=>⟨aM.of (z.1 _ _ aw),z.2.1,by obtain⟨G,e,e2⟩:=z.2.2;rw[e,aaa,e2];exact aaf _⟩) (aaO (dS (by rw[aaa];lia))) ?_ ?_⟩
  ·rintro i x T0 acc H3 hx ⟨s3,xo,G,rfl,Yy⟩ hT;rw[aai]at hx;obtain⟨ce,a5,rfl⟩:=tD.mp hx;have Bt:=(ju.mp a5).1;refine⟨T0,_,rfl,aR.of ae,rfl,_,_,rfl,_,_,rfl,rfl,rfl,aq rfl (aq rfl ⟨ce,(i:Int),rfl,by lia,by lia,λy _ _=>?_⟩)⟩
   have s4:au H3 (upd H3 T0 (.tup [.int (i:Int),.int ce])):=au.new hT;exact⟨s4 _ _ xo,(s3.trans s4).put hD,ae,G++[y],by rw[aax];rfl,by rw[aao,Yy];rfl⟩
  ·rintro acc H3 ⟨s3,xo,G,rfl,Yy⟩;rw[aaa]at Yy;refine(aq rfl ⟨.inl ⟨rfl,_,aM.of xo⟩,aq rfl ⟨(by decide),(by decide),λD2 jU=>bY (lo:=0) (m:=5) (λi acc H4=>au H3 H4/\H4 D2=some (.lst acc)/\∃Sn:List Int,acc=Sn.map V.int/\Sn.length=i) ⟨au.new jU,ae,[],rfl,rfl⟩ (λi acc H4 _ z=>⟨z.2.1,by obtain⟨G,e,e2⟩:=z.2.2;rw[e,aaa,e2];exact aaf _⟩) (c5 (by decide)) ?_ ?_⟩⟩)
   ·rintro i acc H4 hi ⟨s4,qQ,Sn,rfl,Z8⟩;rw[aa6];exact⟨rfl,aq rfl (aq rfl (cj ⟨z,_,rfl,by lia,by lia,λy _ _=>⟨qQ,s4.put jU,ae,Sn++[y],by rw[aax];rfl,by rw[aao,Z8];rfl⟩⟩))⟩
   ·rintro acc H4 ⟨s4,qQ,Sn,rfl,Z8⟩;have Yz:=s4 _ _ xo;refine⟨D,D2,_,_,rfl,rfl,Yz,qQ,dl (abh.mpr (by rw[aaa,aaa];lia)),?_⟩
    refine cont D (G++Sn) _ ?_ ?_
    ·exact(((s1.trans s2).trans (s3.trans s4))).put ((s1.trans s2).free hD)
    ·rw[ae,aax]
def IW:Sp:=λvs H Q _=>∃w p ts,∃g:aD p ts,∃(S:Int) (m:Nat),vs=[.ref w,.int S]/\S=(m:Int)/\bz H w p ts/\m<2^ts.length/\∀D H',au H H'->H' D=some (.lst (cK (λx=>g.N.dg m x) p))->Q (.ref D) H'
def Fc:Sp:=λvs H Q _=>∃w p ts,∃g:aD p ts,∃(S:Int) (m:Nat),vs=[.ref w,.int S]/\S=(m:Int)/\bz H w p ts/\m<2^ts.length/\∀H',au H H'->Q (.int ((RM.cnt (g.N.root (λk=>m.testBit k) ts.length) p:Nat):Int)) H'
def MF:Sp:=λvs H Q _=>∃w p ts,∃g:aD p ts,∃(S:Int) (m:Nat),vs=[.ref w,.int S]/\S=(m:Int)/\bz H w p ts/\m<2^ts.length/\∀H' (d:Bool),au H H'->(d=true↔g.N.Ring m)->Q (.bl d) H'
def MG{N:RM.Net}{m x:Nat}(k:Nat):RM.cnt (λj=>m.testBit j&&N.inc j x) (k+1)=RM.cnt (λj=>m.testBit j&&N.inc j x) k+if(m.testBit k&&N.inc k x)=true then 1 else 0:=rfl
def RL(x u v:Nat):O7 (.int (x:Int)) [.int (u:Int),.int (v:Int)]=decide (u=x\/v=x):=by
 have e:([.int (u:Int),.int (v:Int)]:List V)=aA [u,v]:=rfl;rw[e,nc];refine aaS.mpr ?_;simp[eq_comm]
def CP{f:Nat->Nat}{n u v:Nat}:(cK f n).set u (.int (v:Int))=cK (λx=>if x=u then v else f x) n:=by
 unfold cK;refine List.ext_getElem? λi=>?_
 rw[List.getElem?_set,aai]
 by_cases e:u=i
 ·subst e;rw[aac rfl,aaa,aav]
  by_cases h:u<n
  ·rw[aac h,aai,abQ h];simp
  ·rw[aab h,aai,List.getElem?_eq_none (by rw[aav];lia)]
   rfl
 ·rw[aab e,aai]
  by_cases h:i<n
  ·rw[abQ h];simp[show ¬ i=u from λz=>e z.symm]
  ·rw[List.getElem?_eq_none (by rw[aav];lia)]
   rfl
def IX{f g:Nat->Int}{n:Nat}(h:∀i,i<n->f i=g i):PyProof.Rows.firstMet f n=PyProof.Rows.firstMet g n:=by
 unfold PyProof.Rows.firstMet;rw[acD λi hi=>h i (aaA.mp hi)]
def cQ:Ok T T.gY 1 IW:=by
 refine T.gY.ok kI λ_ A _ s H vs Q E hr h=>?_
 ·obtain⟨wb,p,ts,g,S,m,rfl,rfl,hw,hm,q⟩:=h;refine⟨_,(ai (aF (i:=2) kI.nd rfl (Or.inl rfl) (aI DF (dH (aa ah af)) (aH (cf K) (pv 0) ah)))
   (ai (eK PassesOwn.never rfl (br (by rfl) T.bV (aa (bW K T.cR (aa (aH (cf K) (pv 0) ah) af)) af)) (bq 3 kI.nd)
   (av (cA (aP dm (aI cG (aI o9 (pv 1) (pv 3)) ah) ah (aO _)) (ai (Dq (aI eM (aH (jA K) (pv 2) (aH (cf K) (aH (cf K) (aH (cf K) (pv 0) ah) (pv 3)) ah)) ah) (Dp (pv 2) (aH (cf K) (aH (cf K) (aH (cf K) (pv 0) ah) (pv 3)) ah) set_list))
   (av (Dq (aI eM (aH (jA K) (pv 2) (aH (cf K) (aH (cf K) (aH (cf K) (pv 0) ah) (pv 3)) ah)) ah) (Dp (pv 2) (aH (cf K) (aH (cf K) (aH (cf K) (pv 0) ah) (pv 3)) ah) set_list)))) aZ)))
   (av (aJ (pv 2))))),?_⟩
  refine oY ?_;intro cJ c7 dY fN gF;obtain⟨bt,xs,h1,h2,h3⟩:=id hw.ex;have um:=h3.length;have wl:=g.len;have wp:=g.p2;refine⟨dl rfl,λc hc=>?_⟩
  have s1:au H (upd H c (.lst [.int 0])):=au.new hc;have O:upd H c (.lst [.int 0]) c=some (.lst [.int 0]):=ae;generalize upd H c (.lst [.int 0])=H1 at s1 O;refine(aq rfl (cg (aR.of (s1 _ _ h1)) (ak (j:=0) rfl) ⟨c,(p:Int),aq rfl ⟨rfl,O,by lia,by lia,(by rw[aaj];show 1*p<=sizeLine;exact dl (abh.mpr (by lia))),λe he=>?_⟩⟩))
  have UQ:H e=none:=s1.free he;have s2:=s1.trans (au.new (o:=.lst (List.replicate (p:Int).toNat [V.int 0]).flatten) he);have NP:upd H1 e (.lst (List.replicate (p:Int).toNat [V.int 0]).flatten) e=some (.lst (cK (λ_=>0) p)):=by
   rw[ae,aaj,Bl]
  generalize upd H1 e (.lst (List.replicate (p:Int).toNat [V.int 0]).flatten)=H2 at s2 NP;refine(aq rfl (cg (aR.of (s2 _ _ h1)) (ak (j:=1) rfl) (oM rfl (.inr (aR.of (s2 _ _ h2))) (aq rfl ⟨(by lia),(by lia),?_⟩))))
  refine eX (lo:=0) (n:=(xs.length:Int).toNat) (λk σ H3=>∃v3,σ=[some (.ref wb),some (.int (m:Int)),some (.ref e),v3]/\au H H3/\H3 e=some (.lst (cK (λx=>RM.cnt (λj=>m.testBit j&&g.N.inc j x) k) p))) ⟨none,rfl,s2,NP⟩ ?_ ?_
  ·rintro k D' σ H3 hk ⟨v3,rfl,s3,I⟩;rw[aaj]at hk;rw[aa6];have U:k<ts.length:=by lia
   obtain⟨ct,ex,G⟩:=rE (g:=g) h3 U;have ha:g.N.a k<p:=g.N.al k U;have hb:g.N.b k<p:=g.N.bl k U;have ne:g.N.a k≠g.N.b k:=g.N.ne k U;refine(aq rfl (aq rfl (cj ⟨(by lia),cj ⟨(kU rfl),rfl,aq rfl (?_)⟩⟩)))
   rw[aaj,DM,fW];cases qt:m.testBit k with
   | false =>
     refine dN (aq rfl ⟨s3,?_⟩);rw[I]
     congr 2
     refine vm λx _=>?_
     rw[MG,qt];rfl
   | true =>
     generalize hF:(λx=>RM.cnt (λj=>m.testBit j&&g.N.inc j x) k)=F at I
     refine fK (aq rfl (aq rfl (cg (aR.of (s3 _ _ h1)) (ak (j:=1) rfl) (aq rfl (cg (aR.of (s3 _ _ h2)) (ak (j:=k) ex) (cg (aR.of (s3 _ _ G)) (ak (j:=0) rfl) (jn (aM.of I) (ak (bJ ha)) (cj (?_)))))))));refine(aq rfl (aq rfl (cg (aR.of (s3 _ _ h1)) (ak (j:=1) rfl) (aq rfl (cg (aR.of (s3 _ _ h2)) (ak (j:=k) ex) (cg (aR.of (s3 _ _ G)) (ak (j:=0) rfl) ⟨e,_,_,g.N.a k,rfl,rfl,I,qb (by rw[bZ];exact ha),?_⟩))))))
     have e4:(cK F p).set (g.N.a k) (.int ((F (g.N.a k):Nat)+1:Int))=cK (λx=>if x=g.N.a k then F (g.N.a k)+1 else F x) p:=by
      rw[<-CP];rfl
     dsimp only;rw[e4];have s4:au H (upd H3 e (.lst (cK (λx=>if x=g.N.a k then F (g.N.a k)+1 else F x) p))):=s3.put UQ
     have Y:upd H3 e (.lst (cK (λx=>if x=g.N.a k then F (g.N.a k)+1 else F x) p)) e=_:=ae
     generalize upd H3 e (.lst (cK (λx=>if x=g.N.a k then F (g.N.a k)+1 else F x) p))=H4 at s4 Y
     generalize OS:(λx=>if x=g.N.a k then F (g.N.a k)+1 else F x)=F2 at Y
     refine(aq rfl (aq rfl (cg (aR.of (s4 _ _ h1)) (ak (j:=1) rfl) (aq rfl (cg (aR.of (s4 _ _ h2)) (ak (j:=k) ex) (cg (aR.of (s4 _ _ G)) (ak (j:=1) rfl) (jn (aM.of Y) (ak (bJ hb)) (cj (?_)))))))));refine(aq rfl (aq rfl (cg (aR.of (s4 _ _ h1)) (ak (j:=1) rfl) (aq rfl (cg (aR.of (s4 _ _ h2)) (ak (j:=k) ex) (cg (aR.of (s4 _ _ G)) (ak (j:=1) rfl) ⟨e,_,_,g.N.b k,rfl,rfl,Y,qb (by rw[bZ];exact hb),?_⟩))))))
     refine(aq rfl ⟨s4.put UQ,?_⟩);rw[ae];have e5:(cK F2 p).set (g.N.b k) (.int ((F2 (g.N.b k):Nat)+1:Int))=cK (λx=>if x=g.N.b k then F2 (g.N.b k)+1 else F2 x) p:=by
      rw[<-CP];rfl
     dsimp only;rw[e5]
     congr 2
     refine vm λx _=>?_
     rw[MG,qt,abo,show RM.cnt (λj=>m.testBit j&&g.N.inc j x) k=F x from congrFun hF x]
     unfold RM.Net.inc;have f2:∀y,F2 y=if y=g.N.a k then F (g.N.a k)+1 else F y:=λy=>(congrFun OS y).symm
     by_cases Z:x=g.N.b k
     ·rw[aac Z,f2,aab (λz:g.N.b k=g.N.a k=>ne z.symm),Z,dO ne,cD rfl]
      rfl
     ·rw[aab Z,f2,dO (λz:g.N.b k=x=>Z z.symm),aa7]
      by_cases e2:x=g.N.a k
      ·rw[aac e2,e2,cD rfl];rfl
      ·rw[aab e2,dO (λz:g.N.a k=x=>e2 z.symm)]
       rfl
  ·rintro σ H3 ⟨v3,rfl,s3,I⟩;rw[aaj,um]at I;exact(aq rfl (q e H3 s3 I))
def mL:Ok T T.mz 1 Fc:=by
 refine T.mz.ok fT λ_ A _ s H vs Q E hr h=>?_
 ·obtain⟨wb,p,ts,g,S,m,rfl,rfl,hw,hm,q⟩:=h;refine⟨_,(ai (aF (i:=2) fT.nd rfl (Or.inr rfl) (bB (own:=["point"]) (fq:=[]) (js:=[]) (az (aj gV) ["web","some","marks","k","old"]) rfl (br (by rfl) T.bV (aa (aH (cf K) (pv 0) ah) af)) (λ_ _ _ _=>(bq 0 (jo ["point"]))) (λ_ _ _ _=>bX) (λ_ _ _ _=>(pv 0))))
   (ai (eK PassesOwn.never rfl (br (by rfl) T.bV (aa (bW K T.cR (aa (aH (cf K) (pv 0) ah) af)) af)) (ux (i:=3) fT.nd rfl (Or.inr rfl))
   (av (cA (aP dm (aI cG (aI o9 (pv 1) (pv 3)) ah) ah (aO _)) (ai (aF (i:=4) fT.nd rfl (Or.inr rfl) (aH (jA K) (pv 2) (aH (cf K) (aH (cf K) (aH (cf K) (pv 0) ah) (pv 3)) ah)))
   (av (aF (i:=2) fT.nd rfl (Or.inr rfl) (bB (own:=["mark"]) (fq:=["web","marks","k","old"]) (js:=[0,2,3,4]) (az (aj gV) ["web","some","marks","k","old"]) rfl (oH K (pv 2)) (λ_ _ _ _=>(bq 0 (jo ["mark","web","marks","k","old"]))) (λ_ _ _ _=>bX) (λ_ _ _ _=>(aH (jA K) (dH (aa (pv 0) (aa (aH (jA K) (pv 2) (aH (cf K) (aH (cf K) (aH (cf K) (pv 1) ah) (pv 3)) ah)) af))) (cS qV (by rfl) T.Gm acy (aa (cZ dm (pv 0) (pv 4) (aO _)) af)))))))) aZ)))
   (av (aJ (bI QC (by rfl) T.cR PySem.boot_len (aa (cS (Xk K rfl) (by rfl) T.UO PyProof.Rows.boot_set (aa (pv 2) af)) af)))))),?_⟩
  refine oY ?_;intro cJ c7 dY fN gF;obtain⟨bt,xs,h1,h2,h3⟩:=id hw.ex;have um:=h3.length;have wl:=g.len;have wp:=g.p2;refine(aq rfl (cg (aR.of h1) (ak (j:=0) rfl) (aq rfl ⟨(by lia),(by lia),λM hM=>bY (lo:=0) (m:=p) (vn (λx=>x) H M) (.start hM) (λi acc H3 _ G=>G.len) (c5 (by lia)) ?_ ?_⟩)))
  ·intro i acc H3 hi G;rw[aa6];exact⟨rfl,aq rfl (G.next hM (au.refl _) rfl)⟩
  intro acc H1 G;have Z:H1 M=some (.lst (cK (λx=>x) p)):=by rw[G.2.1,G.2.2]
  have s1:=G.1;clear G;refine(aq rfl (cg (aR.of (s1 _ _ h1)) (ak (j:=1) rfl) (oM rfl (.inr (aR.of (s1 _ _ h2))) (aq rfl ⟨(by lia),(by lia),?_⟩))))
  refine eX (lo:=0) (n:=(xs.length:Int).toNat) (λk σ H3=>∃M v3 v4 L,σ=[some (.ref wb),some (.int (m:Int)),some (.ref M),v3,v4]/\au H H3/\H3 M=some (.lst (cK L p))/\RM.vQ g.N (λk=>m.testBit k) L k) ⟨M,none,none,_,rfl,s1,Z,RM.vQ.start⟩ ?_ ?_
  ·rintro k D' σ H3 hk ⟨M,v3,v4,L,rfl,s3,I,rel⟩;rw[aaj]at hk;rw[aa6];have U:k<ts.length:=by lia
   obtain⟨ct,ex,O⟩:=rE (g:=g) h3 U;have ha:g.N.a k<p:=g.N.al k U;have hb:g.N.b k<p:=g.N.bl k U;refine(aq rfl (aq rfl (cj ⟨(by lia),cj ⟨(kU rfl),rfl,aq rfl (?_)⟩⟩)))
   rw[aaj,DM,fW];cases qt:m.testBit k with
   | false=>exact dN ⟨M,_,_,L,rfl,s3,I,rel.skip qt⟩
   | true =>
     refine fK (aq rfl (aq rfl (cg (aR.of (s3 _ _ h1)) (ak (j:=1) rfl) (aq rfl (cg (aR.of (s3 _ _ h2)) (ak (j:=k) ex) (cg (aR.of (s3 _ _ O)) (ak (j:=1) rfl) (jn (aM.of I) (ak (bJ hb)) (?_))))))));refine(aq rfl ⟨M,rfl,⟨_,aM.of I⟩,λM2 OQ=>bu (xs:=cK L p) (vn (RM.QH L (g.N.a k) (g.N.b k)) H3 M2) (.start OQ) (λi acc H4 _ G=>⟨aM.of (G.1 _ _ I),G.len⟩) (by rw[bZ];exact dl (abh.mpr (by lia))) ?_ ?_⟩)
     ·intro i x acc H4 hx G;obtain⟨hi,rfl⟩:=j6 hx;have s4:=s3.trans G.1;refine⟨rfl,aq rfl (aq rfl (aq rfl (cg (aR.of (s4 _ _ h1)) (ak (j:=1) rfl) (aq rfl (cg (aR.of (s4 _ _ h2)) (ak (j:=k) ex) (cg (aR.of (s4 _ _ O)) (ak (j:=0) rfl) (jn (aM.of (G.1 _ _ I)) (ak (bJ ha)) ⟨dl rfl,λl Y=>?_⟩)))))))⟩
      refine(aq rfl (aq rfl ⟨rfl,.inr (aq rfl (?_))⟩));rw[j7]
      by_cases e:L i=L (g.N.b k)
      ·rw[cD e];exact(jn (aM.of ae) (ak (j:=1) rfl) (G.next OQ (au.new Y) (by unfold RM.QH;rw[aac e])))
      ·rw[dO e];exact(jn (aM.of ae) (ak (j:=0) rfl) (G.next OQ (au.new Y) (by unfold RM.QH;rw[aab e])))
     ·intro acc H4 G;rw[bZ]at G;exact⟨M2,_,_,_,rfl,s3.trans G.1,by rw[G.2.1,G.2.2],rel.put U qt⟩
  ·rintro σ H3 ⟨M,v3,v4,L,rfl,s3,I,rel⟩;rw[aaj,um]at rel;have ag:cK L p=((List.range p).map λx=>((L x:Nat):Int)).map V.int:=by
    unfold cK;rw[abl];rfl
   refine(aq rfl ⟨M,(List.range p).map (λx=>((L x:Nat):Int)),rfl,aM.of (by rw[I,ag]),by rw[aaa,aav];lia,λl S Y=>⟨l,S,_,rfl,ae,?_⟩⟩)
   rw[aaa,aav,IX (g:=λi=>((L i:Nat):Int)) (λi hi=>by rw[aae,aai,abQ hi];rfl)]
   have e:=RM.Oi (N:=g.N) (L:=L) rel;have e:(PyProof.Rows.firstMet (λi=>((L i:Nat):Int)) p).length=_:=e
   rw[e];exact q _ (s3.trans (au.new Y))
def iJ:Ok T T.mC 2 MF:=by
 have mL:=mL T;have cQ:=cQ T;refine T.mC.ok tQ λ_ A _ s H vs Q E hr h=>?_
 ·obtain⟨wb,p,ts,g,S,m,rfl,rfl,hw,hm,q⟩:=h;refine⟨_,(ai (aF (i:=2) tQ.nd rfl (Or.inl rfl) (aG cQ hr T.gY.c aK (aa (pv 0) (aa (pv 1) af))))
   (ai (cA (PW.pt (pW (aP JA (pv 1) ah (aO _)) (m4 (aP uW (bW K T.cR (aa (bB (own:=["count"]) (fq:=[]) (js:=[]) (az (aj jJ) ["web","some","counts"]) rfl (oH K (pv 2)) (λ_ _ _ _=>(bq 0 (jo ["count"]))) (λ_ _ _ _=>(dw (aP (DH K) (pv 0) (c8 (aa ah (aa ah af))) (by with_unfolding_all rfl)))) (λ_ _ _ _=>(pv 0))) af)) ah (aO _))))) (av (aJ m3)) aZ)
   (av (aJ (cZ dm (aG mL hr T.mz.c aK (aa (pv 0) (aa (pv 1) af))) (aI eM (aI o8 (aH (cf K) (pv 0) ah) (bW K T.cR (aa (bB (own:=["count"]) (fq:=[]) (js:=[]) (az (aj jJ) ["web","some","counts"]) rfl (oH K (pv 2)) (λ_ _ _ _=>(bq 0 (jo ["count"]))) (λ_ _ _ _=>(dw (aP dm (pv 0) ah (aO _)))) (λ_ _ _ _=>(pv 0))) af))) ah) (aO _)))))),?_⟩
  refine Cb ?_;intro cJ c7 dY;obtain⟨bt,xs,h1,h2,h3⟩:=id hw.ex;have wp:=g.p2;refine(aq rfl (aq rfl ⟨wb,p,ts,g,_,m,rfl,rfl,hw,hm,λD H1 s1 tZ=>?_⟩))
  refine(aq rfl (cj (aq rfl (oG (λh0=>?_) (λh0=>?_)))))
  ·have h0:(m:Int)<=0:=jR h0;exact q H1 false s1 ⟨(λz=>nomatch z),λr=>absurd (show m=0 by lia) r.1⟩
  have h0:m≠0:=λz=>h0 (cD (show(m:Int)<=0 by lia))
  refine(aq rfl ⟨D,rfl,⟨_,aM.of tZ⟩,λC hC=>bu (xs:=cK (λx=>g.N.dg m x) p) (λi acc H2=>au H1 H2/\H2 C=some (.lst acc)/\acc.length=RM.cnt (λx=>!decide (0=g.N.dg m x\/2=g.N.dg m x)) i) ⟨au.new hC,ae,rfl⟩ (λi acc H2 _ f=>⟨aM.of (f.1 _ _ tZ),f.2.1,by have:=RM.jY (λx=>!decide (0=g.N.dg m x\/2=g.N.dg m x)) i;have:=f.2.2;lia⟩) (c5 (by rw[bZ];lia)) ?_ ?_⟩)
  ·rintro i x acc H2 hx ⟨s2,O,al⟩;obtain⟨hi,rfl⟩:=j6 hx;refine⟨rfl,aq rfl ⟨dl rfl,λu hu=>(oM rfl (.inr (aR.of ae)) ⟨rfl,rfl,aq rfl (?_)⟩)⟩⟩
   have e:O7 (.int ((g.N.dg m i:Nat):Int)) [.int 0,.int 2]=decide (0=g.N.dg m i\/2=g.N.dg m i):=RL _ 0 2;have G:RM.cnt (λx=>!decide (0=g.N.dg m x\/2=g.N.dg m x)) (i+1)=RM.cnt (λx=>!decide (0=g.N.dg m x\/2=g.N.dg m x)) i+if(!decide (0=g.N.dg m i\/2=g.N.dg m i))=true then 1 else 0:=rfl
   dsimp only;rw[aac rfl,e];have Z9:C≠u:=bj O hu;cases hb:decide (0=g.N.dg m i\/2=g.N.dg m i) with
   | false =>
     rw[hb]at G;refine fK (aq rfl ⟨by rw[ao Z9];exact O,(s2.trans (au.new hu)).put hC,ae,?_⟩)
     rw[aao,G,al];rfl
   | true =>
     rw[hb]at G;exact dN ⟨s2.trans (au.new hu),by rw[ao Z9];exact O,by rw[G,al];rfl⟩
  rintro acc H2 ⟨s2,O,al⟩;rw[bZ]at al;have U:=s1.trans s2;refine(oM rfl (.inl (aM.of O)) (cj (aq rfl (oG (λI=>?_) (λI=>?_)))))
  ·have I:(0:Int)<(acc.length:Int):=jR I;refine q H2 false U ⟨(λz=>nomatch z),λr=>?_⟩
   obtain⟨x,hx,hf⟩:=RM.ng (show 0<RM.cnt _ p by rw[<-al];lia)
   have d2:=RM.N8 hm r x hx;rw[acs,decide_eq_false_iff_not]at hf;exact absurd (d2.imp Eq.symm Eq.symm) hf
  have d2:g.N.D2 m:=λx hx=>by
   apply aaC;intro hn;have:=RM.nX (f:=λx=>!decide (0=g.N.dg m x\/2=g.N.dg m x)) (k:=x) (by
    rw[acs,decide_eq_false_iff_not];exact λz=>hn (z.imp Eq.symm Eq.symm)) (show x<p from hx)
   exact I (cD (show(0:Int)<(acc.length:Int) by lia))
  refine(aq rfl (aq rfl ⟨wb,p,ts,g,_,m,rfl,rfl,hw.same U,hm,λH3 s3=>?_⟩))
  have sR:=U.trans s3;have xo:=(s2.trans s3) _ _ tZ;refine(aq rfl (cg (aR.of (sR _ _ h1)) (ak (j:=0) rfl) (?_)));refine(aq rfl ⟨D,rfl,⟨_,aM.of xo⟩,λC2 O=>bu (xs:=cK (λx=>g.N.dg m x) p) (λi acc H4=>au H3 H4/\H4 C2=some (.lst acc)/\acc.length=RM.cnt (λx=>decide (g.N.dg m x=2)) i) ⟨au.new O,ae,rfl⟩ (λi acc H4 _ f=>⟨aM.of (f.1 _ _ xo),f.2.1,by have:=RM.jY (λx=>decide (g.N.dg m x=2)) i;have:=f.2.2;lia⟩) (c5 (by rw[bZ];lia)) ?_ ?_⟩)
  ·rintro i x acc H4 hx ⟨s4,Y,Z⟩;obtain⟨hi,rfl⟩:=j6 hx;refine⟨rfl,aq rfl ⟨rfl,aq rfl (?_)⟩⟩;have G:RM.cnt (λx=>decide (g.N.dg m x=2)) (i+1)=RM.cnt (λx=>decide (g.N.dg m x=2)) i+if decide (g.N.dg m i=2)=true then 1 else 0:=rfl
   have e:decide (V.int ((g.N.dg m i:Nat):Int)=V.int 2)=decide (g.N.dg m i=2):=j7 _ 2;rw[e];cases hb:decide (g.N.dg m i=2) with
   | true =>
     rw[hb]at G;refine(aq rfl ⟨Y,s4.put O,ae,?_⟩);rw[aao,G,Z];rfl
   | false =>
     rw[hb]at G;exact⟨s4,Y,by rw[G,Z];rfl⟩
  ·rintro acc H4 ⟨s4,Y,Z⟩;rw[bZ]at Z;refine(oM rfl (.inl (aM.of Y)) (cj (cj ⟨rfl,q H4 _ (sR.trans s4) ?_⟩)));have h:=RM.Li hm h0 d2;have ag:RM.cnt (λx=>decide (g.N.dg m x=2)) p<=p:=by have:=RM.jY (λx=>decide (g.N.dg m x=2)) p;lia
   rw[h,aa5]
   constructor
   ·intro e;have e:=V.int.inj e;show RM.cnt (g.N.root (λk=>m.testBit k) ts.length) p+RM.cnt (λx=>decide (g.N.dg m x=2)) p=p+1
    lia
   ·intro e;have e:RM.cnt (g.N.root (λk=>m.testBit k) ts.length) p+RM.cnt (λx=>decide (g.N.dg m x=2)) p=p+1:=e
    exact aaU V.int (by lia)
def MH:Sp:=λvs H Q _=>∃w p ts,∃g:aD p ts,∃(S:Int) (m:Nat),vs=[.ref w,.int S]/\S=(m:Int)/\bz H w p ts/\m<2^ts.length/\∀H',au H H'->Q (.int (lenOf ts m)) H'
def fb:Ok T T.iD 1 MH:=by
 refine T.iD.ok Cc λ_ A _ s H vs Q E hr h=>?_
 ·obtain⟨wb,p,ts,g,S,m,rfl,rfl,hw,hm,q⟩:=h;refine⟨_,(av (aJ (bI (sumK K rfl) (by rfl) T.PM PyProof.Rows.boot_sum (aa (bB (own:=["k"]) (fq:=["web","some"]) (js:=[0,1]) (az (aj l7) ["web","some"]) rfl (br (by rfl) T.bV (aa (bW K T.cR (aa (aH (cf K) (pv 0) ah) af)) af)) (λ_ _ _ _=>(bq 0 (jo ["k","web","some"]))) (λ_ _ _ _=>(dw (aP dm (aI cG (aI o9 (pv 2) (pv 0)) ah) ah (aO _)))) (λ_ _ _ _=>(aH (cf K) (aH (cf K) (aH (cf K) (pv 1) ah) (pv 0)) ah))) af)))),?_⟩
  obtain⟨bt,xs,h1,h2,U⟩:=id hw.ex;have Z:=U.length;have wl:=g.len;refine(aq rfl (cg (aR.of h1) (ak (j:=1) rfl) (oM rfl (.inr (aR.of h2)) (aq rfl ⟨(by lia),(by lia),λD Y=>bY (lo:=0) (m:=xs.length) (λi acc H2=>au H H2/\H2 D=some (.lst acc)/\acc=(((List.range i).filter (λk=>m.testBit k)).map λk=>(b7 ts k).2.2).map V.int) ⟨au.new Y,ae,rfl⟩ (λi acc H2 _ z=>⟨z.2.1,by rw[z.2.2,aaa,aaa];exact aaE (aaP _ _) (by rw[aav];exact aaf _)⟩) (c5 (by lia)) ?_ ?_⟩))))
  ·rintro i acc H2 hi ⟨s2,G,rfl⟩;rw[aa6];obtain⟨c,I,O⟩:=rE (g:=g) U (show i<ts.length by lia)
   refine⟨rfl,aq rfl (aq rfl (cj ⟨(by lia),cj ⟨(kU rfl),rfl,aq rfl (?_)⟩⟩))⟩
   rw[aaj,DM,fW];cases hb:m.testBit i with
   | true =>
     refine(aq rfl (cg (aR.of (s2 _ _ h1)) (ak (j:=1) rfl) (aq rfl (cg (aR.of (s2 _ _ h2)) (ak (j:=i) I) (cg (aR.of (s2 _ _ O)) (ak (j:=2) rfl) ⟨G,s2.put Y,ae,?_⟩)))));rw[bf,aac hb,aax,aax];rfl
   | false =>
     refine⟨s2,G,?_⟩;rw[bf,aab (by rw[hb];decide),aby]
  ·rintro acc H2 ⟨s2,G,rfl⟩;refine⟨D,_,rfl,aM.of G,?_⟩;have e:lenOf ts m=(((List.range xs.length).filter (λk=>m.testBit k)).map λk=>(b7 ts k).2.2).sum:=by
    unfold lenOf;rw[jB hm,Z]
   rw[<-e];exact q H2 s2
def MI:Sp:=λvs H Q _=>∃w p ts,∃g:aD p ts,∃(S:Int) (m:Nat),vs=[.ref w,.int S]/\S=(m:Int)/\bz H w p ts/\m<2^ts.length/\∀H' (d:Bool),au H H'->(d=true↔g.N.bL m)->Q (.bl d) H'
def pV:Ok T T.pQ 2 MI:=by
 have cQ:=cQ T;refine T.pQ.ok Ca λ_ A _ s H vs Q E hr h=>?_
 ·obtain⟨U,p,ts,g,S,m,rfl,rfl,hw,hm,q⟩:=h;refine⟨_,(av (aJ (cZ (DH K) ah (bB (own:=["count"]) (fq:=[]) (js:=[]) (az (aj l6) ["web","some"]) rfl (oH K (aG cQ hr T.gY.c aK (aa (pv 0) (aa (pv 1) af)))) (λ_ _ _ _=>(bq 0 (jo ["count"]))) (λ_ _ _ _=>bX) (λ_ _ _ _=>(aI cG (pv 0) ah))) (by with_unfolding_all rfl)))),?_⟩
  have wp:=g.p2;refine(aq rfl (aq rfl ⟨U,p,ts,g,_,m,rfl,rfl,hw,hm,λD H1 s1 I=>?_⟩))
  refine⟨D,rfl,⟨_,aM.of I⟩,λC O=>bu (K:=K) (a:=D) (xs:=cK (λx=>g.N.dg m x) p) (λi acc H2=>au H1 H2/\H2 C=some (.lst acc)/\acc=aA ((List.range i).map λx=>g.N.dg m x%2)) ⟨au.new O,ae,rfl⟩ (λi acc H2 _ z=>⟨aM.of (z.1 _ _ I),z.2.1,by rw[z.2.2,aC,aaa,aav];exact aaf _⟩) (c5 (by rw[bZ];lia)) ?_ ?_⟩
  ·rintro i x acc H2 hx ⟨s2,G,rfl⟩;obtain⟨hi,rfl⟩:=j6 hx;refine⟨rfl,aq rfl (cj ⟨(kU rfl),G,s2.put O,ae,?_⟩)⟩;rw[abG,aax,acp,cH];rfl
  ·rintro acc H2 ⟨s2,G,rfl⟩;refine(oM rfl (.inl (aM.of G)) ⟨rfl,nW _,?_⟩);rw[bZ,aac rfl];refine q H2 _ (s1.trans s2) ?_;rw[show(V.int 1)=V.int ((1:Nat):Int) from rfl,nc,acs,decide_eq_false_iff_not]
   refine⟨λh x hx=>?_,λh z=>?_⟩
   ·rw[RM.yr];refine dO λe=>h (aaz.mpr ⟨x,aaA.mpr hx,e⟩)
   ·obtain⟨x,hx,e⟩:=aaz.mp z;have:=h x (aaA.mp hx);rw[RM.yr]at this;exact of_decide_eq_false this e
def MJ:Sp:=λvs H Q _=>∃c,vs=[.int c]/\Q (.bl true) H
def nO:Ok T T.nK 1 MJ:=by
 refine T.nK.ok zV λ_ A _ s H vs Q E hr h=>?_
 ·obtain⟨c,rfl,k⟩:=h;refine⟨_,(av (aJ (uS (bI (NG K) (by rfl) T.dD abe (aa (pv 0) (aa (A9 (by rfl) T.Gm acy) af))) (uR (Jq (bI (NG K) (by rfl) T.dD abe (aa (pv 0) (aa (A9 (by rfl) T.Ml PyProof.Rows.boot_bool) af)))))))),?_⟩
  exact(aq rfl ⟨_,_,_,_,_,rfl,rfl,.int c,Qq K,_,rfl,fK (aq rfl ⟨_,_,_,_,_,rfl,rfl,.int c,JR K,_,rfl,k⟩)⟩)
def gZ(kept:List Nat):List (Nat×Nat):=kept.map λb=>(b.log2,b)
def MK:Sp:=λvs H Q _=>∃(l:Addr) (kept:List Nat) (x:Nat),vs=[.ref l,.int (x:Int)]/\H l=some (.lst (aA kept))/\(∀b∈kept,b≠0)/\kept.length<=300/\
 (RM.iY (gZ kept) x=0->Q (.bl false) H)/\(RM.iY (gZ kept) x≠0->Q (.bl true) (upd H l (.lst (aA (kept++[RM.iY (gZ kept) x])))))
def IY:Sp:=λvs H Q _=>∃(l:Addr) (B:List Nat),vs=[.ref l]/\H l=some (.lst (aA B))/\B.length<=200/\∀D C H',H D=none->au H H'->H' D=some (.lst (aA C))->RM.AK B C->Q (.ref D) H'
def ML{rows:List (Nat×Nat)}(h:RM.K4 rows){t r:Nat}(ht:r.testBit t=true)(hz:∀q∈rows,r.testBit q.1=false):RM.K4 (rows++[(t,r)]):=by
 induction h with
 | nil=>exact .cons .nil ht (λq G=>nomatch G)
 | cons h hr I O =>
   rename_i U Y rest
   refine .cons (O λq G=>hz q (jt _ G)) hr λq G=>?_
   rcases aaw.mp G with G|G
   ·exact I q G
   ·have e:q=(t,r):=by simpa using G
    rw[e];exact hz (U,Y) aam
def CQ(kept:List Nat):(gZ kept).map (·.2)=kept:=by
 unfold gZ;rw[abl];exact ac2 kept
def yX(kept:List Nat)(y:Nat):gZ (kept++[y])=gZ kept++[(y.log2,y)]:=by
 unfold gZ;rw[aax];rfl
structure Jk(B kept:List Nat):Prop where
 HA:RM.K4 (gZ kept)
 nz:∀b∈kept,b≠0
 span:∀x,RM.Sp kept x↔RM.Sp B x
 le:kept.length<=B.length
 len:kept.length=B.length↔RM.Le B
def Jk.start:Jk [] []:=⟨.nil,(λb hb=>nomatch hb),λ_=>Iff.rfl,aaf _,⟨λ_ i b h=>by simp at h,λ_=>rfl⟩⟩
def Jk.zero{B kept:List Nat}(h:Jk B kept)(x:Nat):RM.iY (gZ kept) x=0↔RM.Sp B x:=by
 rw[RM.yD h.HA,CQ];exact h.span x
def Jk.skip{B kept:List Nat}{b:Nat}(h:Jk B kept)(hz:RM.iY (gZ kept) b=0):Jk (B++[b]) kept:=by
 have hs:=(h.zero b).mp hz;refine⟨h.HA,h.nz,λx=>?_,?_,?_⟩
 ·rw[h.span]
  constructor
  ·exact λz=>z.mono λc hc=>.mem (C7 _ hc)
  ·refine λz=>z.mono λc hc=>?_
   rcases aaw.mp hc with hc|hc
   ·exact .mem hc
   ·have e:c=b:=by simpa using hc
    rw[e];exact hs
 ·rw[aao];have:=h.le
  lia
 ·rw[aao,RM.rO];have:=h.le;exact⟨λe=>by have:([b]:List Nat).length=1:=rfl;lia,λz=>absurd hs z.2⟩
def Jk.put{B kept:List Nat}{b:Nat}(h:Jk B kept)(hz:RM.iY (gZ kept) b≠0):Jk (B++[b]) (kept++[RM.iY (gZ kept) b]):=by
 have hs : ¬ RM.Sp B b:=λz=>hz ((h.zero b).mpr z)
 have I:=RM.zC (gZ kept) b;rw[CQ]at I;have G:=RM.rH h.HA b;generalize RM.iY (gZ kept) b=y at hz I G;refine⟨by rw[yX];exact ML h.HA (RM.zD hz) G,λc hc=>?_,λx=>?_,?_,?_⟩
 ·rcases aaw.mp hc with hc|hc
  ·exact h.nz c hc
  ·have e:c=y:=by simpa using hc
   rw[e];exact hz
 ·have VC:RM.Sp (kept++[y]) y:=.mem (iO _ (by simp))
  have O:RM.Sp (B++[b]) b:=.mem (iO _ (by simp))
  constructor
  ·refine λz=>z.mono λc hc=>?_
   rcases aaw.mp hc with hc|hc
   ·exact((h.span c).mp (.mem hc)).mono λd hd=>.mem (C7 _ hd)
   ·have e:c=y:=by simpa using hc
    rw[e];have:=(((h.span _).mp I).mono (C:=B++[b]) λd hd=>.mem (C7 _ hd)).xor O
    rwa [acN b y,RM.ig]at this
  ·refine λz=>z.mono λc hc=>?_
   rcases aaw.mp hc with hc|hc
   ·exact((h.span c).mpr (.mem hc)).mono λd hd=>.mem (C7 _ hd)
   ·have e:c=b:=by simpa using hc
    rw[e];have:=(I.mono (C:=kept++[y]) λd hd=>.mem (C7 _ hd)).xor VC
    rwa [RM.ig]at this
 ·rw[aao,aao];have:=h.le;exact Nat.add_le_add_right this 1
 ·rw[aao,aao,RM.rO];have h1:∀x:Nat,([x]:List Nat).length=1:=λ_=>rfl
  rw[h1,h1];have:=h.len;exact⟨λe=>⟨this.mp (by lia),hs⟩,λz=>by have:=this.mpr z.1;lia⟩
def IZ(rows:List (Nat×Nat))(q:Nat×Nat)(x:Nat):RM.iY (rows++[q]) x=if(RM.iY rows x).testBit q.1=true then RM.iY rows x^^^q.2 else RM.iY rows x:=by
 unfold RM.iY;rw[acd];rfl
def nQ:Ok T T.nL 1 MK:=by
 refine T.nL.ok l8 λ_ A _ s H vs Q E hr h=>?_
 ·obtain⟨l,kept,x,rfl,G,nz,hk,I,O⟩:=h;refine⟨_,(ai (eK PassesOwn.never rfl (oH K (pv 0)) (bq 2 l8.nd)
   (av (aF (i:=1) l8.nd rfl (Or.inl rfl) (bI (x9 rfl) (by rfl) T.Gn adi (aa (pv 1) (aa (aI eU (pv 1) (pv 2)) af))))))
   (ai (cA (aP dm (pv 1) ah (aO _)) (av (aJ m3)) aZ)
   (ai (cY (Ji K (mR aaZ aa3 aa4 c9 (pv 0) (aa (pv 1) af))))
   (av (aJ m3))))),?_⟩
  refine zW ?_;intro U Y Z fN gF;refine(aq rfl ⟨l,rfl,⟨_,aM.of G⟩,eG (K:=K) (a:=l) (xs:=aA kept) (λi σ H2=>∃v2,σ=[some (.ref l),some (.int ((RM.iY (gZ (kept.take i)) x:Nat):Int)),v2]/\H2=H) ⟨none,rfl,rfl⟩ (λi σ H2 _ ⟨_,_,z⟩=>by rw[z];exact aM.of G) ?_ ?_⟩)
  ·rintro i y D' σ H2 hi ⟨v2,rfl,rfl⟩;obtain⟨b,hb,rfl⟩:=gr hi;refine(aq rfl (aq rfl (aq rfl (cj ⟨_,_,rfl,some (.int (b:Int)),?_,rfl⟩))));show[_,some (V.int (if Builtin.bitXor _ _<_ then Builtin.bitXor _ _ else _)),_]=_
   rw[xor_int,FT,RM.Of (nz b (iV hb)),take3 hb,yX,IZ]
  ·rintro σ H2 ⟨v2,rfl,rfl⟩;rw[aC,aaM];refine(aq rfl ⟨rfl,aq rfl (oG (λh0=>?_) (λh0=>?_))⟩)
   ·have h0:=V.int.inj (jR h0);exact I (by lia)
   ·have h0:RM.iY (gZ kept) x≠0:=λz=>h0 (cD (by rw[z];rfl))
    refine(aq rfl ⟨.inl ⟨rfl,_,aM.of G⟩,aq rfl ⟨l,_,_,rfl,rfl,G,dS (by rw[aC];lia),?_⟩⟩)
    have:=O h0;rw[cH]at this;exact this
def mO:Ok T T.mD 2 IY:=by
 have nQ:=nQ T;refine T.mD.ok oZ λ_ A _ s H vs Q E hr h=>?_
 ·obtain⟨l,B,rfl,hl,hB,q⟩:=h;refine⟨_,(ai (aF (i:=1) oZ.nd rfl (Or.inr rfl) (dH af))
   (av (aJ (bB (own:=["some"]) (fq:=["kept"]) (js:=[1]) (az (aj ji) ["sets","kept"]) rfl (oH K (pv 0)) (λ_ _ _ _=>(bq 0 (jo ["some","kept"]))) (λ_ _ _ _=>(dw (cF (aG nQ hr T.nL.c aK (aa (pv 1) (aa (pv 0) af)))))) (λ_ _ _ _=>(pv 0)))))),?_⟩
  refine fP ?_;intro cJ;refine⟨dl rfl,λG O=>?_⟩
  have s1:au H (upd H G (.lst [])):=au.new O;have Z:upd H G (.lst []) G=some (.lst (aA [])):=ae;generalize upd H G (.lst [])=H1 at s1 Z;refine(aq rfl ⟨l,rfl,⟨_,aM.of (s1 _ _ hl)⟩,λD U=>bu (xs:=aA B) (λi acc H2=>∃kept C,au H H2/\H2 G=some (.lst (aA kept))/\H2 D=some (.lst acc)/\Jk (B.take i) kept/\acc=aA C/\RM.AK (B.take i) C) ⟨[],[],s1.trans (au.new U),au.new U _ _ Z,ae,Jk.start,rfl,.nil⟩ ?_ (aaO (dS (by rw[aC];lia))) ?_ ?_⟩)
  ·rintro i acc H2 hi ⟨kept,C,s2,Y,I,kp,rfl,ch⟩;refine⟨aM.of (s2 _ _ hl),I,?_⟩;have:=ch.sub.length_le;rw[aa0]at this;rw[aC]
   lia
  ·rintro i x acc H2 hx ⟨kept,C,s2,Y,I,kp,rfl,ch⟩;obtain⟨b,hb,rfl⟩:=gr hx;have Bt:=(ju.mp hb).1;have tk:B.take (i+1)=B.take i++[b]:=take3 hb;have mV:kept.length<=300:=by have:=kp.le;rw[aa0]at this;lia
   have VT:D≠G:=(bj Z U).symm;have Mr:H D=none:=s1.free U;refine⟨rfl,aq rfl (aq rfl ⟨G,kept,b,rfl,Y,kp.nz,mV,λhz=>(aq rfl (?_)),λhz=>(aq rfl (?_))⟩)⟩
   ·refine⟨kept,C,s2,Y,I,?_,rfl,?_⟩
    ·rw[tk];exact kp.skip hz
    ·rw[tk];exact .skip ch ((kp.zero b).mp hz)
   ·have xo:upd H2 G (.lst (aA (kept++[RM.iY (gZ kept) b]))) D=some (.lst (aA C)):=by rw[ao VT];exact I
    refine(aq rfl ⟨xo,kept++[RM.iY (gZ kept) b],C++[b],(s2.put O).put Mr,by rw[ao VT.symm,ae],ae,?_,(cH _ _).symm,?_⟩)
    ·rw[tk];exact kp.put hz
    ·rw[tk];exact .put ch λz=>hz ((kp.zero b).mpr z)
  ·rintro acc H2 ⟨kept,C,s2,Y,I,kp,rfl,ch⟩;rw[aC,aaM]at ch;exact q D C H2 (s1.free U) s2 I ch
def OT:Sp:=λvs H Q _=>∃w p ts,∃g:aD p ts,∃z:Nat,vs=[.ref w,.int (z:Int)]/\bz H w p ts/\Q (.int ((g.N.cut λx=>z.testBit x:Nat):Int)) H
def RO(z x y:Nat):(!decide (V.int ((z:Int)/2^((x:Nat):Int).toNat%2)=V.int ((z:Int)/2^((y:Nat):Int).toNat%2)))=(z.testBit x^^z.testBit y):=by
 have e:∀x:Nat,(z:Int)/2^((x:Nat):Int).toNat%2=((z/2^x%2:Nat):Int):=λx=>by
  rw[aaj,Int.natCast_emod,Int.natCast_ediv,Int.natCast_pow];rfl
 have hb:∀x:Nat,z.testBit x=decide (z/2^x%2=1):=λx=>ac6
 rw[e,e,hb,hb];have hx:z/2^x%2<2:=Nat.mod_lt _ (by decide)
 have G:z/2^y%2<2:=Nat.mod_lt _ (by decide)
 generalize z/2^x%2=A at hx;generalize z/2^y%2=B at G
 match A,B,hx,G with
 | 0,0,_,_=>decide
 | 0,1,_,_=>decide
 | 1,0,_,_=>decide
 | 1,1,_,_=>decide
def jQ:Ok T T.jO 1 OT:=by
 refine T.jO.ok fZ λ_ A _ s H vs Q E hr h=>?_
 ·obtain⟨wb,p,ts,g,z,rfl,hw,q⟩:=h;refine⟨_,(ai (aF (i:=2) fZ.nd rfl (Or.inl rfl) ah)
   (ai (eK PassesOwn.never rfl (br (by rfl) T.bV (aa (bW K T.cR (aa (aH (cf K) (pv 0) ah) af)) af)) (bq 3 fZ.nd)
   (av (cA (aP AX (aI cG (aI o9 (pv 1) (aH (cf K) (aH (cf K) (aH (cf K) (pv 0) ah) (pv 3)) ah)) ah) (aI cG (aI o9 (pv 1) (aH (cf K) (aH (cf K) (aH (cf K) (pv 0) ah) (pv 3)) ah)) ah) (aO _)) (av (aF (i:=2) fZ.nd rfl (Or.inl rfl) (aI S3 (pv 2) (aI jx ah (pv 3))))) aZ)))
   (av (aJ (pv 2))))),?_⟩
  refine t8 ?_;intro cJ c7 dY fN;obtain⟨bt,xs,h1,h2,Y⟩:=id hw.ex;have Z:=Y.length;have wl:=g.len;refine(aq rfl (cg (aR.of h1) (ak (j:=1) rfl) (oM rfl (.inr (aR.of h2)) (aq rfl ⟨(by lia),(by lia),?_⟩))))
  refine eX (lo:=0) (n:=(xs.length:Int).toNat) (λj σ H2=>∃O,σ=[some (.ref wb),some (.int (z:Int)),some (.int ((maskOf (λk=>z.testBit (g.N.a k)^^z.testBit (g.N.b k)) j:Nat):Int)),O]/\H2=H) ⟨none,rfl,rfl⟩ ?_ ?_
  ·rintro j D' σ H2 hj ⟨O,rfl,rfl⟩;rw[aaj,Z]at hj;rw[aa6];obtain⟨c,G,I⟩:=rE (g:=g) Y hj;refine(aq rfl (aq rfl (cg (aR.of h1) (ak (j:=1) rfl) (aq rfl (cg (aR.of h2) (ak (j:=j) G) (cg (aR.of I) (ak (j:=0) rfl) (cj ⟨?_,_,_,rfl,rfl,(kU rfl),?_⟩)))))))
   ·exact adu _
   refine(aq rfl (aq rfl (cg (aR.of h1) (ak (j:=1) rfl) (aq rfl (cg (aR.of h2) (ak (j:=j) G) (cg (aR.of I) (ak (j:=1) rfl) (cj ⟨?_,_,_,rfl,rfl,(kU rfl),rfl,aq rfl (?_)⟩)))))))
   ·exact adu _
   have hm:=N2 (λk=>z.testBit (g.N.a k)^^z.testBit (g.N.b k)) j
   have eb:=RO z (g.N.a j) (g.N.b j);dsimp only at hm ⊢;rw[eb];refine oG (λU=>?_) (λU=>?_)
   ·rw[aac U]at hm;refine(aq rfl (aq rfl (cj ⟨⟨by lia,by lia,by decide⟩,cj (?_)⟩)))
    refine⟨some (.int (j:Int)),?_,rfl⟩;rw[<-hm,<-or_int,<-i9];rfl
   ·rw[aab U,Nat.or_zero]at hm;exact⟨_,by rw[<-hm];rfl,rfl⟩
  ·rintro σ H2 ⟨O,rfl,rfl⟩;rw[aaj,Z];exact(aq rfl (q))
def Gu(p:Nat)(ts:List eO)(g:aD p ts)(tw:List (Nat×Nat)):Prop:=RM.Base g.N (tw.map (·.1))/\MarksOf g.N (tw.map (·.1)) (tw.map (·.2))/\∀r,r<2^ts.length->g.N.Ring r->RM.Sp ((tw.map (·.1)).filter λc=>decide (lenOf ts c<=lenOf ts r)) r
def OU{p:Nat}{ts:List eO}{g:aD p ts}{ps G : List (Addr×Int×Int×Int)}{f:Nat->Bool}(hf:∀r,f r=true↔r<2^ts.length/\g.N.Ring r)(e:ps.map (λq=>(q.2.1,q.2.2.2))=((List.range (2^ts.length)).filter f).map λr=>(lenOf ts r,(r:Int)))
 (hp:G.Perm ps) (hw:G.Pairwise (λx y=>¬ gD y.2 x.2)):(G.map λq=>q.2.2.2.toNat).Pairwise (λx y=>lenOf ts x<=lenOf ts y)/\(∀r,r∈(G.map λq=>q.2.2.2.toNat)↔r<2^ts.length/\g.N.Ring r)/\∀q∈G,q.2.2.2=((q.2.2.2.toNat:Nat):Int):=by
 have mem:∀q∈ps,∃r,f r=true/\q.2.1=lenOf ts r/\q.2.2.2=(r:Int):=λq O=>by
  have:(q.2.1,q.2.2.2)∈ps.map (λq=>(q.2.1,q.2.2.2)):=aaz.mpr ⟨q,O,rfl⟩
  rw[e]at this;obtain⟨r,hr,I⟩:=aaz.mp this;exact⟨r,(aas.mp hr).2,(aaU Prod.fst I).symm,(aaU Prod.snd I).symm⟩
 have Y:ps.map (λq=>q.2.2.2.toNat)=(List.range (2^ts.length)).filter f:=by
  have:ps.map (λq=>q.2.2.2.toNat)=(ps.map (λq=>(q.2.1,q.2.2.2))).map λz=>z.2.toNat:=by rw[abl];rfl
  rw[this,e,abl];exact ac2 _
 have pm:(G.map λq=>q.2.2.2.toNat).Perm ((List.range (2^ts.length)).filter f):=by rw[<-Y];exact hp.map _
 refine⟨?_,λr=>?_,λq O=>?_⟩
 ·rw[abO];refine abw (λ{x y} hx Z h=>?_) hw
  obtain⟨r,_,U,I⟩:=mem x (hp.mem_iff.mp hx);obtain⟨r',_,XW,XX⟩:=mem y (hp.mem_iff.mp Z);rw[I,XX,aaj,aaj];unfold gD at h;rw[U,XW]at h
  lia
 ·rw[pm.mem_iff,aas,aaA,hf];exact⟨λz=>z.2,λz=>⟨z.1,z⟩⟩
 ·obtain⟨r,_,_,U⟩:=mem q (hp.mem_iff.mp O);rw[U,aaj]
def MM(t:Addr)(lp:Pos):Sp:=λvs H Q _=>∃w p ts,∃g:aD p ts,∃I:Int,vs=[.ref w,.int I]/\bz H w p ts/\ts.length<=9/\H t=some (.jV (fk (qz "least_ways") lp))/\∀b ys G H',au H H'->H' b=some (.tup ys)->Paired (kP H') ys G->Gu p ts g G->Q (.ref b) H'
def iK:Ok T T.iE 11 (MM a.cO cB):=by
 have pV:=pV T;have iJ:=iJ T;have fb:=fb T;have bU:=bU T;have mO:=mO T;have gC:=gC T;have jQ:=jQ T;have gB:=gB T;refine T.iE.ok bA λ_ A _ s H vs Q E hr h=>?_
 ·obtain⟨U,p,ts,g,cc,rfl,hw,h9,a6,qq⟩:=h;refine⟨_,(ai (aF (i:=2) bA.nd rfl (Or.inl rfl) (dH af))
   (ai (eK PassesOwn.never rfl (GF (by rfl) T.bV (aa ah (aa (aI jx ah (bW K T.cR (aa (aH (cf K) (pv 0) ah) af))) af))) (bq 3 bA.nd)
   (av (cA (PW.pt (Dm (cF (aG pV hr T.pQ.c aK (aa (pv 0) (aa (pv 3) af)))) (yZ (cF (aG iJ hr T.mC.c aK (aa (pv 0) (aa (pv 3) af))))))) (av (cY (Ji K (mR aaZ aa3 aa4 c9 (pv 2) (aa (c8 (aa (aG fb hr T.iD.c aK (aa (pv 0) (aa (pv 3) af))) (aa (aG bU hr T.dB.c aK (aa (pv 1) (aa (aI cG (pv 3) ah) af))) (aa (pv 3) af)))) af))))) aZ)))
   (ai (aF (i:=4) bA.nd rfl (Or.inl rfl) (aG mO hr T.mD.c aK (aa (bB (own:=["pair"]) (fq:=[]) (js:=[]) (az (aj cU) ["web","cell","pairs","some","rings","marks","told","k"]) rfl (oH K (bI (LS K) (by rfl) T.wU PyProof.Rows.boot_sorted (aa (pv 2) af))) (λ_ _ _ _=>(bq 0 (jo ["pair"]))) (λ_ _ _ _=>bX) (λ_ _ _ _=>(aH (cf K) (pv 0) ah))) af)))
   (ai (ff (i:=4) bA.nd rfl rfl (own:=["pair"]) (fq:=[]) (js:=[]) (az (aj cU) ["web","cell","pairs","some","rings","marks","told","k"]) rfl (oH K (bI (LL K) (by rfl) T.wU PyProof.Rows.boot_sorted (aa (bB (own:=["ring"]) (fq:=["web"]) (js:=[0]) (az (aj cU) ["web","cell","pairs","some","rings","marks","told","k"]) rfl (oH K (pv 4)) (λ_ _ _ _=>(bq 0 (jo ["ring","web"]))) (λ_ _ _ _=>bX) (λ_ _ _ _=>(c8 (aa (aG fb hr T.iD.c aK (aa (pv 1) (aa (pv 0) af))) (aa (pv 0) af))))) af))) (λ_ _ _ _=>(bq 0 (jo ["pair"]))) (λ_ _ _ _=>bX) (λ_ _ _ _=>(aH (cf K) (pv 0) ah)))
   (ai (aF (i:=5) bA.nd rfl (Or.inl rfl) (aG gC hr T.kq.c tF (aa (pv 0) (aa (pv 4) af))))
   (ai (aF (i:=6) bA.nd rfl (Or.inl rfl) (dH af))
   (ai (eK PassesOwn.never rfl (br (by rfl) T.bV (aa (bW K T.cR (aa (pv 4) af)) af)) (bq 7 bA.nd)
   (ai (aF (i:=3) bA.nd rfl (Or.inl rfl) (aI eU (aH (jA K) (pv 5) (pv 7)) (aG jQ hr T.jO.c aK (aa (pv 0) (aa (aG bU hr T.dB.c aK (aa (pv 1) (aa (aI eM ah (pv 7)) af))) af)))))
   (av (cY (Ji K (mR aaZ aa3 aa4 c9 (pv 6) (aa (c8 (aa (aH (jA K) (pv 4) (pv 7)) (aa (pv 3) (aa (aH (cf K) (aG gB hr T.ko.c tF (aa (pv 0) (aa (pv 3) af))) ah) af)))) af)))))))
   (av (aJ (cS (A8 K) (by rfl) T.qO ab2 (aa (pv 6) af))))))))))),?_⟩
  refine qJ ?_;intro cJ c7 dY fN gF nA tP yT Gj Gk wG;obtain⟨bt,xs,h1,h2,h3⟩:=id hw.ex;have um:=h3.length;have big:(2:Nat)^ts.length<=2^9:=abf (by decide) h9
  have Oz:(1:Int)*2^((xs.length:Nat):Int).toNat=((2^ts.length:Nat):Int):=by rw[i9,um]
  have tp:=aa2 ts.length;refine⟨dl rfl,λF hF=>?_⟩
  have s1:au H (upd H F (.lst [])):=au.new hF;obtain⟨f,hf⟩:∃f:Nat->Bool,∀r,f r=true↔r<2^ts.length/\g.N.Ring r:=⟨λr=>@decide (r<2^ts.length/\g.N.Ring r) (Classical.propDecidable _),λr=>@aa5 _ (Classical.propDecidable _)⟩
  have f0:f 0=false:=by
   cases h:f 0 with
   | false=>rfl
   | true=>exact absurd rfl ((hf 0).mp h).2.1
  have few:∀(i:Nat) (ps:List (Addr×Int×Int×Int)),ps.map (λq=>(q.2.1,q.2.2.2))=((List.range i).filter f).map (λr=>(lenOf ts r,(r:Int)))->ps.length<64:=λi ps e=>by
   have h1:=aaU List.length e;rw[aaa,aaa]at h1;have h2:=RM.LU (N:=g.N) (l:=(List.range i).filter f) h9 (abJ _ acB) λm hm=>(hf m).mp (aas.mp hm).2
   lia
  refine(aq rfl (cg (aR.of (s1 _ _ h1)) (ak (j:=1) rfl) (oM rfl (.inr (aR.of (s1 _ _ h2))) (cj ⟨⟨by lia,by lia,by decide⟩,1,((2^ts.length:Nat):Int),aaU (λz=>[V.int 1,V.int z]) Oz,⟨by decide,by decide,by lia,by lia⟩,?_⟩))))
  refine eX (lo:=1) (n:=(((2^ts.length:Nat):Int)-1).toNat) (λi σ H2=>∃(ps:List (Addr×Int×Int×Int)) (v2:Option V),σ=[some (.ref U),some (.int cc),some (.ref F),v2,none,none,none,none]/\au H H2/\H2 F=some (.lst (ps.map λq=>V.ref q.1))/\(∀q∈ps,H2 q.1=some (.tup [.int q.2.1,.int q.2.2.1,.int q.2.2.2]))/\ps.map (λq=>(q.2.1,q.2.2.2))=((List.range (i+1)).filter f).map λr=>(lenOf ts r,(r:Int))) ⟨[],none,rfl,s1,ae,(λq G=>nomatch G),?_⟩ ?_ ?_
  ·rw[bf,f0];rfl
  ·rintro i D' σ H2 hi ⟨ps,v2,rfl,s2,OS,Sq,RP⟩;have Bt:i+1<2^ts.length:=by lia
   have ei:(1:Int)+(i:Int)=((i+1:Nat):Int):=by lia
   rw[ei];have fn:∀H3,au H2 H3->f (i+1)=false->∃(ps:List (Addr×Int×Int×Int)) (v2:Option V),[some (V.ref U),some (V.int cc),some (V.ref F),some (V.int ((i+1:Nat):Int)),none,none,none,none]=[some (.ref U),some (.int cc),some (.ref F),v2,none,none,none,none]/\au H H3/\H3 F=some (.lst (ps.map λq=>V.ref q.1))/\(∀q∈ps,H3 q.1=some (.tup [.int q.2.1,.int q.2.2.1,.int q.2.2.2]))/\ps.map (λq=>(q.2.1,q.2.2.2))=((List.range (i+1+1)).filter f).map λr=>(lenOf ts r,(r:Int)):=λH3 s3 e =>
    ⟨ps,_,rfl,s2.trans s3,s3 _ _ OS,λq G=>s3 _ _ (Sq q G),by rw[bf,e,RP];simp⟩
   refine(aq rfl (aq rfl ⟨U,p,ts,g,_,i+1,rfl,rfl,hw.same s2,Bt,λH3 d s3 hd=>(aq rfl (?_))⟩))
   cases d with
   | false =>
     refine fn H3 s3 ?_;cases h:f (i+1) with
     | false=>rfl
     | true=>exact absurd (hd.mpr ((hf _).mp h).2.2.1) (by decide)
   | true =>
     refine(aq rfl (aq rfl ⟨U,p,ts,g,_,i+1,rfl,rfl,hw.same (s2.trans s3),Bt,λH4 d s4 hd=>(aq rfl (?_))⟩))
     cases d with
     | false =>
       refine fn H4 (s3.trans s4) ?_;cases h:f (i+1) with
       | false=>rfl
       | true=>exact absurd (hd.mpr ((hf _).mp h).2) (by decide)
     | true =>
       have Ss:=s3.trans s4;have a7:f (i+1)=true:=(hf _).mpr ⟨Bt,hd.mp rfl⟩;refine(aq rfl ⟨.inl ⟨rfl,_,aM.of (Ss _ _ OS)⟩,aq rfl (aq rfl ⟨U,p,ts,g,_,i+1,rfl,rfl,hw.same (s2.trans Ss),Bt,λH5 s5=>?_⟩)⟩)
       refine(aq rfl (aq rfl (cj ⟨(kU rfl),cc,_,rfl,acE _ (by decide),(by have:=acH ((i+1:Nat):Int) (show(0:Int)<977 by decide);lia),λzm _ _=>(aq rfl ⟨dl rfl,λc hc=>?_⟩)⟩)))
       have s6:au H5 (upd H5 c (.tup [.int (lenOf ts (i+1)),.int zm,.int ((i+1:Nat):Int)])):=au.new hc;have YB:=(Ss.trans s5).trans s6;have V3:=YB _ _ OS;have a8:c≠F:=λz=>by rw[z,(Ss.trans s5) _ _ OS]at hc;cases hc
       have pl:=few _ ps RP;refine⟨F,_,_,rfl,rfl,V3,dS (by rw[aaa];lia),?_⟩
       refine⟨ps++[(c,lenOf ts (i+1),zm,((i+1:Nat):Int))],_,rfl,(s2.trans YB).put hF,?_,λq G=>?_,?_⟩
       ·rw[ae,aax];rfl
       ·have a9:∀q∈ps,q.1≠F:=λq G z=>by
         have:=Sq q G;rw[z,OS]at this;cases this
        rcases aaw.mp G with z|z
        ·rw[ao (a9 q z)];exact YB _ _ (Sq q z)
        ·rw[aat.mp z,ao a8];exact ae
       ·rw[bf,a7,aac rfl,aax,aax,RP];rfl
  ·rintro σ H2 ⟨ps,v2,rfl,s2,OS,Sq,RP⟩;have en:(((2^ts.length:Nat):Int)-1).toNat+1=2^ts.length:=by have:=aa2 ts.length;lia
   rw[en]at RP;have pl:=few _ ps RP;refine(aq rfl ⟨F,ps,rfl,aM.of OS,Sq,pl,λl I hl pm pw=>?_⟩)
   obtain⟨up,all,nat⟩:=OU hf RP pm pw;have s3:au H2 (upd H2 l (.lst (I.map λq=>V.ref q.1))):=au.new hl
   have ON:upd H2 l (.lst (I.map λq=>V.ref q.1)) l=some (.lst (I.map λq=>V.ref q.1)):=ae
   generalize upd H2 l (.lst (I.map λq=>V.ref q.1))=H3 at s3 ON
   have bD:=pm.length_eq;have sR:=s2.trans s3;refine⟨l,rfl,⟨_,aM.of ON⟩,λD hD=>bu (K:=K) (a:=l) (xs:=I.map λq=>V.ref q.1) (λi acc H4=>au H3 H4/\H4 D=some (.lst acc)/\acc=aA ((I.take i).map λq=>q.2.2.2.toNat)) ⟨au.new hD,ae,rfl⟩ (λi acc H4 _ z=>⟨aM.of (z.1 _ _ ON),z.2.1,by rw[z.2.2,aC,aaa,aa0];lia⟩) (aaO (dS (by rw[aaa];lia))) ?_ ?_⟩
   ·rintro i x acc H4 hx ⟨s4,qQ,rfl⟩;rw[aai]at hx;obtain⟨q,G,rfl⟩:=tD.mp hx;have hm:=iV G;have ba:=(s3.trans s4) _ _ (Sq q (pm.mem_iff.mp hm));refine⟨rfl,aq rfl (cg (aR.of ba) (ak (j:=2) rfl) ⟨qQ,s4.put hD,ae,?_⟩)⟩;rw[take3 G,aax,acp,cH,<-nat q hm]
   rintro acc H4 ⟨s4,qQ,rfl⟩;rw[aaa,aaM]at qQ;have aw:(I.map λq=>q.2.2.2.toNat).length<64:=by rw[aaa];lia
   generalize (I.map λq=>q.2.2.2.toNat)=l0 at up all qQ aw
   refine⟨D,l0,rfl,qQ,by lia,λD5 C H5 _ s5 IG ch=>?_⟩
   have UW:=(sR.trans s4).trans s5;have bs:=ch.base (N:=g.N) all;have VH:=ch.parts (f:=lenOf ts) up;have Cl:C.length<64:=ab5 ch.sub.length_le aw;have Cm:∀c∈C,c<2^ts.length:=λc hc=>((all c).mp (ch.sub.mem hc)).1
   refine(aq rfl ⟨D5,rfl,⟨_,aM.of IG⟩,λX hX=>bu (K:=K) (a:=D5) (xs:=aA C) (λi acc Z=>au H5 Z/\Z X=some (.lst acc)/\∃O:List (Addr×Int×Int),acc=O.map (λq=>V.ref q.1)/\(∀q∈O,q.1≠X/\Z q.1=some (.tup [.int q.2.1,.int q.2.2]))/\O.map (·.2)=(C.take i).map λr=>(lenOf ts r,(r:Int))) ⟨au.new hX,ae,[],rfl,(λq G=>nomatch G),rfl⟩ (λi acc Z _ z=>⟨aM.of (z.1 _ _ IG),z.2.1,?_⟩) (aaO (dS (by rw[aC];lia))) ?_ ?_⟩)
   ·obtain⟨_,_,O,rfl,_,e⟩:=z;have:=aaU List.length e;rw[aaa,aaa,aa0]at this;rw[aaa]
    lia
   ·rintro i x acc Z hx ⟨s6,MA,O,rfl,Wd,eqs⟩;obtain⟨c,U8,rfl⟩:∃c,C[i]?=some c/\x = .int (c:Int):=by
     unfold aA at hx;rw[aai]at hx;obtain⟨c,h1,h2⟩:=tD.mp hx;exact⟨c,h1,h2.symm⟩
    refine⟨rfl,aq rfl (aq rfl ⟨U,p,ts,g,_,c,rfl,rfl,hw.same (UW.trans s6),Cm c (iV U8),λH7 s7=>(aq rfl ⟨dl rfl,λe he=>?_⟩)⟩)⟩
    have s8:au H7 (upd H7 e (.tup [.int (lenOf ts c),.int (c:Int)])):=au.new he;have YC:=s7.trans s8;have ax:e≠X:=λz=>by rw[z,s7 _ _ MA]at he;cases he
    refine⟨YC _ _ MA,(s6.trans YC).put hX,ae,O++[(e,lenOf ts c,(c:Int))],by rw[aax];rfl,λq G=>?_,by rw[take3 U8,aax,aax,eqs];rfl⟩
    rcases aaw.mp G with z|z
    ·obtain⟨z1,z2⟩:=Wd q z;exact⟨z1,by rw[ao z1];exact YC _ _ z2⟩
    ·rw[aat.mp z];exact⟨ax,by rw[ao ax];exact ae⟩
   rintro acc Z ⟨s6,MA,O,rfl,Wd,eqs⟩;rw[aC,aaM]at eqs;have ql:O.length=C.length:=by have:=aaU List.length eqs;rwa [aaa,aaa]at this
   have qk:∀q∈O,∃r∈C,q.2=(lenOf ts r,(r:Int)):=λq G=>by
    have:q.2∈O.map (·.2):=aaz.mpr ⟨q,G,rfl⟩;rw[eqs]at this;obtain⟨r,hr,e2⟩:=aaz.mp this;exact⟨r,hr,e2.symm⟩
   refine⟨X,O,rfl,aM.of MA,λq G=>(Wd q G).2,λq G=>?_,by lia,λl2 OV bc We _=>?_⟩
   ·obtain⟨r,hr,e⟩:=qk q G;have:=Cm r hr;rw[e];unfold PB;show 0<=(r:Int)/\(r:Int)<1073741824
    lia
   have s7:au Z (upd Z l2 (.lst (OV.map λq=>V.ref q.1))):=au.new bc
   have YD:upd Z l2 (.lst (OV.map λq=>V.ref q.1)) l2=some (.lst (OV.map λq=>V.ref q.1)):=ae
   generalize upd Z l2 (.lst (OV.map λq=>V.ref q.1))=H7 at s7 YD
   have bP:=We.length_eq;have YE:∀q∈OV,q.2.2=((q.2.2.toNat:Nat):Int):=λq G=>by
    obtain⟨r,_,e⟩:=qk q (We.mem_iff.mp G);rw[e];show(r:Int)=(((r:Int).toNat:Nat):Int);rw[aaj]
   have Wf:(OV.map λq=>q.2.2.toNat).Perm C:=by
    have e3:O.map (λq=>q.2.2.toNat)=C:=by
     have:O.map (λq=>q.2.2.toNat)=(O.map (·.2)).map λz=>z.2.toNat:=by rw[abl];rfl
     rw[this,eqs,abl];exact ac2 _
    have:=We.map λq=>q.2.2.toNat
    rwa [e3]at this
   refine⟨l2,rfl,⟨_,aM.of YD⟩,λY hY=>bu (K:=K) (a:=l2) (xs:=OV.map λq=>V.ref q.1) (λi acc H8=>au H7 H8/\H8 Y=some (.lst acc)/\acc=aA ((OV.take i).map λq=>q.2.2.toNat)) ⟨au.new hY,ae,rfl⟩ (λi acc H8 _ z=>⟨aM.of (z.1 _ _ YD),z.2.1,by rw[z.2.2,aC,aaa,aa0];lia⟩) (aaO (dS (by rw[aaa];lia))) ?_ ?_⟩
   ·rintro i x acc H8 hx ⟨s8,Su,rfl⟩;rw[aai]at hx;obtain⟨q,G,rfl⟩:=tD.mp hx;have hm:=iV G;have bo:=(s7.trans s8) _ _ (Wd q (We.mem_iff.mp hm)).2;refine⟨rfl,aq rfl (cg (aR.of bo) (ak (j:=1) rfl) ⟨Su,s8.put hY,ae,?_⟩)⟩;rw[take3 G,aax,acp,cH,<-YE q hm]
   rintro acc H8 ⟨s8,Su,rfl⟩;rw[aaa,aaM]at Su;generalize (OV.map λq=>q.2.2.toNat)=rs at Wf Su
   have aT:=((UW.trans s6).trans s7).trans s8;have Wg:RM.Base g.N rs:=bs.perm Wf;have b2:=Wf.length_eq;have YF:∀r,r<2^ts.length->g.N.Ring r->RM.Sp (rs.filter λc=>decide (lenOf ts c<=lenOf ts r)) r:=λr h1 h2=>(VH r ((all r).mpr ⟨h1,h2⟩)).mono λc hc=>.mem (by
    obtain⟨c1,c2⟩:=aas.mp hc;exact aas.mpr ⟨Wf.mem_iff.mpr c1,c2⟩)
   refine(aq rfl (aq rfl ⟨U,p,ts,g,Y,rs.map (λx=>((x:Nat):Int)),rfl,hw.same aT,by rw[<-ic];exact Su,by rw[aaa];lia,.inl ⟨rs,rfl,Wg,λD2 ms H9 jU s9 bp mo _=>?_⟩⟩))
   have a3:=aT.trans s9;have a4:=s9 _ _ Su;refine⟨dl rfl,λTl a5=>?_⟩
   have Pd:au H9 (upd H9 Tl (.lst [])):=au.new a5;refine(aq rfl (oM rfl (.inl (aM.of (Pd _ _ a4))) (aq rfl ⟨(by lia),(by rw[aC];lia),?_⟩)))
   refine eX (lo:=0) (n:=((aA rs).length:Int).toNat) (λi σ AM=>∃(acc:List V) (tw:List (Nat×Nat)) (v3 v7:Option V),σ=[some (.ref U),some (.int cc),some (.ref F),v3,some (.ref Y),some (.ref D2),some (.ref Tl),v7]/\au H9 AM/\AM Tl=some (.lst acc)/\Paired (kP AM) acc tw/\tw.map (·.1)=rs.take i/\tw.length=i/\∀(j m:Nat),(tw.map (·.2))[j]?=some m->m<2^ts.length/\∀(j' r:Nat),rs[j']?=some r->g.N.par r m=decide (j=j')) ⟨[],[],_,_,rfl,Pd,ae,.nil,rfl,rfl,(λj m h=>by cases h)⟩ ?_ ?_
   ·rintro i D' σ AM hi ⟨acc,tw,v3,v7,rfl,x1,OX,pd,e1,Wh,al⟩;rw[aa6];have hi:i<rs.length:=by rw[aC]at hi;lia
    have JG:rs[i]?=some rs[i]:=aad hi;have ar:ms[i]?=some (ms[i]'(by have:=mo.1;lia)):=aad _
    generalize (ms[i]'(by have:=mo.1;lia))=m at ar
    generalize rs[i]=r at JG;obtain⟨m1,m2⟩:=mo.2 i m ar;have w0:=a3.trans x1;have bl:rs.length<64:=by lia
    refine(aq rfl (aq rfl (jn (aM.of (x1 _ _ bp)) (ak (j:=i) (lK ar)) (aq rfl (aq rfl (aq rfl (cj ⟨cc,_,rfl,(by lia),(by lia),λzc z0 _=>?_⟩)))))))
    obtain⟨zn,rfl⟩:∃zn:Nat,zc=(zn:Int):=⟨zc.toNat,by lia⟩
    refine⟨U,p,ts,g,zn,rfl,hw.same w0,_,_,rfl,rfl,?_⟩;have ex:=xor_int m (g.N.cut λx=>zn.testBit x)
    dsimp only;rw[ex];have cl:g.N.cut (λx=>zn.testBit x)<2^ts.length:=RM.Kz _
    have xl:m^^^g.N.cut (λx=>zn.testBit x)<2^ts.length:=aaJ m1 cl
    have xp:∀q,g.N.bL q->g.N.par q (m^^^g.N.cut λx=>zn.testBit x)=g.N.par q m:=λq G=>by rw[RM.wg,RM.F3 G,aa7]
    generalize m^^^g.N.cut (λx=>zn.testBit x)=mm at xl xp
    have rev:=(Wg.ring r (iV JG)).1.2.1;refine(aq rfl ⟨.inl ⟨rfl,_,aM.of OX⟩,aq rfl (aq rfl (jn (aM.of (x1 _ _ a4)) (ak (j:=i) (lK JG)) (aq rfl (aq rfl (aq rfl ⟨U,p,ts,g,_,rfl,hw.same w0,w0 _ _ a6,.inl ⟨mm,rfl,xl,λrr Wi _ M7 ot=>?_⟩⟩)))))⟩)
    rcases ot with⟨_,ec,_⟩|⟨_,_,bb,_,_,_,bw,_⟩
    ·exfalso
     have h1:=xp r rev;rw[m2 i r JG,cD rfl,ec,RM.F3 rev]at h1;cases h1
    refine(cg (aR.of bw) (ak (j:=2) rfl) ⟨dl rfl,λc hc=>?_⟩)
    have ag:au Wi (upd Wi c (.tup [.int (r:Int),.int (mm:Int),.ref bb])):=au.new hc;have YG:=M7.trans ag;have RQ:=YG _ _ OX;have acl:=pd.length;refine⟨Tl,_,_,rfl,rfl,RQ,dS (by lia),acc++[.ref c],tw++[(r,mm)],_,_,rfl,(x1.trans YG).put a5,ae,?_,?_,?_,?_⟩
    ·exact Paired.snoc (Paired.imp' (λ_ _ z=>kP.tups (YG.tups.trans (dI.put RQ)) z) pd) (kP.tups (dI.put RQ) ⟨c,_,rfl,ae⟩)
    ·rw[aax,e1,take3 JG];rfl
    ·rw[aao,Wh];rfl
    ·intro j m' hj;rw[aax]at hj;have ml:(tw.map (·.2)).length=i:=by rw[aaa];exact Wh
     by_cases b3:j<i
     ·rw[aaK (by lia)]at hj
      exact al j m' hj
     ·rw[aaQ (by lia),ml]at hj
      have:j-i=0:=by
       cases h:j-i with
       | zero=>rfl
       | succ n=>rw[h]at hj;cases hj
      rw[this]at hj;cases hj;obtain rfl:i=j:=by lia
      exact⟨xl,λj' r' h'=>by rw[xp r' (Wg.ring r' (iV h')).1.2.1];exact m2 j' r' h'⟩
   ·rintro σ AM ⟨acc,tw,v3,v7,rfl,x1,OX,pd,e1,Wh,al⟩;have ln:((aA rs).length:Int).toNat=rs.length:=by rw[aC];lia
    rw[ln]at e1 Wh;rw[aaM]at e1;refine(aq rfl ⟨Tl,_,rfl,.inl ⟨aM.of OX,λl3 ON=>?_⟩⟩)
    have ag:au AM (upd AM l3 (.tup acc)):=au.new ON;exact qq l3 acc tw _ ((a3.trans x1).trans ag) ae (Paired.imp' (λ_ _ z=>kP.same ag z) pd) ⟨by rw[e1];exact Wg,⟨by rw[aaa,aaa],λj m h=>by rw[e1];exact al j m h⟩,λr h1 h2=>by rw[e1];exact YF r h1 h2⟩
def MN:Sp:=λvs H Q _=>∃w p ts,∃g:aD p ts,∃(b:Addr) (ys:List V) (G:List (Nat×Nat)) (S:Int),vs=[.ref w,.ref b,.int S]/\bz H w p ts/\H b=some (.tup ys)/\Paired (kP H) ys G/\G.length<=24/\(∀t∈G,t.2<2^ts.length)/\mS ts S (∀H',au H H'->Q (.str "BadSet") H') λm=>¬ g.N.bL m/\∀(pt:Nat) H',au H H'->(i0 p ts (m:Int))[0]?=some pt->Q (.int (pt:Int)) H'
def dJ:Ok T T.fV 8 MN:=by
 have iI:=iI T;refine T.fV.ok gW λ_ A _ s H vs Q E hr h=>?_
 ·obtain⟨U,p,ts,g,b,ys,Y,S,rfl,hw,hb,Z,tl,hm,q⟩:=h;refine⟨_,(ai (aF (i:=3) gW.nd rfl (Or.inl rfl) o6)
   (ai (NL (i:=4) K rfl rfl rfl gW.nd rfl rfl (by rfl) T.tR (λE pn xe hp=>(av (cY (aG iI hr T.mw.c hp (aa (pv 0) (aa (pv 1) (aa (pv 2) af))))))) (λG pn=>(av (aF (i:=3) gW.nd rfl (Or.inl rfl) (pv 4)))))
   (ai (cA (PW.pt (pW (kB (cF (bI (Ga K) (by rfl) T.dD abe (aa (pv 3) (aa (A9 (T:="ValueError") (by rfl) T.Av (by decide +kernel)) af))))) (m4 (aP dm (bI (Ga K) (by rfl) T.dD abe (aa (pv 3) (aa (DL (by rfl) T.CA) af))) (bI (Ga K) (by rfl) T.dD abe (aa (pv 3) (aa (DL (by rfl) T.yU) af))) (aO _))))) (av (aJ iW)) aZ)
   (ai (cA (cF (bI (Ga K) (by rfl) T.dD abe (aa (pv 3) (aa (DL (by rfl) T.CA) af)))) (av (aJ iW)) aZ)
   (ai (cA (cF (bI (NG K) (by rfl) T.dD abe (aa (F9 K (pv 3)) (aa (A9 (by rfl) T.Ml PyProof.Rows.boot_bool) af)))) (av (aJ iW)) aZ)
   (av (aJ (F9 K (pv 3))))))))),?_⟩
  refine wJ ?_;intro cJ c7 dY fN gF nA tP yT;refine⟨λcls od H'=>au H H'/\((cls = .ref a.aU/\od=none/\∀H2,au H' H2->Q (.str "BadSet") H2)\/(cls = .ref a.aX/\∃(d:Addr) (pt:Nat),od=some d/\H' d=some (.xd [("point",.int (pt:Int))])/\∀H2,au H' H2->Q (.int (pt:Int)) H2)),?_,?_⟩
  ·refine(aq rfl (aq rfl (aq rfl ⟨U,p,ts,g,b,ys,Y,S,rfl,hw,hb,Z,tl,hm,?_⟩)));rcases q with⟨m,rfl,Yu,ne,q⟩|⟨hS,q⟩
   case inr=>exact .inr ⟨hS,λH' s'=>⟨s',.inl ⟨rfl,rfl,λH2 s2=>q H2 (s'.trans s2)⟩⟩⟩
   exact .inl ⟨m,rfl,Yu,λev=>absurd ev ne,λpt d H' s' h1 h2=>⟨s',.inr ⟨rfl,d,pt,rfl,h2,λH2 s2=>q pt H2 (s'.trans s2) h1⟩⟩⟩
  ·rintro cls od H' ⟨s1,⟨rfl,rfl,k⟩|⟨rfl,d,pt,rfl,hd,k⟩⟩
   ·refine⟨T.Mn,λG O=>?_⟩
    have s2:au H' (upd H' G (qY G (.ref a.aU) none)):=au.new O;have I:upd H' G (qY G (.ref a.aU) none) G=some (qY G (.ref a.aU) none):=ae;refine(aq rfl (aq rfl ⟨G,_,a.aU,_,_,_,rfl,rfl,I,T.qP,T.Iz,_,rfl,dN (aq rfl ⟨G,_,a.aU,_,_,_,rfl,rfl,I,T.qP,T.q_BadSet_BadSet,_,rfl,G,_,a.aU,_,_,_,rfl,rfl,I,T.qP,T.q_BadSet_NotEven,rfl,aq rfl (zh (by intro z;cases z) ?_)⟩)⟩))
    refine(aq rfl ⟨G,_,a.aU,_,_,_,rfl,rfl,I,T.qP,T.q_BadSet_BadSet,_,rfl,fK ?_⟩);exact k _ s2
   ·refine⟨T.IB,λG O=>?_⟩
    have s2:au H' (upd H' G (qY G (.ref a.aX) (some d))):=au.new O;have I:upd H' G (qY G (.ref a.aX) (some d)) G=some (qY G (.ref a.aX) (some d)):=ae;have hd2:=s2 _ _ hd;refine(aq rfl (aq rfl ⟨G,_,a.aX,_,_,_,rfl,rfl,I,T.jq,T.EU,_,rfl,dN (aq rfl ⟨G,_,a.aX,_,_,_,rfl,rfl,I,T.jq,T.q_NotEven_BadSet,_,rfl,G,_,a.aX,_,_,_,rfl,rfl,I,T.jq,T.q_NotEven_NotEven,rfl,aq rfl (zh (by intro z;cases z) ?_)⟩)⟩))
    refine(aq rfl ⟨G,_,a.aX,_,_,_,rfl,rfl,I,T.jq,T.q_NotEven_BadSet,_,rfl,dN ?_⟩);refine(aq rfl ⟨G,a.aX,a.e8,a.e7,d,_,_,rfl,I,hd2,rfl,T.jq,T.xi_NotEven,_,_,_,_,_,rfl,rfl,.int _,JR K,_,rfl,dN ?_⟩);exact(aq rfl ⟨G,a.aX,a.e8,a.e7,d,_,_,rfl,I,hd2,rfl,T.jq,T.xi_NotEven,k _ s2⟩)
def MO{N:RM.Net}{B:List Nat}{x m:Nat}(h:RM.Sp B x)(hz:∀b∈B,N.par b m=false):N.par x m=false:=by
 have h0:N.par 0 m=false:=by
  have:=RM.ja (N:=N) 0 0 m;rw[abD,adv]at this;exact this
 induction h with
 | zero=>exact h0
 | add h hb ih=>rw[RM.ja,ih,hz _ hb];rfl
def Fd{N:RM.Net}{k:Nat}(h:k<N.n)(e:N.bL (2^k)):False:=by
 have h1:=e (N.a k) (N.al k h);rw[RM.kD h]at h1;unfold RM.Net.inc at h1;rw[cD rfl,dO (λz=>N.ne k h z.symm)]at h1
 cases h1
def Fe:Sp:=λvs H Q _=>∃w p ts,∃g:aD p ts,∃(b:Addr) (ys:List V) (G:List (Nat×Nat)) (c:Int),vs=[.ref w,.ref b,.int c]/\bz H w p ts/\H b=some (.tup ys)/\Paired (kP H) ys G/\Gu p ts g G/\∀H',au H H'->Q (.bl true) H'
def ku:Ok T T.kr 9 Fe:=by
 have iI:=iI T;have nO:=nO T;have iJ:=iJ T;have fb:=fb T;have cQ:=cQ T;have dJ:=dJ T;refine T.kr.ok cN λ_ A _ s H vs Q E hr h=>?_
 ·obtain⟨wb,p,ts,g,b,ys,G,c,rfl,hw,hb,pd,⟨ob,mo,op⟩,q⟩:=h;refine⟨_,(ai (ff (i:=3) cN.nd rfl rfl (own:=["k"]) (fq:=["cell"]) (js:=[2]) (az (aj eZ) ["web","base","cell","places","total","k","found","longer","spoilt","odd"]) rfl (br (by rfl) T.bV (aa (bW K T.cR (aa (pv 1) af)) af)) (λ_ _ _ _=>(bq 0 (jo ["k","cell"]))) (λ_ _ _ _=>(dw (aP dm (aI cG (aI o9 (pv 1) (pv 0)) ah) ah (aO _)))) (λ_ _ _ _=>(pv 0)))
   (ai (aF (i:=4) cN.nd rfl (Or.inr rfl) ah)
   (ai (eK PassesOwn.never rfl (oH K (pv 3)) (bq 5 cN.nd)
   (av (aF (i:=4) cN.nd rfl (Or.inr rfl) (aI eU (pv 4) (aH (cf K) (aH (cf K) (pv 1) (pv 5)) ah)))))
   (ai (aF (i:=6) cN.nd rfl (Or.inl rfl) (aG iI hr T.mw.c tF (aa (pv 0) (aa (pv 1) (aa (pv 4) af)))))
   (ai (cA (PW.pt (pW (kB (cF (bI (NG K) (by rfl) T.dD abe (aa (pv 6) (aa (A9 (by rfl) T.ET ac1) af))))) (pW (aP (DG K hr.units) (pv 6) (pv 3) (aO _)) (m4 (aP uW (bW K T.cR (aa (bB (own:=["one"]) (fq:=[]) (js:=[]) (az (aj eZ) ["web","base","cell","places","total","k","found","longer","spoilt","odd"]) rfl (oH K (pv 6)) (λ_ _ _ _=>(bq 0 (jo ["one"]))) (λ_ _ _ _=>(dw (kB (cF (aG nO hr T.nK.c aK (aa (pv 0) af)))))) (λ_ _ _ _=>(pv 0))) af)) ah (aO _)))))) (av (aJ m3)) aZ)
   (ai (cA (cF (aG iJ hr T.mC.c aK (aa (pv 0) (aa (pv 4) af)))) (ai (ff (i:=7) cN.nd rfl rfl (own:=["k"]) (fq:=["web","base","total"]) (js:=[0,1,4]) (az (aj eZ) ["web","base","cell","places","total","k","found","longer","spoilt","odd"]) rfl (oH K (pv 6)) (λ_ _ _ _=>(bq 0 (jo ["k","web","base","total"]))) (λ_ _ _ _=>(dw (aP uW (aG fb hr T.iD.c aK (aa (pv 1) (aa (aH (cf K) (aH (cf K) (pv 2) (pv 0)) ah) af))) (aG fb hr T.iD.c aK (aa (pv 1) (aa (pv 3) af))) (aO _)))) (λ_ _ _ _=>(pv 0)))
   (av (cA (aP (DG K hr.units) (pv 7) (dH af) (aO _)) (av (aJ m3)) aZ))) aZ)
   (ai (cA (aP dm (bW K T.cR (aa (aH (cf K) (pv 0) ah) af)) ah (aO _)) (av (aJ m3)) aZ)
   (ai (aF (i:=8) cN.nd rfl (Or.inr rfl) (aI eU (pv 4) (aI jx ah (aI cG (aI lD (pv 2) ah) (bW K T.cR (aa (aH (cf K) (pv 0) ah) af))))))
   (ai (ff (i:=9) cN.nd rfl rfl (own:=["point"]) (fq:=["web","spoilt"]) (js:=[0,8]) (az (aj eZ) ["web","base","cell","places","total","k","found","longer","spoilt","odd"]) rfl (br (by rfl) T.bV (aa (aH (cf K) (pv 0) ah) af)) (λ_ _ _ _=>(bq 0 (jo ["point","web","spoilt"]))) (λ_ _ _ _=>(dw (aP dm (aI cG (aH (jA K) (aG cQ hr T.gY.c aK (aa (pv 1) (aa (pv 2) af))) (pv 0)) ah) ah (aO _)))) (λ_ _ _ _=>(pv 0)))
   (av (aJ (cZ dm (aG dJ hr T.fV.c aK (aa (pv 0) (aa (pv 1) (aa (pv 8) af)))) (aH (jA K) (pv 9) ah) (aO _))))))))))))),?_⟩
  refine zX ?_;intro cJ c7 dY fN gF nA tP yT Gj Gk wG zS LV LW LX;obtain⟨bt,xs,h1,h2,h3⟩:=id hw.ex;have um:=h3.length;have wl:=g.len;have wp:=g.p2;have yl:=pd.length;have tl:G.length<=24:=by
   have h1:g.N.aB.length<=(List.range g.N.n).length:=aaP ..;rw[aav,<-ob.len,aaa]at h1;exact aaE h1 wl
  have tm:∀t∈G,t.2<2^ts.length:=λt ht=>by
   obtain⟨i,hi⟩:=aaI ht;exact(mo.2 i t.2 (by rw[aai,hi];rfl)).1
  refine(aq rfl (oM rfl (.inr (aR.of hb)) (aq rfl ⟨(by lia),(by lia),λC hC=>bY (lo:=0) (m:=(ys.length:Int).toNat) (lH (λk=>decide (c/2^k%2=1)) H C) (.start hC) (λi acc H2 _ I=>I.len) (c5 (by lia)) ?_ ?_⟩)))
  ·intro i acc H2 hi I;rw[aa6];refine⟨rfl,aq rfl (aq rfl (cj ⟨(by lia),cj ⟨(kU rfl),rfl,aq rfl (?_)⟩⟩))⟩
   have ev:decide (V.int (c/2^((i:Nat):Int).toNat%2)=V.int 1)=decide (c/2^i%2=1):=by
    rw[aaj];exact aaS.mpr ⟨λh=>V.int.inj h,λh=>by rw[h]⟩
   dsimp only;rw[ev]
   by_cases hb:c/2^i%2=1
   ·rw[cD hb];exact fK (aq rfl (I.yes hC (au.refl _) (cD hb)))
   ·rw[dO hb];exact dN (I.no (au.refl _) (dO hb))
  intro acc H2 I;have s2:=I.1;have vJ:=I.2.1;rw[I.2.2,aaj,yl]at vJ;have aT:((List.range G.length).filter λk=>decide (c/2^k%2=1)).Nodup:=abJ _ acB
  have pin:∀k∈(List.range G.length).filter (λk=>decide (c/2^k%2=1)),k<G.length:=λk hk=>aaA.mp (aas.mp hk).1
  have a9:((List.range G.length).filter λk=>decide (c/2^k%2=1)).length<=G.length:=by
   have:=aaP (λk=>decide (c/2^k%2=1)) (List.range G.length)
   rwa [aav]at this
  have Vg:∀f:Nat->Bool,(∀j,j<G.length->f j=decide (j∈(List.range G.length).filter (λk=>decide (c/2^k%2=1))))->(List.range G.length).filter f=(List.range G.length).filter (λk=>decide (c/2^k%2=1)):=λf hf=>acX λj hj=>by
   rw[hf j (aaA.mp hj)];cases e:decide (c/2^j%2=1) with
   | true=>exact cD (aas.mpr ⟨hj,e⟩)
   | false=>exact dO λz=>by rw[(aas.mp z).2]at e;cases e
  generalize (List.range G.length).filter (λk=>decide (c/2^k%2=1))=U at vJ aT pin a9 Vg
  refine(aq rfl ⟨C,rfl,⟨_,aM.of vJ⟩,eG (K:=K) (a:=C) (xs:=aA U) (λi σ H3=>∃(t:Nat) (v5:Option V),σ=[some (.ref wb),some (.ref b),some (.int c),some (.ref C),some (.int (t:Int)),v5,none,none,none,none]/\H3=H2/\t<2^ts.length/\g.N.bL t/\∀(j m:Nat),(G.map (·.2))[j]?=some m->g.N.par t m=decide (j∈U.take i)) ⟨0,_,rfl,rfl,?_,?_,?_⟩ (λi σ H3 _ ⟨_,_,_,z,_⟩=>aM.of (by rw[z];exact vJ)) ?_ ?_⟩)
  ·exact aa2 _
  ·exact RM.bL.zero
  ·intro j m _;rw[MO (RM.Sp.zero (B:=[])) (λb hb=>nomatch hb)]
   rfl
  ·rintro i y D' σ H3 hi ⟨t,v5,rfl,rfl,PY,Wj,tp⟩;obtain⟨k,ag,rfl⟩:∃k,U[i]?=some k/\y = .int (k:Int):=by
    unfold aA at hi;rw[aai]at hi;obtain⟨k,h1,h2⟩:=tD.mp hi;exact⟨k,h1,h2.symm⟩
   have mV:=pin k (iV ag);have RS:ys[k]?=some (ys[k]'(by lia)):=aad _
   obtain⟨Y,CH,cd,cx,YI,aw⟩:=Paired.pA pd RS;rw[YI]at RS;have Wm:(G.map (·.1))[k]?=some Y.1:=by rw[aai,CH];rfl
   obtain⟨rg,R9⟩:=ob.ring Y.1 (iV Wm);refine(aq rfl (aq rfl (aq rfl (cg (aR.of (s2 _ _ hb)) (ak (j:=k) RS) (cg (aR.of (s2 _ _ aw)) (ak (j:=0) rfl) (cj ⟨t^^^Y.1,some (.int (k:Int)),?_,rfl,aaJ PY R9,RM.bL.xor Wj rg.2.1,λj m hm=>?_⟩))))))
   ·rw[<-xor_int];rfl
   ·rw[RM.ja,tp j m hm,(mo.2 j m hm).2 k Y.1 Wm,take3 ag];have ba:k∉U.take i:=λz=>by
     obtain⟨i',ax⟩:=aaI z;have a3:i'<i:=by
      have:=(ju.mp ax).1;rw[aa0]at this
      lia
     rw[List.getElem?_take_of_lt a3]at ax;have e1:=(ju.mp ax);have e2:=(ju.mp ag);exact abW.mp aT i' i e1.1 e2.1 a3 (e1.2.trans e2.2.symm)
    by_cases e:j=k
    ·subst e;rw[dO ba,cD rfl,cD (by simp)]
     rfl
    ·rw[dO e,aa7];exact aaS.mpr ⟨λz=>C7 _ z,λz=>by
      rcases aaw.mp z with z|z
      ·exact z
      ·exact absurd (aat.mp z) e⟩
  ·rintro σ H3 ⟨t,v5,rfl,rfl,PY,Wj,tp⟩;have e0:U.take (aA U).length=U:=by rw[aC,aaM]
   rw[e0]at tp;refine(aq rfl (aq rfl (aq rfl ⟨wb,p,ts,g,b,ys,G,_,rfl,hw.same s2,s2 _ _ hb,Paired.imp' (λ_ _ z=>kP.same s2 z) pd,tl,tm,.inl ⟨t,rfl,PY,λ_ D H4 _ s4 qQ=>?_,λpt d H' _ h1 _=>?_⟩⟩)))
   case refine_2 =>
    rw[(qm g PY).mpr Wj]at h1;cases h1
   have ef:=Vg (λi=>g.N.par t ((G.map (·.2)).getD i 0)) λj hj=>by
    have hm:(G.map (·.2))[j]?=some (G[j].2):=by rw[aai,aad hj];rfl
    have:=tp j _ hm;rw[aae,hm];exact this
   rw[ef]at qQ;have Ss:=s2.trans s4;have So:=s4 _ _ vJ;refine(aq rfl ⟨_,_,_,_,_,rfl,rfl,.lst qQ,Qs K,_,rfl,dN (aq rfl (aq rfl ⟨_,_,.lst (aM.of qQ) (m8 U),.lst (aM.of So) (m8 U),jX U,jX U,_,rfl,?_⟩))⟩);rw[Kx];refine dN (aq rfl ⟨D,rfl,⟨_,aM.of qQ⟩,λW hW=>bu (K:=K) (a:=D) (xs:=aA U) (λi acc H5=>au H4 H5/\H5 W=some (.lst [])/\acc=[]) ⟨au.new hW,ae,rfl⟩ ?_ (aaO (dS (by rw[aC];lia))) ?_ ?_⟩)
   ·rintro i acc H5 _ ⟨s5,Vh,rfl⟩;exact⟨aM.of (s5 _ _ qQ),Vh,aaL _⟩
   ·rintro i x acc H5 hx ⟨s5,Vh,rfl⟩;obtain⟨k,_,rfl⟩:=gr hx;exact⟨rfl,aq rfl (aq rfl (aq rfl (dN ⟨s5,Vh,rfl⟩)))⟩
   rintro acc H5 ⟨s5,Vh,rfl⟩;have YJ:=Ss.trans s5;have IG:=s5 _ _ qQ;refine⟨W,[],rfl,.inl (aM.of Vh),cj (aq rfl (zh (by decide) ?_))⟩
   have cont:∀(v7:Option V) H6,au H5 H6->gF { nx:=λ_ H'=>Q .eE H',rt:=Q} [some (.ref wb),some (.ref b),some (.int c),some (.ref C),some (.int (t:Int)),v5,some (.ref D),v7,none,none] H6:=by
    intro v7 H6 s6;have w6:=YJ.trans s6;refine(aq rfl (cg (aR.of (w6 _ _ h1)) (ak (j:=1) rfl) (oM rfl (.inr (aR.of (w6 _ _ h2))) ⟨rfl,aq rfl (?_)⟩)))
    by_cases n0:xs.length=0
    ·rw[cD (by rw[n0];rfl)]
     exact fK (q _ w6)
    rw[dO (λz=>n0 (by have:=V.int.inj z;lia))]
    refine dN ?_;have ar:(0:Int)<(xs.length:Int):=by lia
    obtain⟨en,a4⟩:∃en:Nat,c/64%(xs.length:Int)=(en:Int):=⟨(c/64%(xs.length:Int)).toNat,by have:=acE (c/64) (show(xs.length:Int)≠0 by lia);lia⟩
    have a5:en<ts.length:=by have:=acH (c/64) ar;lia
    refine(aq rfl (aq rfl (cj ⟨⟨by decide,by decide⟩,aq rfl (cg (aR.of (w6 _ _ h1)) (ak (j:=1) rfl) (oM rfl (.inr (aR.of (w6 _ _ h2))) (cj ⟨ar,_,_,rfl,rfl,?_,_,_,rfl,rfl,?_⟩)))⟩)))
    ·rw[a4];exact⟨by lia,by lia,by decide⟩
    dsimp only;rw[a4,i9,xor_int];have pl:2^en<2^ts.length:=abL (by decide) a5
    have ml:t^^^2^en<2^ts.length:=aaJ PY pl;have a6 : ¬ g.N.bL (t^^^2^en):=λz=>by
     have h1:=RM.bL.xor Wj z;rw[<-aa9,abD,abc]at h1;exact Fd a5 h1
    have eo:=DU (g:=g) ml;generalize t^^^2^en=mm at ml a6 eo;refine(aq rfl (cg (aR.of (w6 _ _ h1)) (ak (j:=0) rfl) (aq rfl ⟨(by lia),(by lia),λO hO=>bY (lo:=0) (m:=(p:Int).toNat) (lH (g.N.bd mm) H6 O) (.start hO) (λi acc H7 _ I=>I.len) (c5 (by lia)) ?_ ?_⟩)))
    ·intro i acc H7 hi I;rw[aa6];rw[aaj]at hi;refine⟨rfl,aq rfl (aq rfl ⟨wb,p,ts,g,_,mm,rfl,rfl,hw.same (w6.trans I.1),ml,λDc H8 s8 ZU=>?_⟩)⟩
     refine(aq rfl (jn (aM.of ZU) (ak (j:=i) (bJ hi)) (cj ⟨(kU rfl),rfl,aq rfl (?_)⟩)));have ev:decide (V.int ((g.N.dg mm i:Nat)%2:Int)=V.int 1)=g.N.bd mm i:=by
      rw[RM.yr];exact aaS.mpr ⟨λh=>by have:=V.int.inj h;lia,λh=>by congr 1;lia⟩
     dsimp only;rw[ev];cases hb:g.N.bd mm i with
     | true=>exact fK (aq rfl (I.yes hO s8 hb))
     | false=>exact dN (I.no s8 hb)
    intro acc H7 I;have a7:=I.2.1;rw[I.2.2,aaj,<-eo]at a7;have w7:=w6.trans I.1;refine(aq rfl (aq rfl (aq rfl ⟨wb,p,ts,g,b,ys,G,_,rfl,hw.same w7,w7 _ _ hb,Paired.imp' (λ_ _ z=>kP.same w7 z) pd,tl,tm,.inl ⟨mm,rfl,ml,a6,λpt H8 s8 V6=>?_⟩⟩)))
    refine(aq rfl (jn (aM.of (s8 _ _ a7)) (ak (j:=0) (lK V6)) ⟨rfl,?_⟩));rw[cD rfl];exact q _ (w7.trans s8)
   refine(aq rfl (aq rfl ⟨wb,p,ts,g,_,t,rfl,rfl,hw.same YJ,PY,λH6 d s6 hd=>(aq rfl (?_))⟩))
   cases d with
   | false=>exact dN (cont _ H6 s6)
   | true =>
     have bb:=hd.mp rfl;have w6:=YJ.trans s6;have Se:=s6 _ _ IG;have short:∀(k:Nat) (Y:Nat×Nat),k∈U->G[k]?=some Y->lenOf ts Y.1<=lenOf ts t:=λk Y hk CH=>by
      refine aaC λhn=>?_
      have hm:(G.map (·.2))[k]?=some Y.2:=by rw[aai,CH];rfl
      have h1:=tp k _ hm;rw[cD hk,MO (op t PY bb) λx hx=>?_]at h1
      ·cases h1
      ·obtain⟨x1,x2⟩:=aas.mp hx;obtain⟨j,hj⟩:=aaI x1;rw[(mo.2 k _ hm).2 j x hj];refine dO λe=>hn ?_
       subst e;rw[aai,CH]at hj;cases hj;exact jR x2
     refine fK (aq rfl ⟨D,rfl,⟨_,aM.of Se⟩,λX hX=>bu (K:=K) (a:=D) (xs:=aA U) (λi acc H7=>au H6 H7/\H7 X=some (.lst [])/\acc=[]) ⟨au.new hX,ae,rfl⟩ ?_ (aaO (dS (by rw[aC];lia))) ?_ ?_⟩)
     ·rintro i acc H7 _ ⟨s7,Vi,rfl⟩;exact⟨aM.of (s7 _ _ Se),Vi,aaL _⟩
     ·rintro i x acc H7 hx ⟨s7,Vi,rfl⟩;obtain⟨k,ag,rfl⟩:∃k,U[i]?=some k/\x = .int (k:Int):=by
       unfold aA at hx;rw[aai]at hx;obtain⟨k,h1,h2⟩:=tD.mp hx;exact⟨k,h1,h2.symm⟩
      have a8:=iV ag;have mV:=pin k a8;have RS:ys[k]?=some (ys[k]'(by lia)):=aad _
      obtain⟨Y,CH,cd,cx,YI,aw⟩:=Paired.pA pd RS;rw[YI]at RS;have Wm:(G.map (·.1))[k]?=some Y.1:=by rw[aai,CH];rfl
      obtain⟨rg,R9⟩:=ob.ring Y.1 (iV Wm);have w7:=w6.trans s7;refine⟨rfl,aq rfl (aq rfl (aq rfl (cg (aR.of (w7 _ _ hb)) (ak (j:=k) RS) (cg (aR.of (w7 _ _ aw)) (ak (j:=0) rfl) ⟨wb,p,ts,g,_,Y.1,rfl,rfl,hw.same w7,R9,λH8 s8=>?_⟩))))⟩
      refine(aq rfl (aq rfl ⟨wb,p,ts,g,_,t,rfl,rfl,hw.same (w7.trans s8),PY,λH9 s9=>(cj (aq rfl (?_)))⟩))
      have:=short k Y a8 CH;rw[dO (by lia)]
      exact dN ⟨(s7.trans s8).trans s9,(s8.trans s9) _ _ Vi,rfl⟩
     rintro acc H7 ⟨s7,Vi,rfl⟩;refine(aq rfl ⟨dl rfl,λZ hZ=>?_⟩)
     have s8:au H7 (upd H7 Z (.lst [])):=au.new hZ;refine⟨_,_,.lst (aM.of (s8 _ _ Vi)) .nil,.lst (aM.of ae) .nil,rfl,rfl,aq rfl (?_)⟩;exact dN (cont _ _ ((s6.trans s7).trans s8))
def YK(l:List Int)(lo hi:Option Int):∃G : List Int,xj (l.map V.int) lo hi=G.map V.int/\G.length<=l.length:=by
 refine⟨_,A7 l lo hi,?_⟩;rw[aa0,acA]
 lia
def xg{p:Nat}{ts:List eO}{g:aD p ts}{m:Nat}(h:m<2^ts.length):RM.len g.N (bG ts) m=lenOf ts m:=(Eb h).symm
def MP{p:Nat}{ts:List eO}{g:aD p ts}{tr:List Sm}(lb:RM.LB g.N (bG ts) (tr.map (·.1)))(mo:MarksOf g.N (tr.map (·.1)) (tr.map (·.2.1))):Gu p ts g (tr.map λt=>(t.1,t.2.1)):=by
 have G:(tr.map λt=>(t.1,t.2.1)).map (·.1)=tr.map (·.1):=by rw[abl];rfl
 have O:(tr.map λt=>(t.1,t.2.1)).map (·.2)=tr.map (·.2.1):=by rw[abl];rfl
 refine⟨by rw[G];exact lb.1,by rw[G,O];exact mo,λr h1 h2=>?_⟩
 rw[G];refine(lb.parts h2 h1).mono λc hc=>.mem ?_
 obtain⟨I,U⟩:=aas.mp hc;refine aas.mpr ⟨I,?_⟩
 rwa [xg (lb.1.ring c I).2,xg h1]at U
def MQ{p:Nat}{ts:List eO}{g:aD p ts}{G:List (Nat×Nat)}(h:Gu p ts g G):G.length<=24/\∀t∈G,t.2<2^ts.length:=by
 obtain⟨ob,mo,_⟩:=h;refine⟨?_,λt ht=>?_⟩
 ·have h1:g.N.aB.length<=(List.range g.N.n).length:=aaP ..;rw[aav,<-ob.len,aaa]at h1;exact aaE h1 g.len
 ·obtain⟨i,hi⟩:=aaI ht;exact(mo.2 i t.2 (by rw[aai,hi];rfl)).1
def AF(K:bN)(tb:tY):Sp:=λvs H Q _=>∃(a:Addr) (ns:List Int),vs=[.ref a]/\aM K H a (ns.map V.int)/\ns.length<=63/\TabsAt tb H/\∀H',Q (.bl true) H'
def Vj:Ok T T.PJ 12 (AF K [(a.iS,qz "by_length",gR),(a.cO,qz "least_ways",cB)]):=by
 have tu:=tu T;have eI:=eI T;have bU:=bU T;have mH:=mH T;have iK:=iK T;have ku:=ku T;have dJ:=dJ T;refine T.PJ.ok pN λ_ A _ s H vs Q E hr h=>?_
 ·obtain⟨b,ns,rfl,hS,hn,hT,fin⟩:=h;have CH:=hT _ aam;have Mw:=hT _ (jt _ aam);refine⟨_,(ai (aF (i:=1) pN.nd rfl (Or.inl rfl) (aG tu hr T.sQ.c aK (aa (pv 0) (aa ah (aa ah af)))))
   (ai (aF (i:=2) pN.nd rfl (Or.inl rfl) (aG mH hr T.mq.c aK (aa (pv 1) af)))
   (ai (aF (i:=3) pN.nd rfl (Or.inl rfl) (aG eI hr T.iN.c aK (aa (pv 0) (aa ah af))))
   (ai (aF (i:=4) pN.nd rfl (Or.inl rfl) (aG iK hr T.iE.c aK (aa (pv 1) (aa (aI lD (pv 3) ah) af))))
   (ai (eK PassesOwn.never rfl (oH K (aI (Xd K) (pZ (VB K) (pv 0) (pY ah) (pY ah)) (dH (aa (pv 3) (aa (aG bU hr T.dB.c aK (aa (pv 3) (aa ah af))) (aa (aG bU hr T.dB.c aK (aa (pv 3) (aa ah af))) af)))))) (bq 5 pN.nd)
   (av (cA (PW.pt (pW (kB (cF (aG ku hr T.kr.c aK (aa (pv 1) (aa (pv 2) (aa (pv 5) af)))))) (m4 (kB (cF (aG ku hr T.kr.c aK (aa (pv 1) (aa (pv 4) (aa (pv 5) af))))))))) (av (aJ m3)) aZ)))
   (ai (aF (i:=6) pN.nd rfl (Or.inl rfl) (aI eM (aI jx ah (bW K T.cR (aa (aH (cf K) (pv 1) ah) af))) (aG bU hr T.dB.c aK (aa (pv 3) (aa ah af)))))
   (av (aJ (uS (cZ dm (aG dJ hr T.fV.c aK (aa (pv 1) (aa (pv 2) (aa (pv 6) af)))) iW (aO _)) (uR (cZ dm (aG dJ hr T.fV.c aK (aa (pv 1) (aa (pv 2) (aa (aI o8 (O3 Jy ah) (aI cG (pv 3) (aI Jv ah ah))) af)))) iW (aO _)))))))))))),?_⟩
  refine Rm ?_;intro cJ c7 dY fN gF nA tP yT;refine(aq rfl ⟨b,ns,9,5,rfl,hS,hn,by decide,λwb p ts H1 s1 g p2 p6 ag hw=>?_⟩)
  have h9:ts.length<=9:=ag;refine(aq rfl ⟨wb,p,ts,g,rfl,hw,s1 _ _ Mw,s1 _ _ CH,λbb ys tr H2 _ s2 uH pd lb _ mo _ _ _=>?_⟩)
  have ob:=MP lb mo;have pw:=MD pd;generalize (tr.map λt=>(t.1,t.2.1))=tw at ob pw
  obtain⟨tl,tm⟩:=MQ ob;have G:=s1.trans s2;refine(aq rfl ⟨b,ns,0,rfl,(by decide),G.seq hS,λI=>?_⟩)
  refine(aq rfl (aq rfl (cj ⟨⟨by decide,by decide⟩,wb,p,ts,g,_,rfl,hw.same s2,h9,G _ _ Mw,λba ya ta H3 s3 Xl pa oa=>?_⟩)))
  have sR:=G.trans s3;refine(aq rfl (aq rfl (aq rfl ⟨b,_,rfl,sR.seq hS,λc1 ar=>?_⟩)))
  obtain⟨k1,e1,n1⟩:=YK ns (some 1) (some 6);rw[e1];have u1:au H3 (upd H3 c1 (.lst (k1.map V.int))):=au.new ar;have Vk:upd H3 c1 (.lst (k1.map V.int)) c1=some (.lst (k1.map V.int)):=ae;generalize upd H3 c1 (.lst (k1.map V.int))=H4 at u1 Vk;refine(aq rfl (aq rfl ⟨_,4,rfl,(by decide),(by decide),λO _ _=>(aq rfl ⟨_,8,rfl,(by decide),(by decide),λU _ _=>⟨dl rfl,λc2 aw=>?_⟩⟩)⟩))
  have u2:au H4 (upd H4 c2 (.lst (([I,O,U]:List Int).map V.int))):=au.new aw;refine⟨c1,c2,_,_,rfl,rfl,aM.of (u2 _ _ Vk),aM.of ae,aaO (dS (by rw[aaa];show k1.length+3<=900;lia)),λc3 ax=>?_⟩
  have u3:au (upd H4 c2 (.lst (([I,O,U]:List Int).map V.int))) (upd (upd H4 c2 (.lst (([I,O,U]:List Int).map V.int))) c3 (.lst (k1.map V.int++([I,O,U]:List Int).map V.int))):=au.new ax;have Vl:upd (upd H4 c2 (.lst (([I,O,U]:List Int).map V.int))) c3 (.lst (k1.map V.int++([I,O,U]:List Int).map V.int)) c3=some (.lst (k1.map V.int++([I,O,U]:List Int).map V.int)):=ae;have aT:=(u1.trans u2).trans u3;refine⟨c3,rfl,⟨_,aM.of Vl⟩,eG (K:=K) (a:=c3) (xs:=k1.map V.int++([I,O,U]:List Int).map V.int) (λi σ AM=>∃v5,σ=[some (.ref b),some (.ref wb),some (.ref bb),some (.int I),some (.ref ba),v5,none]/\au H3 AM/\AM c3=some (.lst (k1.map V.int++([I,O,U]:List Int).map V.int))) (aq rfl ⟨aT,Vl⟩) (λi σ AM _ ⟨_,_,_,z⟩=>aM.of z) ?_ ?_⟩
  ·rintro i y D' σ AM hi ⟨v5,rfl,x1,Vm⟩;obtain⟨z,rfl⟩:∃z,y = .int z:=by
    rcases aaw.mp (iV hi) with h|h<;>obtain⟨z,_,rfl⟩:=aaz.mp h<;>exact⟨z,rfl⟩
   have Y:=s3.trans x1;refine(aq rfl (aq rfl (aq rfl ⟨wb,p,ts,g,bb,ys,tw,z,rfl,hw.same (s2.trans Y),Y _ _ uH,Paired.imp' (λ_ _ z=>kP.same Y z) pw,ob,λWi M7=>(aq rfl (dN ?_))⟩)))
   have Z:=x1.trans M7;refine(aq rfl (aq rfl (aq rfl ⟨wb,p,ts,g,ba,ya,ta,z,rfl,hw.same ((s2.trans s3).trans Z),Z _ _ Xl,Paired.imp' (λ_ _ z=>kP.same Z z) pa,oa,λa3 G=>(aq rfl (dN ?_))⟩)))
   exact(aq rfl ⟨Z.trans G,(M7.trans G) _ _ Vm⟩)
  ·rintro σ AM ⟨v5,rfl,x1,Vm⟩;obtain⟨bt,xs,h1,h2,h3⟩:=id hw.ex;have um:=h3.length;have Y:=s3.trans x1;have y1:=s2.trans Y;have w9:10^(40:Int).toNat=(10000000000000000000000000000000000000000:Int):=by decide
   refine(aq rfl (cg (aR.of (y1 _ _ h1)) (ak (j:=1) rfl) (oM rfl (.inr (aR.of (y1 _ _ h2))) (cj ⟨⟨by lia,by lia,by decide⟩,aq rfl ⟨_,5,rfl,(by decide),(by decide),λz5 a4 a5=>(cj (?_))⟩⟩))))
   refine(aq rfl (aq rfl (aq rfl ⟨wb,p,ts,g,bb,ys,tw,_,rfl,hw.same y1,Y _ _ uH,Paired.imp' (λ_ _ z=>kP.same Y z) pw,tl,tm,.inr ⟨?_,λWi M7=>?_⟩⟩)))
   ·rw[i9,um];refine .inr ?_;have e:((2^ts.length:Nat):Int)=2^ts.length:=by rw[Int.natCast_pow];rfl
    lia
   have Z:=Y.trans M7;refine⟨rfl,aq rfl (?_)⟩;rw[cD rfl];refine fK ?_;have m0:0<=I%10^(40:Int).toNat:=acE _ (by decide)
   refine(aq rfl (aq rfl (aq rfl (aq rfl (cj ⟨⟨by decide,by decide,by decide⟩,cj ⟨(show(0:Int)<10^(40:Int).toNat by decide),cj ⟨wb,p,ts,g,bb,ys,tw,_,rfl,hw.same (s2.trans Z),Z _ _ uH,Paired.imp' (λ_ _ z=>kP.same Z z) pw,tl,tm,.inr ⟨.inl (by lia),λa3 G=>⟨rfl,?_⟩⟩⟩⟩⟩)))))
   rw[cD rfl];exact fin _
end
section
variable {l:PySem.W.OpenLaw}{w:World}{K:bN}{h:Heap}{mg:mQ}{fa f0 f1 f2 f3 f4 f5 f6 f7 f8 f9 f10 f11 f12 f13 f14 f15 f16 f17 f18 f19 f20 f21 f22 f23 f24 f25 f26 f27 f28 f29 f30 f31 f32 f33 f34 f35 f36 f37 f38 f39 f40 f41 f42 f43 f44 f45 f46 f47 f48 f49 f50 f51 f52 f53 f54 f55 f56 f57 f58 f59 f60 Wn dG ck mP lA nR aY qS fH o4 eJ:Addr}{d0 d1 d2 d3 d4 d5 d6 d7 d8 d9 d10 d11 d12 d13 d14 d15 d16 d17 d18 d19 d20 d21 d22 d23 d24 d25 d26 d27 d28 d29 d30 d31 d32 d33 d34 d35 d36 d37 d38 d39 d40 d41 d42 d43 d44 d45 d46 d47 d48 d49 d50 d51 d52 d53 d54 d55 d56 d57 d58 d59 d60 d61:FuncData}{ts:List Addr}
open PySem.W
def all_mk(X:K.In h)(G:h.Ns mainGlobals mg)(hfa:mg "law"=some (.ref fa))(te:ts=[fH,eJ])
 (d_RingError:nsIn K mainGlobals "RingError"=some (some (.ref dG)))
 (d_BadSet:nsIn K mainGlobals "BadSet"=some (some (.ref ck)))
 (d_BadPoint:nsIn K mainGlobals "BadPoint"=some (some (.ref mP)))
 (d_NoChord:nsIn K mainGlobals "NoChord"=some (some (.ref lA)))
 (d_NoBase:nsIn K mainGlobals "NoBase"=some (some (.ref nR)))
 (d_NotEven:nsIn K mainGlobals "NotEven"=some (some (.ref aY)))
 (xc_BadSet:excIn K ck [.type "ValueError",.type "Exception",.type "BaseException",.type "object"] "ValueError.__new__"=true)
 (ea_BadSet:findIn K (.ref ck) "__getattribute__"=some (some (.builtin "BaseException.__getattribute__"))) (eb_BadSet:findIn K (.ref ck) "__getattr__"=some none)
 (ec_BadSet:findIn K (.ref ck) "__class__"=some (some (.builtin "object.__class__"))) (ed_BadSet:specialIn K (.builtin "object.__class__") "__get__"=some (some (.builtin "getset_descriptor.__get__")))
 (ee_BadSet:takesIn K (.builtin "object.__class__")=some true) (ef_BadSet:mroIn K ck (.type "object")=some true) (eg_BadSet:hasDictIn K ck=true) (eh_BadSet:mroIn K ck (.type "BaseException")=some true)
 (hx_BadSet:exmOne K (.ref ck) (.ref dG)=some true)
 (qv_BadSet:kitOne K (.ref ck) (.type "ValueError")=some true)
 (q_BadSet_BadSet:kitOne K (.ref ck) (.ref ck)=some true)
 (q_BadSet_BadPoint:kitOne K (.ref ck) (.ref mP)=some false)
 (q_BadSet_NoChord:kitOne K (.ref ck) (.ref lA)=some false)
 (q_BadSet_NoBase:kitOne K (.ref ck) (.ref nR)=some false)
 (q_BadSet_NotEven:kitOne K (.ref ck) (.ref aY)=some false)
 (xc_NoChord:excIn K lA [.type "ValueError",.type "Exception",.type "BaseException",.type "object"] "ValueError.__new__"=true)
 (xc_NoBase:excIn K nR [.type "ValueError",.type "Exception",.type "BaseException",.type "object"] "ValueError.__new__"=true)
 (ea_NotEven:findIn K (.ref aY) "__getattribute__"=some (some (.builtin "BaseException.__getattribute__"))) (eb_NotEven:findIn K (.ref aY) "__getattr__"=some none)
 (ec_NotEven:findIn K (.ref aY) "__class__"=some (some (.builtin "object.__class__"))) (ed_NotEven:specialIn K (.builtin "object.__class__") "__get__"=some (some (.builtin "getset_descriptor.__get__")))
 (ee_NotEven:takesIn K (.builtin "object.__class__")=some true) (ef_NotEven:mroIn K aY (.type "object")=some true) (eg_NotEven:hasDictIn K aY=true) (eh_NotEven:mroIn K aY (.type "BaseException")=some true)
 (hx_NotEven:exmOne K (.ref aY) (.ref dG)=some true)
 (qv_NotEven:kitOne K (.ref aY) (.type "ValueError")=some true)
 (q_NotEven_BadSet:kitOne K (.ref aY) (.ref ck)=some false)
 (q_NotEven_BadPoint:kitOne K (.ref aY) (.ref mP)=some false)
 (q_NotEven_NoChord:kitOne K (.ref aY) (.ref lA)=some false)
 (q_NotEven_NoBase:kitOne K (.ref aY) (.ref nR)=some false)
 (q_NotEven_NotEven:kitOne K (.ref aY) (.ref aY)=some true)
 (xc_RingError:excIn K dG [.type "ValueError",.type "Exception",.type "BaseException",.type "object"] "ValueError.__new__"=true)
 {CS Ff:Str} {Fg:Addr} {CT AG:List Value} {CU CV:Bool} {CW:List Str} {AH:Option Bool} {CY:Option Addr} {CZ C1 C3 C4 C5:Option Value}
 (xi_NotEven:findIn K (.ref aY) "__init__"=some (some (.ref Wn))) (xb_NotEven:isFn K (.ref Wn)=true) (a61:JM K "__init__" "NotEven.__init__" jL Wn d61)
 (xo_NotEven:K.lookup aY=some (excClassObj CS Ff aY Fg CT (.ref dG::D7) CU CW AG CV AH CY CZ C1 C3 C4 C5 "ValueError.__new__")) (xk_NotEven:keepIn K (.ref aY)=true)
 (xs_NotEven:findIn K (.ref aY) "__setattr__"=some (some (.builtin "object.__setattr__"))) (xt_NotEven:takerIn K aY "point"=some none) (xd_NotEven:hasDictIn K aY=true) (xf_NotEven:findIn K (.ref aY) "point"=some none)
 (xr_NotEven:readsIn K dG (.type "type")=true) (xj_NotEven:findCls K (.ref dG) (.type "type") "__init__"=some (.val (.builtin "ValueError.__init__"))) (xg_NotEven:specialIn K (.ref dG) "__getattribute__"=some (some (.builtin "type.__getattribute__")))
 (nt:noTabs K=true) (pn:([fH,eJ]:List Addr).Nodup) (pi:∀p∈([fH,eJ]:List Addr),p∈ts)
 (a0:Dk K "has_tie" rS f0 d0)
 (a1:Dk K "ties_in" om f1 d1)
 (a2:Dk K "set_of" wm f2 d2)
 (a3:Dk K "all_ties" pL f3 d3)
 (a4:Dk K "is_set" wq f4 d4)
 (a5:Dk K "check_set" ny f5 d5)
 (a6:Dk K "triples_in" je f6 d6)
 (a7:Dk K "length_of" kc f7 d7)
 (a8:Dk K "odd_points" jf f8 d8)
 (a9:Dk K "drawn_together" fu f9 d9)
 (X0:Dk K "pieces" qC f10 d10)
 (X3:Dk K "rank" Et f11 d11)
 (X4:Dk K "is_even" rT f12 d12)
 (a13:Dk K "check_even" lP f13 d13)
 (a14:Dk K "forest_trails" fX f14 d14)
 (a15:Dk K "forest" wu f15 d15)
 (a16:Dk K "chords" wA f16 d16)
 (a17:Dk K "ring_closed" kE f17 d17)
 (a18:Dk K "chord_ring" lQ f18 d18)
 (a19:Dk K "is_ring" oz f19 d19)
 (a20:Dk K "is_ring_number" iq f20 d20)
 (U:Rj K "by_length" kg f21 d21 qS fH)
 (a22:Dk K "common" wC f22 d22)
 (a23:Dk K "bears_oddly" kF f23 d23)
 (a24:Dk K "is_side" rW f24 d24)
 (a25:Dk K "cut_of" qF f25 d25)
 (a26:Dk K "side_of" oA f26 d26)
 (a27:Dk K "steps_by_point" fB f27 d27)
 (Y:Rj K "least_ways" gU f28 d28 o4 eJ)
 (a29:Dk K "length_of_way" iZ f29 d29)
 (a30:Dk K "worths_of_ways" fC f30 d30)
 (a31:Dk K "all_least_ways" fD f31 d31)
 (a32:Dk K "worths_of_all" fY f32 d32)
 (a33:Dk K "worths_for" lT f33 d33)
 (a34:Dk K "least_odd" kh f34 d34)
 (a35:Dk K "reduced" rZ f35 d35)
 (a36:Dk K "with_row" pM f36 d36)
 (a37:Dk K "rows_of" r6 f37 d37)
 (a38:Dk K "is_base" oB f38 d38)
 (a39:Dk K "marks_for" ki f39 d39)
 (a40:Dk K "least_rings" fR f40 d40)
 (a41:Dk K "least_base" jh f41 d41)
 (a42:Dk K "parts_by" lV f42 d42)
 (a43:Dk K "_law_cell_at" kH f43 d43)
 (a44:Dk K "_law_mixed" nE f44 d44)
 (a45:Dk K "_law_length" lX f45 d45)
 (a46:Dk K "_law_tie" r9 f46 d46)
 (a47:Dk K "_law_web" iw f47 d47)
 (a48:Dk K "_law_whole" nF f48 d48)
 (a49:Dk K "_law_counts" lZ f49 d49)
 (a50:Dk K "_law_pieces" gV f50 d50)
 (a51:Dk K "_law_even" l6 f51 d51)
 (a52:Dk K "_law_ring" jJ f52 d52)
 (a53:Dk K "_law_long" l7 f53 d53)
 (a54:Dk K "_law_added" nG f54 d54)
 (a55:Dk K "_law_chosen" ji f55 d55)
 (a56:Dk K "_law_other_base" cU f56 d56)
 (a57:Dk K "_law_side_cut" jK f57 d57)
 (a58:Dk K "_law_refusal" kJ f58 d58)
 (a59:Dk K "_law_right" eZ f59 d59)
 (Z:Dk K "law" LY f60 d60)
 (AI:Ng K "ValueError")
 (Vn:Ng K "all")
 (RT:Ng K "bool")
 (C6:Ng K "enumerate")
 (Vo:Ng K "int")
 (AJ:Ng K "isinstance")
 (Vp:Ng K "len")
 (RU:Ng K "list")
 (Vq:Ng K "max")
 (Vr:Ng K "min")
 (OY:Ng K "range")
 (Vs:Ng K "set")
 (MR:Ng K "sorted")
 (Vt:Ng K "sum")
 (OZ:Ng K "tuple")
 (Vu:Ng K "zip")
 : ∃(fd:FuncData) (tb:tY),((tb.map (·.1)).Nodup/\noTabs K=true/\∀p∈tb,p.1∈ts/\∃c,codeHdIn K c p.1=true)/\(∀(s:Shared) (v:Value),BindsTo s fd ⟨[v],[]⟩ [("script",v)])/\∀base:Heap,K.In base->base.Ns mainGlobals mg->lE l.prog w K mg base De 12 fa fd ["script"] (AF K tb):=by
 have e:=hfa.symm.trans (mg_of X G Z.n);cases e;have T:∀base,Txt l.prog w base K mg ⟨f0,_,f1,_,f2,_,f3,_,f4,_,f5,_,f6,_,f7,_,f8,_,f9,_,f10,_,f11,_,f12,_,f13,_,f14,_,f15,_,f16,_,f17,_,f18,_,f19,_,f20,_,f21,_,f22,_,f23,_,f24,_,f25,_,f26,_,f27,_,f28,_,f29,_,f30,_,f31,_,f32,_,f33,_,f34,_,f35,_,f36,_,f37,_,f38,_,f39,_,f40,_,f41,_,f42,_,f43,_,f44,_,f45,_,f46,_,f47,_,f48,_,f49,_,f50,_,f51,_,f52,_,f53,_,f54,_,f55,_,f56,_,f57,_,f58,_,f59,_,fa,_,Wn,_,dG,ck,mP,lA,nR,aY,qS,fH,o4,eJ⟩:=λ_=>⟨mU X G a0,Ep X G a1,mU X G a2,Ep X G a3,mU X G a4,mU X G a5,mU X G a6,mU X G a7,mU X G a8,Rk X G a9,mU X G X0,Ep X G X3,mU X G X4,mU X G a13,Ep X G a14,Ep X G a15,Ep X G a16,Rk X G a17,mU X G a18,mU X G a19,mU X G a20,dl2 X G U,mU X G a22,mU X G a23,mU X G a24,mU X G a25,mU X G a26,mU X G a27,dl3 X G Y,Ep X G a29,Ep X G a30,mU X G a31,Ep X G a32,mU X G a33,mU X G a34,mU X G a35,mU X G a36,Ep X G a37,mU X G a38,mU X G a39,Ep X G a40,Ep X G a41,Rk X G a42,mU X G a43,mU X G a44,mU X G a45,Rk X G a46,Rk X G a47,Ep X G a48,mU X G a49,mU X G a50,mU X G a51,mU X G a52,mU X G a53,mU X G a54,Ep X G a55,mU X G a56,mU X G a57,Rk X G a58,Rk X G a59,Ep X G Z,a61,⟨⟨_,_,_,_,_,_,_,_,_,_,_,_,_,_,_,xo_NotEven⟩,xi_NotEven,xb_NotEven,xk_NotEven,xs_NotEven,xt_NotEven,xd_NotEven,xf_NotEven,xr_NotEven,xj_NotEven,xg_NotEven⟩,a61.binds (λ_ _ _ _ _ _ us hl=>by obtain⟨_,_,_,rfl⟩:=T3 us hl;rfl),abB X G AI.n,abB X G Vn.n,abB X G RT.n,abB X G C6.n,abB X G Vo.n,abB X G AJ.n,abB X G Vp.n,abB X G RU.n,abB X G Vq.n,abB X G Vr.n,abB X G OY.n,abB X G Vs.n,abB X G MR.n,abB X G Vt.n,abB X G OZ.n,abB X G Vu.n,mg_of X G d_RingError,mg_of X G d_BadSet,mg_of X G d_BadPoint,mg_of X G d_NoChord,mg_of X G d_NoBase,mg_of X G d_NotEven,λh1 I O=>zk I O d_BadSet xc_BadSet,⟨ea_BadSet,eb_BadSet,ec_BadSet,ed_BadSet,ee_BadSet,ef_BadSet,eh_BadSet,JZ eg_BadSet⟩,hx_BadSet,qv_BadSet,q_BadSet_BadSet,q_BadSet_BadPoint,q_BadSet_NoChord,q_BadSet_NoBase,q_BadSet_NotEven,λh1 I O=>zk I O d_NoChord xc_NoChord,λh1 I O=>zk I O d_NoBase xc_NoBase,⟨ea_NotEven,eb_NotEven,ec_NotEven,ed_NotEven,ee_NotEven,ef_NotEven,eh_NotEven,JZ eg_NotEven⟩,hx_NotEven,qv_NotEven,q_NotEven_BadSet,q_NotEven_BadPoint,q_NotEven_NoChord,q_NotEven_NoBase,q_NotEven_NotEven,λh1 I O=>zk I O d_RingError xc_RingError⟩
 exact⟨_,[(fH,qz "by_length",gR),(eJ,qz "least_ways",cB)],⟨pn,nt,λp hp=>⟨pi _ (ack (f:=(·.1)) hp),by simp only[aaq,ab3,or_false]at hp;rcases hp with rfl | rfl;all_goals first | exact⟨_,U.F.hd⟩ | exact⟨_,Y.F.hd⟩⟩⟩,Rl Z,λbase _ _=>Vj (T base)⟩
end
def walk{l:PySem.W.OpenLaw}{q:Program}{loose:List Str}{XP:(Str->Option Value)->Heap->Prop}{YP:World->Heap->Prop}{d:DefRec}{K:Params->bN}{ts:List Addr}(hn:l.most=some 63)(To:d.params.defaults=[])
 (hY:∀(w:World) (h:Heap),YP w h->(K w.params).In h/\∀P∈ts,h.get? P=some (PySem.W.tabObj #[]))
 (F:∀(w:World) (mg:mQ) (fa:Addr) (h:Heap),(K w.params).In h->h.Ns mainGlobals mg->mg d.name=some (.ref fa)->
  ∃(fd:FuncData) (tb:tY),((tb.map (·.1)).Nodup/\PySem.W.noTabs (K w.params)=true/\∀p∈tb,p.1∈ts/\∃c,PySem.W.codeHdIn (K w.params) c p.1=true)/\(∀(s:Shared) (u:Value),BindsTo s fd ⟨[u],[]⟩ [("script",u)])/\∀base:Heap,(K w.params).In base->base.Ns mainGlobals mg->lE l.prog w (K w.params) mg base De 12 fa fd ["script"] (AF (K w.params) tb)) :
 PySem.W.WalkO q loose XP YP l.row.toRowW d [] (λf vs=>PySem.call f vs) :=
 L2.Ly (n:=63) (k:=12) (x:="script") (CX:=λ_=>De) (sp:=λw=>AF (K w.params)) hn (by decide) To ⟨rfl,by decide,by decide⟩ hY F (λ_ _ a ns tb G I O=>⟨a,ns,rfl,O,G,I,λ_=>rfl⟩) λ_ _ _ _ _ z=>z
end K31
namespace PySem.W.Fast
def tw2344270546637349851:=()
def tw15245156284791664777:=()
def tw13177613947786585948:=()
def tw6202707370635856681:=()
def tw10224356969749390500:=()
def tw9405628459298379175:=()
def tw2397262612933082445:=()
def tw14363342157962638566:=()
def tw9697189983969820769:=()
def tw8944460165397402115:=()
def tw8250374419323676100:=()
def tw9607598427204226660:=()
def tw658373405567281715:=()
def tw16456345557584262639:=()
def tw17973654080070059270:=()
def tw12180999784472252224:=()
def tw12943840539259881262:=()
def tw12471846955013221079:=()
def tw1656151424712672235:=()
def tw3333122943372401335:=()
def tw8325380367739936543:=()
def tw10907494721653848904:=()
def tw14543623484160708619:=()
def tw6331609650284299544:=()
def tw3613958597373612439:=()
def tw8379907547210705996:=()
def tw13266748837205607717:=()
def tw9672869611812449037:=()
def tw917409139638105460:=()
def tw12507838932060254983:=()
def tw3456393156260658015:=()
def tw10270269516980985011:=()
def tw10344239034815026613:=()
def tw15835210730564134657:=()
def tw8309707826775292768:=()
def tw957865163687262988:=()
def tw9604554465832677923:=()
def tw16314016259784123672:=()
def tw14119246479849077308:=()
def tw4651376700914214335:=()
def tw11335668913197259721:=()
def tw1769115677553299071:=()
def tw56216964516625426:=()
def tw16596776242225799235:=()
def tw3401148379629850696:=()
def tw3193573700046518097:=()
def tw13258169487933960961:=()
def tw268314584704682853:=()
def tw14182272676819678978:=()
def tw11352964409553125602:=()
def tw9305490604219722933:=()
def tw8195597924869789946:=()
def tw10387414191025099274:=()
def tw16297932793667747154:=()
def tw4742262949440860096:=()
def tw9790266906882654786:=()
def tw5697135325301152748:=()
def tw7607088933575422973:=()
def tw16872445847647138166:=()
def tw1509225213879052992:=()
def tw17951826063291883407:=()
def tw6286459082866624730:=()
def tw876526353548674990:=()
def tw12726715723284113316:=()
def tw10553324648149143657:=()
def tw9164022672305048127:=()
def tw5470551307419640010:=()
def tw16650107034600672974:=()
def tw14626728516631167805:=()
def tw6051044751268984575:=()
def tw4346776344343776753:=()
def tw13051393070586896515:=()
def tw6450763219796324242:=()
def tw13465986143106492049:=()
def tw16915538370740875387:=()
def tw9262672387309378531:=()
def tw4752459949150359629:=()
def tw8555531111266928360:=()
def tw12198286838501685014:=()
def tw4392873796660406024:=()
def tw13581922154272723619:=()
def tw12327499613228703712:=()
def tw18149501929116944156:=()
def tw12012911238405307779:=()
def tw18065009362547563776:=()
def tw3241726541332788544:=()
def tw11064356278608632076:=()
def tw6510396136071757366:=()
def tw6231868018451709994:=()
def tw9862752896900939144:=()
def tw7811697240942293082:=()
def tw2810855116641504096:=()
def tw13718742952004364063:=()
def tw8765392391260898817:=()
def tw7563720070520603422:=()
def tw10177495138340674120:=()
def tw1303338720271256647:=()
def tw3653961414106573274:=()
end PySem.W.Fast
open PySem PySem.W PyProof.Rows
set_option maxRecDepth 100000 in
set_option maxHeartbeats 0 in
theorem PySem.Challenge.cw_ringbase_k31_parts_of_even_sets_holds : PySem.Challenge.rw_ringbase_k31_parts_of_even_sets.Holds := by
 w_on;o_law;k_head;(case hw=>w_witness2)
 k_fill
 refine K31.walk (l:=PySem.Challenge.rw_ringbase_k31_parts_of_even_sets) rfl rfl (fun w h Y=>⟨PySem.W.km_in_of Y,PySem.W.km_tabs_of Y⟩) ?F
 case F =>
  intro w mg fa h KX G hmg;refine' K31.all_mk KX G hmg ?te ?d_RingError ?d_BadSet ?d_BadPoint ?d_NoChord ?d_NoBase ?d_NotEven ?xc_BadSet ?ea_BadSet ?eb_BadSet ?ec_BadSet ?ed_BadSet ?ee_BadSet ?ef_BadSet ?eg_BadSet ?eh_BadSet ?hx_BadSet ?qv_BadSet ?q_BadSet_BadSet ?q_BadSet_BadPoint ?q_BadSet_NoChord ?q_BadSet_NoBase ?q_BadSet_NotEven ?xc_NoChord ?xc_NoBase ?ea_NotEven ?eb_NotEven ?ec_NotEven ?ed_NotEven ?ee_NotEven ?ef_NotEven ?eg_NotEven ?eh_NotEven ?hx_NotEven ?qv_NotEven ?q_NotEven_BadSet ?q_NotEven_BadPoint ?q_NotEven_NoChord ?q_NotEven_NoBase ?q_NotEven_NotEven ?xc_RingError ?xi_NotEven ?xb_NotEven ?a61 ?xo_NotEven ?xk_NotEven ?xs_NotEven ?xt_NotEven ?xd_NotEven ?xf_NotEven ?xr_NotEven ?xj_NotEven ?xg_NotEven ?nt ?pn ?pi ..
  (case te=>exact rfl)
  (case d_RingError=>k_is)
  (case d_BadSet=>k_is)
  (case d_BadPoint=>k_is)
  (case d_NoChord=>k_is)
  (case d_NoBase=>k_is)
  (case d_NotEven=>k_is)
  (case xi_NotEven=>k_is)
  (case xb_NotEven=>k_is)
  (case xo_NotEven=>k_is)
  (case xk_NotEven=>k_is)
  (case xs_NotEven=>k_is)
  (case xt_NotEven=>k_is)
  (case xd_NotEven=>k_is)
  (case xf_NotEven=>k_is)
  (case xr_NotEven=>k_is)
  (case xj_NotEven=>k_is)
  (case xg_NotEven=>k_is)
  (case a61=>refine' L2.JN ?gl ?gc ?gk;(case gl=>k_is);(case gc=>k_is);(case gk=>k_is))
  any_goals (refine' L2.dk ?ga ?gl ?gc ?gk;(case ga=>k_is);(case gl=>k_is);(case gc=>k_is);(case gk=>k_is))
  any_goals (refine' L2.dkL ?ga ?gl ?gc ?gk ?gd;(case ga=>k_is);(case gl=>k_is);(case gd=>kernel_rfl);(case gc=>k_is);(case gk=>k_is))
  any_goals (refine' L2.Ng.mk ?ga;(case ga=>k_is))
  (case xc_BadSet=>k_exc)
  (case ea_BadSet=>k_is)
  (case eb_BadSet=>k_is)
  (case ec_BadSet=>k_is)
  (case ed_BadSet=>k_is)
  (case ee_BadSet=>k_is)
  (case ef_BadSet=>k_is)
  (case eg_BadSet=>k_is)
  (case eh_BadSet=>k_is)
  (case hx_BadSet=>kts_exm)
  (case qv_BadSet=>kit_is)
  (case q_BadSet_BadSet=>kit_is)
  (case q_BadSet_BadPoint=>kit_is)
  (case q_BadSet_NoChord=>kit_is)
  (case q_BadSet_NoBase=>kit_is)
  (case q_BadSet_NotEven=>kit_is)
  (case xc_NoChord=>k_exc)
  (case xc_NoBase=>k_exc)
  (case ea_NotEven=>k_is)
  (case eb_NotEven=>k_is)
  (case ec_NotEven=>k_is)
  (case ed_NotEven=>k_is)
  (case ee_NotEven=>k_is)
  (case ef_NotEven=>k_is)
  (case eg_NotEven=>k_is)
  (case eh_NotEven=>k_is)
  (case hx_NotEven=>kts_exm)
  (case qv_NotEven=>kit_is)
  (case q_NotEven_BadSet=>kit_is)
  (case q_NotEven_BadPoint=>kit_is)
  (case q_NotEven_NoChord=>kit_is)
  (case q_NotEven_NoBase=>kit_is)
  (case q_NotEven_NotEven=>kit_is)
  (case xc_RingError=>k_exc)
  (case nt=>kernel_rfl)
  (case pn=>decide)
  (case pi=>decide)
