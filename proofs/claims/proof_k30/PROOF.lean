import PyProof.Rows.All
import Wide.All
import OpenK.AllK
import Wide.FinOn
import Lean
import PyProof.EqAt
import PyProof.EqKinds
import PyProof.TupleCall
import PySem.Challenge.RW_ringbase_k30_bases_judged
set_option Elab.async false
set_option linter.all false
set_option bootstrap.genMatcherCode false
set_option compiler.extract_closed false
set_option maxRecDepth 100000
set_option hygiene false
local macro_rules
|`(0#$x)=>`(af rfl (af rfl $x))
|`(1#$x)=>`(some (.lst $x))
|`(2#0)=>`(m.testBit k)
|`(3#$x)=>`(some (.int $x))
|`(4#0)=>`(λ_ A _ s H vs Q E hr h=>?_)
|`(5#$x)=>`(θ X pq σ H $x)
|`(6#$x)=>`((($x :Nat):Int))
|`(7#$x)=>`(decide ($x))
|`(8#$x)=>`(λ_ _ _ _=>$x)
|`(9#0)=>`(model X.prog X.w)
|`(10#$x)=>`(some (.tup $x))
|`(11#$x)=>`(some (.ref $x))
|`(12#0)=>`(by intro z;cases z)
|`(13#$x)=>`(List.range $x)
|`(14#$x)=>`(af rfl $x)
|`(15#$x)=>`(47#(af rfl $x))
|`(16#0)=>`(by decide)
|`(17#0)=>`(2^ts.length)
|`(18#$x)=>`(Option.some.inj $x)
|`(19#$x)=>`($x s.heap.objs.size)
|`(20#$x)=>`(N.aO (λk=>2#0) N.n $x)
|`(21#$x)=>`(starEach $x X.env)
|`(22#$x)=>`(s.heap.get? b=some $x)
|`(23#0)=>`(List Value)
|`(24#$x)=>`(⟨_,aM.of $x ⟩)
|`(25#0)=>`(cA K (pv 0))
|`(tactic|show 26)=>`(tactic|(rcases h!.mp hp with rfl|hp))
|`(27#$x)=>`(if $x=true then 1 else 0)
|`(28#$x)=>`(af rfl $x)
|`(29#$x)=>`(⟨dl rfl,$x ⟩)
|`(30#$x)=>`(bq K T.bT (bE $x))
|`(31#0)=>`(by simp)
|`(32#$x)=>`(wpAny (model prog w) A $x Q E s)
|`(33#$x)=>`(s.heap.push $x)
|`(34#0)=>`(by trivial)
|`(35#$x)=>`(Builtin.Int.intBits $x)
|`(36#$x)=>`(aL.of ($x))
|`(37#$x)=>`(X.env.cells.lookup $x=some c)
|`(tactic|show 38)=>`(tactic|(obtain⟨bt,xs,h1,h2,h3⟩:=id hw.ex))
|`(39#$x)=>`($x pq s σ H _ I h)
|`(40#$x)=>`(.int ($x :Int))
|`(41#$x)=>`($x λq=>V.ref q.1)
|`(42#0)=>`(Array Value)
|`(43#$x)=>`((false,eval $x X.env))
|`(44#$x)=>`(aS (by rfl) T.bH (bE $x))
|`(45#$x)=>`(h'.get? b=some $x)
|`(46#$x)=>`(.lst ($x))
|`(47#$x)=>`(⟨rfl,$x ⟩)
|`(48#$x)=>`($x X params body scope c ctv)
|`(49#$x)=>`(($x).objs.size)
|`(50#$x)=>`(List (List Key×$x))
|`(51#$x)=>`(bS (pv 0) $x)
|`(52#$x)=>`(wpAny_bind $x)
|`(53#$x)=>`(X.env.scope.names.lookup $x)
|`(54#$x)=>`(List.replicate p $x)
|`(55#0)=>`(Option Int)
|`(56#$x)=>`($x<=sizeLine)
|`(57#$x)=>`(let b8:=nu;let cB:=om;$x)
|`(58#$x)=>`(($x).length)
|`(59#0)=>`(Nat->Bool)
|`(60#0)=>`(λz=>nomatch z)
|`(61#$x)=>`($x==NameKind.free&&env.scope.kind == .function&&env.kindOf n==some .cell)
|`(62#$x)=>`($x _ (.head _))
|`(63#$x)=>`(wpAny _ X.A.in1 $x _ _ _)
|`(64#$x)=>`($x->Shared->Prop)
|`(65#0)=>`(λ_ _ _ _=>aV)
|`(66#$x)=>`(by rw[ao $x];exact q)
|`(67#$x)=>`(scope.names.lookup $x)
|`(68#$x)=>`(⟨ah.new $x,aa,rfl⟩)
|`(69#$x)=>`(($x).testBit j)
|`(70#0)=>`(List Addr)
|`(71#$x)=>`($x b=some o)
|`(tactic|show 72)=>`(tactic|(intro pq s σ H Q I h))
|`(73#0)=>`(bF H w p ts)
|`(74#$x)=>`(λ_ _ z=>z.tups $x)
|`(tactic|show 75)=>`(tactic|(intro pq s σ H x y v u Q I rx ry h))
|`(76#$x)=>`($x ≠X.env.locals)
|`(77#$x)=>`($x mainGlobals mg)
|`(78#$x)=>`(if $x=true then _ else _)
|`(tactic|show 79)=>`(tactic|(obtain⟨t',rfl⟩:=ry))
|`(80#0)=>`(λ_ _=>False)
|`(81#0)=>`(Option Value)
|`(82#0)=>`(fk items.size 0 lo)
|`(83#0)=>`(by with_unfolding_all rfl)
|`(84#$x)=>`(λvs H Q _=>∃w p ts,∃g:aE p ts,$x)
|`(85#$x)=>`(Paired.imp' $x pr)
|`(86#$x)=>`(Obj.mapSeq $x)
|`(87#0)=>`(fk items.size items.size hi)
|`(tactic|show 88)=>`(tactic|(repeat (any_goals (first | assumption | wp_step))))
|`(89#0)=>`(eO X.env.cells scope.names [])
|`(90#0)=>`(q.testBit k)
|`(91#$x)=>`(.inl ⟨rfl,_,aM.of $x ⟩)
abbrev cH:=@decide_eq_true
abbrev eV:=@decide_eq_false
abbrev jz:=@of_decide_eq_true
abbrev jL:=@List.mem_append_right
abbrev lG:=@List.mem_cons_of_mem
abbrev gB:=@List.mem_of_getElem?
abbrev Vp:=@Bool.eq_false_iff
abbrev j7:=@List.getElem?_eq_some_iff
abbrev qC:=@Option.map_eq_some_iff
abbrev Lf:=@List.mem_append_left
abbrev VX:=@Bool.and_eq_true_iff
abbrev aW:=List (PySem.Addr×PySem.Obj)
abbrev eG:=PySem.Value->PySem.Shared->Prop
abbrev oA:=PySem.Str->Option PySem.Value
abbrev b7:=PySem.W.Frag
abbrev χ:=@List.length_map
abbrev ξ:=@if_neg
abbrev i!:=@List.getElem?_eq_getElem
abbrev a!:=@Int.toNat_natCast
abbrev ο:=@if_pos
abbrev Z':=@Nat.le_refl
abbrev Ω:=@PySem.wpAny_pure
abbrev l!:=@PySem.Heap.get?_push_of_some
abbrev c!:=@List.getElem?_map
abbrev e!:=@Bool.false_ne_true
abbrev w!:=@List.getD_eq_getElem?_getD
abbrev k!:=@List.length_append
abbrev g!:=@List.map_append
abbrev b!:=@PySem.Heap.lt_size
abbrev o!:=@List.mem_cons_self
abbrev p!:=@List.mem_singleton
abbrev j!:=@Nat.testBit_xor
abbrev r!:=@List.size_toArray
abbrev h!:=@List.mem_cons
abbrev d!:=@List.mem_map
abbrev x!:=@Nat.lt_of_lt_of_le
abbrev t!:=@List.mem_append
abbrev y!:=@List.length_range
abbrev E!:=@PySem.Heap.get?_push_size
abbrev G!:=@Nat.testBit_two_pow
abbrev q!:=@Nat.ne_of_lt
abbrev C!:=@List.mem_filter
abbrev A!:=@List.mem_range
abbrev H!:=@List.take_length
abbrev N!:=@List.getElem?_of_mem
abbrev I!:=@List.length_take
abbrev v!:=@Nat.zero_le
abbrev Z!:=@Classical.byContradiction
abbrev B!:=@Nat.le_of_lt
abbrev F!:=@List.map_cons
abbrev D!:=@Nat.le_trans
abbrev n!:=@congrArg
abbrev L!:=@Bool.and_eq_true
abbrev M!:=@List.filter_cons
abbrev U!:=@List.length_singleton
abbrev g?:=@PySem.F.plainAttrs_list
abbrev z!:=@PySem.wpAny_mono
abbrev b?:=@List.length_filter_le
abbrev J!:=@PySem.wpAny_holding
abbrev m?:=@List.getElem?_append_left
abbrev d?:=@Nat.eq_of_testBit_eq
abbrev Q!:=@List.take_add_one
abbrev A?:=@List.getElem?_append_right
abbrev P!:=@List.length_cons
abbrev n?:=@PySem.F.slot_list_append
abbrev o?:=@PySem.F.type_list_append
abbrev O!:=@List.nodup_cons
abbrev V!:=@Nat.xor_lt_two_pow
abbrev q?:=@Nat.testBit_lt_two_pow
abbrev r?:=@PySem.F.plain_min_loop
abbrev i?:=@PySem.Heap.SameBut.update
abbrev R!:=@Nat.two_pow_pos
abbrev K!:=@Int.zero_add
abbrev j?:=@decide_eq_true_iff
abbrev u!:=@Ne.symm
abbrev I?:=@PyProof.Rows.boot_tuple
abbrev W!:=@Bool.eq_iff_iff
abbrev T!:=@Bool.xor_false
abbrev B?:=@Nat.pow_le_pow_right
abbrev M?:=@PySem.Heap.get?_update_other
abbrev l?:=@Nat.not_lt_zero
abbrev h_:=@PyProof.Rows.callWith_type1
abbrev X!:=@List.map_map
abbrev N?:=@Array.length_toList
abbrev O?:=@PySem.mem_of_lookup
abbrev a_:=@Int.eq_ofNat_of_zero_le
abbrev S!:=@Nat.ble_eq
abbrev u?:=@Bool.false_xor
abbrev C?:=@List.range_succ
abbrev J?:=@List.lookup_cons
abbrev k?:=@Nat.zero_xor
abbrev K?:=@decide_eq_decide
abbrev L?:=@Nat.zero_testBit
abbrev i_:=@List.Pairwise.imp_of_mem
abbrev b_:=@List.length_replicate
abbrev c_:=@PySem.Heap.get?_update_self
abbrev P?:=@List.pairwise_map
abbrev v_:=@PyProof.Rows.slot_tuple_getitem
abbrev w?:=@Nat.lt_irrefl
abbrev V?:=@Bool.false_eq_true
abbrev Y!:=@PySem.W.mg_none_of
abbrev Q?:=@List.getElem_mem
abbrev R?:=@List.not_mem_nil
abbrev D?:=@Bool.true_and
abbrev E?:=@Nat.xor_assoc
abbrev z?:=@Nat.xor_zero
abbrev S?:=@PySem.W.kia_one
abbrev T?:=@Nat.testBit_and
abbrev d_:=@List.filter_append
abbrev W?:=@List.all_eq_true
abbrev X?:=@Nat.testBit_succ
abbrev w_:=@Array.getElem?_eq_some_iff
abbrev F?:=@Nat.pow_succ
abbrev J_:=@Nat.exists_testBit_of_ne_zero
abbrev e_:=@List.length_drop
abbrev j_:=@Nat.lt_of_le_of_lt
abbrev G?:=@Nat.le_succ
abbrev H?:=@Int.le_refl
abbrev m_:=@Nat.pow_lt_pow_right
abbrev Y?:=@PySem.wpAny_tryCatch
abbrev k_:=@Nat.lt_succ_of_lt
abbrev f_:=@List.append_nil
abbrev n_:=@List.replicate_succ
abbrev o_:=@List.getElem?_range
abbrev U?:=@Nat.ne_of_gt
abbrev x_:=@PySem.F.entry_min_loop
abbrev p_:=@List.mem_filterMap
abbrev g_:=@Bool.and_false
abbrev y_:=@PySem.F.slot_dict_get
abbrev K_:=@Array.getElem?_eq_getElem
abbrev l_:=@Option.map_some
abbrev Z?:=@Nat.xor_self
abbrev q_:=@Nat.le_add_right
abbrev r_:=@Nat.testBit_zero
abbrev z_:=@Int.natCast_nonneg
abbrev A_:=@List.map_singleton
abbrev s_:=@List.length_nil
abbrev t_:=@List.foldl_cons
abbrev V_:=@Nat.mod_two_eq_zero_or_one
abbrev B_:=@List.foldl_append
abbrev _M:=@PySem.F.slot_dict_keyiterator_next
abbrev C_:=@Nat.lt_succ_self
abbrev W_:=@PyProof.Rows.boot_sorted
abbrev L_:=@List.map_congr_left
abbrev M_:=@List.mem_map_of_mem
abbrev X_:=@List.getElem?_replicate
abbrev u_:=@Bool.and_true
abbrev N_:=@PySem.Obj.data_mapFields
abbrev D_:=@List.find?_cons
abbrev Y_:=@List.take_of_length_le
abbrev Z_:=@List.filter_eq_nil_iff
abbrev _a:=@PySem.F.entry_dict_get
abbrev O_:=@List.flatten_cons
abbrev P_:=@Bool.not_eq_true'
abbrev _b:=@PySem.Obj.isFreed_of_fields
abbrev _c:=@Array.getElem?_toList
abbrev _d:=@List.getElem?_eq_none
abbrev _i:=@PyProof.Rows.boot_all
abbrev _j:=@List.Pairwise.filter
abbrev E_:=@Bool.xor_self
abbrev _l:=@List.length_reverse
abbrev Q_:=@Nat.min_eq_left
abbrev _O:=@List.pairwise_iff_getElem
abbrev _Q:=@PySem.F.args_tuple_add_2
abbrev F_:=@Nat.le_total
abbrev _n:=@Nat.and_lt_two_pow
abbrev G_:=@Nat.xor_comm
abbrev _R:=@Nat.testBit_two_pow_self
abbrev H_:=@Nat.sub_self
abbrev R_:=@Bool.false_and
abbrev S_:=@List.nodup_nil
abbrev _S:=@PySem.F.entry_tuple_add
abbrev _U:=@Nat.exists_eq_add_of_le
abbrev _V:=@PySem.F.plainAttrs_dict
abbrev _W:=@List.eraseIdx_cons_succ
abbrev _r:=@PySem.Heap.get?_push_ne
abbrev _t:=@List.reverse_cons
abbrev _Y:=@List.getElem?_set_self
abbrev _Z:=@PySem.F.slot_tuple_add
abbrev adJ:=@PyProof.Rows.bitAnd_pp
abbrev adK:=@PyProof.Rows.boot_list
abbrev I_:=@List.map_id
abbrev T_:=@List.any_cons
abbrev _u:=@List.getElem_inj
abbrev _v:=@Nat.succ_ne_self
abbrev adP:=@Nat.testBit_eq_decide_div_mod_eq
abbrev _y:=@Nat.max_eq_right
abbrev _z:=@Nat.min_eq_right
abbrev _C:=@List.nodup_range
abbrev adT:=@PyProof.Rows.slot_int_bit_length
abbrev adU:=@PyProof.Rows.type_int_bit_length
abbrev adV:=@List.flatten_replicate_singleton
abbrev adW:=@List.lookup_cons_self
abbrev adX:=@Classical.choose_spec
abbrev adY:=@PyProof.Rows.boot_min
abbrev adZ:=@PyProof.Rows.boot_int
abbrev ad0:=@Array.getElem?_setIfInBounds_ne
abbrev ad1:=@List.getElem?_set_ne
abbrev _E:=@Nat.max_eq_left
abbrev U_:=@Nat.zero_add
abbrev ad4:=@List.take_append_of_le_length
abbrev ad5:=@List.eq_nil_of_length_eq_zero
abbrev ad6:=@List.filterMap_cons
abbrev ad7:=@List.filter_eq_self
abbrev ad8:=@List.length_pos_iff
abbrev _G:=@List.take_zero
abbrev _H:=@Bool.xor_assoc
abbrev aeb:=@Int.emod_lt_of_pos
abbrev aec:=@List.pairwise_cons
abbrev aed:=@List.filter_congr
abbrev aee:=@List.nodup_append
abbrev _J:=@List.map_nil
abbrev aeg:=@Nat.le_of_not_lt
abbrev aeh:=@Nat.lt_log2_self
abbrev aei:=@List.any_eq_true
abbrev aej:=@List.map_snd_zip
abbrev _K:=@Nat.le_of_eq
abbrev _L:=@Int.le_of_lt
namespace L2
open PySem PySem.Spec PyProof.Rows
abbrev aR:=@wpAny_bind
abbrev Key:=Sum Int Str
def z7:Key->Value->Bool
 | .inl k,v=>Value.isInt k v
 | .inr x,v=>Value.isStrOf x v
def Zx(w:World):Key->Int
 | .inl k=>hashInt k
 | .inr x=>hashStr w x
def dY:∀{k:Key} {v:Value},z7 k v=true->(∃i t,k=Sum.inl i/\v=Value.int i t)\/(∃x t,k=Sum.inr x/\v=Value.str x t)
 | .inl i,v,h=>by
   obtain⟨t,e⟩:=Value.isInt_shape (k:=i) (v:=v) h;exact .inl ⟨i,t,rfl,e⟩
 | .inr x,v,h=>by
   obtain⟨t,e⟩:=Value.isStrOf_shape (x:=x) (v:=v) h;exact .inr ⟨x,t,rfl,e⟩
def IU(i:Int)(t:Tok):z7 (.inl i) (.int i t)=true:=by simp[z7,Value.isInt]
def IV(x:Str)(t:Tok):z7 (.inr x) (.str x t)=true:=by simp[z7,Value.isStrOf]
def Sv(a b:Int):7#((Sum.inl a:Key)=Sum.inl b)=(a==b):=by
 by_cases e:a=b
 .subst e;simp
 .have h : ¬(Sum.inl a:Key)=Sum.inl b:=λq=>e (Sum.inl.inj q)
  rw[eV h];exact(beq_eq_false_iff_ne.mpr e).symm
def Sw(a b:Str):7#((Sum.inr a:Key)=Sum.inr b)=decide (a=b):=by
 by_cases e:a=b
 .subst e;simp
 .have h : ¬(Sum.inr a:Key)=Sum.inr b:=λq=>e (Sum.inr.inj q)
  rw[eV h,eV e]
def Sx(a:Int)(b:Str):7#((Sum.inl a:Key)=Sum.inr b)=false:=eV (λq=>nomatch q)
def Sy(a:Str)(b:Int):7#((Sum.inr a:Key)=Sum.inl b)=false:=eV (λq=>nomatch q)
def dz(prog:Program)(w:World):PySem.KeyKind prog w Key where
 is:=z7
 hash:=Zx w
 inj:=λv a b ha hb=>by
  rcases dY ha with⟨i,t,rfl,rfl⟩|⟨x,t,rfl,rfl⟩
  .rcases dY hb with⟨j,u,rfl,e⟩|⟨y,u,rfl,e⟩
   .injection e with e1 _;rw[e1]
   .exact nomatch e
  .rcases dY hb with⟨j,u,rfl,e⟩|⟨y,u,rfl,e⟩
   .exact nomatch e
   .injection e with e1 _;rw[e1]
 byValue:=λk v h=>by
  rcases dY h with⟨i,t,rfl,rfl⟩|⟨x,t,rfl,rfl⟩<;>rfl
 pyHash:=λhv h=>by
  rcases dY hv with⟨i,t,rfl,rfl⟩|⟨x,t,rfl,rfl⟩
  .exact wpAny_pyHash_int h
  .exact wpAny_pyHash_str h
 eqBool:=λhu hv h=>by
  rcases dY hu with⟨i,t,rfl,rfl⟩|⟨x,t,rfl,rfl⟩
  .rcases dY hv with⟨j,u,rfl,rfl⟩|⟨y,u,rfl,rfl⟩
   .rw[Sv]at h;exact wpAny_eqBool_int h
   .rw[Sx]at h;exact SeqAt.EqAt.int_str i t y u _ _ _ _ h
  .rcases dY hv with⟨j,u,rfl,rfl⟩|⟨y,u,rfl,rfl⟩
   .rw[Sy]at h;exact SeqAt.EqAt.str_int x t j u _ _ _ _ h
   .rw[Sw]at h;exact wpAny_eqBool_str h
 «strs»:=λk x t v h=>by
  rcases dY h with⟨i,u,rfl,e⟩|⟨y,u,rfl,e⟩
  .exact nomatch e
  .injection e with e1 _
   subst e1;cases v<;>rfl
def CP(prog:Program)(w:World)(i:Int)(t:Tok):(dz prog w).is (.inl i) (.int i t)=true:=IU i t
def CQ(prog:Program)(w:World)(x:Str)(t:Tok):(dz prog w).is (.inr x) (.str x t)=true:=IV x t
inductive V where
 | dZ | bl (b:Bool) | int (i:Int) | str (x:Str) | Lw (b:Array UInt8) | Vq (b:UInt64) | ref (a:Addr) | ty (n:String)
 deriving DecidableEq
def Θ:V->Value->Prop
 | .dZ,u=>u=Value.none
 | .bl b,u=>u=Value.bool b
 | .int i,u=>∃t,u=Value.int i t
 | .str x,u=>∃t,u=Value.str x t
 | .Lw b,u=>∃t,u=Value.bytes b t
 | .Vq b,u=>∃t,u=Value.float b t
 | .ref a,u=>u=Value.ref a
 | .ty n,u=>u=Value.type n
abbrev υ:List V->23#0->Prop:=Paired Θ
def υ.length{xs:List V}{us:23#0}(r:υ xs us):xs.length=us.length:=Paired.length r
def υ.get:∀{xs:List V} {us:23#0} {i:Nat} {x:V},υ xs us->xs[i]?=some x->∃u,us[i]?=some u/\Θ x u
 | _,_,_,_,.nil,e=>by simp at e
 | _,_,0,_,.cons r _,e=>by simp at e;subst e;exact⟨_,rfl,r⟩
 | _,_,i+1,x,.cons _ t,e=>by
   obtain⟨u,h1,h2⟩:=υ.get (i:=i) (x:=x) t (by simpa using e)
   exact⟨u,by simpa using h1,h2⟩
def υ.set{x:V}{u:Value}(r:Θ x u):∀{xs:List V} {us:23#0} (i:Nat),υ xs us->υ (xs.set i x) (us.set i u)
 | _,_,_,.nil=>.nil
 | _,_,0,.cons _ t=>.cons r t
 | _,_,i+1,.cons q t=>.cons q (υ.set r i t)
def υ.append:∀{xs ys:List V} {us ws:23#0},υ xs us->υ ys ws->υ (xs++ys) (us++ws)
 | _,_,_,_,.nil,s=>s
 | _,_,_,_,.cons r t,s=>.cons r (υ.append t s)
def υ.take:∀{xs:List V} {us:23#0} (n:Nat),υ xs us->υ (xs.take n) (us.take n)
 | _,_,0,_=>.nil
 | _,_,_+1,.nil=>.nil
 | _,_,n+1,.cons r t=>.cons r (υ.take n t)
def υ.drop:∀{xs:List V} {us:23#0} (n:Nat),υ xs us->υ (xs.drop n) (us.drop n)
 | _,_,0,r=>r
 | _,_,_+1,.nil=>.nil
 | _,_,n+1,.cons _ t=>υ.drop n t
def rP:Option V->81#0->Prop
 | some v,some u=>Θ v u
 | none,none=>True
 | _,_=>False
def KV{κ:Type}:List (κ×V)->List (κ×Value)->Prop:=Paired λ(p:κ×V) (q:κ×Value)=>p.1=q.1/\Θ p.2 q.2
def kV:Key->V
 | .inl i=>.int i
 | .inr x=>.str x
inductive HO where
 | lst (xs:List V)
 | tup (xs:List V)
 | dK (kvs:List (Key×V)) | dT (kvs:50#V)
 | set (S:Int->Bool) (n:Nat)
 | ins (C dx:Addr) (fs:List (Str×V))
 | own (x:Addr)
 | xd (fs:List (Str×V))
 | met (f x:Addr)
 | IW (lo hi:Int)
 | m9 (o:Obj) (u:HO)
 | lF (ps:42#0)
 | ext (φ:Heap->Prop)
abbrev Hp:=Addr->Option HO
def η(H:Hp)(a:Addr)(o:HO):Hp:=λb=>if b=a then some o else H b
def aa{H:Hp}{a:Addr}{o:HO}:η H a o a=some o:=by unfold η;rw[ο rfl]
def ao{H:Hp}{a b:Addr}{o:HO}(h:b≠a):η H a o b=H b:=by unfold η;rw[ξ h]
def bg{H:Hp}{a b:Addr}{o u:HO}(h:H a=some o)(h' : H b=some u)(d:o≠u):a≠b:=by
 intro e;subst e;rw[h]at h';exact d (18#h')
def aX{H:Hp}{a b:Addr}{o:HO}(h:H a=some o)(h' : H b=none):a≠b:=by
 intro e;subst e;rw[h]at h';cases h'
def Pd(qs:42#0):Str:=match (qs[0]?:81#0) with | some (Value.str q _)=>q | _=>""
section
variable (P:Program)(w:World)
def bL(H:Hp)(h:Heap)(a:Addr):HO->Prop
 | .lst xs=>56#xs.length/\∃(its:23#0) (n:Nat),υ xs its/\h.get? a=some { cls:=.type "list",data:=.seq its.toArray n}
 | .tup xs=>56#xs.length/\∃its:23#0,υ xs its/\IsTup h a its.toArray
 | .dK kvs=>56#kvs.length/\(a==sysModules)=false/\∃vs,KV kvs vs/\h.DictOf (dz P w) a vs
 | .dT kvs=>56#kvs.length/\(a==sysModules)=false/\∃xs:50#(Addr×Value),
  Paired (λ(p:List Key×V) (q:List Key×Addr×Value)=>p.1=q.1/\H q.2.1=10#(p.1.map kV)/\Θ p.2 q.2.2) kvs xs/\
  ∃o es ep,h.get? a=some o/\o.ExactDict/\o.data = .dict es ep/\es.toList=xs.map (entryOfKey (tupleKind (dz P w)))/\(xs.map (·.1)).Nodup
 | .set S n=>h.SetOf (intKind P w) a S n
 | .ins C dx fs=>H dx=some (.own a)/\fs.length<=1000/\dx≠a/\h.get? a=some (PySem.W.instObj C dx)/\
  ∃mA,h.Ns1 dx mA/\(∀f,rP (fs.lookup f) (mA f))/\PySem.Within mA (fs.map (·.1))
 | .own _=>∃o,h.get? a=some o
 | .xd fs=>∃mA,h.Ns1 a mA/\∀f,rP (fs.lookup f) (mA f)
 | .IW lo hi=>∃t u v,h.get? a=some { cls:=.type "range",data:=.fields #[.int lo t,.int hi u,.int 1 v]}
 | .m9 o u=>h.get? a=some o/\bL H h a u
 | .lF qs=>∃ps:42#0,h.get? a=some { cls:=.none,data:=.fields ps}/\((qs.size=3/\(ps = #[]\/∃c,ps = #[qs.getD 1 .none,qs.getD 2 .none,.ref c]/\H c=some (.own a)/\h.CodeRec (.ref c) (Pd qs)))\/∃q l k,qs = #[q,l,k]++ps/\ps.size=3)
 | .met f x=>h.get? a=some (PySem.W.methodObj (.ref f) (.ref x))
 | .ext φ=>φ h/\(∃o,h.get? a=some o)/\∀h1 h2:Heap,φ h1->(∀o,h1.get? a=some o->h2.get? a=some o)->φ h2
def oB(H:Hp)(h:Heap):Prop:=∀a o,H a=some o->bL P w H h a o
end
section
variable {P:Program}{w:World}{H H' : Hp}{h h' : Heap}{a:Addr}{o:HO}
def bL.lt(x:bL P w H h a o):a<h.objs.size:=by
 cases o with
 | lst xs=>obtain⟨_,_,_,_,e⟩:=x;exact b! e
 | tup xs=>obtain⟨_,_,_,p⟩:=x;exact p.lt
 | dK kvs=>obtain⟨_,_,_,_,o,_,_,e,_⟩:=x;exact b! e
 | dT kvs=>obtain⟨_,_,_,_,o,_,_,e,_⟩:=x;exact b! e
 | set S n=>obtain⟨o,_,_,_,e,_⟩:=x;exact b! e
 | ins C dx fs=>obtain⟨_,_,_,e,_⟩:=x;exact b! e
 | own y=>obtain⟨_,e⟩:=x;exact b! e
 | xd fs=>obtain⟨_,⟨_,_,_,e,_⟩,_⟩:=x;exact b! e
 | IW lo hi=>obtain⟨_,_,_,e⟩:=x;exact b! e
 | m9 ob u=>obtain⟨e,_⟩:=x;exact b! e
 | lF ps=>obtain⟨_,e,_⟩:=x;exact b! e
 | met f y=>exact b! (show h.get? a=some _ from x)
 | ext φ=>obtain⟨_,⟨_,e⟩,_⟩:=x;exact b! e
def Paired.A6{α β:Type}{F G:α->β->Prop}:∀{l₁:List α} {l₂:List β},Paired F l₁ l₂->(∀a b,F a b->G a b)->Paired G l₁ l₂
 | _,_,.nil,_=>.nil
 | _,_,.cons r t,f=>.cons (f _ _ r) (Paired.A6 t f)
def Paired.imp'{α β:Type}{F G:α->β->Prop}(f:∀a b,F a b->G a b){l₁:List α}{l₂:List β}(r:Paired F l₁ l₂):Paired G l₁ l₂:=Paired.A6 r f
def bL.stay(x:bL P w H h a o)(k:∀b u,(b=a\/H b=some (.own a))->h.get? b=some u->45#u)
 (ho:∀b,H b=some (.own a)->H' b=some (.own a)) (ht:∀b xs,H b=10#xs->H' b=10#xs):bL P w H' h' a o:=by
 induction o with
 | lst xs=>obtain⟨z,its,n,r,e⟩:=x;exact⟨z,its,n,r,k _ _ (.inl rfl) e⟩
 | tup xs=>obtain⟨z,its,r,ob,e,c⟩:=x;exact⟨z,its,r,ob,k _ _ (.inl rfl) e,c⟩
 | dK kvs=>obtain⟨z,y,vs,r,ob,es,ep,e,c⟩:=x;exact⟨z,y,vs,r,ob,es,ep,k _ _ (.inl rfl) e,c⟩
 | dT kvs =>
   obtain⟨z,y,xs,r,ob,es,ep,e,c⟩:=x;exact⟨z,y,xs,Paired.A6 r λp q z=>⟨z.1,ht _ _ z.2.1,z.2.2⟩,ob,es,ep,k _ _ (.inl rfl) e,c⟩
 | set S n=>obtain⟨ob,es,ep,t,e,c⟩:=x;exact⟨ob,es,ep,t,k _ _ (.inl rfl) e,c⟩
 | ins C dx fs =>
   obtain⟨d,z,ne,e,mA,⟨od,es,ep,e2,c⟩,r⟩:=x;exact⟨ho _ d,z,ne,k _ _ (.inl rfl) e,mA,⟨od,es,ep,k _ _ (.inr d) e2,c⟩,r⟩
 | own y=>obtain⟨ob,e⟩:=x;exact⟨ob,k _ _ (.inl rfl) e⟩
 | xd fs=>obtain⟨mA,⟨od,es,ep,e,c⟩,r⟩:=x;exact⟨mA,⟨od,es,ep,k _ _ (.inl rfl) e,c⟩,r⟩
 | IW lo hi=>obtain⟨t,u,v,e⟩:=x;exact⟨t,u,v,k _ _ (.inl rfl) e⟩
 | m9 ob u ih=>obtain⟨e,q⟩:=x;exact⟨k _ _ (.inl rfl) e,ih q⟩
 | lF qs =>
   obtain⟨ps,e,f⟩:=x;refine⟨ps,k _ _ (.inl rfl) e,?_⟩;rcases f with⟨hz,f|⟨c,e1,e2,c',oc,vs,tq,hc,ho',hd,hv⟩⟩|f
   .exact .inl ⟨hz,.inl f⟩
   .cases hc;exact .inl ⟨hz,.inr ⟨c,e1,ho _ e2,c,oc,vs,tq,rfl,k _ _ (.inr e2) ho',hd,hv⟩⟩
   .exact .inr f
 | met f y =>
   have e:h.get? a=some (PySem.W.methodObj (.ref f) (.ref y)):=x;show h'.get? a=some (PySem.W.methodObj (.ref f) (.ref y));exact k a _ (.inl rfl) e
 | ext φ=>obtain⟨p,⟨o,e⟩,st⟩:=x;exact⟨st _ _ p λo q=>k _ _ (.inl rfl) q,⟨o,k _ _ (.inl rfl) e⟩,st⟩
def oB.lt(x:oB P w H h)(e:H a=some o):a<h.objs.size:=(x a o e).lt
def oB.fresh(x:oB P w H h)(e:h.objs.size<=a):H a=none:=by
 cases q:H a with
 | none=>rfl
 | some u=>exact absurd (x! (x.lt q) e) (w? _)
def oB.kept(x:oB P w H h)(k:∀b u,h.get? b=some u->45#u):oB P w H h':=λa o e =>
 (x a o e).stay (λb u _ q=>k b u q) (λ_ q=>q) λ_ _ q=>q
def oB.laid(x:oB P w H h)(k:∀b u,h.get? b=some u->45#u)(hp:h.objs.size<=a)(new:bL P w (η H a o) h' a o):oB P w (η H a o) h':=λb u e=>by
 have hn:=x.fresh hp
 by_cases hb:b=a
 .subst hb;rw[aa]at e;cases e;exact new
 .rw[ao hb]at e;exact(x b u e).stay (λc v _ q=>k c v q) (λc q=>66#(aX q hn)) λc xs q=>66#(aX q hn)
end
def Rd(H:Hp)(a:Addr)(u:HO):Prop:=H a=some u\/∃o,H a=some (.m9 o u)
def Rd.ok{P:Program}{w:World}{H:Hp}{h:Heap}{a:Addr}{u:HO}(r:Rd H a u)(x:oB P w H h):bL P w H h a u:=by
 rcases r with r|⟨o,r⟩
 .exact x a u r
 .obtain⟨_,q⟩:=x a _ r;exact q
def VY:Option HO->Prop
 | some (.lst _)=>True
 | some (.dK _)=>True
 | some (.dT _)=>True
 | some (.set _ _)=>True
 | some (.ins _ _ _)=>True
 | some (.ext _)=>True
 | _=>False
section
variable {P:Program}{w:World}{H:Hp}{h h' : Heap}{x e:Addr}{o' : HO}
def oB.write(ok:oB P w H h)(mu:VY (H x))(he:e=x\/H e=some (.own x))(k:∀b u,b≠e->h.get? b=some u->45#u)(Vr:∃u,h'.get? e=some u)
 (new:bL P w (η H x o') h' x o'):oB P w (η H x o') h':=λb u q=>by
 have VZ:∀c y,H c=some (.own y)->c≠x:=λc y r z=>by subst z;rw[r]at mu;exact mu
 have Zy:∀c xs,H c=10#xs->c≠x:=λc xs r z=>by subst z;rw[r]at mu;exact mu
 by_cases hb:b=x
 .subst hb;rw[aa]at q;cases q;exact new
 .rw[ao hb]at q
  by_cases Sz:b=e
  .have q' : H b=some (.own x):=by
    rcases he with z|z
    .exact absurd (Sz.trans z) hb
    .rw[Sz];exact z
   rw[q]at q';cases q';obtain⟨v,hv⟩:=Vr;exact⟨v,by rw[Sz];exact hv⟩
  .refine(ok b u q).stay (λc v hc r=>k c v ?_ r) (λc r=>by rw[ao (VZ c b r)];exact r) λc xs r=>by rw[ao (Zy c xs r)];exact r
   rcases hc with rfl|hc
   .exact Sz
   .rintro rfl;rcases he with z|z
    .exact VZ c b hc z
    .rw[hc]at z;cases z;exact hb rfl
end
structure Un(fs ex:70#0)(H H' : Hp)(h h' : Heap):Prop where
 keep:∀b o,71#h.get?->H b=none->b∉fs->b∉ex->45#o
 slot:∀b o,71#h.get?->H b=none->b∈fs->b∉ex->∃sl,45#{ o with slots:=sl}
 free:∀b o,71#h.get?->H b=none->b∉ex->H' b=none
 there:∀b o,71#h.get?->b∉ex->∃o',45#o'
 tups:∀b xs,H b=10#xs->H' b=10#xs
 nc:∀b o u,H b=some (.m9 o u)->H' b=some (.m9 o u)
 oE:∀b ps,H b=some (.lF ps)->∃more,H' b=some (.lF (ps++more))
section
variable {fs fs' ex ex' : 70#0}{H H1 H2:Hp}{h h1 h2 h' : Heap}{a x e:Addr}{o:HO}
def Un.any(u:Un fs ex H H1 h h1){b:Addr}{ob:Obj}(q:h.get? b=some ob)(n:H b=none)(hx:b∉ex):∃sl,h1.get? b=some { ob with slots:=sl}:=by
 by_cases hb:b∈fs
 .exact u.slot b ob q n hb hx
 .exact⟨ob.slots,u.keep b ob q n hb hx⟩
def Un.kept(k:∀b u,h.get? b=some u->45#u):Un fs ex H H h h' :=
 ⟨λb ob q _ _ _=>k b ob q,λb ob q _ _ _=>⟨ob.slots,k b ob q⟩,λ_ _ _ n _=>n,λb ob q _=>⟨ob,k b ob q⟩,λ_ _ q=>q,λ_ _ _ q=>q,λ_ ps q=>⟨#[],by rw[q];simp⟩⟩
def Un.refl:Un fs ex H H h h:=Un.kept λ_ _ q=>q
def Un.laid(k:∀b u,h.get? b=some u->45#u)(hp:h.objs.size<=a)(hn:H a=none):Un fs ex H (η H a o) h h' where
 keep:=λb u q _ _ _=>k b u q
 slot:=λb u q _ _ _=>⟨u.slots,k b u q⟩
 free:=λb u q n _=>by rw[ao (q! (x! (b! q) hp))];exact n
 there:=λb u q _=>⟨u,k b u q⟩
 tups:=λb xs q=>66#(aX q hn)
 nc:=λb u xs q=>66#(aX q hn)
 oE:=λb ps q=>⟨#[],by rw[ao (aX q hn),q];simp⟩
def Un.write(mu:VY (H x))(he:e=x\/H e=some (.own x))(k:∀b u,b≠e->h.get? b=some u->45#u)(Vr:∃u,h'.get? e=some u):Un fs ex H (η H x o) h h':=by
 have hx:∀b,H b=none->b≠x:=λb n z=>by subst z;rw[n]at mu;exact mu
 have hb:∀b,H b=none->b≠e:=λb n z=>by
  subst z;rcases he with r|r
  .exact hx b n r
  .rw[n]at r;cases r
 have hm:∀b u,H b=some u->¬ VY (some u)->b≠x:=λb u q nm z=>by subst z;rw[q]at mu;exact nm mu
 refine⟨λb u q n _ _=>k b u (hb b n) q,λb u q n _ _=>⟨u.slots,k b u (hb b n) q⟩,λb u q n _=>by rw[ao (hx b n)];exact n,λb u q _=>?_,
  λb xs q=>66#(hm b _ q λz=>z),λb u xs q=>66#(hm b _ q λz=>z),λb ps q=>⟨#[],by rw[ao (hm b _ q λz=>z),q];simp⟩⟩
 by_cases Sz:b=e
 .subst Sz;exact Vr
 .exact⟨u,k b u Sz q⟩
end
def Vs(h:Heap)(H:Hp):70#0:=(13#h.objs.size).filter λa=>(H a).isSome
def CS(h:Heap)(H:Hp):Heap:=PySem.W.hideAll h (Vs h H)
def IX(h:Heap)(H:Hp):49#(CS h H)=h.objs.size:=PySem.W.hideAll_size _ _
def wN{h:Heap}{H:Hp}{b:Addr}{o:Obj}(e:71#h.get?)(n:H b=none):71#(CS h H).get? :=
 PySem.W.hideAll_get _ e λhm=>by
  have q:(H b).isSome=true:=(C!.mp hm).2;rw[n]at q;simp at q
def Pe{h:Heap}{H:Hp}{b:Addr}{o:Obj}(e:71#(CS h H).get?):71#h.get?/\H b=none:=by
 have e' : 71#h.get?:=PySem.W.of_hideAll (Vs h H) e;refine⟨e',?_⟩;cases q:H b with
 | none=>rfl
 | some x =>
   have hm:b∈Vs h H:=C!.mpr ⟨A!.mpr (b! e'),by simp[q]⟩
   have z:(CS h H).get? b=none:=PySem.W.hideAll_none (Vs h H) hm;rw[z]at e;cases e
def wj(g h:Heap)(L:Addr):aW:=(13#h.objs.size).filterMap λa=>if a=L\/(g.get? a).isSome=true then none else(h.get? a).map λo=>(a,o)
def CT{g h:Heap}{L a:Addr}{o:Obj}(h1:a≠L)(h2:g.get? a=none)(h3:h.get? a=some o):(a,o)∈wj g h L :=
 p_.mpr ⟨a,A!.mpr (b! h3),by simp[h1,h2,h3]⟩
def wO{g h:Heap}{L:Addr}{p:Addr×Obj}(hp:p∈wj g h L):p.1≠L/\g.get? p.1=none/\h.get? p.1=some p.2:=by
 obtain⟨b,_,e⟩:=p_.mp hp
 split at e
 .cases e
 .rename_i hn
  cases q:h.get? b with
  | none=>rw[q]at e;simp at e
  | some u =>
    rw[q]at e;simp only[l_,Option.some.injEq]at e;subst e;refine⟨λz=>hn (.inl z),?_,q⟩
    show g.get? b=none;cases r:g.get? b with
    | none=>rfl
    | some v=>exact(hn (.inr (by simp[r]))).elim
def rest(g h:Heap)(L d:Addr):aW:=(wj g h L).filter λp=>7#(p.1≠d)
def Hi{g h:Heap}{L d:Addr}:∀p∈rest g h L d,p.1≠d:=λp hp=>jz (C!.mp hp).2
def Lx{g h:Heap}{L d a:Addr}{o:Obj}(h1:a≠L)(h2:g.get? a=none)(h3:h.get? a=some o)(h4:a≠d):(a,o)∈rest g h L d :=
 C!.mpr ⟨CT h1 h2 h3,cH h4⟩
def Ly{g h:Heap}{L:Addr}:News g L h (wj g h L):=λp hp=>let⟨a,b,c⟩:=wO hp;⟨c,a,b⟩
def rQ{g h h' : Heap}{L d:Addr}{m:oA}(k:∀b o,71#g.get?->71#h.get?)(F:Fr g L h' m)(N:News g L h' (rest g h L d)):
 ∀b o,b≠L->b≠d->71#h.get?->45#o:=λb o h1 h2 e=>by
 cases q:g.get? b with
 | some u =>
   have:=k b u q;rw[e]at this;cases this;exact F.keep b _ q
 | none=>exact(N (b,o) (Lx h1 q e h2)).1
structure Mod(K:b7)(mg:oA)(base:Heap):Prop where
 YC:K.In base
 glob:77#base.Ns
 blt:∃mb,base.Ns builtinsNs mb/\∀x:Str,x≠"__name__"->mb x=bootBuiltins x
 nolimit:base.NoLimit
 bmain:∃bm ob,mg "__builtins__"=11#bm/\bm≠builtinsNs/\base.get? bm=some ob/\ob.cls = .type "module"/\ob.dict=some builtinsNs/\ob.data = .plain
structure Cx where
 prog:Program
 w:World
 K:b7
 mg:Str->81#0
 base:Heap
 A:Around
 N:List Str
 s₀:Shared
 H₀:Hp
 env:Env
 outer:List Env
 stack:List Env
 ex:70#0
 fn:Str->Bool
 calm:Bool
 pn:aW
 xe:64#Value
def frs(l:List Env):70#0:=l.filterMap (·.frame)
abbrev Cx.fs(X:Cx):70#0:=frs X.outer
def YD(sc:Scope)(x:Str):Prop:=sc.names.lookup x=some .local\/sc.names.lookup x=some .cell\/sc.names.lookup x=some .free
def Loc(sc:Scope)(x:Str):Prop:=sc.names.lookup x=some .local\/sc.names.lookup x=some .cell
def Look(env:Env)(h:Heap)(m:oA)(x:Str)(u:Value):Prop :=
 (env.kindOf x=some .local/\m x=some u)\/((env.kindOf x=some .cell\/env.kindOf x=some .free)/\∃c,env.cells.lookup x=some c/\h.IsCell c (some u))
structure Cx.Ok(X:Cx):Prop where
 mod:Mod X.K X.mg X.base
 kind:X.env.scope.kind = .function
 glob:X.env.globals=mainGlobals
 blt:X.env.builtins=builtinsNs
 above:X.s₀.heap.objs.size<=X.env.locals
 inj:∀x y c,37#x->37#y->x=y
 has:∀x,(X.env.kindOf x=some .cell\/X.env.kindOf x=some .free)->∃c,37#x
 V0:∀x c,X.fn x=true->37#x->X.s₀.heap.objs.size<=c
 hd:X.calm=true->X.A.handled=none
 frames:X.A.frames=some X.stack
 Pf:X.stack=X.outer\/(X.stack=X.env::X.outer/\X.env.frame=some X.env.locals)
 exf:∀b∈X.ex,76#b/\∀x c,37#x->c≠b
 bs:∀b o,71#X.base.get?->71#X.s₀.heap.get?/\X.H₀ b=none
 Pg:X.base.objs.size<=X.s₀.heap.objs.size
 Lz:∀b o,71#X.base.get?->b∉X.ex
 Ph:∀b∈X.ex,b∉X.fs
 funs:X.s₀.heap.FunFrames X.base X.outer
 SA:∀b∈X.fs,X.H₀ b=none
structure θ(X:Cx)(pq:aW)(σ:List (Option V))(H:Hp)(s:Shared):Prop where
 ok:X.Ok
 os:s.os=X.s₀.os
 bare:AllBare s.gens
 base:Un X.fs X.ex X.H₀ H X.s₀.heap s.heap
 loc:∃m,s.heap.Ns X.env.locals m/\∀(i:Nat) (x:Str) (v:V),X.N[i]?=some x->σ[i]?=some (some v)->YD X.env.scope x->∃u,Θ v u/\Look X.env s.heap m x u
 cell:∀x c,37#x->∃v,s.heap.IsCell c v
 free:H X.env.locals=none
 gC:∀x c,37#x->H c=none
 pin:∀p∈X.pn++pq,s.heap.get? p.1=some p.2/\H p.1=none/\76#p.1/\p.1∉X.fs/\∀v,p.2.data≠.cell v
 hok:oB X.prog X.w H s.heap
 len:σ.length=X.N.length
section
variable {X:Cx}{pq:aW}{σ:List (Option V)}{H H' : Hp}{s:Shared}{h' : Heap}
def Cx.Ok.Zz(ok:X.Ok){b:Addr}{o:Obj}(e:71#X.base.get?):b∉X.fs:=λhb=>by
 have:=(ok.funs.mem hb).1;rw[e]at this;cases this
def θ.bs(I:5#s):∀b o,71#X.base.get?->22#o/\H b=none:=λb o e =>
 ⟨I.base.keep b o (I.ok.bs b o e).1 (I.ok.bs b o e).2 (I.ok.Zz e) (I.ok.Lz b o e),I.base.free b o (I.ok.bs b o e).1 (I.ok.bs b o e).2 (I.ok.Lz b o e)⟩
def θ.bk(I:5#s):∀b o,71#X.base.get?->22#o:=λb o e=>(I.bs b o e).1
def θ.mod(I:5#s):Mod X.K X.mg X.base:=I.ok.mod
def θ.CM(I:5#s):X.K.In s.heap:=I.ok.mod.YC.keeps I.bk
def θ.nolimit(I:5#s):s.heap.NoLimit:=I.ok.mod.nolimit.keeps I.bk
def θ.fr(I:5#s):∃m,Fr X.base X.env.locals s.heap m :=
 let⟨m,hn,_⟩:=I.loc
 ⟨m,hn,I.bk,D! I.ok.Pg I.ok.above⟩
def θ.lt(I:5#s):X.env.locals<s.heap.objs.size:=let⟨_,hn,_⟩:=I.loc;hn.lt
def θ.sz(I:5#s):X.s₀.heap.objs.size<=s.heap.objs.size:=D! I.ok.above (B! I.lt)
def θ.V1(I:5#s){a:Addr}(h:s.heap.objs.size<=a):a∉X.fs:=λhb=>by
 obtain⟨_,o,ho,_⟩:=I.ok.funs.mem hb;exact absurd (x! (b! ho) (D! I.sz h)) (w? _)
def θ.SD(I:5#s):∀x c,37#x->76#c:=λx c e z=>by
 obtain⟨v,o,ho,hd⟩:=I.cell x c e;obtain⟨m,⟨o',es,ep,ho',hd',_⟩,_⟩:=I.loc;rw[z,ho']at ho;cases ho;rw[hd']at hd;cases hd
def θ.funs(I:5#s):s.heap.FunFrames X.base X.outer:=by
 have all:∀(l:List Env),(∀b∈frs l,b∈X.fs)->X.s₀.heap.FunFrames X.base l->s.heap.FunFrames X.base l:=by
  intro l
  induction l with
  | nil=>intro _ _;trivial
  | cons env r ih =>
    intro hs hl;obtain⟨hk,⟨L,o,hf,hn,ho,hd⟩,hr⟩:=hl;have hL:L∈X.fs:=hs L (by unfold frs;rw[ad6,hf];exact o!)
    obtain⟨sl,e⟩:=I.base.slot L o ho (I.ok.SA L hL) hL λz=>I.ok.Ph L z hL
    exact⟨hk,⟨L,_,hf,hn,e,hd⟩,ih (λb hb=>hs b (by unfold frs;rw[ad6,hf];exact lG _ hb)) hr⟩
 exact all X.outer (λ_ hb=>hb) I.ok.funs
def θ.stack(I:5#s):s.heap.FunFrames X.base X.stack:=by
 rcases I.ok.Pf with e|⟨e,hf⟩
 .rw[e];exact I.funs
 .rw[e];obtain⟨m,hn,_⟩:=I.loc;refine .cons (by rw[I.ok.kind];decide) hf hn ?_ I.funs
  exact Heap.get?_none_of_le (D! I.ok.Pg I.ok.above)
def θ.wQ(I:5#s):∀b∈frs X.stack,b∈X.env.locals::X.fs:=λb hb=>by
 rcases I.ok.Pf with e|⟨e,hf⟩
 .rw[e]at hb;exact lG _ hb
 .rw[e]at hb;unfold frs at hb;rw[ad6,hf]at hb;exact hb
def θ.A7(I:5#s):∀b∈frs X.stack,H b=none:=λb hb=>by
 rcases h!.mp (I.wQ b hb) with e|hb
 .rw[e];exact I.free
 .obtain⟨_,o,ho,_⟩:=I.ok.funs.mem hb;exact I.base.free b o ho (I.ok.SA b hb) λz=>I.ok.Ph b z hb
def θ.step{g' : Array GenState}{t' : Nat}{d' : Drawn}{ch:70#0}(I:5#s)
 (hch:∀b∈ch,(b∈X.ex\/X.s₀.heap.objs.size<=b)/\76#b/\(∀x c,37#x->c≠b)/\∀p∈X.pn++pq,p.1≠b)
 (keep:∀b o,76#b->b∉X.fs->b∉ch->22#o->H b=none->45#o)
 (slot:∀b o,76#b->b∈X.fs->b∉ch->22#o->H b=none->∃sl,45#{ o with slots:=sl}) (free:∀b o,b∉ch->22#o->H b=none->H' b=none)
 (there:∀b o,b∉ch->22#o->∃o',45#o')
 (tups:∀b xs,H b=10#xs->H' b=10#xs) (nc:∀b o u,H b=some (.m9 o u)->H' b=some (.m9 o u)) (oE:∀b ps,H b=some (.lF ps)->∃more,H' b=some (.lF (ps++more)))
 (ns:∀m,s.heap.Ns X.env.locals m->h'.Ns X.env.locals m) (hok:oB X.prog X.w H' h') (hg:AllBare g') :
 θ X pq σ H' { s with heap:=h',gens:=g',drawn:=d',toks:=t'}:=by
 have neL:∀b o,71#X.s₀.heap.get?->76#b:=λb o e=>q! (x! (b! e) I.ok.above)
 have YE:∀b o,71#X.s₀.heap.get?->b∉X.ex->b∉ch:=λb o e hx hb=>by
  rcases(hch b hb).1 with z|z
  .exact hx z
  .exact absurd (x! (b! e) z) (w? _)
 have cellK:∀x c,37#x->∀v,s.heap.IsCell c v->h'.IsCell c v:=λx c e v ⟨o,ho,hd⟩=>by
  have V2:c∉ch:=λz=>(hch c z).2.2.1 x c e rfl
  by_cases hc:c∈X.fs
  .obtain⟨sl,q⟩:=slot c o (I.SD x c e) hc V2 ho (I.gC x c e);exact⟨_,q,hd⟩
  .exact⟨o,keep c o (I.SD x c e) hc V2 ho (I.gC x c e),hd⟩
 refine⟨I.ok,I.os,hg,⟨λb o e n hb hx=>?_,λb o e n hb hx=>?_,λb o e n hx=>?_,λb o e hx=>?_,λb xs e=>tups b xs (I.base.tups b xs e),λb o xs e=>nc b o xs (I.base.nc b o xs e),λb ps e=>?_⟩,?_,λx c e=>?_,?_,λx c e=>?_,λp hp=>?_,hok,I.len⟩
 .exact keep b o (neL b o e) hb (YE b o e hx) (I.base.keep b o e n hb hx) (I.base.free b o e n hx)
 .obtain⟨sl,e1⟩:=I.base.slot b o e n hb hx;obtain⟨YF,e2⟩:=slot b _ (neL b o e) hb (YE b o e hx) e1 (I.base.free b o e n hx);exact⟨YF,e2⟩
 .obtain⟨o',e1⟩:=I.base.there b o e hx;exact free b o' (YE b o e hx) e1 (I.base.free b o e n hx)
 .obtain⟨o',e1⟩:=I.base.there b o e hx;exact there b o' (YE b o e hx) e1
 .obtain⟨m1,e1⟩:=I.base.oE b ps e;obtain⟨m2,e2⟩:=oE b _ e1;exact⟨m1++m2,by rw[e2,Array.append_assoc]⟩
 .obtain⟨m,hn,hl⟩:=I.loc;refine⟨m,ns m hn,λi x v e1 e2 e3=>?_⟩
  obtain⟨u,r,l⟩:=hl i x v e1 e2 e3;refine⟨u,r,?_⟩;rcases l with l|⟨k,c,e,z⟩
  .exact .inl l
  .exact .inr ⟨k,c,e,cellK x c e _ z⟩
 .obtain⟨v,z⟩:=I.cell x c e;exact⟨v,cellK x c e v z⟩
 .obtain⟨m,⟨o,_,_,ho,_⟩,_⟩:=I.loc;exact free _ o (λz=>(hch _ z).2.1 rfl) ho I.free
 .obtain⟨v,o,ho,hd⟩:=I.cell x c e;exact free c o (λz=>(hch c z).2.2.1 x c e rfl) ho (I.gC x c e)
 .obtain⟨e,n,ne,nf,d⟩:=I.pin p hp;have V2:p.1∉ch:=λz=>(hch p.1 z).2.2.2 p hp rfl
  exact⟨keep p.1 p.2 ne nf V2 e n,free p.1 p.2 V2 e n,ne,nf,d⟩
def θ.un{t' : Nat}(I:5#s)(u:Un X.fs [] H H' s.heap h')(hok:oB X.prog X.w H' h'):θ X pq σ H' { s with heap:=h',toks:=t'}:=by
 obtain⟨m,⟨o,es,ep,ho,r⟩,_⟩:=id I.loc;obtain⟨sl,hL⟩:=u.any ho I.free 31#0
 exact I.step (g':=s.gens) (d':=s.drawn) (ch:=[]) (λ_ z=>nomatch z) (λb o _ hb _ e n=>u.keep b o e n hb 31#0) (λb o _ hb _ e n=>u.slot b o e n hb 31#0) (λb o _ e n=>u.free b o e n 31#0) (λb o _ e=>u.there b o e 31#0) u.tups u.nc u.oE (λm' hm=>by
  obtain⟨o',es',Hj,ho',r'⟩:=hm;rw[ho]at ho';cases ho';exact⟨_,es',Hj,hL,r'⟩) hok I.bare
def θ.call{g' : Array GenState}{t' : Nat}{d' : Drawn}{ch:70#0}(I:5#s)(u:Un (frs X.stack) ch H H' s.heap h')(hok:oB X.prog X.w H' h')(hg:AllBare g')
 (hch:∀b∈ch,(b∈X.ex\/X.s₀.heap.objs.size<=b)/\76#b/\(∀x c,37#x->c≠b)/\∀p∈X.pn++pq,p.1≠b) :
 θ X pq σ H' { s with heap:=h',gens:=g',drawn:=d',toks:=t'}:=by
 obtain⟨m,⟨o,es,ep,ho,r⟩,_⟩:=id I.loc;obtain⟨sl,hL⟩:=u.any ho I.free λz=>(hch _ z).2.1 rfl
 exact I.step (ch:=ch) hch (λb o hL hb hc e n=>u.keep b o e n (λz=>(h!.mp (I.wQ b z)).elim hL hb) hc) (λb o _ _ hc e n=>u.any e n hc) (λb o hc e n=>u.free b o e n hc) (λb o hc e=>u.there b o e hc) u.tups u.nc u.oE (λm' hm=>by
  obtain⟨o',es',Hj,ho',r'⟩:=hm;rw[ho]at ho';cases ho';exact⟨_,es',Hj,hL,r'⟩) hok hg
def θ.turned{t' : Nat}{it:Addr}(I:5#s)(k:∀b o,b≠it->22#o->45#o)(hn:H it=none)(hL:76#it)
 (h1:it∈X.ex\/X.s₀.heap.objs.size<=it) (h2:∀x c,37#x->c≠it) (h3:∀p∈X.pn++pq,p.1≠it):5#{ s with heap:=h',toks:=t'}:=by
 have nit:∀b u,H b=some u->b≠it:=λb u e z=>by rw[z,hn]at e;cases e
 refine I.step (g':=s.gens) (d':=s.drawn) (ch:=[it]) (λb hb=>?_) (λb o _ _ hc e _=>k b o (λz=>hc (by simp[z])) e) (λb o _ _ hc e _=>⟨o.slots,k b o (λz=>hc (by simp[z])) e⟩) (λ_ _ _ _ n=>n)
  (λb o hc e=>⟨o,k b o (λz=>hc (by simp[z])) e⟩) (λ_ _ e=>e) (λ_ _ _ e=>e) (λb ps e=>⟨#[],by rw[e];simp⟩) (λm hm=>?_) (λb u e=>?_) I.bare
 .have e:b=it:=by simpa using hb
  subst e;exact⟨h1,hL,h2,h3⟩
 .obtain⟨o,es,ep,ho,r⟩:=hm;exact⟨o,es,ep,k _ o (u! hL) ho,r⟩
 .refine(I.hok b u e).stay (λc v hc q=>k c v ?_ q) (λ_ q=>q) λ_ _ q=>q
  rcases hc with z|z
  .rw[z];exact nit b u e
  .exact nit c _ z
def θ.tok(I:5#s)(t:Nat):5#{ s with toks:=t}:=I.un (h':=s.heap) (t':=t) Un.refl I.hok
def θ.kept{t' : Nat}(I:5#s)(k:∀b u,22#u->45#u):5#{ s with heap:=h',toks:=t'}:=I.un (Un.kept k) (I.hok.kept k)
def θ.laid{a:Addr}{o:HO}{t' : Nat}(I:5#s)(k:∀b u,22#u->45#u)(hp:s.heap.objs.size<=a)(new:bL X.prog X.w (η H a o) h' a o):
 θ X pq σ (η H a o) { s with heap:=h',toks:=t'}:=I.un (Un.laid k hp (I.hok.fresh hp)) (I.hok.laid k hp new)
def θ.write{x e:Addr}{o:HO}{t' : Nat}(I:5#s)(mu:VY (H x))(he:e=x\/H e=some (.own x))(k:∀b u,b≠e->22#u->45#u)(Vr:∃u,h'.get? e=some u)
 (new:bL X.prog X.w (η H x o) h' x o):θ X pq σ (η H x o) { s with heap:=h',toks:=t'}:=I.un (Un.write mu he k Vr) (I.hok.write mu he k Vr new)
def θ.weak{σ' : List (Option V)}(I:5#s)(hl:σ'.length=σ.length)(w:∀(i:Nat) v,σ'[i]?=some (some v)->σ[i]?=some (some v)):θ X pq σ' H s :=
 ⟨I.ok,I.os,I.bare,I.base,let⟨m,hn,hl'⟩:=I.loc;⟨m,hn,λi x v e1 e2 e3=>hl' i x v e1 (w i v e2) e3⟩,I.cell,I.free,I.gC,I.pin,I.hok,hl.trans I.len⟩
def θ.iJ{YG:aW}(I:5#s)(h:∀p∈YG,s.heap.get? p.1=some p.2/\H p.1=none/\76#p.1/\p.1∉X.fs/\∀v,p.2.data≠.cell v):θ X YG σ H s :=
 ⟨I.ok,I.os,I.bare,I.base,I.loc,I.cell,I.free,I.gC,λp hp=>(t!.mp hp).elim (λz=>I.pin p (Lf _ z)) (h p),I.hok,I.len⟩
def CU{N:List Str}(hN:N.Nodup){i j:Nat}{x:Str}(a:N[i]?=some x)(b:N[j]?=some x):i=j:=by
 obtain⟨h1,e1⟩:=j7.mp a;obtain⟨h2,e2⟩:=j7.mp b;exact(_u hN).mp (e1.trans e2.symm)
def IY{M:Model}{A:Around}{E:eG}{i:Nat}{x:Str}{v:V}{u:Value}{Q:64#Unit}(I:5#s)(hN:X.N.Nodup)(hi:X.N[i]?=some x)(hx:Loc X.env.scope x)(r:Θ v u)
 (h:∀s',θ X pq (σ.set i (some v)) H s'->(∃a,Heap.SameBut a s.heap s'.heap/\(a=X.env.locals\/X.env.cells.lookup x=some a))->Q () s') (hf:X.fn x=true\/53#x=some .local:=by first | exact .inl rfl | exact .inr rfl | assumption):wpAny M A (storeName X.env x u) Q E s:=by
 obtain⟨m,hn,hl⟩:=id I.loc;have hcls:(X.env.scope.kind == .class || (X.env.scope.kind == .module&&X.env.locals != X.env.globals))=false:=by rw[I.ok.kind];rfl
 have hiσ:i<σ.length:=by rw[I.len];exact(j7.mp hi).1
 have SD:=I.SD;have tracked:∀{a:Addr} {h' : Heap},(∃o,s.heap.get? a=some o/\H a=none)->Heap.SameBut a s.heap h'->oB X.prog X.w H h':=λ{a h'} ha hs b ob e=>by
  obtain⟨_,_,hfree⟩:=ha;refine(I.hok b ob e).stay (λc w' hc q=>(hs.2 c ?_).trans q) (λ_ q=>q) λ_ _ q=>q
  rintro rfl;rcases hc with rfl|hc
  .rw[hfree]at e;cases e
  .rw[hfree]at hc;cases hc
 rcases hx with hk|hk
 .refine wpAny_storeName_local hk hn (λh' hn' hs=>?_) hcls
  obtain⟨oL,_,_,Fi,_⟩:=id hn;refine h _ ⟨I.ok,I.os,I.bare,⟨λb o e n hb hx=>?_,λb o e n hb hx=>?_,I.base.free,λb o e hx=>?_,I.base.tups,I.base.nc,I.base.oE⟩,⟨_,hn',λj y v' e1 e2 e3=>?_⟩,λy c e=>?_,I.free,I.gC,λp hp=>?_,tracked ⟨oL,Fi,I.free⟩ hs,by simpa using I.len⟩ ⟨_,hs,.inl rfl⟩
  .exact(hs.2 b (q! (x! (b! e) I.ok.above))).trans (I.base.keep b o e n hb hx)
  .obtain⟨sl,e1⟩:=I.base.slot b o e n hb hx;exact⟨sl,(hs.2 b (q! (x! (b! e) I.ok.above))).trans e1⟩
  .obtain⟨o',e1⟩:=I.base.there b o e hx;exact⟨o',(hs.2 b (q! (x! (b! e) I.ok.above))).trans e1⟩
  .by_cases hj:j=i
   .subst hj;rw[hi]at e1;cases e1;rw[_Y hiσ]at e2;cases e2;exact⟨u,r,.inl ⟨hk,by simp⟩⟩
   .rw[ad1 (u! hj)]at e2;obtain⟨u',r',q⟩:=hl j y v' e1 e2 e3;refine⟨u',r',?_⟩;rcases q with⟨k,e⟩|⟨k,c,e,z⟩
    .refine .inl ⟨k,?_⟩;have:y≠x:=λe=>hj (CU hN e1 (e▸hi))
     simp[this,e]
    .exact .inr ⟨k,c,e,z.sameBut hs (SD y c e)⟩
  .obtain⟨w',z⟩:=I.cell y c e;exact⟨w',z.sameBut hs (SD y c e)⟩
  .obtain⟨e,n,ne,nf,d⟩:=I.pin p hp;exact⟨(hs.2 p.1 ne).trans e,n,ne,nf,d⟩
 .have hfn:X.fn x=true:=by
   rcases hf with z|z
   .exact z
   .rw[z]at hk;cases hk
  obtain⟨c,hc⟩:=I.ok.has x (.inl hk);obtain⟨w',z⟩:=I.cell x c hc;refine wpAny_storeName_cell I.ok.kind hk hc z (λh' hc' hs=>?_)
  obtain⟨oc,hoc,ZA⟩:=id z;refine h { s with heap:=h'} ⟨I.ok,I.os,I.bare,⟨λb o e n hb hx=>?_,λb o e n hb hx=>?_,I.base.free,λb o e hx=>?_,I.base.tups,I.base.nc,I.base.oE⟩,⟨m,hn.sameBut hs (u! (SD x c hc)),λj y v' e1 e2 e3=>?_⟩,λy c' e=>?_,I.free,I.gC,λp hp=>?_,tracked ⟨oc,hoc,I.gC x c hc⟩ hs,by simpa using I.len⟩ ⟨c,hs,.inr hc⟩
  .exact(hs.2 b (q! (x! (b! e) (I.ok.V0 x c hfn hc)))).trans (I.base.keep b o e n hb hx)
  .obtain⟨sl,e1⟩:=I.base.slot b o e n hb hx;exact⟨sl,(hs.2 b (q! (x! (b! e) (I.ok.V0 x c hfn hc)))).trans e1⟩
  .obtain⟨o',e1⟩:=I.base.there b o e hx;exact⟨o',(hs.2 b (q! (x! (b! e) (I.ok.V0 x c hfn hc)))).trans e1⟩
  .by_cases hj:j=i
   .subst hj;rw[hi]at e1;cases e1;rw[_Y hiσ]at e2;cases e2;exact⟨u,r,.inr ⟨.inl hk,c,hc,hc'⟩⟩
   .rw[ad1 (u! hj)]at e2;obtain⟨u',r',q⟩:=hl j y v' e1 e2 e3;refine⟨u',r',?_⟩;rcases q with q|⟨k,c',e,z'⟩
    .exact .inl q
    .refine .inr ⟨k,c',e,z'.sameBut hs ?_⟩;rintro rfl;exact hj (CU hN e1 (I.ok.inj _ _ _ e hc▸hi))
  .by_cases hcc:c' = c
   .subst hcc;exact⟨_,hc'⟩
   .obtain⟨w2,z2⟩:=I.cell y c' e;exact⟨w2,z2.sameBut hs hcc⟩
  .obtain⟨e,n,ne,nf,d⟩:=I.pin p hp;refine⟨(hs.2 p.1 ?_).trans e,n,ne,nf,d⟩;intro q;rw[q,hoc]at e;have q' : oc=p.2:=18#e;exact d w' (by rw[<-q'];exact ZA)
def rR{M:Model}{A:Around}{E:eG}{i:Nat}{x:Str}{v:V}{u:Value}{Q:64#Unit}(I:5#s)(hN:X.N.Nodup)(hi:X.N[i]?=some x)(hx:Loc X.env.scope x)(r:Θ v u)
 (h:∀s',θ X pq (σ.set i (some v)) H s'->Q () s') (hf:X.fn x=true\/53#x=some .local:=by first | exact .inl rfl | exact .inr rfl | assumption):wpAny M A (storeName X.env x u) Q E s :=
 IY I hN hi hx r (λs' I' _=>h s' I') hf
def θ.LA{s' : Shared}{ch:70#0}(I:5#s)(ho:s'.os=s.os)(u:Un (frs X.stack) ch H H' s.heap s'.heap)(hok:oB X.prog X.w H' s'.heap)(hg:AllBare s'.gens)
 (hch:∀b∈ch,(b∈X.ex\/X.s₀.heap.objs.size<=b)/\76#b/\(∀x c,37#x->c≠b)/\∀p∈X.pn++pq,p.1≠b):θ X pq σ H' s':=by
 obtain⟨h',g',d',t',o'⟩:=s';have e:o' = s.os:=ho;subst e;exact I.call (g':=g') (t':=t') (d':=d') u hok hg hch
end
abbrev XK:=Value->Option Addr->Hp->Prop
abbrev St:=List (Option V)
abbrev VK:=V->Hp->Prop
abbrev TE:=St->Hp->VK->Prop
abbrev TT:=St->Hp->(Bool->Hp->Prop)->Prop
abbrev TA:=St->Hp->(List V->Hp->Prop)->Prop
structure Ends where
 nx:St->Hp->Prop
 rt:VK
 bk:St->Hp->Prop:=80#0
 ct:St->Hp->Prop:=80#0
abbrev TS:=Ends->St->Hp->Prop
def EP(X:Cx)(pq:aW)(σ:St)(Q:VK)(u:Value)(s' : Shared):Prop:=∃v H',θ X pq σ H' s'/\Θ v u/\Q v H'
def TP(X:Cx)(pq:aW)(σ:St)(Q:Bool->Hp->Prop)(b:Bool)(s' : Shared):Prop:=∃H',θ X pq σ H' s'/\Q b H'
def AP(X:Cx)(pq:aW)(σ:St)(Q:List V->Hp->Prop)(us:23#0)(s' : Shared):Prop:=∃vs H',θ X pq σ H' s'/\υ vs us/\Q vs H'
def SP(X:Cx)(pq:aW)(D:Ends)(f:Flow)(s' : Shared):Prop :=
 match f with
 | .next=>∃σ' H',θ X pq σ' H' s'/\D.nx σ' H'
 | .brk=>∃σ' H',θ X pq σ' H' s'/\D.bk σ' H'
 | .cont=>∃σ' H',θ X pq σ' H' s'/\D.ct σ' H'
 | .ret u=>∃v σ' H',θ X pq σ' H' s'/\Θ v u/\D.rt v H'
def PE(X:Cx)(e:Expr)(t:TE):Prop :=
 ∀(pq:aW) (s:Shared) (σ:St) (H:Hp) (Q:VK),5#s->t σ H Q->wpAny 9#0 X.A (eval e X.env) (EP X pq σ Q) X.xe s
def PT(X:Cx)(e:Expr)(t:TT):Prop :=
 ∀(pq:aW) (s:Shared) (σ:St) (H:Hp) (Q:Bool->Hp->Prop),5#s->t σ H Q->wpAny 9#0 X.A (isTrue e X.env (eval e X.env)) (TP X pq σ Q) X.xe s
def PW(X:Cx)(e:Expr)(t:TT):Prop :=
 ∀(whole:Sem Value) (pq:aW) (s:Shared) (σ:St) (H:Hp) (Q:Bool->Hp->Prop),5#s->t σ H Q->wpAny 9#0 X.A (isTrue e X.env whole) (TP X pq σ Q) X.xe s
def PW.pt{X:Cx}{e:Expr}{t:TT}(h:PW X e t):PT X e t:=h _
def PA(X:Cx)(es:List Expr)(t:TA):Prop :=
 ∀(pos:Pos) (pq:aW) (s:Shared) (σ:St) (H:Hp) (Q:List V->Hp->Prop),5#s->t σ H Q->wpAny 9#0 X.A (spliced (backTo pos (21#es))) (AP X pq σ Q) X.xe s
def PS(X:Cx)(st:Stmt)(t:TS):Prop :=
 ∀(pq:aW) (s:Shared) (σ:St) (H:Hp) (D:Ends),5#s->t D σ H->wpAny 9#0 X.A (exec st X.env) (SP X pq D) X.xe s
def z8(X:Cx)(st:List Stmt)(t:TS):Prop :=
 ∀(pq:aW) (s:Shared) (σ:St) (H:Hp) (D:Ends),5#s->t D σ H->wpAny 9#0 X.A (execs st X.env) (SP X pq D) X.xe s
def dR{α:Type}{t:Sem α}{Q Q' : 64#α}{M:Model}{A:Around}{E:eG}{s:Shared}(h:wpAny M A t Q E s)(hQ:∀a s,Q a s->Q' a s):wpAny M A t Q' E s:=z! h hQ λ_ _ x=>x
section
variable {X:Cx}
def SE(i:Nat):TE:=λσ H Q=>∃v,σ[i]?=some (some v)/\Q v H
def tC(v:V):TE:=λ_ H Q=>Q v H
def SG{i:Nat}{x:Str}{pos:Pos}(hN:X.N[i]?=some x)(hv:YD X.env.scope x)(hd:(x==("__debug__":Str))=false:=by decide)(hcd:(x==("__classdict__":Str))=false:=by decide):PE X (.Name x pos) (SE i):=by
 show 72;obtain⟨v,e,h⟩:=h;obtain⟨m,hn,hl⟩:=I.loc;obtain⟨u,r,l⟩:=hl i x v hN e hv;have fin:EP X pq σ Q u s:=⟨v,H,I,r,h⟩;rcases l with⟨hk,hm⟩|⟨hk,c,hc,hcell⟩
 .exact wpAny_Name (wpAny_loadName_local I.ok.kind hk hn hm fin) hd
 .rcases hk with hk|hk
  .exact wpAny_Name (wpAny_loadName_cell I.ok.kind hk hc hcell fin) hd
  .exact wpAny_Name (wpAny_loadName_free I.ok.kind hk hc hcell fin hcd) hd
def aq{i j pos}:PE X (.Constant (.int i) j pos) (tC (.int i)):=λ_ _ _ H _ I h=>wpAny_Constant_int ⟨.int i,H,I.tok _,⟨_,rfl⟩,h⟩
def dI{b j pos}:PE X (.Constant (.bool b) j pos) (tC (.bl b)):=λ_ _ _ H _ I h=>Constant_bool ⟨.bl b,H,I,rfl,h⟩
def eN{j pos}:PE X (.Constant .none j pos) (tC .dZ):=λ_ _ _ H _ I h=>Constant_none ⟨.dZ,H,I,rfl,h⟩
def Fj{x j pos}:PE X (.Constant (.str x) j pos) (tC (.str x)):=λ_ _ _ H _ I h=>Calls.Constant_str ⟨.str x,H,I.tok _,⟨_,rfl⟩,h⟩
def Gl(X:Cx)(x:Str):Prop:=X.env.kindOf x=some .globalImplicit
def Hl{E:eG}{pq:aW}{s:Shared}{σ:St}{H:Hp}{x:Str}{u:Value}{pos:Pos}{Q:eG}(I:5#s)(hg:Gl X x)(hm:X.mg x=some u)(h:Q u s)
 (hd:(x==("__debug__":Str))=false:=by decide):wpAny 9#0 X.A (eval (.Name x pos) X.env) Q E s :=
 Calls.Name_function_global I.ok.kind hg (Calls.loadGlobal_global (by rw[I.ok.glob];exact I.mod.glob.keeps I.bk) hm h) hd
def jN{E:eG}{pq:aW}{s:Shared}{σ:St}{H:Hp}{x:Str}{u:Value}{pos:Pos}{Q:eG}(I:5#s)(hg:Gl X x)(hm:X.mg x=none)(hv:bootBuiltins x=some u)(h:Q u s)
 (hn:x≠"__name__":=by decide) (hd:(x==("__debug__":Str))=false:=by decide):wpAny 9#0 X.A (eval (.Name x pos) X.env) Q E s:=by
 obtain⟨mb,h1,h2⟩:=I.mod.blt;exact Calls.Name_function_global I.ok.kind hg (Calls.loadGlobal_builtin (by rw[I.ok.glob];exact I.mod.glob.keeps I.bk) hm (by rw[I.ok.blt];exact h1.keeps I.bk) ((h2 x hn).trans hv) h) hd
def Pj{x:Str}{v:V}{u:Value}{pos:Pos}(hg:Gl X x)(hm:X.mg x=none)(hv:bootBuiltins x=some u)(r:Θ v u)(hn:x≠"__name__":=by decide)(hd:(x==("__debug__":Str))=false:=by decide):PE X (.Name x pos) (tC v) :=
 λ_ _ _ H _ I h=>jN I hg hm hv ⟨v,H,I,r,h⟩ hn hd
variable {a b:Expr}{ta tb:TE}{pos:Pos}
def PC(X:Cx)(op:CmpOp)(a b:Expr)(t:TE):Prop :=
 ∀(pq:aW) (s:Shared) (σ:St) (H:Hp) (Q:VK),5#s->t σ H Q->
  wpAny 9#0 X.A (eval a X.env) (λv s₁=>wpAny 9#0 X.A (eval b X.env) (λu s₂=>wpAny 9#0 X.A (compareOp op v u) (EP X pq σ Q) X.xe s₂) X.xe s₁) X.xe s
def tB(t:TE):TT:=λσ H Q=>t σ H λx H1=>∃c,x = .bl c/\Q c H1
def SH{op:CmpOp}{t:TE}(h:PC X op a b t)(h1:behindInMarks op b=false:=by first | exact nobehind _ (16#0) (16#0) | rfl):PT X (.Compare a [op] [b] pos) (tB t):=by
 intro pq s σ H Q I hw;refine wpAny_isTrue_Compare1 (dR (h pq s σ H _ I hw) λv s1 h1=>dR h1 λu s2 h2=>dR h2 λc s3 ⟨x,H1,I1,r1,q1⟩=>?_) h1
 obtain⟨d,rfl,q⟩:=q1;cases r1;exact wpAny_truthy_bool ⟨H1,I1,q⟩
def cu{e:Expr}{t:TE}(h:PE X e t)(he:∀whole,isTrue e X.env whole=(do let v←whole;standAt e.pos;holding [v] (truthy v)):=by intro _;rfl):PT X e (tB t):=by
 intro pq s σ H Q I hw;refine isTrue_plain (dR (h pq s σ H _ I hw) λv s1 ⟨x,H1,I1,r1,q1⟩=>?_) (he _)
 obtain⟨d,rfl,q⟩:=q1;cases r1;exact wpAny_truthy_bool ⟨H1,I1,q⟩
variable {tA YH:TT}{rest:List Expr}
def ZC(t u:TT):TT:=λσ H Q=>t σ H λc H1=>if c=true then u σ H1 Q else Q false H1
def tOr(t u:TT):TT:=λσ H Q=>t σ H λc H1=>if c=true then Q true H1 else u σ H1 Q
def ZD(t:TT):TT:=λσ H Q=>t σ H λc H1=>Q (! c) H1
def pX(ha:PT X a tA):PW X (.BoolOp .And [a] pos) tA:=by
 intro wh pq s σ H Q I h;refine isTrue_and (dR (ha pq s σ H Q I h) λc s1 e=>?_)
 cases c with
 | true=>exact isTrue_and_nil e
 | false=>exact e
def iK(ha:PT X a tA):PW X (.BoolOp .Or [a] pos) tA:=by
 intro wh pq s σ H Q I h;refine isTrue_or (dR (ha pq s σ H Q I h) λc s1 e=>?_)
 cases c with
 | false=>exact isTrue_or_nil e
 | true=>exact e
def tM(ha:PT X a tA)(hb:PW X (.BoolOp .And (b::rest) pos) YH):PW X (.BoolOp .And (a::b::rest) pos) (ZC tA YH):=by
 intro wh pq s σ H Q I h;refine isTrue_and (dR 39#ha λc s1 ⟨H1,I1,q1⟩=>?_)
 cases c with
 | true=>exact hb wh pq s1 σ H1 Q I1 q1
 | false=>exact⟨H1,I1,q1⟩
def jA(ha:PT X a tA)(hb:PW X (.BoolOp .Or (b::rest) pos) YH):PW X (.BoolOp .Or (a::b::rest) pos) (tOr tA YH):=by
 intro wh pq s σ H Q I h;refine isTrue_or (dR 39#ha λc s1 ⟨H1,I1,q1⟩=>?_)
 cases c with
 | true=>exact⟨H1,I1,q1⟩
 | false=>exact hb wh pq s1 σ H1 Q I1 q1
def fN(ha:PT X a tA):PT X (.UnaryOp .Not a pos) (ZD tA):=by
 show 72;exact isTrue_not (ha pq s σ H (λc H1=>Q (! c) H1) I h)
def V3(ta tb:TE):TE:=λσ H Q=>ta σ H λx H1=>∃c,x = .bl c/\if c=true then tb σ H1 Q else Q (.bl false) H1
def ZE(ta tb:TE):TE:=λσ H Q=>ta σ H λx H1=>∃c,x = .bl c/\if c=true then Q (.bl true) H1 else tb σ H1 Q
def V4(ta:TE):TE:=λσ H Q=>ta σ H λx H1=>∃c,x = .bl c/\Q (.bl (! c)) H1
def oF{op}{t:TE}(h:PE X a t):PE X (.BoolOp op [a] pos) t:=λpq s σ H Q I hw=>BoolOp_one (h pq s σ H Q I hw)
def qP(ha:PE X a ta)(hb:PE X (.BoolOp .And (b::rest) pos) tb):PE X (.BoolOp .And (a::b::rest) pos) (V3 ta tb):=by
 show 72;refine BoolOp_and (dR 39#ha λv s1 ⟨x,H1,I1,r1,q1⟩=>?_)
 obtain⟨c,rfl,q1⟩:=q1;cases r1;refine wpAny_truthy_bool ?_;cases c with
 | true=>exact hb pq s1 σ H1 Q I1 q1
 | false=>exact⟨.bl false,H1,I1,rfl,q1⟩
def V5(ha:PE X a ta)(hb:PE X (.BoolOp .Or (b::rest) pos) tb):PE X (.BoolOp .Or (a::b::rest) pos) (ZE ta tb):=by
 show 72;refine BoolOp_or (dR 39#ha λv s1 ⟨x,H1,I1,r1,q1⟩=>?_)
 obtain⟨c,rfl,q1⟩:=q1;cases r1;refine wpAny_truthy_bool ?_;cases c with
 | false=>exact hb pq s1 σ H1 Q I1 q1
 | true=>exact⟨.bl true,H1,I1,rfl,q1⟩
def SJ(ha:PE X a ta):PE X (.UnaryOp .Not a pos) (V4 ta):=by
 show 72;refine UnaryOp_ (dR 39#ha λv s1 ⟨x,H1,I1,r1,q1⟩=>?_)
 obtain⟨c,rfl,q1⟩:=q1;cases r1;exact not_of (wpAny_truthy_bool ⟨.bl (! c),H1,I1,rfl,q1⟩)
def tIf(t:TT)(ta tb:TE):TE:=λσ H Q=>t σ H λc H1=>if c=true then ta σ H1 Q else tb σ H1 Q
def mT{c:Expr}(hc:PT X c tA)(ha:PE X a ta)(hb:PE X b tb):PE X (.IfExp c a b pos) (tIf tA ta tb):=by
 show 72;refine wpAny_IfExp (dR 39#hc λd s1 ⟨H1,I1,q1⟩=>?_)
 cases d with
 | true=>exact ha pq s1 σ H1 Q I1 q1
 | false=>exact hb pq s1 σ H1 Q I1 q1
end
def aM(K:b7)(H:Hp)(a:Addr)(xs:List V):Prop :=
 Rd H a (.lst xs)\/
  ∃(o:Obj) (its:42#0) (n:Nat),K.lookup a=some o/\o.cls = .type "list"/\o.dict=none/\o.data = .seq its n/\56#its.size/\υ xs its.toList
def aL(K:b7)(H:Hp)(a:Addr)(xs:List V):Prop :=
 Rd H a (.tup xs)\/
  ∃(o:Obj) (its:42#0) (n:Nat),K.lookup a=some o/\o.cls = .type "tuple"/\o.data = .seq its n/\56#its.size/\υ xs its.toList
def ZF:Value->Option V
 | .none=>some .dZ
 | .bool b=>some (.bl b)
 | .int i _=>some (.int i)
 | .str x _=>some (.str x)
 | .bytes b _=>some (.Lw b)
 | .float b _=>some (.Vq b)
 | .ref a=>some (.ref a)
 | .type n=>some (.ty n)
 | _=>none
def Θ.abs{x:V}{u:Value}(r:Θ x u):ZF u=some x:=by
 cases x with
 | dZ=>cases r;rfl
 | bl _=>cases r;rfl
 | int _=>obtain⟨t,rfl⟩:=r;rfl
 | str _=>obtain⟨t,rfl⟩:=r;rfl
 | Lw _=>obtain⟨t,rfl⟩:=r;rfl
 | Vq _=>obtain⟨t,rfl⟩:=r;rfl
 | ref _=>cases r;rfl
 | ty _=>cases r;rfl
def Θ.inj{x y:V}{u:Value}(r:Θ x u)(q:Θ y u):x=y:=18#(r.abs.symm.trans q.abs)
def υ.inj:∀{xs ys:List V} {us:23#0},υ xs us->υ ys us->xs=ys
 | _,_,_,.nil,.nil=>rfl
 | _,_,_,.cons r t,.cons r' t'=>by rw[r.inj r',υ.inj t t']
section
variable {X:Cx}{pq:aW}{σ:St}{H:Hp}{s:Shared}{a:Addr}{xs ys:List V}
def aM.of{K:b7}(h:H a=1#xs):aM K H a xs:=.inl (.inl h)
def aL.of{K:b7}(h:H a=10#xs):aL K H a xs:=.inl (.inl h)
def θ.list(I:5#s)(h:aM X.K H a xs):∃its:23#0,υ xs its/\PlainL s.heap a its.toArray/\56#xs.length:=by
 rcases h with h|⟨o,its,n,hk,hc,hd,hs,hz,r⟩
 .obtain⟨z,its,n,r,e⟩:=h.ok I.hok;exact⟨its,r,⟨_,n,e,rfl,rfl,rfl⟩,z⟩
 .refine⟨its.toList,r,⟨o,n,I.CM a o hk,hc,hd,by simpa using hs⟩,?_⟩
  have e:=r.length;simp only[N?]at e
  lia
def θ.tuple(I:5#s)(h:aL X.K H a xs):∃its:23#0,υ xs its/\IsTup s.heap a its.toArray/\56#xs.length:=by
 rcases h with h|⟨o,its,n,hk,hc,hs,hz,r⟩
 .obtain⟨z,its,r,p⟩:=h.ok I.hok;exact⟨its,r,p,z⟩
 .refine⟨its.toList,r,⟨o,I.CM a o hk,hc,n,by simpa using hs⟩,?_⟩
  have e:=r.length;simp only[N?]at e
  lia
def θ.rS(I:5#s)(h:aM X.K H a xs)(h' : aM X.K H a ys):xs=ys:=by
 obtain⟨its,r,⟨o,n,e,_,_,d⟩,_⟩:=I.list h;obtain⟨its',r',⟨o',n',e',_,_,d'⟩,_⟩:=I.list h';rw[e]at e';cases e';rw[d]at d';injection d' with d1 _
 have:its=its':=by simpa using n! Array.toList d1
 subst this;exact r.inj r'
def θ.z9(I:5#s)(h:aL X.K H a xs)(h' : aL X.K H a ys):xs=ys:=by
 obtain⟨its,r,⟨o,e,_,n,d⟩,_⟩:=I.tuple h;obtain⟨its',r',⟨o',e',_,n',d'⟩,_⟩:=I.tuple h';rw[e]at e';cases e';rw[d]at d';injection d' with d1 _
 have:its=its':=by simpa using n! Array.toList d1
 subst this;exact r.inj r'
end
abbrev Cx.wR(X:Cx)(E:eG):Cx:={ X with xe:=E}
abbrev Cx.E7(X:Cx):Cx:=X.wR 80#0
def Cx.Ok.wR{X:Cx}(ok:X.Ok)(E:eG):(X.wR E).Ok :=
 ⟨ok.mod,ok.kind,ok.glob,ok.blt,ok.above,ok.inj,ok.has,ok.V0,ok.hd,ok.frames,ok.Pf,ok.exf,ok.bs,ok.Pg,ok.Lz,ok.Ph,ok.funs,ok.SA⟩
def Cx.Ok.kN{X:Cx}{E:eG}(ok:(X.wR E).Ok):X.Ok :=
 ⟨ok.mod,ok.kind,ok.glob,ok.blt,ok.above,ok.inj,ok.has,ok.V0,ok.hd,ok.frames,ok.Pf,ok.exf,ok.bs,ok.Pg,ok.Lz,ok.Ph,ok.funs,ok.SA⟩
section
variable {X:Cx}{pq:aW}{σ:St}{H:Hp}{s:Shared}{E:eG}
def θ.wR(I:5#s)(E:eG):θ (X.wR E) pq σ H s:=⟨I.ok.wR E,I.os,I.bare,I.base,I.loc,I.cell,I.free,I.gC,I.pin,I.hok,I.len⟩
def θ.kN(I:θ (X.wR E) pq σ H s):5#s:=⟨I.ok.kN,I.os,I.bare,I.base,I.loc,I.cell,I.free,I.gC,I.pin,I.hok,I.len⟩
def SP.kN{D:Ends}{f:Flow}{s' : Shared}(h:SP (X.wR E) pq D f s'):SP X pq D f s':=by
 cases f with
 | next=>obtain⟨σ',H',I,q⟩:=h;exact⟨σ',H',I.kN,q⟩
 | brk=>obtain⟨σ',H',I,q⟩:=h;exact⟨σ',H',I.kN,q⟩
 | cont=>obtain⟨σ',H',I,q⟩:=h;exact⟨σ',H',I.kN,q⟩
 | ret u=>obtain⟨v,σ',H',I,r,q⟩:=h;exact⟨v,σ',H',I.kN,r,q⟩
def z8.E7{st:List Stmt}{t:TS}(h:z8 X.E7 st t):z8 X st t:=λpq s σ H D I hw =>
 z! (h pq s σ H D (I.wR _) hw) (λ_ _ q=>q.kN) λ_ _ z=>False.elim z
end
section
variable {X:Cx}{st:Stmt}{rest:List Stmt}{t u:TS}{e:Expr}{te:TE}{pos:Pos}
def bM:TS:=λD σ H=>D.nx σ H
def Ends.on(D:Ends)(u:TS):Ends:={ D with nx:=u D}
def aH(t u:TS):TS:=λD σ H=>t (D.on u) σ H
def aN:z8 X [] bM:=λ_ _ σ H _ I h=>wpAny_execs_nil ⟨σ,H,I,h⟩
def ae(h1:PS X st t)(h2:z8 X rest u):z8 X (st::rest) (aH t u):=by
 intro pq s σ H D I h;refine wpAny_execs_cons (dR (h1 pq s σ H { D with nx:=u D} I h) λf s1 q=>?_)
 cases f with
 | next =>
   obtain⟨σ',H',I',q⟩:=q;exact h2 pq s1 σ' H' D I' q
 | ret v=>exact q
 | brk=>exact q
 | cont=>exact q
def ak(h1:PS X st t):z8 X [st] t:=by
 intro pq s σ H D I h;refine wpAny_execs_cons (dR (h1 pq s σ H D I h) λf s1 q=>?_)
 cases f with
 | next=>exact wpAny_execs_nil q
 | ret v=>exact q
 | brk=>exact q
 | cont=>exact q
def θ.quiet{pq:aW}{σ:St}{H:Hp}{s:Shared}(I:5#s):interactive X.env=false:=by simp[interactive,I.ok.kind]
def V6(te:TE):TS:=λD σ H=>te σ H λ_ H1=>D.nx σ H1
def dB(he:PE X e te)(hs:swapsWith e none pos.line X.env=pure false:=by rfl):PS X (.Expr e pos) (V6 te):=by
 intro pq s σ H D I h;exact wpAny_Expr_any (dR 39#he λv s1 ⟨x,H1,I1,r1,q1⟩=>⟨σ,H1,I1,q1⟩) I.quiet hs
def ZG(te:TE):TS:=λD σ H=>te σ H D.rt
def aB(he:PE X e te):PS X (.Return (some e) pos) (ZG te):=by
 intro pq s σ H D I h;exact wpAny_Return_some (dR 39#he λv s1 ⟨x,H1,I1,r1,q1⟩=>⟨x,σ,H1,I1,r1,q1⟩)
def dc(c:TT)(t u:TS):TS:=λD σ H=>c σ H λb H1=>if b=true then t D σ H1 else u D σ H1
def bx{c:Expr}{a b:List Stmt}{tc:TT}(hc:PT X c tc)(ha:z8 X a t)(hb:z8 X b u):PS X (.If c a b pos) (dc tc t u):=by
 intro pq s σ H D I h;refine wpAny_If (dR 39#hc λd s1 ⟨H1,I1,q1⟩=>?_)
 cases d with
 | true=>exact ha pq s1 σ H1 D I1 q1
 | false=>exact hb pq s1 σ H1 D I1 q1
def SK:TS:=λ_ _ _=>False
def IZ{sts:List Stmt}:z8 X sts SK:=λ_ _ _ _ _ _ h=>h.elim
end
abbrev TG:=V->St->Hp->(St->Hp->Prop)->Prop
abbrev OY:=List V->St->Hp->(St->Hp->Prop)->Prop
def PG(X:Cx)(target:Expr)(t:TG):Prop :=
 ∀(pq:aW) (s:Shared) (σ:St) (H:Hp) (v:V) (u:Value) (Q:St->Hp->Prop),5#s->Θ v u->t v σ H Q->
  wpAny 9#0 X.A (assign target X.env u) (λ_ s'=>∃σ' H',θ X pq σ' H' s'/\Q σ' H') X.xe s
def Vt(X:Cx)(ts:List Expr)(t:OY):Prop :=
 ∀(pq:aW) (s:Shared) (σ:St) (H:Hp) (vs:List V) (us:23#0) (Q:St->Hp->Prop),5#s->υ vs us->t vs σ H Q->
  wpAny 9#0 X.A (assignInOrder ((assignEach ts X.env).map (·.2)) us) (λ_ s'=>∃σ' H',θ X pq σ' H' s'/\Q σ' H') X.xe s
abbrev LC:=V->V->V->Hp->(Hp->Prop)->Prop
def SM(X:Cx)(t:LC):Prop :=
 ∀(pq:aW) (s:Shared) (σ:St) (H:Hp) (o i v:V) (ov iv u:Value) (Q:Hp->Prop),5#s->Θ o ov->Θ i iv->Θ v u->t o i v H Q->
  wpAny 9#0 X.A (setItem ov iv u) (λ_ s'=>∃H',θ X pq σ H' s'/\Q H') X.xe s
abbrev V7:=V->V->Hp->VK->Prop
def PIp(X:Cx)(op:Operator)(t:V7):Prop :=
 ∀(pq:aW) (s:Shared) (σ:St) (H:Hp) (x y:V) (v u:Value) (Q:VK),5#s->Θ x v->Θ y u->t x y H Q->
  wpAny 9#0 X.A (inplaceOp op v u) (EP X pq σ Q) X.xe s
section
variable {X:Cx}{pos:Pos}
def Ho(i:Nat):TG:=λv σ H Q=>Q (σ.set i (some v)) H
def ng{i:Nat}{x:Str}(hN:X.N.Nodup)(hi:X.N[i]?=some x)(hx:Loc X.env.scope x)(hf:X.fn x=true\/53#x=some .local:=by first | exact .inl rfl | exact .inr rfl | assumption):PG X (.Name x pos) (Ho i):=by
 intro pq s σ H v u Q I r h;exact wpAny_assign_Name (rR I hN hi hx r (λs' I'=>⟨_,H,I',h⟩) hf)
def ZH:OY:=λvs σ H Q=>vs=[]/\Q σ H
def V8(t:TG)(u:OY):OY:=λvs σ H Q=>∃v r,vs=v::r/\t v σ H λσ' H'=>u r σ' H' Q
def cU:Vt X [] ZH:=by
 intro pq s σ H vs us Q I r h;obtain⟨e,h⟩:=h;subst e;cases r;exact assignInOrder_nil ⟨σ,H,I,h⟩
def aI{e:Expr}{es:List Expr}{t:TG}{u:OY}(h1:PG X e t)(h2:Vt X es u)
 (hs:(assignEach (e::es) X.env).map (·.2)=assign e X.env::(assignEach es X.env).map (·.2):=by rfl):Vt X (e::es) (V8 t u):=by
 intro pq s σ H vs us Q I r h;obtain⟨v,vr,e1,h⟩:=h;subst e1;cases r with
 | cons r rr =>
   rw[hs];refine assignInOrder_cons (dR (h1 pq s σ H _ _ _ I r h) λ_ s1 ⟨σ1,H1,I1,q1⟩=>?_)
   exact h2 pq s1 σ1 H1 _ _ Q I1 rr q1
def V9(K:b7)(n:Nat)(t:OY):TG:=λv σ H Q=>∃a xs,v = .ref a/\aL K H a xs/\xs.length=n/\t xs σ H Q
def SN{es:List Expr}{k:Nat}{t:OY}{n:Nat}(hc:X.calm=true)(h:Vt X es t)
 (hn:58#(assignEach es X.env)=n:=by rfl) (hst:(assignEach es X.env).findIdx? (·.1)=none:=by rfl):PG X (.Tuple es k pos) (V9 X.K n t):=by
 intro pq s σ H v u Q I r hw;obtain⟨a,xs,e1,hq,hl,hw⟩:=hw;subst e1;cases r;obtain⟨its,rv,ht,hz⟩:=I.tuple hq;refine assign_Tuple_tuple (I.ok.hd hc) ht (by simp[hn,<-hl,rv.length]) hst λh' hx=>?_
 have I1:5#{ s with heap:=h'}:=I.kept (t':=s.toks) λb o e=>hx b o (q! (b! e)) e
 exact h pq _ σ H xs _ Q I1 (by simpa using rv) hw
def ZI(to ti:TE)(t:LC):TG:=λv σ H Q=>to σ H λo H1=>ti σ H1 λi H2=>t o i v H2 λH3=>Q σ H3
def wU{o i:Expr}{to ti:TE}{t:LC}(ho:PE X o to)(hi:PE X i ti)(hs:SM X t)
 (ha:∀v,assign (.Subscript o i pos) X.env v=(do
  let ov←holding [v] (eval o X.env)
  let iv←holding [v,ov] (eval i X.env)
  standAt pos
  holding [v,ov,iv] (setItem ov iv v)
  release [v,ov,iv] []):=by intro _;rfl):PG X (.Subscript o i pos) (ZI to ti t):=by
 intro pq s σ H v u Q I r h;rw[ha];refine aR (J! (dR 39#ho λov s1 ⟨x,H1,I1,r1,q1⟩=>?_))
 refine aR (J! (dR (hi pq s1 σ H1 _ I1 q1) λiv s2 ⟨y,H2,I2,r2,q2⟩=>?_))
 refine aR (wpAny_standAt (aR (J! (dR (hs pq s2 σ H2 x y v ov iv u _ I2 r1 r2 r q2) λ_ s3 ⟨H3,I3,q3⟩=>?_))))
 exact wpAny_release ⟨σ,H3,I3,q3⟩
def SO(te:TE)(g:TG):TS:=λD σ H=>te σ H λx H1=>g x σ H1 D.nx
def qQ{tg e:Expr}{te:TE}{g:TG}(he:PE X e te)(hg:PG X tg g)(hs:swapsWithSole [tg] e pos.line X.env=pure false:=by rfl)(hw:swappedStores [tg] e X.env=pure none:=by rfl)
 (h1:(assignEach [tg] X.env).map (·.2)=[assign tg X.env]:=by rfl):PS X (.Assign [tg] e pos) (SO te g):=by
 intro pq s σ H D I h;refine wpAny_Assign_stores (dR 39#he λv s1 ⟨x,H1,I1,r1,q1⟩=>?_) hs hw
 rw[h1];exact dR (hg pq s1 σ H1 x v _ I1 r1 q1) λ_ s2 q=>q
def dD{i:Nat}{x:Str}{e:Expr}{te:TE}{pos' : Pos}(hN:X.N.Nodup)(hi:X.N[i]?=some x)(hx:Loc X.env.scope x)(he:PE X e te)(hs:swapsWith e (some (.Name x pos')) pos.line X.env=pure false:=by rfl)(hf:X.fn x=true\/53#x=some .local:=by first | exact .inl rfl | exact .inr rfl | assumption):
 PS X (.Assign [.Name x pos'] e pos) (SO te (Ho i)):=by
 intro pq s σ H D I h;refine wpAny_Assign_Name (dR 39#he λv s1 ⟨y,H1,I1,r1,q1⟩=>?_) hs
 exact rR I1 hN hi hx r1 (λs2 I2=>⟨_,H1,I2,q1⟩) hf
def ZJ(i:Nat)(te:TE)(ti:V7):TS:=λD σ H=>∃x,σ[i]?=some (some x)/\te σ H λy H1=>ti x y H1 λz H2=>D.nx (σ.set i (some z)) H2
def A8{i:Nat}{x:Str}{e:Expr}{te:TE}{op:Operator}{ti:V7}{pos' : Pos}(hN:X.N.Nodup)(hi:X.N[i]?=some x)(hx:Loc X.env.scope x)(he:PE X e te)(ho:PIp X op ti)(hf:X.fn x=true\/53#x=some .local:=by first | exact .inl rfl | exact .inr rfl | assumption):
 PS X (.AugAssign (.Name x pos') op e pos) (ZJ i te ti):=by
 intro pq s σ H D I h;obtain⟨v,e1,h⟩:=h;obtain⟨m,hn,hl⟩:=I.loc;have vis:YD X.env.scope x:=by rcases hx with k | k;exact .inl k;exact .inr (.inl k)
 obtain⟨u,r,l⟩:=hl i x v hi e1 vis;refine wpAny_AugAssign_Name ?_;have go:wpAny 9#0 X.A (eval e X.env) (λw s₂=>wpAny 9#0 X.A (inplaceOp op u w) (λr s₃=>wpAny 9#0 X.A (storeName X.env x r) (λ_=>SP X pq D .next) X.xe s₃) X.xe s₂) X.xe s:=by
  refine dR 39#he λw s1 ⟨y,H1,I1,r1,q1⟩=>?_
  refine dR (ho pq s1 σ H1 v y u w _ I1 r r1 q1) λz s2 ⟨zv,H2,I2,r2,q2⟩=>?_
  exact rR I2 hN hi hx r2 (λs3 I3=>⟨_,H2,I3,q2⟩) hf
 rcases l with⟨hk,hm⟩|⟨hk,c,hc,hcell⟩
 .exact wpAny_loadName_local I.ok.kind hk hn hm go
 .rcases hk with hk|hk
  .exact wpAny_loadName_cell I.ok.kind hk hc hcell go
  .rcases hx with k|k
   .have:53#x=some .free:=hk;rw[k]at this;cases this
   .have:53#x=some .free:=hk;rw[k]at this;cases this
def Wa(to ti te:TE)(Pk:V->V->Hp->VK->Prop)(YI:V7)(Pn:LC):TS:=λD σ H=>to σ H λo H1=>ti σ H1 λi H2=>Pk o i H2 λx H3=>te σ H3 λy H4=>YI x y H4 λz H5=>Pn o i z H5 λH6=>D.nx σ H6
def Wc(X:Cx)(t:V->V->Hp->VK->Prop):Prop :=
 ∀(pq:aW) (s:Shared) (σ:St) (H:Hp) (o i:V) (ov iv:Value) (Q:VK),5#s->Θ o ov->Θ i iv->t o i H Q->
  wpAny 9#0 X.A (getItem ov iv) (EP X pq σ Q) X.xe s
def Hq{o i e:Expr}{to ti te:TE}{Pk:V->V->Hp->VK->Prop}{YI:V7}{Pn:LC}{op:Operator}{tpos:Pos}(ho:PE X o to)(hi:PE X i ti)(hg:Wc X Pk)(he:PE X e te)(hp:PIp X op YI)(hs:SM X Pn)
 (ha:∀ov iv new,augStore i ov iv new=(do holding [new,ov,iv] (setItem ov iv new);release [new,ov,iv] [];pure .next):=by intros;rfl):PS X (.AugAssign (.Subscript o i tpos) op e pos) (Wa to ti te Pk YI Pn):=by
 intro pq s σ H D I h;refine wpAny_AugAssign_SubscriptAny (dR 39#ho λov s1 ⟨x1,H1,I1,r1,q1⟩=>?_) ha
 refine dR (hi pq s1 σ H1 _ I1 q1) λiv s2 ⟨x2,H2,I2,r2,q2⟩=>?_
 refine dR (hg pq s2 σ H2 x1 x2 ov iv _ I2 r1 r2 q2) λold s3 ⟨x3,H3,I3,r3,q3⟩=>?_
 refine dR (he pq s3 σ H3 _ I3 q3) λv s4 ⟨x4,H4,I4,r4,q4⟩=>?_
 refine dR (hp pq s4 σ H4 x3 x4 old v _ I4 r3 r4 q4) λnew s5 ⟨x5,H5,I5,r5,q5⟩=>?_
 exact dR (hs pq s5 σ H5 x1 x2 x5 ov iv new _ I5 r1 r2 r5 q5) λ_ s6 ⟨H6,I6,q6⟩=>⟨σ,H6,I6,q6⟩
def wW(c:TT)(tb:TS):TS:=λD σ H=>∃W:Nat->St->Hp->Prop,(∃m,W m σ H)/\∀m σ H,W m σ H->
 c σ H λb H1=>if b=true then ∃N:St->Hp->Prop,(∀σ' H',N σ' H'->∃m',m'<m/\W m' σ' H')/\tb { D with nx:=N,ct:=N,bk:=D.nx} σ H1 else D.nx σ H1
def rT{c:Expr}{body:List Stmt}{tc:TT}{tb:TS}(hp:PassesOwn 9#0 X.A X.env X.xe)(hc:PT X c tc)(hb:z8 X body tb):PS X (.While c body [] pos) (wW tc tb):=by
 intro pq s σ H D I h;obtain⟨W,⟨m0,w0⟩,turn⟩:=h;refine wpAny_While (codeAny_whileLoop (λn s'=>∃σ' H',θ X pq σ' H' s'/\W n σ' H') ?_ m0 ⟨σ,H,I,w0⟩)
 rintro n s1 ⟨σ1,H1,I1,w1⟩;refine wpAny_passesOwn hp (dR (hc pq s1 σ1 H1 _ I1 (turn n σ1 H1 w1)) λb s2 ⟨H2,I2,q2⟩=>?_)
 cases b with
 | true =>
   obtain⟨N,hN,q2⟩:=q2;rw[ο rfl];refine wpAny_passesOwn hp (dR (hb pq s2 σ1 H2 _ I2 q2) λf s3 q3=>?_)
   cases f with
   | next =>
     obtain⟨σ3,H3,I3,n3⟩:=q3;obtain⟨m',hm,w3⟩:=hN σ3 H3 n3;exact⟨m',hm,σ3,H3,I3,w3⟩
   | cont =>
     obtain⟨σ3,H3,I3,n3⟩:=q3;obtain⟨m',hm,w3⟩:=hN σ3 H3 n3;exact⟨m',hm,σ3,H3,I3,w3⟩
   | brk=>exact q3
   | ret v=>exact q3
 | false =>
   rw[ξ e!];exact wpAny_execs_nil ⟨σ1,H2,I2,q2⟩
end
structure It where
 go:Nat->Hp->Prop
 LD:Nat->Hp->V->Hp->Prop
 stop:Nat->Hp->Prop
def qR(X:Cx)(pq:aW)(H:Hp)(b:Addr):Prop :=
 H b=none/\76#b/\b∉X.fs/\(b∈X.ex\/X.s₀.heap.objs.size<=b)/\(∀x c,37#x->c≠b)/\∀p∈X.pn++pq,p.1≠b
def θ.Fl{X:Cx}{pq:aW}{σ:St}{H H' : Hp}{s:Shared}{b:Addr}(I:5#s)(hb:s.heap.objs.size<=b)(hn:H' b=none):qR X pq H' b:=by
 refine⟨hn,U? (x! I.lt hb),I.V1 hb,.inr (D! I.sz hb),λx c e z=>?_,λp hp z=>?_⟩
 .obtain⟨v,q⟩:=I.cell x c e;exact absurd (x! q.lt (by rw[z];exact hb)) (w? _)
 .exact absurd (x! (b! (I.pin p hp).1) (by rw[z];exact hb)) (w? _)
structure Turn(P:Program)(w:World)(K:b7)(tg:Expr)(J:It)(fp:70#0)(it:Addr)(tn:Nat->Heap->Prop):Prop where
 mem:it∈fp
 obj:∀i h,tn i h->∀b∈fp,∃o,71#h.get?/\∀v,o.data≠.cell v
 keep:∀i h h',tn i h->(∀b∈fp,∀o,71#h.get?->45#o)->tn i h'
 item:∀(X:Cx),X.prog=P->X.w=w->X.K=K->X.calm=true->∀(i:Nat) (pq:aW) (s:Shared) (σ:St) (H:Hp) (E:eG),5#s->(∀b∈fp,qR X pq H b)->tn i s.heap->J.go i H->
  wpAny (model P w) X.A (pyNext (.ref it)) (λr s1=>∃u,r=some u/\
   wpAny (model P w) X.A (letOwnedTupleGo tg (.ref it) u) (λ_ s2=>∃x H',θ X pq σ H' s2/\Θ x u/\J.LD i H x H'/\tn (i+1) s2.heap/\∀b∈fp,H' b=none) E s1) E s
 done:∀(X:Cx),X.prog=P->X.w=w->X.K=K->X.calm=true->∀(i:Nat) (pq:aW) (s:Shared) (σ:St) (H:Hp) (E:eG),5#s->(∀b∈fp,qR X pq H b)->tn i s.heap->J.stop i H->
  wpAny (model P w) X.A (pyNext (.ref it)) (λr s1=>r=none/\5#s1) E s
 self:∀(A:Around) (i:Nat) (s:Shared) (Q:eG) (E:eG),tn i s.heap->Q (.ref it) s->wpAny (model P w) A (pyIter (.ref it)) Q E s
abbrev TI:=St->Hp->(It->Hp->Prop)->Prop
def PIE(X:Cx)(pq:aW)(σ:St)(tg:Expr)(R:It->Hp->Prop)(itv:Value)(s2:Shared):Prop :=
 ∃(it:Addr) (fp:70#0) (tn:Nat->Heap->Prop) (J:It) (H' : Hp),itv = .ref it/\θ X pq σ H' s2/\Turn X.prog X.w X.K tg J fp it tn/\tn 0 s2.heap/\(∀b∈fp,qR X pq H' b)/\R J H'
def PI(X:Cx)(tg iter:Expr)(wi:TI):Prop :=
 ∀(pq:aW) (s:Shared) (σ:St) (H:Hp) (R:It->Hp->Prop),5#s->wi σ H R->
  wpAny 9#0 X.A (eval iter X.env) (λv s1=>wpAny 9#0 X.A (pyIter v) (PIE X pq σ tg R) X.xe s1) X.xe s
def LF{M:Model}{A:Around}{E:eG}{s:Shared}{tg:Expr}{it:Addr}{u:Value}{o:Obj}{n:String}{vs:42#0}{Q:64#Unit}(ho:s.heap.get? it=some o)(hc:o.cls = .type n)(hd:o.data = .fields vs)
 (hn:["enumerate","zip","dict_itemiterator","dict_reverseitemiterator","odict_iterator","itertools.zip_longest","itertools.pairwise"].contains n=false) (hQ:Q () s):wpAny M A (letOwnedTupleGo tg (.ref it) u) Q E s:=by
 unfold letOwnedTupleGo;cases tg<;>first
  | exact Ω hQ
  | (cases u<;>first
   | exact Ω hQ
   | (refine aR (wpAny_load ho ?_)
      rw[hc,hd];show wpAny M A (if(["enumerate","zip","dict_itemiterator","dict_reverseitemiterator","odict_iterator","itertools.zip_longest","itertools.pairwise"].contains n&&vs[0]? == some (rawInt _))=true then _ else _) Q E s
      rw[ξ (by intro h;rw[hn,R_]at h;cases h)]
      exact Ω hQ))
def Po(K:b7)(a:Addr):It :=
 ⟨λi H=>∃xs x,aM K H a xs/\xs[i]?=some x,λi H x H'=>H' = H/\∀xs,aM K H a xs->xs[i]?=some x,λi H=>∃xs,aM K H a xs/\xs.length<=i⟩
def Vu(K:b7)(a:Addr):It :=
 ⟨λi H=>∃xs x,aL K H a xs/\xs[i]?=some x,λi H x H'=>H' = H/\∀xs,aL K H a xs->xs[i]?=some x,λi H=>∃xs,aL K H a xs/\xs.length<=i⟩
def LG(lo:Int)(n:Nat):It:=⟨λi _=>i<n,λi H x H'=>H' = H/\x = .int (lo+i),λi _=>n<=i⟩
def Ja{P:Program}{w:World}{K:b7}{tg:Expr}(a it:Addr):Turn P w K tg (Po K a) [it] it (λi h=>h.IsListIter it a i) where
 mem:=by simp
 obj:=λi h st b hb=>by
  have e:b=it:=by simpa using hb
  subst e;obtain⟨o,e,c,d⟩:=st;exact⟨o,e,λv z=>by rw[d]at z;cases z⟩
 keep:=λi h h' st k=>st.at λo e=>k it 31#0 o e
 item:=by
  intro X hP hw hK hc i pq s σ H E I hf st hg;subst hP hw hK;obtain⟨xs,x,hq,hx⟩:=hg;obtain⟨its,rv,p,hz⟩:=I.list hq;obtain⟨u,hu,ru⟩:=rv.get hx;obtain⟨f0,f1,f2,f3,f4,f5⟩:=hf it 31#0
  refine wpAny_pyNext_list_item st p.isList (x:=u) (by simpa using hu) λh' st' sb=>?_
  have I1:5#{ s with heap:=h'}:=I.turned (t':=s.toks) (λb o hb e=>(sb.2 b hb).trans e) f0 f1 f3 f4 f5
  obtain⟨o,e,c,d⟩:=id st';exact⟨u,rfl,LF (s:={ s with heap:=h'}) e c d (16#0) ⟨x,H,I1,ru,47#(λys hy=>by rw[I.rS hy hq];exact hx),st',λb hb=>(hf b hb).1⟩⟩
 done:=by
  intro X hP hw hK hc i pq s σ H E I hf st hg;subst hP hw hK;obtain⟨xs,hq,hx⟩:=hg;obtain⟨its,rv,p,hz⟩:=I.list hq;obtain⟨f0,f1,f2,f3,f4,f5⟩:=hf it 31#0
  have hl:=rv.length;exact wpAny_pyNext_list_end (I.ok.hd hc) st p.isList (by simp;lia) λh' eb=>47#(I.turned (t':=s.toks) (λb o hb e=>eb b o hb e) f0 f1 f3 f4 f5)
 self:=λ_ _ _ _ _ st h=>wpAny_pyIter_listiter st h
def Fo{P:Program}{w:World}{K:b7}{tg:Expr}(a it:Addr):Turn P w K tg (Vu K a) [it] it (λi h=>h.IsTupleIter it a i) where
 mem:=by simp
 obj:=λi h st b hb=>by
  have e:b=it:=by simpa using hb
  subst e;obtain⟨o,e,c,d⟩:=st;exact⟨o,e,λv z=>by rw[d]at z;cases z⟩
 keep:=λi h h' st k=>st.at λo e=>k it 31#0 o e
 item:=by
  intro X hP hw hK hc i pq s σ H E I hf st hg;subst hP hw hK;obtain⟨xs,x,hq,hx⟩:=hg;obtain⟨its,rv,p,hz⟩:=I.tuple hq;obtain⟨u,hu,ru⟩:=rv.get hx;obtain⟨f0,f1,f2,f3,f4,f5⟩:=hf it 31#0
  refine wpAny_pyNext_tuple_item st (show s.heap.IsTuple a its.toArray from p) (x:=u) (by simpa using hu) λh' st' sb=>?_
  have I1:5#{ s with heap:=h'}:=I.turned (t':=s.toks) (λb o hb e=>(sb.2 b hb).trans e) f0 f1 f3 f4 f5
  obtain⟨o,e,c,d⟩:=id st';exact⟨u,rfl,LF (s:={ s with heap:=h'}) e c d (16#0) ⟨x,H,I1,ru,47#(λys hy=>by rw[I.z9 hy hq];exact hx),st',λb hb=>(hf b hb).1⟩⟩
 done:=by
  intro X hP hw hK hc i pq s σ H E I hf st hg;subst hP hw hK;obtain⟨xs,hq,hx⟩:=hg;obtain⟨its,rv,p,hz⟩:=I.tuple hq;obtain⟨f0,f1,f2,f3,f4,f5⟩:=hf it 31#0
  have hl:=rv.length;exact wpAny_pyNext_tuple_end (I.ok.hd hc) st (show s.heap.IsTuple a its.toArray from p) (by simp;lia) λh' eb=>47#(I.turned (t':=s.toks) (λb o hb e=>eb b o hb e) f0 f1 f3 f4 f5)
 self:=λ_ _ _ _ _ st h=>wpAny_pyIter_tupleiter st h
def Fp{P:Program}{w:World}{K:b7}{tg:Expr}(it:Addr)(lo:Int)(n:Nat):Turn P w K tg (LG lo n) [it] it (λi h=>IsRangeIter h it (lo+(i:Nat)*1) ((n:Int)-(i:Nat)) 1) where
 mem:=by simp
 obj:=λi h st b hb=>by
  have e:b=it:=by simpa using hb
  subst e;exact⟨_,st,λv z=>by
   have z' : Data.fields _=Data.cell v:=z;cases z'⟩
 keep:=λi h h' st k=>k it 31#0 _ st
 item:=by
  intro X hP hw hK hc i pq s σ H E I hf st hg;subst hP hw hK;obtain⟨f0,f1,f2,f3,f4,f5⟩:=hf it 31#0
  have W:=Walks.range (prog:=X.prog) (w:=X.w) (I.ok.hd hc) it lo 1 n;refine W.item i s _ _ hg st λv h' tk hv st' kk=>?_
  obtain⟨t,rfl⟩:=hv;have I1:5#{ s with heap:=h',toks:=tk}:=I.turned (λb o hb e=>kk b o (by simpa using hb) e) f0 f1 f3 f4 f5
  refine⟨_,rfl,LF (s:={ s with heap:=h',toks:=tk}) (n:="range_iterator") st' rfl rfl (16#0) ⟨.int (lo+i),H,I1,⟨t,?_⟩,⟨rfl,rfl⟩,st',λb hb=>(hf b hb).1⟩⟩
  rw[Int.mul_one]
 done:=by
  intro X hP hw hK hc i pq s σ H E I hf st hg;subst hP hw hK;obtain⟨f0,f1,f2,f3,f4,f5⟩:=hf it 31#0
  exact wpAny_pyNext_range_end (I.ok.hd hc) st (by have:n<=i:=hg;lia) λh' eb=>47#(I.turned (t':=s.toks) (λb o hb e=>eb b o hb e) f0 f1 f3 f4 f5)
 self:=λ_ _ _ _ _ st h=>wpAny_pyIter_rangeiter st h
section
variable {X:Cx}{tg:Expr}
def Rx(K:b7)(tl:TE):TI:=λσ H R=>tl σ H λx H1=>∃a,x = .ref a/\(∃xs,aM K H1 a xs)/\R (Po K a) H1
def Wd(K:b7)(tl:TE):TI:=λσ H R=>tl σ H λx H1=>∃a,x = .ref a/\(∃xs,aL K H1 a xs)/\R (Vu K a) H1
def Pp{l:Expr}{tl:TE}(hl:PE X l tl):PI X tg l (Rx X.K tl):=by
 intro pq s σ H R I h;refine dR 39#hl λv s1 ⟨x,H1,I1,r1,q1⟩=>?_
 obtain⟨a,e,⟨xs,hq⟩,q⟩:=q1;subst e;cases r1;obtain⟨its,rv,p,hz⟩:=I1.list hq;refine wpAny_pyIter_list p.isList ?_;refine⟨s1.heap.objs.size,[s1.heap.objs.size],_,_,H1,rfl,I1.kept (t':=s1.toks) λb o e=>l! _ e,Ja a _,⟨_,E! _ rfl,rfl,rfl⟩,λb hb=>?_,q⟩
 have e:b=s1.heap.objs.size:=by simpa using hb
 subst e;exact I1.Fl (Z' _) (I1.hok.fresh (Z' _))
def SQ{l:Expr}{tl:TE}(hl:PE X l tl):PI X tg l (Wd X.K tl):=by
 intro pq s σ H R I h;refine dR 39#hl λv s1 ⟨x,H1,I1,r1,q1⟩=>?_
 obtain⟨a,e,⟨xs,hq⟩,q⟩:=q1;subst e;cases r1;obtain⟨its,rv,p,hz⟩:=I1.tuple hq;refine wpAny_pyIter_tuple (show s1.heap.IsTuple a its.toArray from p) ?_
 refine⟨s1.heap.objs.size,[s1.heap.objs.size],_,_,H1,rfl,I1.kept (t':=s1.toks) λb o e=>l! _ e,Fo a _,⟨_,E! _ rfl,rfl,rfl⟩,λb hb=>?_,q⟩
 have e:b=s1.heap.objs.size:=by simpa using hb
 subst e;exact I1.Fl (Z' _) (I1.hok.fresh (Z' _))
def CV{pq:aW}{σ:St}{H:Hp}{s:Shared}{R:It->Hp->Prop}{E:eG}{lo hi:Int}{t u v:Tok}{tk:Nat}(I:5#s)(h1 : -(2^62)<=lo)(h2:lo<2^62)(h3 : -(2^62)<=hi)(h4:hi<2^62)
 (q:R (LG lo (hi-lo).toNat) H):wpAny 9#0 X.A (pyIter (19#.ref)) (PIE X pq σ tg R) E { s with heap:=33#{ cls:=.type "range",data:=.fields #[.int lo t,.int hi u,.int 1 v]},toks:=tk}:=by
 refine wpAny_pyIter_range (IsRange.new ..) (small_one h1 h2 h3 h4) ?_;have I1:5#{ s with heap:=33#{ cls:=.type "range",data:=.fields #[.int lo t,.int hi u,.int 1 v]},toks:=tk}:=I.kept λb o e=>l! _ e
 refine⟨49#(33#{ cls:=.type "range",data:=.fields #[.int lo t,.int hi u,.int 1 v]}),[49#(33#{ cls:=.type "range",data:=.fields #[.int lo t,.int hi u,.int 1 v]})],_,_,H,rfl,
  I1.kept (t':=tk) λb o e=>l! _ e,Fp _ lo (hi-lo).toNat,?_,λb hb=>?_,q⟩
 .have e1:lo+((0:Nat):Int)*1=lo:=by simp
  have e2:6#(hi-lo).toNat-((0:Nat):Int)=Builtin.Range.rangeSize lo hi 1:=by rw[rangeSize_one];split<;>lia
  show IsRangeIter _ _ (lo+((0:Nat):Int)*1) (6#(hi-lo).toNat-((0:Nat):Int)) 1;rw[e1,e2];exact E! _ rfl
 .have e:b=49#(33#{ cls:=.type "range",data:=.fields #[.int lo t,.int hi u,.int 1 v]}):=by simpa using hb
  subst e;exact I1.Fl (Z' _) (I1.hok.fresh (Z' _))
def We(ta:TA):TI:=λσ H R=>ta σ H λvs H1=>∃j:Int,vs=[.int j]/\-(2^62)<=j/\j<2^62/\R (LG 0 j.toNat) H1
def Wf(ta:TA):TI:=λσ H R=>ta σ H λvs H1=>∃i j:Int,vs=[.int i,.int j]/\(-(2^62)<=i/\i<2^62/\-(2^62)<=j/\j<2^62)/\R (LG i (j-i).toNat) H1
def aS{a:Expr}{ta:TA}{p pos:Pos}(hg:Gl X "range")(hm:X.mg "range"=none)(ha:PA X [a] ta)(hs:21#([a])=[43#a]:=by rfl):PI X tg (.Call (.Name "range" p) [a] [] pos) (We ta):=by
 intro pq s σ H R I h;refine Call_ (jN I hg hm boot_range (h_ (dR (ha pos pq s σ H _ I h) λus s1 ⟨vs,H1,I1,r1,q1⟩=>?_) hs rfl))
 obtain⟨j,e,q1,q2,q⟩:=q1;subst e;cases r1 with
 | cons r rr =>
   cases rr;obtain⟨t,rfl⟩:=r;exact call_range_1 (CV I1 (by lia) (by lia) q1 q2 (by simpa using q))
def Jb{a b:Expr}{ta:TA}{p pos:Pos}(hg:Gl X "range")(hm:X.mg "range"=none)(ha:PA X [a,b] ta)(hs:21#([a,b])=[43#a,43#b]:=by rfl)(hs2:21#([b])=[43#b]:=by rfl):
 PI X tg (.Call (.Name "range" p) [a,b] [] pos) (Wf ta):=by
 intro pq s σ H R I h;refine Call_ (jN I hg hm boot_range (h_ (dR (ha pos pq s σ H _ I h) λus s1 ⟨vs,H1,I1,r1,q1⟩=>?_) (by rw[hs,hs2]) (by rw[hs2];rfl)))
 obtain⟨i,j,e,⟨q1,q2,q3,q4⟩,q⟩:=q1;subst e;cases r1 with
 | cons r rr =>
   cases rr with
   | cons r' rr =>
     cases rr;obtain⟨t,rfl⟩:=r;obtain⟨t',rfl⟩:=r';exact call_range_2 (CV I1 q1 q2 q3 q4 q)
def gD(wi:TI)(g:TG)(tb:TS):TS:=λD σ H=>wi σ H λJ H1=>∃W:Nat->Nat->St->Hp->Prop,(∃m,W 0 m σ H1)/\∀i m σ H,W i m σ H->
 (J.stop i H/\D.nx σ H)\/(J.go i H/\∃N:St->Hp->Prop,(∀σ' H',N σ' H'->∃m',m'<m/\W (i+1) m' σ' H')/\∀x H',J.LD i H x H'->g x σ H' λσ2 H2=>tb { D with nx:=N,ct:=N,bk:=D.nx} σ2 H2)
def tN(fp:70#0)(h:Heap):aW:=fp.filterMap λb=>(h.get? b).map λo=>(b,o)
def jf{fp:70#0}{h:Heap}{b:Addr}{o:Obj}(hb:b∈fp)(e:71#h.get?):(b,o)∈tN fp h:=p_.mpr ⟨b,hb,by rw[e];rfl⟩
def Jc{fp:70#0}{h:Heap}{p:Addr×Obj}(hp:p∈tN fp h):p.1∈fp/\h.get? p.1=some p.2:=by
 obtain⟨b,hb,e⟩:=p_.mp hp;cases q:h.get? b with
 | none=>rw[q]at e;cases e
 | some o =>
   rw[q]at e;have e' : (b,o)=p:=18#e;subst e';exact⟨hb,q⟩
def θ.pinned{pq:aW}{σ:St}{H:Hp}{s:Shared}{fp:70#0}(I:5#s)(hf:∀b∈fp,qR X pq H b)(ho:∀b∈fp,∃o,22#o/\∀v,o.data≠.cell v):θ X (pq++tN fp s.heap) σ H s :=
 I.iJ λp hp=>(t!.mp hp).elim (λz=>I.pin p (jL _ z)) λz=>by
  obtain⟨hb,e⟩:=Jc z;obtain⟨f0,f1,f2,_⟩:=hf p.1 hb;obtain⟨o,e',d⟩:=ho p.1 hb;rw[e]at e';cases e';exact⟨e,f0,f1,f2,d⟩
def θ.kO{pq pl:aW}{σ:St}{H:Hp}{s:Shared}(I:θ X (pq++pl) σ H s):5#s:=I.iJ λp hp=>I.pin p (jL _ (Lf _ hp))
def cM{iter:Expr}{body:List Stmt}{wi:TI}{g:TG}{tb:TS}{pos:Pos}(hp:PassesOwn 9#0 X.A X.env X.xe)(hc:X.calm=true)(hi:PI X tg iter wi)(hg:PG X tg g)(hb:z8 X body tb)
 (hs:∀x,foldedSetIterable iter X.env x=pure x:=by intro _;rfl):PS X (.For tg iter body [] pos) (gD wi g tb):=by
 intro pq s σ H D I h;refine wpAny_For (dR 39#hi λv s1 h1=>dR h1 λitv s2 h2=>?_) hs
 obtain⟨it,fp,tn,J,H2,e,I2,T,st2,f2,W,⟨m0,w0⟩,turn⟩:=h2;subst e;have Fq:∀{H' : Hp},(∀b∈fp,H' b=none)->∀b∈fp,qR X pq H' b:=λhn b hb=>⟨hn b hb,(f2 b hb).2⟩
 refine codeAny_forLoop_any (λn s'=>∃i σ' H',θ X pq σ' H' s'/\tn i s'.heap/\(∀b∈fp,H' b=none)/\W i n σ' H') ?_ m0 ⟨0,σ,H2,I2,st2,λb hb=>(f2 b hb).1,w0⟩
 rintro n s3 ⟨i,σ3,H3,I3,st3,Ry,w3⟩;rcases turn i n σ3 H3 w3 with⟨stop,qn⟩|⟨go,N,hN,step⟩
 .refine wpAny_passesOwn hp (dR (T.done X rfl rfl rfl hc i pq s3 σ3 H3 X.xe I3 (Fq Ry) st3 stop) λr s4 ⟨hr,I4⟩=>?_)
  subst hr;exact wpAny_execs_nil ⟨σ3,H3,I4,qn⟩
 .refine wpAny_passesOwn hp (dR (T.item X rfl rfl rfl hc i pq s3 σ3 H3 X.xe I3 (Fq Ry) st3 go) λr s4 ⟨u,hr,h4⟩=>?_)
  subst hr;refine wpAny_passesOwn hp (dR h4 λ_ s5 ⟨x,H5,I5,r5,y5,LH,Wg⟩=>?_)
  have Wh:=I5.pinned (Fq Wg) (T.obj _ _ LH);refine wpAny_passesOwn hp (dR (hg _ s5 σ3 H5 x u _ Wh r5 (step x H5 y5)) λ_ s6 ⟨σ6,H6,I6,q6⟩=>?_)
  refine wpAny_passesOwn hp (dR (hb _ s6 σ6 H6 _ I6 q6) λf s7 q7=>?_)
  have again:∀{σ7:St} {H7:Hp},θ X (pq++tN fp s5.heap) σ7 H7 s7->N σ7 H7->∃m,m<n/\∃i σ' H',θ X pq σ' H' s7/\tn i s7.heap/\(∀b∈fp,H' b=none)/\W i m σ' H':=λ{σ7 H7} I7 n7=>by
   obtain⟨m',hm,w7⟩:=hN σ7 H7 n7;refine⟨m',hm,i+1,σ7,H7,I7.kO,T.keep _ _ _ LH λb hb o e=>(I7.pin (b,o) (jL _ (jL _ (jf hb e)))).1,λb hb=>?_,w7⟩
   obtain⟨o,e,d⟩:=T.obj _ _ LH b hb;exact(I7.pin (b,o) (jL _ (jL _ (jf hb e)))).2.1
  cases f with
  | next=>obtain⟨σ7,H7,I7,n7⟩:=q7;exact again I7 n7
  | cont=>obtain⟨σ7,H7,I7,n7⟩:=q7;exact again I7 n7
  | brk=>obtain⟨σ7,H7,I7,q7⟩:=q7;exact⟨σ7,H7,I7.kO,q7⟩
  | ret v=>obtain⟨x7,σ7,H7,I7,r7,q7⟩:=q7;exact⟨x7,σ7,H7,I7.kO,r7,q7⟩
end
def CW{K:b7}{a:Addr}{xs:List V}{g:TG}{tb:TS}{D:Ends}{σ:St}{H:Hp}(Pv:Nat->St->Hp->Prop)(h0:Pv 0 σ H)(hl:∀i σ H,i<=xs.length->Pv i σ H->aM K H a xs)
 (hs:∀i x σ H,xs[i]?=some x->Pv i σ H->g x σ H λσ2 H2=>tb { D with nx:=Pv (i+1),ct:=Pv (i+1),bk:=D.nx} σ2 H2) (hd:∀σ H,Pv xs.length σ H->D.nx σ H) :
 ∃W:Nat->Nat->St->Hp->Prop,(∃m,W 0 m σ H)/\∀i m σ H,W i m σ H->
   ((Po K a).stop i H/\D.nx σ H)\/((Po K a).go i H/\∃N:St->Hp->Prop,(∀σ' H',N σ' H'->∃m',m'<m/\W (i+1) m' σ' H')/\∀x H',(Po K a).LD i H x H'->g x σ H' λσ2 H2=>tb { D with nx:=N,ct:=N,bk:=D.nx} σ2 H2):=by
 refine⟨λi m σ H=>m=xs.length-i/\i<=xs.length/\Pv i σ H,⟨xs.length,by simp,v! _,h0⟩,?_⟩
 rintro i m σ H ⟨rfl,hi,p⟩;have q:=hl i σ H hi p
 by_cases hlt:i<xs.length
 .refine .inr ⟨⟨xs,xs[i],q,by simp[hlt]⟩,Pv (i+1),λσ' H' p'=>⟨xs.length-(i+1),by lia,rfl,hlt,p'⟩,λx H' y=>?_⟩
  obtain⟨e,y⟩:=y;subst e;exact hs i x σ _ (y xs q) p
 .have e:i=xs.length:=by lia
  subst e;exact .inl ⟨⟨xs,q,Z' _⟩,hd σ H p⟩
def Hr{K:b7}{a:Addr}{xs:List V}{g:TG}{tb:TS}{D:Ends}{σ:St}{H:Hp}(Pv:Nat->St->Hp->Prop)(h0:Pv 0 σ H)(hl:∀i σ H,i<=xs.length->Pv i σ H->aL K H a xs)
 (hs:∀i x σ H,xs[i]?=some x->Pv i σ H->g x σ H λσ2 H2=>tb { D with nx:=Pv (i+1),ct:=Pv (i+1),bk:=D.nx} σ2 H2) (hd:∀σ H,Pv xs.length σ H->D.nx σ H) :
 ∃W:Nat->Nat->St->Hp->Prop,(∃m,W 0 m σ H)/\∀i m σ H,W i m σ H->
   ((Vu K a).stop i H/\D.nx σ H)\/((Vu K a).go i H/\∃N:St->Hp->Prop,(∀σ' H',N σ' H'->∃m',m'<m/\W (i+1) m' σ' H')/\∀x H',(Vu K a).LD i H x H'->g x σ H' λσ2 H2=>tb { D with nx:=N,ct:=N,bk:=D.nx} σ2 H2):=by
 refine⟨λi m σ H=>m=xs.length-i/\i<=xs.length/\Pv i σ H,⟨xs.length,by simp,v! _,h0⟩,?_⟩
 rintro i m σ H ⟨rfl,hi,p⟩;have q:=hl i σ H hi p
 by_cases hlt:i<xs.length
 .refine .inr ⟨⟨xs,xs[i],q,by simp[hlt]⟩,Pv (i+1),λσ' H' p'=>⟨xs.length-(i+1),by lia,rfl,hlt,p'⟩,λx H' y=>?_⟩
  obtain⟨e,y⟩:=y;subst e;exact hs i x σ _ (y xs q) p
 .have e:i=xs.length:=by lia
  subst e;exact .inl ⟨⟨xs,q,Z' _⟩,hd σ H p⟩
def Aa{lo:Int}{n:Nat}{g:TG}{tb:TS}{D:Ends}{σ:St}{H:Hp}(Pv:Nat->St->Hp->Prop)(h0:Pv 0 σ H)
 (hs:∀i σ H,i<n->Pv i σ H->g (.int (lo+i)) σ H λσ2 H2=>tb { D with nx:=Pv (i+1),ct:=Pv (i+1),bk:=D.nx} σ2 H2) (hd:∀σ H,Pv n σ H->D.nx σ H) :
 ∃W:Nat->Nat->St->Hp->Prop,(∃m,W 0 m σ H)/\∀i m σ H,W i m σ H->
   ((LG lo n).stop i H/\D.nx σ H)\/((LG lo n).go i H/\∃N:St->Hp->Prop,(∀σ' H',N σ' H'->∃m',m'<m/\W (i+1) m' σ' H')/\∀x H',(LG lo n).LD i H x H'->g x σ H' λσ2 H2=>tb { D with nx:=N,ct:=N,bk:=D.nx} σ2 H2):=by
 refine⟨λi m σ H=>m=n-i/\i<=n/\Pv i σ H,⟨n,by simp,v! _,h0⟩,?_⟩
 rintro i m σ H ⟨rfl,hi,p⟩
 by_cases hlt:i<n
 .refine .inr ⟨hlt,Pv (i+1),λσ' H' p'=>⟨n-(i+1),by lia,rfl,hlt,p'⟩,λx H' y=>?_⟩
  obtain⟨e,y⟩:=y;subst e y;exact hs i σ _ hlt p
 .have e:i=n:=by lia
  subst e;exact .inl ⟨Z' _,hd σ H p⟩
abbrev R2:=V->V->Hp->VK->Prop
def mh(X:Cx)(f:Value->Value->Sem Value)(r:R2):Prop :=
 ∀(pq:aW) (s:Shared) (σ:St) (H:Hp) (x y:V) (v u:Value) (Q:VK),5#s->Θ x v->Θ y u->r x y H Q->
  wpAny 9#0 X.A (f v u) (EP X pq σ Q) X.xe s
def ZK(X:Cx)(f:Value->Sem Value)(r:V->Hp->VK->Prop):Prop :=
 ∀(pq:aW) (s:Shared) (σ:St) (H:Hp) (x:V) (v:Value) (Q:VK),5#s->Θ x v->r x H Q->
  wpAny 9#0 X.A (f v) (EP X pq σ Q) X.xe s
def fc(X:Cx)(f:Value)(r:List V->Hp->VK->Prop):Prop :=
 ∀(pq:aW) (s:Shared) (σ:St) (H:Hp) (xs:List V) (us:23#0) (Q:VK),5#s->υ xs us->r xs H Q->
  wpAny 9#0 X.A (call f us) (EP X pq σ Q) X.xe s
def Rz(r:R2)(ta tb:TE):TE:=λσ H Q=>ta σ H λx H1=>tb σ H1 λy H2=>r x y H2 Q
def tUn(r:V->Hp->VK->Prop)(ta:TE):TE:=λσ H Q=>ta σ H λx H1=>r x H1 Q
def rI(C:Int->Int->Prop)(g:Int->Int->V):R2:=λx y H Q=>∃i j,x = .int i/\y = .int j/\C i j/\Q (g i j) H
def Hs(g:Int->Int->V):R2:=λx y H Q=>∃i j,x = .int i/\y = .int j/\Q (g i j) H
def rU(g:Int->V):V->Hp->VK->Prop:=λx H Q=>∃i,x = .int i/\Q (g i) H
section
variable {X:Cx}{a b c:Expr}{ta tb tc:TE}{pos:Pos}
def SR(ha:PE X a ta)(hb:PE X b tb){pq:aW}{s:Shared}{σ:St}{H:Hp}{R:V->V->Hp->Prop}(I:5#s)
 (h:ta σ H λx H1=>tb σ H1 λy H2=>R x y H2) {Q:eG} {f:Value->Value->Sem Value}
 (hf:∀v u s2 x y H2,θ X pq σ H2 s2->Θ x v->Θ y u->R x y H2->wpAny 9#0 X.A (f v u) Q X.xe s2) :
 wpAny 9#0 X.A (eval a X.env) (λv s₁=>wpAny 9#0 X.A (eval b X.env) (λu s₂=>wpAny 9#0 X.A (f v u) Q X.xe s₂) X.xe s₁) X.xe s:=by
 refine dR 39#ha λv s1 ⟨x,H1,I1,r1,q1⟩=>?_
 refine dR (hb pq s1 σ H1 _ I1 q1) λu s2 ⟨y,H2,I2,r2,q2⟩=>?_
 exact hf v u s2 x y H2 I2 r1 r2 q2
def au{op:Operator}{r:R2}(ho:mh X (binaryOp op) r)(ha:PE X a ta)(hb:PE X b tb):PE X (.BinOp a op b pos) (Rz r ta tb):=by
 show 72;exact wpAny_BinOp (SR ha hb I h λv u s2 x y H2 I2 rx ry q=>ho pq s2 σ H2 x y v u Q I2 rx ry q)
def Ht{op:UnaryOp}{r:V->Hp->VK->Prop}(ho:ZK X (unaryOp op) r)(ha:PE X a ta):PE X (.UnaryOp op a pos) (tUn r ta):=by
 show 72;exact UnaryOp_ (dR 39#ha λv s1 ⟨x,H1,I1,r1,q1⟩=>ho pq s1 σ H1 x v Q I1 r1 q1)
def Vv{f:Value->Value->Sem Value}{C:Int->Int->Prop}{g:Int->Int->Int}
 (rule:∀(i j:Int) (t u:Tok) (s:Shared) (Q:eG) (E:eG),C i j->Q (.int (g i j) s.toks) { s with toks:=s.toks+1}->wpAny 9#0 X.A (f (.int i t) (.int j u)) Q E s) :
 mh X f (rI C λi j=>.int (g i j)):=by
 show 75;obtain⟨i,j,rfl,rfl,hc,q⟩:=h;obtain⟨t,rfl⟩:=rx;show 79;exact rule i j t t' s _ _ hc ⟨.int (g i j),H,I.tok _,⟨_,rfl⟩,q⟩
def CY{f:Value->Value->Sem Value}{g:Int->Int->Int}
 (rule:∀(i j:Int) (t u:Tok) (s:Shared) (Q:eG) (E:eG),Q (.int (g i j) s.toks) { s with toks:=s.toks+1}->wpAny 9#0 X.A (f (.int i t) (.int j u)) Q E s) :
 mh X f (Hs λi j=>.int (g i j)):=by
 show 75;obtain⟨i,j,rfl,rfl,q⟩:=h;obtain⟨t,rfl⟩:=rx;show 79;exact rule i j t t' s _ _ ⟨.int (g i j),H,I.tok _,⟨_,rfl⟩,q⟩
def Pu{f:Value->Value->Sem Value}{g:Int->Int->Bool}
 (rule:∀(i j:Int) (t u:Tok) (s:Shared) (Q:eG) (E:eG),Q (.bool (g i j)) s->wpAny 9#0 X.A (f (.int i t) (.int j u)) Q E s) :
 mh X f (Hs λi j=>.bl (g i j)):=by
 show 75;obtain⟨i,j,rfl,rfl,q⟩:=h;obtain⟨t,rfl⟩:=rx;show 79;exact rule i j t t' s _ _ ⟨.bl (g i j),H,I,rfl,q⟩
def ZL(i j:Int):Prop:=0<j/\j<1073741824
def Wi(i j:Int):Prop:=0<=j/\j<=1000000/\i.natAbs<2^64
def SS(i j:Int):Prop:=(-(2^64)<i/\i<2^64)\/(-(2^64)<j/\j<2^64)
def SS.ok{i j:Int}(h:SS i j):IntMulOk i j:=by
 rcases h with⟨h1,h2⟩|⟨h1,h2⟩
 .exact .of_left (intBits_le_64 h1 h2)
 .exact .of_right (intBits_le_64 h1 h2)
def Ft(k:Nat):(0:Int)<=2^k:=by
 rw[two_pow_cast];exact z_ _
def cI:mh X (binaryOp .Add) (Hs λi j=>.int (i+j)):=CY λ_ _ _ _ _ _ _ q=>add_int q
def gx:mh X (binaryOp .Sub) (Hs λi j=>.int (i-j)):=CY λ_ _ _ _ _ _ _ q=>sub_int q
def Fv:mh X (binaryOp .Mult) (rI SS λi j=>.int (i*j)):=Vv λ_ _ _ _ _ _ _ hc q=>mul_int q hc.ok
def eM:mh X (binaryOp .FloorDiv) (rI ZL λi j=>.int (i/j)):=Vv λi j _ _ _ _ _ hc q=>by
 have h1:(0:Int)<j:=hc.1;have h2:j<1073741824:=hc.2;exact floordiv_int (by lia) (by rw[Int.fdiv_eq_ediv_of_nonneg i (by lia)];exact q) (.inl (PyProof.noPylong_small (by lia)))
def bh:mh X (binaryOp .Mod) (rI (λ_ j=>0<j) λi j=>.int (i%j)):=Vv λi j _ _ _ _ _ hc q=>by
 have h1:(0:Int)<j:=hc;exact mod_int' (by lia) (by rw[Int.fmod_eq_emod_of_nonneg i (by lia)];exact q)
def A9:mh X (binaryOp .Pow) (rI Wi λi j=>.int (i^j.toNat)):=Vv λ_ _ _ _ _ _ _ hc q=>pow_int_small hc.1 hc.2.1 hc.2.2 q
def h7:mh X (binaryOp .LShift) (rI Wi λi j=>.int (i*2^j.toNat)):=Vv λ_ _ _ _ _ _ _ hc q=>lshift_int_small hc.1 hc.2.1 hc.2.2 q
def oG:mh X (binaryOp .RShift) (rI (λ_ j=>0<=j) λi j=>.int (i/2^j.toNat)):=Vv λi j _ _ _ _ _ hc q =>
 rshift_int hc (by rw[Int.fdiv_eq_ediv_of_nonneg i (Ft _)];exact q)
def Ba:mh X (binaryOp .BitAnd) (Hs λi j=>.int (Builtin.bitAnd i j)):=CY λ_ _ _ _ _ _ _ q=>and_int q
def Hu:mh X (binaryOp .BitOr) (Hs λi j=>.int (Builtin.bitOr i j)):=CY λ_ _ _ _ _ _ _ q=>or_int q
def iL:mh X (binaryOp .BitXor) (Hs λi j=>.int (Builtin.bitXor i j)):=CY λ_ _ _ _ _ _ _ q=>xor_int q
def Hv:mh X (inplaceOp .Add) (Hs λi j=>.int (i+j)):=CY λ_ _ _ _ _ _ _ q=>iadd_int q
def LI:mh X (inplaceOp .BitOr) (Hs λi j=>.int (Builtin.bitOr i j)):=CY λ_ _ _ _ _ _ _ q=>ior_int q
def Hw:mh X (inplaceOp .BitXor) (Hs λi j=>.int (Builtin.bitXor i j)):=CY λ_ _ _ _ _ _ _ q=>ixor_int q
def unI{f:Value->Sem Value}{g:Int->Int}
 (rule:∀(i:Int) (t:Tok) (s:Shared) (Q:eG) (E:eG),Q (.int (g i) s.toks) { s with toks:=s.toks+1}->wpAny 9#0 X.A (f (.int i t)) Q E s) :
 ZK X f (rU λi=>.int (g i)):=by
 intro pq s σ H x v Q I rx h;obtain⟨i,rfl,q⟩:=h;obtain⟨t,rfl⟩:=rx;exact rule i t s _ _ ⟨.int (g i),H,I.tok _,⟨_,rfl⟩,q⟩
def Bb:ZK X (unaryOp .USub) (rU λi=>.int (-i)):=unI λ_ _ _ _ _ q=>neg_int q
end
def SV:V->V->Bool
 | .dZ,.dZ=>true | .dZ,.int _=>true | .int _,.dZ=>true | .dZ,.bl _=>true | .bl _,.dZ=>true | .dZ,.str _=>true | .str _,.dZ=>true
 | .int _,.int _=>true | .bl _,.bl _=>true | .str _,.str _=>true | .Lw _,.Lw _=>true
 | .int _,.str _=>true | .str _,.int _=>true | .bl _,.str _=>true | .str _,.bl _=>true
 | _,_=>false
def rEq:R2:=λx y H Q=>SV x y=true/\Q (.bl (decide (x=y))) H
def rNe:R2:=λx y H Q=>SV x y=true/\Q (.bl (! decide (x=y))) H
def Hx{i j:Int}:7#(V.int i=V.int j)=(i==j):=by
 rw[W!];simp
def LJ{i j:Bool}:7#(V.bl i=V.bl j)=(i==j):=by
 rw[W!];simp
def Hy{i j:Str}:7#(V.str i=V.str j)=(i==j):=by
 rw[W!];simp
def Hz{i j:Array UInt8}:7#(V.Lw i=V.Lw j)=(i.toList==j.toList):=by
 rw[W!];cases i;cases j;simp
section
variable {X:Cx}{a b c:Expr}{ta tb tc:TE}{pos:Pos}
def bX{pq:aW}{σ:St}{H:Hp}{s:Shared}{Q:VK}{k k' : Bool}(I:5#s)(q:Q (.bl k) H)(e:k=k'):EP X pq σ Q (.bool k') s:=by
 subst e;exact⟨.bl k,H,I,rfl,q⟩
def eK:mh X (compareOp .Eq) rEq:=by
 show 75;obtain⟨hs,q⟩:=h;cases x with
 | dZ =>
   cases rx;cases y with
   | dZ=>cases ry;exact PySem.EqNone.eq_none_none (bX I q 31#0)
   | bl j=>cases ry;exact PySem.EqNone.eq_none_bool (bX I q 31#0)
   | int j=>show 79;exact PySem.EqNone.eq_none_int (bX I q 31#0)
   | str j=>show 79;exact PySem.EqNone.eq_none_str (bX I q 31#0)
   | _=>exact absurd (show false=true from hs) e!
 | bl i =>
   cases rx;cases y with
   | dZ=>cases ry;exact PySem.EqNone.eq_bool_none (bX I q 31#0)
   | bl j=>cases ry;exact eq_bool (bX I q LJ)
   | str j=>show 79;exact PySem.EqMixed.eq_bool_str (bX I q 31#0)
   | _=>exact absurd (show false=true from hs) e!
 | int i =>
   obtain⟨t,rfl⟩:=rx;cases y with
   | dZ=>cases ry;exact PySem.EqNone.eq_int_none (bX I q 31#0)
   | int j=>show 79;exact eq_int (bX I q Hx)
   | str j=>show 79;exact PySem.EqMixed.eq_int_str (bX I q 31#0)
   | _=>exact absurd (show false=true from hs) e!
 | str i =>
   obtain⟨t,rfl⟩:=rx;cases y with
   | dZ=>cases ry;exact PySem.EqNone.eq_str_none (bX I q 31#0)
   | bl j=>cases ry;exact PySem.EqMixed.eq_str_bool (bX I q 31#0)
   | int j=>show 79;exact PySem.EqMixed.eq_str_int (bX I q 31#0)
   | str j=>show 79;exact eq_str (bX I q Hy)
   | _=>exact absurd (show false=true from hs) e!
 | Lw i =>
   obtain⟨t,rfl⟩:=rx;cases y with
   | Lw j=>show 79;exact PySem.W.eq_bytes (bX I q Hz)
   | _=>exact absurd (show false=true from hs) e!
 | _=>cases y<;>exact absurd (show false=true from hs) e!
def qD:mh X (compareOp .NotEq) rNe:=by
 show 75;obtain⟨hs,q⟩:=h;cases x with
 | dZ =>
   cases rx;cases y with
   | dZ=>cases ry;exact PySem.EqNone.ne_none_none (bX I q 31#0)
   | bl j=>cases ry;exact PySem.EqNone.ne_none_bool (bX I q 31#0)
   | int j=>show 79;exact PySem.EqNone.ne_none_int (bX I q 31#0)
   | str j=>show 79;exact PySem.EqNone.ne_none_str (bX I q 31#0)
   | _=>exact absurd (show false=true from hs) e!
 | bl i =>
   cases rx;cases y with
   | dZ=>cases ry;exact PySem.EqNone.ne_bool_none (bX I q 31#0)
   | bl j=>cases ry;exact ne_bool (bX I q (n! not LJ))
   | str j=>show 79;exact PySem.EqMixed.ne_bool_str (bX I q 31#0)
   | _=>exact absurd (show false=true from hs) e!
 | int i =>
   obtain⟨t,rfl⟩:=rx;cases y with
   | dZ=>cases ry;exact PySem.EqNone.ne_int_none (bX I q 31#0)
   | int j=>show 79;exact ne_int (bX I q (n! not Hx))
   | str j=>show 79;exact PySem.EqMixed.ne_int_str (bX I q 31#0)
   | _=>exact absurd (show false=true from hs) e!
 | str i =>
   obtain⟨t,rfl⟩:=rx;cases y with
   | dZ=>cases ry;exact PySem.EqNone.ne_str_none (bX I q 31#0)
   | bl j=>cases ry;exact PySem.EqMixed.ne_str_bool (bX I q 31#0)
   | int j=>show 79;exact PySem.EqMixed.ne_str_int (bX I q 31#0)
   | str j=>show 79;exact ne_str (bX I q (n! not Hy))
   | _=>exact absurd (show false=true from hs) e!
 | Lw i =>
   obtain⟨t,rfl⟩:=rx;cases y with
   | Lw j=>show 79;exact PySem.W.ne_bytes (bX I q (n! not Hz))
   | _=>exact absurd (show false=true from hs) e!
 | _=>cases y<;>exact absurd (show false=true from hs) e!
def vo:mh X (compareOp .Lt) (Hs λi j=>.bl (decide (i<j))):=Pu λ_ _ _ _ _ _ _ q=>lt_int q
def HC:mh X (compareOp .LtE) (Hs λi j=>.bl (decide (i<=j))):=Pu λ_ _ _ _ _ _ _ q=>le_int q
def vp:mh X (compareOp .Gt) (Hs λi j=>.bl (decide (j<i))):=Pu λ_ _ _ _ _ _ _ q=>gt_int q
def CZ:mh X (compareOp .GtE) (Hs λi j=>.bl (decide (j<=i))):=Pu λ_ _ _ _ _ _ _ q=>ge_int q
def jO:mh X (compareOp .Is) (λx y H Q=>y = .dZ/\Q (.bl (7#(x = .dZ))) H):=by
 show 75;obtain⟨rfl,q⟩:=h;cases ry;refine is_none_gen (bX I q ?_);cases x<;>first
  | (cases rx;rfl)
  | (obtain⟨t,rfl⟩:=rx;rfl)
def Bc:mh X (compareOp .IsNot) (λx y H Q=>y = .dZ/\Q (.bl (! 7#(x = .dZ))) H):=by
 show 75;obtain⟨rfl,q⟩:=h;cases ry;refine isnot_none_gen (bX I q ?_);cases x<;>first
  | (cases rx;rfl)
  | (obtain⟨t,rfl⟩:=rx;rfl)
def aF(b:Expr){op:CmpOp}(h:op≠.In:=by decide)(h2:op≠.NotIn:=by decide):behindInMarks op b=false:=by
 have e1:(op==CmpOp.In)=false:=by cases op<;>first | rfl | exact absurd rfl h
 have e2:(op==CmpOp.NotIn)=false:=by cases op<;>first | rfl | exact absurd rfl h2
 cases b<;>simp[behindInMarks,e1,e2]
def cK{op:CmpOp}{r:R2}(ho:mh X (compareOp op) r)(ha:PE X a ta)(hb:PE X b tb)(hm:behindInMarks op b=false):PE X (.Compare a [op] [b] pos) (Rz r ta tb):=by
 show 72;exact wpAny_Compare1 (SR ha hb I h λv u s2 x y H2 I2 rx ry q=>ho pq s2 σ H2 x y v u Q I2 rx ry q) hm
def Wj(t:TE):TT:=λσ H Q=>t σ H λx H'=>∃k,x = .bl k/\Q k H'
def aG{op:CmpOp}{r:R2}(ho:mh X (compareOp op) r)(ha:PE X a ta)(hb:PE X b tb)(hm:behindInMarks op b=false):PT X (.Compare a [op] [b] pos) (Wj (Rz r ta tb)):=by
 show 72;refine wpAny_isTrue_Compare1 (dR 39#ha λv s1 ⟨x,H1,I1,r1,q1⟩=>dR (hb pq s1 σ H1 _ I1 q1) λu s2 ⟨y,H2,I2,r2,q2⟩ =>
  dR (ho pq s2 σ H2 x y v u _ I2 r1 r2 q2) λc s3 ⟨z,H3,I3,r3,k,e,q3⟩=>?_) hm
 subst e;cases r3;exact wpAny_truthy_bool ⟨H3,I3,q3⟩
def tO:(sizeLine:Nat)<2^63:=by rw[sizeLine_eq];decide
def vals1{x:V}{us:23#0}(r:υ [x] us):∃u,us=[u]/\Θ x u:=by
 cases r with
 | cons r1 r2=>cases r2;exact⟨_,rfl,r1⟩
def vals2{x y:V}{us:23#0}(r:υ [x,y] us):∃u w',us=[u,w']/\Θ x u/\Θ y w':=by
 cases r with
 | cons r1 r2 =>
   cases r2 with
   | cons r3 r4=>cases r4;exact⟨_,_,rfl,r1,r3⟩
def C1:fc X (.builtin "abs") (λxs H Q=>∃i,xs=[.int i]/\Q (.int (if i<0 then -i else i)) H):=by
 intro pq s σ H xs us Q I r h;obtain⟨i,rfl,q⟩:=h;obtain⟨u,rfl,t,rfl⟩:=vals1 r;exact call_abs_int λu tk=>⟨.int (if i<0 then -i else i),H,I.tok _,⟨_,rfl⟩,q⟩
def Ab(hc:X.calm=true):fc X (.builtin "max") (λxs H Q=>∃i j,xs=[.int i,.int j]/\Q (.int (if j > i then j else i)) H):=by
 intro pq s σ H xs us Q I r h;obtain⟨i,j,rfl,q⟩:=h;obtain⟨u,w',rfl,⟨t,rfl⟩,⟨t',rfl⟩⟩:=vals2 r;refine max_two_ints (I.ok.hd hc) λh' tk k=>⟨_,H,I.kept k,?_,q⟩
 by_cases hj:j > i
 .rw[ο hj,ο hj];exact⟨_,rfl⟩
 .rw[ξ hj,ξ hj];exact⟨_,rfl⟩
def Ac(hc:X.calm=true):fc X (.builtin "min") (λxs H Q=>∃i j,xs=[.int i,.int j]/\Q (.int (if j<i then j else i)) H):=by
 intro pq s σ H xs us Q I r h;obtain⟨i,j,rfl,q⟩:=h;obtain⟨u,w',rfl,⟨t,rfl⟩,⟨t',rfl⟩⟩:=vals2 r;refine min_two_ints (I.ok.hd hc) λh' tk k=>⟨_,H,I.kept k,?_,q⟩
 by_cases hj:j<i
 .rw[ο hj,ο hj];exact⟨_,rfl⟩
 .rw[ξ hj,ξ hj];exact⟨_,rfl⟩
def tP:fc X (.type "int") (λxs H Q=>(∃i,xs=[.int i]/\Q (.int i) H)\/∃k,xs=[.bl k]/\Q (.int (if k then 1 else 0)) H):=by
 intro pq s σ H xs us Q I r h;rcases h with⟨i,rfl,q⟩|⟨k,rfl,q⟩
 .obtain⟨u,rfl,t,rfl⟩:=vals1 r;exact call_int_int ⟨.int i,H,I,⟨_,rfl⟩,q⟩
 .obtain⟨u,rfl,r1⟩:=vals1 r;cases r1;exact call_int_bool ⟨.int (if k then 1 else 0),H,I.tok _,⟨_,rfl⟩,q⟩
end
structure SW(h:Heap)(x dx C:Addr)(mA:oA):Prop where
 obj:h.get? x=some (PySem.W.instObj C dx)
 ns:h.Ns1 dx mA
 ne:dx≠x
def Je{h:Heap}{dx:Addr}{mA:oA}(n:h.Ns1 dx mA):∃od,h.get? dx=some od/\∀name,PySem.W.lookIn name od=some (mA name):=by
 obtain⟨o,es,ep,ho,hd,hk,_,hm⟩:=n;refine⟨o,ho,λname=>?_⟩
 have e:=hm name;unfold nsFind findBy at e;rw[<-Array.find?_toList]at e;unfold PySem.W.lookIn;rw[hd];dsimp only
 split
 .rename_i y q
  rw[q]at e;exact n! some e
 .rename_i q
  rw[q]at e;have a:es.toList.any (·.refKey)=false:=by
   rw[List.any_eq_false];intro y hy;obtain⟨z,t,hkey⟩:=hk y (Array.mem_toList_iff.mp hy);simp[DictEntry.refKey,hkey]
  have a' : ¬ es.toList.any (·.refKey)=true:=by rw[a];exact e!
  rw[ξ a'];exact n! some e
def SW.look{h:Heap}{x dx C:Addr}{mA:oA}(I:SW h x dx C mA):∃od,PySem.W.InstAt h x (PySem.W.instObj C dx) C (some od)/\∀name,PySem.W.lookIn name od=some (mA name) :=
 let⟨od,ho,hl⟩:=Je I.ns
 ⟨od,⟨I.obj,rfl,rfl,ho⟩,hl⟩
def rP.some_of{v:V}{o:81#0}(r:rP (some v) o):∃u,o=some u/\Θ v u:=by
 cases o with
 | none=>exact(show False from r).elim
 | some u=>exact⟨u,rfl,r⟩
section
variable {P:Program}{w:World}{H H' : Hp}{h h' : Heap}{a C dx:Addr}{fs fs' : List (Str×V)}
def Pw(hok:oB P w H h)(e:H a=some (.ins C dx fs)):∃mA,SW h a dx C mA/\(∀f,rP (fs.lookup f) (mA f))/\PySem.Within mA (fs.map (·.1))/\fs.length<=1000/\H dx=some (.own a):=by
 obtain⟨d,z,ne,ob,mA,n,r,q⟩:=(show bL P w H h a (.ins C dx fs) from hok a _ e)
 exact⟨mA,⟨ob,n,ne⟩,r,q,z,d⟩
end
structure ZM(K:b7)(C:Addr):Prop where
 pg:PySem.W.plainGet K C Str.empty=true
 hd:PySem.W.hasDictIn K C=true
 po:PySem.W.plainOver K C=true
 sa:PySem.W.findIn K (.ref C) "__setattr__"=some (some (.builtin "object.__setattr__"))
def ZM.get{K:b7}{C:Addr}(c:ZM K C)(f:Str):PySem.W.plainGet K C f=true:=c.pg
section
variable {X:Cx}{pq:aW}{σ:St}{H:Hp}{s:Shared}{A:Around}{E:eG}{Q:eG}{c:Value}{b:Bool}
inductive tQ(K:b7)(H:Hp):V->Value->Prop where
 | dZ:tQ K H .dZ (.type "NoneType")
 | bl (x:Bool):tQ K H (.bl x) (.type "bool")
 | int (i:Int):tQ K H (.int i) (.type "int")
 | str (x:Str):tQ K H (.str x) (.type "str")
 | Vq (x:UInt64):tQ K H (.Vq x) (.type "float")
 | lst {a:Addr} {xs:List V} (e:H a=1#xs):tQ K H (.ref a) (.type "list")
 | m9 {a:Addr} {o:Obj} {xs:List V} (e:H a=some (.m9 o (.lst xs))):tQ K H (.ref a) (.type "list")
 | tup {a:Addr} {xs:List V} (e:H a=10#xs):tQ K H (.ref a) (.type "tuple")
 | dK {a:Addr} {kvs:List (Key×V)} (e:H a=some (.dK kvs)):tQ K H (.ref a) (.type "dict")
 | dT {a:Addr} {kvs:50#V} (e:H a=some (.dT kvs)):tQ K H (.ref a) (.type "dict")
 | ins {a C dx:Addr} {fs:List (Str×V)} (e:H a=some (.ins C dx fs)) (cl:ZM K C) (ha:PySem.W.findIn K (.ref C) "__class__"=some (some (.builtin "object.__class__")))
  (hn:PySem.W.specialIn K (.builtin "object.__class__") "__get__"=some (some (.builtin "getset_descriptor.__get__"))) (htk:PySem.W.takesIn K (.builtin "object.__class__")=some true)
  (hm:PySem.W.mroIn K C (.type "object")=some true):tQ K H (.ref a) (.ref C)
def Jf{x:V}{u t:Value}(I:5#s)(rx:Θ x u)(ty:tQ X.K H x t)(e:PySem.W.kitOne X.K t c=some b)(h:∀tk,Q (.bool b) { s with toks:=tk}):
 wpAny 9#0 A (call (.builtin "isinstance") [u,c]) Q E s:=by
 cases ty with
 | dZ=>cases(show u=Value.none from rx);exact S? PySem.W.kitx_none I.CM True.intro e 60#0 h
 | bl y=>cases(show u=Value.bool y from rx);exact S? PySem.W.kitx_bool I.CM True.intro e 60#0 h
 | int i=>obtain⟨t,q⟩:=(show ∃t,u=Value.int i t from rx);cases q;exact S? PySem.W.kitx_int I.CM True.intro e 60#0 h
 | str y=>obtain⟨t,q⟩:=(show ∃t,u=Value.str y t from rx);cases q;exact S? PySem.W.kitx_str I.CM True.intro e 60#0 h
 | Vq y=>obtain⟨t,q⟩:=(show ∃t,u=Value.float y t from rx);cases q;exact S? PySem.W.kitx_float I.CM True.intro e 60#0 h
 | @lst a xs ea =>
   cases(show u=Value.ref a from rx)
   obtain⟨_,_,n,_,h1⟩:=(show bL X.prog X.w H s.heap a (.lst xs) from I.hok a _ ea)
   exact S? PySem.W.kitx_list I.CM ⟨_,h1,rfl⟩ e 60#0 h
 | @m9 a ob xs ea =>
   cases(show u=Value.ref a from rx)
   obtain⟨_,_,_,n,_,h1⟩:=(show bL X.prog X.w H s.heap a (.m9 ob (.lst xs)) from I.hok a _ ea)
   exact S? PySem.W.kitx_list I.CM ⟨_,h1,rfl⟩ e 60#0 h
 | @tup a xs ea =>
   cases(show u=Value.ref a from rx)
   obtain⟨_,_,_,p⟩:=(show bL X.prog X.w H s.heap a (.tup xs) from I.hok a _ ea)
   obtain⟨o,h1,h2,_⟩:=p;exact S? PySem.W.kitx_tuple I.CM ⟨o,h1,h2⟩ e 60#0 h
 | @dK a kvs ea =>
   cases(show u=Value.ref a from rx)
   obtain⟨_,_,vs,_,p⟩:=(show bL X.prog X.w H s.heap a (.dK kvs) from I.hok a _ ea)
   obtain⟨o,es,ep,h1,h2,_⟩:=p;exact S? PySem.W.kitx_dict I.CM ⟨o,h1,h2.1⟩ e 60#0 h
 | @dT a kvs ea =>
   cases(show u=Value.ref a from rx)
   obtain⟨_,_,xs,_,o,es,ep,h1,h2,_⟩:=(show bL X.prog X.w H s.heap a (.dT kvs) from I.hok a _ ea)
   exact S? PySem.W.kitx_dict I.CM ⟨o,h1,h2.1⟩ e 60#0 h
 | @ins a C dx fs ea cl ha hn htk hm =>
   cases(show u=Value.ref a from rx)
   obtain⟨mA,O,_⟩:=Pw I.hok ea;obtain⟨od,J,_⟩:=O.look;exact S? (PySem.W.kitx_own (cl.get _) cl.hd ha hn htk hm) I.CM J e 60#0 h
end
structure gy(k:Nat)(A:Around):Prop where
 hd:A.handled=none
 dp:A.depth+3*k+5<recursionLimit
 un:A.units+16*k+200<cLine
def gy.mono{j k:Nat}{A:Around}(r:gy k A)(h:j<=k):gy j A:=⟨r.hd,by have:=r.dp;lia,by have:=r.un;lia⟩
def gy.deeper{k:Nat}{A:Around}(r:gy (k+1) A)(env:Env):gy k (A.deeper env) :=
 ⟨r.hd,by have:=r.dp;show A.depth+1+3*k+5<_;lia,by have:=r.un;show A.units+3+16*k+200<_;lia⟩
def gy.in1{k:Nat}{A:Around}(r:gy (k+1) A):gy k A.in1 :=
 ⟨r.hd,by have:=r.dp;show A.depth+3*k+5<_;lia,by have:=r.un;show A.units+1+16*k+200<_;lia⟩
def gy.depth{k:Nat}{A:Around}(r:gy k A):A.depth<recursionLimit:=by have:=r.dp;lia
def gy.units{k:Nat}{A:Around}(r:gy k A):A.units+64<cLine:=by have:=r.un;lia
def gy.Fw{k:Nat}{A:Around}(r:gy k A):A.units<cLine:=by have:=r.un;lia
def SX:TA:=λ_ H Q=>Q [] H
def HD(ta:TE)(tr:TA):TA:=λσ H Q=>ta σ H λx H1=>tr σ H1 λxs H2=>Q (x::xs) H2
section
variable {X:Cx}{e:Expr}{es:List Expr}{te:TE}{t:TA}{pos:Pos}
def fO:PA X [] SX:=λ_ _ _ _ H Q I h=>Calls.spliced_nil ⟨[],H,I,.nil,h⟩
def aP(ha:PE X e te)(hr:PA X es t)(hs:21#(e::es)=43#e::21#es:=by rfl):PA X (e::es) (HD te t):=by
 intro pos pq s σ H Q I h;rw[hs];show wpAny _ _ (spliced (43#e::backTo pos (21#es))) _ _ s;refine Calls.spliced_cons (dR 39#ha λu s1 ⟨x,H1,I1,r1,q1⟩=>?_)
 exact dR (hr pos pq s1 σ H1 _ I1 q1) λus s2 ⟨xs,H2,I2,r2,q2⟩=>⟨x::xs,H2,I2,.cons r1 r2,q2⟩
def ZN(t:TA):TE:=λσ H Q=>t σ H λxs H1=>56#xs.length/\∀p,H1 p=none->Q (.ref p) (η H1 p (.tup xs))
def ZO(t:TA):TE:=λσ H Q=>t σ H λxs H1=>56#xs.length/\∀p,H1 p=none->Q (.ref p) (η H1 p (.lst xs))
def b9{x1}(h:PA X es t):PE X (.Tuple es x1 pos) (ZN t):=by
 intro pq s σ H Q I hq;refine wpAny_Tuple_spliced (dR (h pos pq s σ H _ I hq) λus s1 ⟨xs,H1,I1,r,z,q⟩=>⟨by rw[<-r.length];exact z,?_⟩)
 have hf:H1 s1.heap.objs.size=none:=I1.hok.fresh (Z' _);refine⟨.ref s1.heap.objs.size,η H1 s1.heap.objs.size (.tup xs),I1.laid (t':=s1.toks) (λb u e=>l! _ e) (Z' _) ?_,rfl,q _ hf⟩
 exact⟨z,us,r,⟨_,E! _ rfl,rfl,_,rfl⟩⟩
def cy(h:PA X es t):PE X (.List es pos) (ZO t):=by
 intro pq s σ H Q I hq;refine wpAny_List_spliced (dR (h pos pq s σ H _ I hq) λus s1 ⟨xs,H1,I1,r,z,q⟩=>⟨by rw[<-r.length];exact z,?_⟩)
 have hf:H1 s1.heap.objs.size=none:=I1.hok.fresh (Z' _);refine⟨.ref s1.heap.objs.size,η H1 s1.heap.objs.size (.lst xs),I1.laid (t':=s1.toks) (λb u e=>l! _ e) (Z' _) ?_,rfl,q _ hf⟩
 exact⟨z,us,0,r,E! _ rfl⟩
end
abbrev Sp:=List V->Hp->VK->XK->Prop
abbrev Lg:=List Env->Hp->Shared->XK->64#Value
structure Px(P:Program)(w:World)(K:b7)(mg:oA)(base:Heap)(A:Around)(outer:List Env)(s:Shared)(H:Hp):Prop where
 frames:A.frames=some outer
 mod:Mod K mg base
 bs:∀b o,71#base.get?->22#o/\H b=none
 Pg:base.objs.size<=s.heap.objs.size
 funs:s.heap.FunFrames base outer
 SA:∀b∈frs outer,H b=none
 hok:oB P w H s.heap
 bare:AllBare s.gens
def CE(outer:List Env)(P:Program)(w:World)(H:Hp)(s:Shared)(Q:VK)(u:Value)(s' : Shared):Prop :=
 ∃v H',s'.os=s.os/\AllBare s'.gens/\Un (frs outer) [] H H' s.heap s'.heap/\oB P w H' s'.heap/\Θ v u/\Q v H'
def CR(CX:Lg)(outer:List Env)(P:Program)(w:World)(H:Hp)(s:Shared)(Q:VK)(E:XK)(r:Result)(s' : Shared):Prop :=
 match r with
 | .ok (.ret u)=>CE outer P w H s Q u s'
 | .ok _=>False
 | .error e=>CX outer H s E e s'
structure oH(P:Program)(w:World)(K:b7)(mg:oA)(base:Heap)(CX:Lg)(k:Nat)(f:Addr)(fd:FuncData)(ps:List Str)(sp:Sp):Prop where
 len:∀vs H Q E,sp vs H Q E->vs.length=ps.length
 run:∀(A:Around) (outer:List Env) (s:Shared) (H:Hp) (args:Args) (us:23#0) (vs:List V) (Q:VK) (E:XK),gy k A->Px P w K mg base A outer s H->BindsTo s fd args (ps.zip us)->υ vs us->sp vs H Q E->
  codeAny (model P w) A (.call (.ref f) args) (CR CX outer P w H s Q E) s
section
variable {X:Cx}{pq:aW}{σ:St}{H:Hp}{s s' : Shared}
def θ.ZP(I:5#s):Px X.prog X.w X.K X.mg X.base X.A X.stack s H :=
 ⟨I.ok.frames,I.ok.mod,I.bs,D! I.ok.Pg I.sz,I.stack,I.A7,I.hok,I.bare⟩
def θ.after{Q:VK}{u:Value}(I:5#s)(h:CE X.stack X.prog X.w H s Q u s'):EP X pq σ Q u s':=by
 obtain⟨v,H',os,bare,un,hok,r,q⟩:=h;obtain⟨hh,g,d,t,os'⟩:=s';obtain rfl:os' = s.os:=os;exact⟨v,H',I.call (h':=hh) (g':=g) (d':=d) (t':=t) (ch:=[]) un hok bare (λb z=>absurd z 31#0),r,q⟩
end
def RA(sp:Sp)(RB:List V)(E:XK)(t:TA):TE:=λσ H Q=>t σ H λvs H1=>sp (vs++RB) H1 Q E
def Binds(K:b7)(fd:FuncData)(ps:List Str)(ds:23#0):Prop :=
 ∀(s:Shared) (us:23#0),K.In s.heap->58#(us++ds)=ps.length->BindsTo s fd ⟨us,[]⟩ (ps.zip (us++ds))
def Binds.all{K:b7}{fd:FuncData}{ps:List Str}(h:∀us:23#0,us.length=ps.length->bindArgs fd ⟨us,[]⟩=pure (ps.zip us)):Binds K fd ps []:=λs us _ hl=>by
 rw[f_]at hl ⊢;exact .of_eq (h us hl)
def Passes(CX:Lg)(X:Cx)(E:XK):Prop:=∀(pq:aW) (σ:St) (H:Hp) (s:Shared) (e:Value) (s' : Shared),5#s->CX X.stack H s E e s'->X.xe e s'
section
variable {X:Cx}{CX:Lg}{k:Nat}{f C:Addr}{fd:FuncData}{ps:List Str}{sp:Sp}{RB:List V}{ds:23#0}{E:XK}{x m:Str}{p pos apos:Pos}{e o:Expr}{es:List Expr}{ta:TE}{t:TA}
def SY{pq:aW}{σ:St}{H:Hp}{s:Shared}{Q:VK}{us:23#0}{vs:List V}(F:oH X.prog X.w X.K X.mg X.base CX k f fd ps sp)(hr:gy k X.A)(hb:Binds X.K fd ps ds)(hd:υ RB ds)(hx:Passes CX X E)
 (I:5#s) (r:υ vs us) (h:sp (vs++RB) H Q E):wpAny 9#0 X.A (call (.ref f) us) (EP X pq σ Q) X.xe s:=by
 have r2:υ (vs++RB) (us++ds):=r.append hd;have hl:58#(us++ds)=ps.length:=by rw[<-r2.length];exact F.len _ _ _ _ h
 refine wpAny_call (codeAny_mono (F.run X.A X.stack s H ⟨us,[]⟩ (us++ds) (vs++RB) Q E hr I.ZP (hb s us I.CM hl) r2 h) λr s' hq=>?_)
 cases r with
 | error e=>exact hx pq σ H s e s' I hq
 | ok fl =>
   cases fl with
   | ret u=>exact I.after hq
   | next=>exact False.elim hq
   | brk=>exact False.elim hq
   | cont=>exact False.elim hq
def Py(F:oH X.prog X.w X.K X.mg X.base CX k f fd ps sp)(hr:gy k X.A)(hg:Gl X x)(hm:X.mg x=some (.ref f))(hk:PySem.W.keepIn X.K (.ref f)=true)(hb:Binds X.K fd ps ds)(hd:υ RB ds)(hx:Passes CX X E)
 (ha:PA X (e::es) t) (hdb:(x==("__debug__":Str))=false:=by decide) (he:21#(e::es)=43#e::21#es:=by rfl) (hpl:(backTo pos (21#es)).any (·.1)=false:=by rfl) :
 PE X (.Call (.Name x p) (e::es) [] pos) (RA sp RB E t):=by
 show 72;refine wpAny_Call_Name_kw (Hl I hg hm ?_ hdb);refine PySem.W.callWith_K (h₀:=X.base) I.ok.mod.YC hk (dR (ha pos pq s σ H _ I h) λus s1 ⟨vs,H1,I1,r,q⟩=>⟨I1.CM,?_⟩) he hpl
 exact SY F hr hb hd hx I1 r q
end
structure aC(N P:List Str)(sc:Scope):Prop where
 kind:sc.kind = .function
 co:sc.isCoroutine=false
 gen:sc.isGenerator=false
 nd:N.Nodup
 pre:N.take P.length=P
 par:∀x∈P,sc.names.lookup x=some .local\/sc.names.lookup x=some .cell
 S0:∀y∈sc.names,y.2≠.free
theorem Ad{kindOf:Str->Option NameKind}{x:Str}:∀{binds:List (Str×Value)} {m:oA},(∀v,(x,v)∉binds)->bindL kindOf binds m x=m x
 | [],_,_=>rfl
 | (n,v)::r,m,h=>by
   unfold bindL;rw[Ad λw hw=>h w (lG _ hw)]
   split
   .have:x≠n:=by rintro rfl;exact h v o!
    simp[this]
   .rfl
theorem Ae{kindOf:Str->Option NameKind}{x:Str}:∀{binds:List (Str×Value)} {m:oA},(∀v,(x,v)∉binds)->bindC kindOf binds m x=m x
 | [],_,_=>rfl
 | (n,v)::r,m,h=>by
   unfold bindC;rw[Ae λw hw=>h w (lG _ hw)]
   split
   .rfl
   .have:x≠n:=by rintro rfl;exact h v o!
    simp[this]
theorem Af{kindOf:Str->Option NameKind}{x:Str}{v:Value}:∀{P:List Str} {vs:23#0} {i:Nat} {m:oA},P.Nodup->P[i]?=some x->vs[i]?=some v->kindOf x=some .local->
 bindL kindOf (P.zip vs) m x=some v
 | [],_,_,_,_,h,_,_=>by simp at h
 | _::_,[],_,_,_,_,h,_=>by simp at h
 | p::P,w::vs,0,m,nd,h1,h2,hk=>by
   simp at h1 h2;subst h1;subst h2;show bindL kindOf ((p,w)::P.zip vs) m p=_;unfold bindL;rw[Ad λv hv=>(O!.mp nd).1 (List.of_mem_zip hv).1,ο hk]
   simp
 | p::P,w::vs,i+1,m,nd,h1,h2,hk=>by
   show bindL kindOf ((p,w)::P.zip vs) m x=_;unfold bindL;exact Af (i:=i) (O!.mp nd).2 (by simpa using h1) (by simpa using h2) hk
theorem Ag{kindOf:Str->Option NameKind}{x:Str}{v:Value}:∀{P:List Str} {vs:23#0} {i:Nat} {m:oA},P.Nodup->P[i]?=some x->vs[i]?=some v->kindOf x≠some .local->
 bindC kindOf (P.zip vs) m x=some v
 | [],_,_,_,_,h,_,_=>by simp at h
 | _::_,[],_,_,_,_,h,_=>by simp at h
 | p::P,w::vs,0,m,nd,h1,h2,hk=>by
   simp at h1 h2;subst h1;subst h2;show bindC kindOf ((p,w)::P.zip vs) m p=_;unfold bindC;rw[Ae λv hv=>(O!.mp nd).1 (List.of_mem_zip hv).1,ξ hk]
   simp
 | p::P,w::vs,i+1,m,nd,h1,h2,hk=>by
   show bindC kindOf ((p,w)::P.zip vs) m x=_;unfold bindC;exact Ag (i:=i) (O!.mp nd).2 (by simpa using h1) (by simpa using h2) hk
def start(N:List Str)(vs:List V):St:=vs.map some++List.replicate (N.length-vs.length) none
def vJ(CX:Lg)(P:Program)(w:World)(K:b7)(mg:oA)(base:Heap)(N:List Str)(qual:Str)(scope:Scope)(f:Addr)(cd:Value)(A:Around)(outer:List Env)(s:Shared)(H:Hp)(E:XK):Cx where
 prog:=P
 w:=w
 K:=K
 mg:=mg
 base:=base
 A:=A.deeper (envOfC qual scope s.heap.objs.size f cd)
 N:=N
 s₀:=s
 H₀:=H
 env:=envOfC qual scope s.heap.objs.size f cd
 outer:=outer
 stack:=envOfC qual scope s.heap.objs.size f cd::outer
 ex:=[]
 calm:=true
 fn:=λ_=>true
 pn:=[]
 xe:=λe s'=>wpAny (model P w) (A.deeper (envOfC qual scope s.heap.objs.size f cd)) (leaving (envOfC qual scope s.heap.objs.size f cd) e) (λ_ s''=>CX outer H s E e s'') (λe' s''=>CX outer H s E e' s'') s'
def C3{sc:Scope}{n:Nat}{x:Str}(h:sc.names.lookup x=some .cell):∃c,(cellsFrom n sc.names []).lookup x=some c:=by
 have q:=PySem.W.cellsFrom_some sc.names n [] (.inl h);exact Option.isSome_iff_exists.mp q
def Jg{CX:Lg}{P:Program}{w:World}{K:b7}{mg:oA}{base:Heap}{N ps:List Str}{qual:Str}{scope:Scope}{f:Addr}{cd:Value}{A:Around}{outer:List Env}{s s1:Shared}{H:Hp}{E:XK}{us:23#0}{vs:List V}
 (S:aC N ps scope) (hd:A.handled=none) (e0:Px P w K mg base A outer s H) (hl:vs.length=ps.length) (r:υ vs us)
 (x:InCallC s s.heap.objs.size (bindL (envOfC qual scope s.heap.objs.size f cd).kindOf (ps.zip us) λ_=>none) (cellsFrom (s.heap.objs.size+1) scope.names []) (bindC (envOfC qual scope s.heap.objs.size f cd).kindOf (ps.zip us) λ_=>none) s1) :
 θ (vJ CX P w K mg base N qual scope f cd A outer s H E) [] (start N vs) H s1:=by
 have hpl:ps.length<=N.length:=by have:=n! List.length S.pre;rw[I!]at this;lia
 obtain⟨h1,tk,rfl,hk⟩:=x.done;have ZQ:∀b:Addr,b∉(vJ CX P w K mg base N qual scope f cd A outer s H E).ex:=λb z=>absurd (show b∈([]:70#0) from z) 31#0
 refine⟨⟨e0.mod,S.kind,rfl,rfl,Z' _,λy z c h1 h2=>?_,λy hy=>?_,λy c _ h=>?_,λ_=>hd,Around.frames_deeper e0.frames,.inr ⟨rfl,rfl⟩,λb z=>absurd z (ZQ b),e0.bs,e0.Pg,λb _ _=>ZQ b,λb z=>absurd z (ZQ b),e0.funs,e0.SA⟩,
  rfl,e0.bare,Un.kept hk,⟨_,x.toInCall.ns,λi y v h1 h2 h3=>?_⟩,λy c h=>⟨_,x.cell y c h⟩,e0.hok.fresh (Z' _),λy c h=>?_,λp hp=>absurd (show p∈([]:aW) from hp) 31#0,e0.hok.kept hk,?_⟩
 .exact name_of_addr x.apart (O? h1) (O? h2)
 .have hy:67#y=some .cell\/67#y=some .free:=hy;rcases hy with hy|hy
  .exact C3 hy
  .exact absurd rfl (S.S0 _ (O? hy))
 .exact B! (x.above y c (O? h))
 .have hi:i<vs.length:=by
   unfold start at h2
   by_cases hi:i<vs.length
   .exact hi
   .rw[A? (by simpa using hi)]at h2
    rw[X_]at h2
    split at h2<;>cases h2
  have ha:vs[i]?=some v:=by
   unfold start at h2;rw[m? (by simpa using hi),c!]at h2
   cases e:vs[i]? with
   | none=>rw[e]at h2;cases h2
   | some a=>rw[e]at h2;cases h2;rfl
  obtain⟨u,hu,rv⟩:=r.get ha;have hp:ps[i]?=some y:=by
   rw[<-S.pre,List.getElem?_take_of_lt (by lia)];exact h1
  have ndP:ps.Nodup:=by rw[<-S.pre];exact S.nd.sublist (List.take_sublist _ _)
  refine⟨u,rv,?_⟩;rcases S.par y (gB hp) with k|k
  .exact .inl ⟨k,Af ndP hp hu k⟩
  .obtain⟨c,e⟩:=C3 (n:=s.heap.objs.size+1) k;refine .inr ⟨.inl k,c,e,?_⟩;have q:=x.cell y c e;rw[Ag ndP hp hu (by show 67#y≠_;rw[k];decide)]at q
   exact q
 .exact e0.hok.fresh (B! (x.above y c (O? h)))
 .unfold start;show _=N.length;rw[k!,χ,b_]
  lia
def LK{CX:Lg}{P:Program}{w:World}{K:b7}{mg:oA}{base:Heap}{k:Nat}{f:Addr}{name qual:Str}{params:Arguments}{body:List Stmt}{scope:Scope}{dV kV doc pm cdv ct oc:Value}{an od:Option Addr}
 {osl:Array (81#0)} {N ps:List Str} {sp:Sp} (lk:K.lookup f=some ⟨oc,od,.func (PySem.W.fnOf name qual params body scope dV kV doc pm an cdv ct),osl⟩) (hcd:PySem.W.codeIn K cdv qual=true) (S:aC N ps scope)
 (len:∀vs H Q E,sp vs H Q E->vs.length=ps.length)
 (hbody:∀(A:Around) (outer:List Env) (s:Shared) (H:Hp) (vs:List V) (Q:VK) (E:XK),gy k (A.deeper (envOfC qual scope s.heap.objs.size f cdv))->sp vs H Q E->
  ∃t,z8 (vJ CX P w K mg base N qual scope f cdv A outer s H E) body t/\t { nx:=λ_ H'=>Q .dZ H',rt:=Q} (start N vs) H) :
 oH P w K mg base CX (k+1) f (PySem.W.fnOf name qual params body scope dV kV doc pm an cdv ct) ps sp:=by
 refine⟨len,λA outer s H args us vs Q E hr e0 hb r vK=>?_⟩
 have hl:=len _ _ _ _ vK;have KX:K.In s.heap:=e0.mod.YC.keeps λb o e=>(e0.bs b o e).1
 have lim:s.heap.NoLimit:=e0.mod.nolimit.keeps λb o e=>(e0.bs b o e).1
 have hkind:∀y∈ps.zip us,67#y.1=some .local\/(67#y.1=some .cell/\((cellsFrom (s.heap.objs.size+1) scope.names []).lookup y.1).isSome=true):=λ⟨n,v⟩ hy=>by
  rcases S.par n (List.of_mem_zip hy).1 with q|q
  .exact .inl q
  .exact .inr ⟨q,PySem.W.cellsFrom_some _ _ _ (.inl q)⟩
 refine codeAny_call_function hr.depth (KX _ _ lk) rfl S.co S.gen rfl (PySem.W.codeRec_of KX hcd) (hb _ _ _ _ ?_);refine wpAny_newFunctionEnv_cells S.kind hkind λenv he s1 x=>?_
 subst he;refine⟨lim.keeps x.toInCall.keep,codeAny_func ?_⟩;obtain⟨t,ht,hq⟩:=hbody A outer s H vs Q E (hr.deeper _) vK;have I:θ (vJ CX P w K mg base N qual scope f cdv A outer s H E) [] (start N vs) H s1:=Jg S hr.hd e0 hl r x;refine z! (ht [] s1 (start N vs) H _ I hq) (λfl s' hs=>?_) λe s' hs=>hs
 have fin:∀{σ' : St} {H' : Hp} {v:V} {u:Value},θ (vJ CX P w K mg base N qual scope f cdv A outer s H E) [] σ' H' s'->Θ v u->Q v H'->CE outer P w H s Q u s' :=
  λ{σ' H' v u} J rv q=>⟨v,H',J.os,J.bare,J.base,J.hok,rv,q⟩
 cases fl with
 | ret u =>
   obtain⟨v,σ',H',J,rv,q⟩:=hs;exact fin J rv q
 | next =>
   obtain⟨σ',H',J,q⟩:=hs;exact fin (v:=V.dZ) (u:=Value.none) J rfl q
 | brk =>
   obtain⟨_,_,_,q⟩:=hs;exact False.elim q
 | cont =>
   obtain⟨_,_,_,q⟩:=hs;exact False.elim q
section
variable {X:Cx}{x:Str}{p pos:Pos}{e:Expr}{es:List Expr}{t:TA}{id T:String}{r:List V->Hp->VK->Prop}
def ZR(r:List V->Hp->VK->Prop)(t:TA):TE:=λσ H Q=>t σ H λvs H1=>r vs H1 Q
def bY(hc:fc X (.builtin id) r)(hg:Gl X x)(hm:X.mg x=none)(hv:bootBuiltins x=some (.builtin id))(ha:PA X (e::es) t)(hn:x≠"__name__":=by decide)(hdb:(x==("__debug__":Str))=false:=by decide)
 (he:21#(e::es)=43#e::21#es:=by rfl) (hpl:(backTo pos (21#es)).any (·.1)=false:=by rfl):PE X (.Call (.Name x p) (e::es) [] pos) (ZR r t):=by
 show 72;refine wpAny_Call_Name_kw (jN I hg hm hv ?_ hn hdb);exact PyProof.Rows.callWith_builtin1 (dR (ha pos pq s σ H _ I h) λus s1 ⟨vs,H1,I1,r1,q1⟩=>hc pq s1 σ H1 vs us Q I1 r1 q1) he hpl
def bQ(hc:fc X (.type T) r)(hg:Gl X x)(hm:X.mg x=none)(hv:bootBuiltins x=some (.type T))(ha:PA X (e::es) t)(hn:x≠"__name__":=by decide)(hdb:(x==("__debug__":Str))=false:=by decide)
 (he:21#(e::es)=43#e::21#es:=by rfl) (hpl:(backTo pos (21#es)).any (·.1)=false:=by rfl):PE X (.Call (.Name x p) (e::es) [] pos) (ZR r t):=by
 show 72;refine wpAny_Call_Name_kw (jN I hg hm hv ?_ hn hdb);exact h_ (dR (ha pos pq s σ H _ I h) λus s1 ⟨vs,H1,I1,r1,q1⟩=>hc pq s1 σ H1 vs us Q I1 r1 q1) he hpl
end
end L2
namespace HT
open PySem PyProof.Rows
def lexLt:List Int->List Int->Bool
 | [],[]=>false
 | [],_::_=>true
 | _::_,[]=>false
 | x::xs,y::ys=>if x=y then lexLt xs ys else decide (x<y)
def di(x y:Int)(xs ys:List Int):lexLt (x::xs) (y::ys)=if x=y then lexLt xs ys else decide (x<y):=rfl
def qF:lexLt [] []=false:=rfl
def wX(y:Int)(ys:List Int):lexLt [] (y::ys)=true:=rfl
def iM(x:Int)(xs:List Int):lexLt (x::xs) []=false:=rfl
def C4(A:Around)(s:Shared)(a:Int)(t:Tok)(c:Int)(u:Tok):∃e,SeqAt.EqAt A s (.int a t) (.int c u) e/\(e=true↔a=c) :=
 ⟨(a==c),SeqAt.EqAt.int_int a t c u,by simp⟩
def LL(A:Around)(s:Shared)(a:Int)(t:Tok)(c:Int)(u:Tok)(prog:Program)(w:World)(E:eG)(Q:eG)(h:Q (.bool (decide (a<c))) s):
 32#(richCompare .Lt (.int a t) (.int c u)) :=
 (PyProof.Rows.lt_int h:32#(compareOp .Lt (.int a t) (.int c u)))
section
open PySem.SeqAt
open PySem.AutoSeq1 (wpAny_loadPart')
open PySem.MeetsSeq PySem.MeetsSeq2 PySem.MeetsSeq3
def zj(l b:Addr)(items items2:42#0)(n n2:Nat)(dd dd2:Option Addr)(sl sl2:Array (81#0))(ns ms:List Int)(hi:IntsAre items.toList ns)(hj:IntsAre items2.toList ms):
 Meets (Builtin.«tuple.__lt__» ⟨[.ref l,.ref b],[]⟩)
  (λ_ R s=>s.heap.get? l=some { cls:=.type "tuple",dict:=dd,data:=.seq items n,slots:=sl}/\22#{ cls:=.type "tuple",dict:=dd2,data:=.seq items2 n2,slots:=sl2}/\
   R (.ok (.ret (.bool (lexLt ns ms)))) s) :=
 .of_wp λprog w A R s h=>by
  obtain⟨hp,g,d,tk,os⟩:=s;obtain⟨hl,hb,h⟩:=h;have f2:=AutoSeq1.sub_tuple_tuple;have z1:items.size=ns.length:=by rw[<-hi.length];simp
  have z2:items2.size=ms.length:=by rw[<-hj.length];simp
  wp_walk using wpAny_loadPart' hl,wpAny_loadPart' hb,wpAny_forIn_list _ (λrest b s'=>b.1=none/\s' = ⟨hp,g,d,tk,os⟩/\∃(vs ws:23#0) (ns' ms' : List Int),rest=vs.zip ws/\
   IntsAre vs ns'/\IntsAre ws ms'/\ns'.length+items2.size=ms'.length+items.size/\R (.ok (.ret (.bool (lexLt ns' ms')))) ⟨hp,g,d,tk,os⟩) _
  case turn =>
   rintro⟨y,x⟩ rest b s' ⟨hb',rfl,vs,ws,ns',ms',hz,RC,hwi,hlen,hR⟩;cases RC with
   | nil=>rw[List.zip_nil_left]at hz;cases hz
   | cons a t hvi' =>
     cases hwi with
     | nil=>rw[List.zip_nil_right]at hz;cases hz
     | cons c u hwi' =>
       rw[List.zip_cons_cons]at hz;injection hz with hyx hrest
       injection hyx with hy hx
       subst hy hx;rw[di]at hR;simp only[P!]at hlen;obtain⟨e,he,LM⟩:=C4 A.in1 ⟨hp,g,d,tk,os⟩ a t c u;refine 52#(he prog w _ _ ?_);cases e with
       | true =>
         rw[ο (LM.mp rfl)]at hR
         wp_walk
         exact⟨rfl,rfl,_,_,_,_,hrest,hvi',hwi',by lia,hR⟩
       | false =>
         rw[ξ (λq=>absurd (LM.mpr q) e!)]at hR
         have qu:=LL A.in1 ⟨hp,g,d,tk,os⟩ a t c u prog w
         wp_walk using qu
         exact⟨_,rfl,by simpa using hR⟩
  case fin =>
   rintro⟨b1,b2⟩ s' ⟨hb',rfl,vs,ws,ns',ms',hz,RC,hwi,hlen,hR⟩;simp only at hb';subst hb';have hv:lexLt ns' ms' = 7#(items.size<items2.size):=by
    cases RC with
    | nil =>
      cases hwi with
      | nil =>
        simp only[s_]at hlen;rw[qF];exact(eV (by lia)).symm
      | cons c u hw =>
        simp only[s_,P!]at hlen;rw[wX];exact(cH (by lia)).symm
    | cons a t hv =>
      cases hwi with
      | nil =>
        simp only[s_,P!]at hlen;rw[iM];exact(eV (by lia)).symm
      | cons c u hw =>
        rw[List.zip_cons_cons]at hz;cases hz
   rw[hv]at hR
   wp_walk
   exact⟨_,rfl,by simpa[Builtin.Tuple.tupleCompareSizes]using hR⟩
  case h =>
   exact⟨rfl,rfl,items.toList,items2.toList,ns,ms,rfl,hi,hj,by lia,h⟩
end
section
variable {prog:Program}{w:World}{A:Around}{E:eG}{s:Shared}
def Fx{l b:Addr}{items items2:42#0}{ns ms:List Int}{Q:eG}(hl:IsTup s.heap l items)(hb:IsTup s.heap b items2)(hi:IntsAre items.toList ns)(hj:IntsAre items2.toList ms)
 (hu:A.units<cLine) (h:Q (.bool (lexLt ns ms)) s):32#(compareOp .Lt (.ref l) (.ref b)):=by
 obtain⟨⟨cls,dd,data,sl⟩,ho,hc,n,hd⟩:=id hl;obtain⟨⟨S3,dd2,data2,sl2⟩,ho2,hc2,n2,hd2⟩:=id hb;simp only at hc hd hc2 hd2;subst hc hd hc2 hd2;exact richCompare_meets_room (op:=.Lt) ⟨_,ho,rfl⟩ ⟨_,ho2,rfl⟩ PySem.F.slot_tuple_lt PySem.F.entry_tuple_lt (PySem.F.args_tuple_lt_2 _ _) (zj l b items items2 n n2 dd dd2 sl sl2 ns ms hi hj)
  ⟨ho,ho2,show Value.bool (lexLt ns ms)≠Value.notImplemented/\Q (.bool (lexLt ns ms)) s from⟨(λx=>nomatch x),h⟩⟩ hu
def Pz{t b:Addr}{vs ws:23#0}{Q:eG}(ht:IsTup s.heap t vs.toArray)(hb:IsTup s.heap b ws.toArray)(hv:vs≠[])
 (h1:ws=[]->Q (.ref t) s) (h2:ws≠[]->Q (19#.ref) { s with heap:=33#{ cls:=.type "tuple",data:=.seq (vs++ws).toArray}})
 (hsz:56#(vs.length+ws.length)):32#(binaryOp .Add (.ref t) (.ref b)):=by
 obtain⟨⟨cls,dd,data,sl⟩,ho,hc,n,hd⟩:=id ht;obtain⟨⟨S3,dd2,data2,sl2⟩,ho2,hc2,n2,hd2⟩:=id hb;simp only at hc hd hc2 hd2;subst hc hd hc2 hd2;have e:vs.toArray++ws.toArray=(vs++ws).toArray:=by simp
 by_cases hw:ws=[]
 .exact concat_meets ⟨_,ho,rfl⟩ ⟨_,ho2,rfl⟩ noFill_tuple_add seq_tuple_add _Z _S (_Q _ _)
   (tuple_addW1 t b vs.toArray ws.toArray n n2 dd dd2 sl sl2 (by simpa using hv) (by simp[hw])) ⟨ho,ho2,h1 hw⟩
 .refine concat_meets ⟨_,ho,rfl⟩ ⟨_,ho2,rfl⟩ noFill_tuple_add seq_tuple_add _Z _S (_Q _ _)
   (tuple_addW2 t b vs.toArray ws.toArray n n2 dd dd2 sl sl2 (by simpa using hv) (by simpa using hw) (by rw[r!,r!];exact hsz)) ⟨ho,ho2,?_⟩
  rw[e];exact h2 hw
def fk(n d:Nat):55#0->Nat
 | none=>d
 | some v=>if v<0 then(v+(n:Int)).toNat else min v.toNat n
def LN(n d:Nat):fk n d none=d:=rfl
def PB(n d k:Nat):fk n d (some (k:Int))=min k n:=by
 show(if(k:Int)<0 then((k:Int)+(n:Int)).toNat else min (k:Int).toNat n)=min k n
 rw[ξ (by lia),a!]
def S4(n d:Nat)(hd:d<=n)(o:55#0):fk n d o<=n:=by
 cases o with
 | none=>exact hd
 | some v =>
   show(if v<0 then(v+(n:Int)).toNat else min v.toNat n)<=n
   by_cases hv:v<0
   .rw[ο hv];lia
   .rw[ξ hv];exact Nat.min_le_right _ _
def HE(v:Int)(n d:Nat):(if v<0 then max (v+(n:Int)) 0 else min v (n:Int))=6#(fk n d (some v)):=by
 show(if v<0 then max (v+(n:Int)) 0 else min v (n:Int))=6#(if v<0 then(v+(n:Int)).toNat else min v.toNat n)
 by_cases hv:v<0
 .simp only[ο hv];lia
 .simp only[ξ hv];lia
def Fy(lo hi:55#0)(n:Nat):Builtin.Slice.sliceAdjust lo hi 1 (n:Int)=(6#(fk n 0 lo),6#(fk n n hi)):=by
 have h1 : ¬((1:Int)<0):=by lia
 unfold Builtin.Slice.sliceAdjust;simp only[h1,if_false];refine Prod.ext ?_ ?_
 .cases lo with
  | none=>rfl
  | some v=>exact HE v n 0
 .cases hi with
  | none=>rfl
  | some v=>exact HE v n n
def Fz(i j:Nat):Builtin.Slice.slicePlaces (i:Int) (j:Int) 1=j-i:=by
 unfold Builtin.Slice.slicePlaces;have h1:(1:Int) > 0:=by lia
 simp only[h1,if_true,Int.ediv_one]
 split<;>lia
def wY{v:Value}{o:55#0}{Q:64#55#0}(p:IsPart v o)(h:Q o s):32#(Builtin.Slice.slicePartIndex v):=by
 cases p with
 | none=>exact slicePart_none h
 | int i t=>exact slicePart_int h
def mU{sl:Addr}{vl vu:Value}{lo hi:55#0}{n:Nat}{Q:64#(Int×Int×Nat)}(hs:s.heap.IsSliceOf sl vl vu .none)(pl:IsPart vl lo)(pu:IsPart vu hi)
 (h:Q (6#(fk n 0 lo),1,fk n n hi-fk n 0 lo) s):32#(Builtin.Slice.sliceApplied (.ref sl) (pure (n:Int))):=by
 obtain⟨os,hos,hcs,hds⟩:=id hs;unfold Builtin.Slice.sliceApplied Builtin.Slice.sliceFields;refine 52#(wpAny_bind (wpAny_field hos hds (x:=vl) rfl (wpAny_bind (wpAny_field hos hds (x:=vu) rfl (wpAny_bind (wpAny_field hos hds (x:=.none) rfl (Ω ?_)))))));refine 52#(slicePart_none ?_);show wpAny _ _ (if((1:Int)==0)=true then _ else _) _ _ s
 rw[ξ (16#0)]
 refine 52#(wY pl (wpAny_bind (wY pu (wpAny_bind (Ω ?_)))));show wpAny _ _ (match Builtin.Slice.sliceAdjust lo hi 1 (n:Int) with | (lo,hi)=>pure (lo,(1:Int),Builtin.Slice.slicePlaces lo hi 1)) _ _ s
 rw[Fy lo hi n];show wpAny _ _ (pure (6#(fk n 0 lo),(1:Int),Builtin.Slice.slicePlaces 6#(fk n 0 lo) 6#(fk n n hi) 1)) _ _ s;rw[Fz];exact Ω h
def LO(xs:42#0)(i k:Nat):((13#k).filterMap λ(m:Nat)=>xs[((i:Int)+(m:Int)*1).toNat]?).toArray=((xs.toList.drop i).take k).toArray:=by
 have e:(λ(m:Nat)=>xs[((i:Int)+(m:Int)*1).toNat]?)=λm=>xs[i+m]?:=by
  funext m
  have:((i:Int)+(m:Int)*1).toNat=i+m:=by lia
  rw[this]
 rw[e];have:=pick_run xs i k;rw[List.filterMap_map]at this;have e2:((λx=>xs[x]?)∘λx=>i+x)=λm=>xs[i+m]?:=rfl
 rw[e2]at this;rw[this]
def lH{t sl:Addr}{items:42#0}{vl vu:Value}{lo hi:55#0}{Q:eG}(ht:IsTup s.heap t items)(hs:s.heap.IsSliceOf sl vl vu .none)(pl:IsPart vl lo)(pu:IsPart vu hi)
 (hw : ¬(82#0=0/\87#0=items.size))
 (h:Q (19#.ref) { s with heap:=33#{ cls:=.type "tuple",data:=.seq ((items.toList.drop (82#0)).take (87#0-82#0)).toArray}})
 (hsz:56#items.size):32#(getItem (.ref t) (.ref sl)):=by
 have HF:sizeOk (.seq ((items.toList.drop (82#0)).take (87#0-82#0)).toArray):=by
  show 56#((items.toList.drop (82#0)).take (87#0-82#0)).toArray.size;rw[r!,I!,e_,N?]
  lia
 have hj:87#0<=items.size:=S4 _ _ (Z' _) hi;obtain⟨os,hos,hcs,hds⟩:=id hs;have ZS:s.TypeIs (.ref sl) "slice":=⟨os,hos,hcs⟩;unfold getItem
 try with_reducible refine J! ?_
 first | refine 52#(Ω ?_) | skip
 refine 52#(wpAny_sequenceKey ht.typeIs (16#0) ?_)
 refine wpAny_bind (wpAny_callSpecial?_slot (name:=Str.ofString "__getitem__") ht.typeIs v_
  (wpAny_call_entry v_ ht.typeIs entry_tuple_getitem ?_ (args_tuple_getitem _ _)))
 show wpAny _ _ (Builtin.Tuple.tupleItemsOf (.ref t) >>= _) _ _ s;refine 52#(tupleItemsOf_ ht ?_);refine 52#(wpAny_typeOf ZS ?_);rw[ο (16#0)]
 refine 52#(mU hs pl pu ?_);have hno : ¬((6#(82#0)==0&&(1:Int)==1&&(87#0-82#0)==items.size)=true):=by
  intro q;rw[L!,L!]at q;have q1:6#(82#0)=0:=eq_of_beq q.1.1;have q2:87#0-82#0=items.size:=eq_of_beq q.2;exact hw ⟨by lia,by lia⟩
 show wpAny _ _ (if(6#(82#0)==0&&(1:Int)==1&&(87#0-82#0)==items.size)=true then _ else _) _ _ s
 rw[ξ hno,LO]
 first
  | exact wpAny_bind (m:=Builtin.Tuple.tupleExact _) (wpAny_newObj_type (Ω ⟨_,rfl,Ω h⟩) HF)
  | exact wpAny_bind (m:=Builtin.Tuple.tupleExact _) (wpAny_newObj_type (52#(Ω (Ω ⟨_,rfl,Ω h⟩))) HF)
  | exact 52#(wpAny_bind (m:=Builtin.Tuple.tupleExact _) (wpAny_newObj_type (Ω (Ω ⟨_,rfl,Ω h⟩)) HF))
  | exact 52#(wpAny_bind (m:=Builtin.Tuple.tupleExact _) (wpAny_newObj_type (Ω ⟨_,rfl,Ω h⟩) HF))
end
end HT
namespace L2
open PySem PySem.Spec PyProof.Rows
abbrev TO:=St->Hp->(55#0->Hp->Prop)->Prop
def PO(X:Cx)(e:Option Expr)(t:TO):Prop :=
 ∀(pq:aW) (s:Shared) (σ:St) (H:Hp) (Q:55#0->Hp->Prop),5#s->t σ H Q->
  wpAny 9#0 X.A (evalPart e X.env) (λu s'=>∃o H',θ X pq σ H' s'/\IsPart u o/\Q o H') X.xe s
def PD:TO:=λ_ H Q=>Q none H
def Wk(t:TE):TO:=λσ H Q=>t σ H λx H1=>∃i,x = .int i/\Q (some i) H1
def intsAre_of{ns:List Int}:∀{us:23#0},υ (ns.map V.int) us->IntsAre us ns:=by
 induction ns with
 | nil=>intro us r;rw[_J]at r;cases r;exact .nil
 | cons n ns ih =>
   intro us r;rw[F!]at r;cases r with
   | cons r1 r2 =>
     obtain⟨t,e⟩:=r1;subst e;exact .cons n t (ih r2)
section
variable {X:Cx}{e:Expr}{te:TE}{lo hi:Option Expr}{tl th:TO}{pos p2:Pos}
def lJ:PO X none PD:=by
 show 72;rw[evalPart_none];exact Ω ⟨none,H,I,.none,h⟩
def lK(h:PE X e te):PO X (some e) (Wk te):=by
 intro pq s σ H Q I hw;rw[evalPart_some];refine dR (h pq s σ H _ I hw) λu s1 ⟨x,H1,I1,r1,q1⟩=>?_
 obtain⟨i,rfl,q⟩:=q1;obtain⟨t,rfl⟩:=r1;exact⟨some i,H1,I1,.int i t,q⟩
def Vw(X:Cx)(r:V->55#0->55#0->Hp->VK->Prop):Prop :=
 ∀(pq:aW) (s:Shared) (σ:St) (H:Hp) (x:V) (v vl vu:Value) (lo hi:55#0) (sl:Addr) (Q:VK),5#s->Θ x v->s.heap.IsSliceOf sl vl vu .none->IsPart vl lo->IsPart vu hi->r x lo hi H Q->
  ∃T id,typeLookup (.type T) "__getitem__"=pure (some (.builtin id))/\s.TypeIs v T/\wpAny 9#0 X.A (getItem v (.ref sl)) (EP X pq σ Q) X.xe s
def tSl(r:V->55#0->55#0->Hp->VK->Prop)(te:TE)(tl th:TO):TE:=λσ H Q=>te σ H λx H1=>tl σ H1 λl H2=>th σ H2 λu H3=>r x l u H3 Q
def jB{r:V->55#0->55#0->Hp->VK->Prop}(hr:Vw X r)(he:PE X e te)(hl:PO X lo tl)(hu:PO X hi th):PE X (.Subscript e (.Slice lo hi none p2) pos) (tSl r te tl th):=by
 show 72;refine Subscript_ (dR 39#he λv s1 ⟨x,H1,I1,r1,q1⟩=>?_)
 refine wpAny_Slice (dR (hl pq s1 σ H1 _ I1 q1) λvl s2 ⟨l,H2,I2,pl,q2⟩=>dR (hu pq s2 σ H2 _ I2 q2) λvu s3 ⟨u,H3,I3,pu,q3⟩=>?_)
 rw[evalPart_none];refine Ω ?_;have I4:θ X pq σ H3 { s3 with heap:=s3.heap.push { cls:=.type "slice",data:=.fields #[vl,vu,.none]}}:=I3.kept (t':=s3.toks) λb ob q=>l! _ q
 obtain⟨T,id,hT,ht,hg⟩:=hr pq { s3 with heap:=s3.heap.push { cls:=.type "slice",data:=.fields #[vl,vu,.none]}} σ H3 x v vl vu l u s3.heap.objs.size Q I4 r1 (Heap.IsSliceOf.new ..) pl pu q3
 show wpAny 9#0 X.A (subscriptTail e (.Slice lo hi none p2) v (.ref s3.heap.objs.size)) (EP X pq σ Q) X.xe { s3 with heap:=s3.heap.push { cls:=.type "slice",data:=.fields #[vl,vu,.none]}}
 exact tail_any (ops:=[.ref s3.heap.objs.size,v]) ht hT hg (83#0)
def qv(xs:List V)(lo hi:55#0):List V:=(xs.drop (HT.fk xs.length 0 lo)).take (HT.fk xs.length xs.length hi-HT.fk xs.length 0 lo)
def iz(xs:List V)(lo hi:55#0):58#(qv xs lo hi)<=xs.length:=by
 unfold qv;rw[I!,e_]
 lia
def Wm(K:b7):V->55#0->55#0->Hp->VK->Prop:=λx lo hi H Q=>∃a xs,x = .ref a/\aL K H a xs/\
 ¬(HT.fk xs.length 0 lo=0/\HT.fk xs.length xs.length hi=xs.length)/\∀p,H p=none->Q (.ref p) (η H p (.tup (qv xs lo hi)))
def S5:Vw X (Wm X.K):=by
 intro pq s σ H x v vl vu lo hi sl Q I rx hs pl pu h;obtain⟨a,xs,rfl,hx,hw,q⟩:=h;cases rx;obtain⟨its,r,ht,hz⟩:=I.tuple hx;have hlen:its.toArray.size=xs.length:=by rw[r!];exact r.length.symm
 refine⟨"tuple",_,v_.lookup,ht.typeIs,?_⟩;refine HT.lH ht hs pl pu (by rw[hlen];exact hw) ?_ (by rw[hlen];exact hz)
 rw[hlen];refine⟨19#.ref,_,I.laid (t':=s.toks) (o:=.tup (qv xs lo hi)) (λb ob q=>l! _ q) (Z' _) ?_,rfl,q _ (I.hok.fresh (Z' _))⟩
 exact⟨D! (iz xs lo hi) hz,_,(r.drop (HT.fk xs.length 0 lo)).take (HT.fk xs.length xs.length hi-HT.fk xs.length 0 lo),IsTup.new _ _⟩
def Wn(K:b7):R2:=λx y H Q=>∃a b xs ys,x = .ref a/\y = .ref b/\aL K H a xs/\aL K H b ys/\xs≠[]/\56#(xs.length+ys.length)/\
 (ys=[]->Q (.ref a) H)/\(ys≠[]->∀p,H p=none->Q (.ref p) (η H p (.tup (xs++ys))))
def υ.Bd{xs:List V}{us:23#0}(r:υ xs us):us=[]↔xs=[]:=by
 cases r with
 | nil=>simp
 | cons _ _=>simp
def PF:mh X (binaryOp .Add) (Wn X.K):=by
 show 75;obtain⟨a,b,xs,ys,rfl,rfl,ha,hb,hx,hz,q1,q2⟩:=h;cases rx;cases ry;obtain⟨its,r1,p1,_⟩:=I.tuple ha;obtain⟨its2,r2,p2,_⟩:=I.tuple hb;refine HT.Pz p1 p2 (λz=>hx (r1.Bd.mp z)) (λz=>⟨.ref a,H,I,rfl,q1 (r2.Bd.mp z)⟩) (λz=>?_) (by rw[<-r1.length,<-r2.length];exact hz)
 refine⟨19#.ref,_,I.laid (t':=s.toks) (o:=.tup (xs++ys)) (λb ob q=>l! _ q) (Z' _) ?_,rfl,q2 (λw=>z (r2.Bd.mpr w)) _ (I.hok.fresh (Z' _))⟩
 exact⟨by rw[k!];exact hz,_,r1.append r2,IsTup.new _ _⟩
end
def PJ(n:Nat)(i:Int):Option Nat:=if 0<=i then(if i<n then some i.toNat else none) else if -(n:Int)<=i then some (i+n).toNat else none
def Ah{α:Type}(xs:List α)(i:Int):Option α:=(PJ xs.length i).bind λj=>xs[j]?
def HG{n:Nat}{i:Int}{j:Nat}(h:PJ n i=some j):seqIndex? i n=some j/\j<n/\-(n:Int)<=i/\i<n:=by
 unfold PJ at h
 by_cases h0:0<=i
 .rw[ο h0]at h
  by_cases h1:i<n
  .rw[ο h1]at h;have e:i.toNat=j:=18#h;exact⟨by rw[seqIndex_of h0 h1,e],by lia,by lia,h1⟩
  .rw[ξ h1]at h;cases h
 .rw[ξ h0]at h
  by_cases h1 : -(n:Int)<=i
  .rw[ο h1]at h;have e:(i+n).toNat=j:=18#h;exact⟨by rw[seqIndex_neg (by lia) h1,e],by lia,h1,by lia⟩
  .rw[ξ h1]at h;cases h
def HH{α:Type}{xs:List α}{i:Int}{v:α}(h:Ah xs i=some v):∃j,seqIndex? i xs.length=some j/\xs[j]?=some v/\j<xs.length/\-(xs.length:Int)<=i/\i<xs.length:=by
 unfold Ah at h;cases e:PJ xs.length i with
 | none=>rw[e]at h;cases h
 | some j =>
   rw[e]at h;obtain⟨h1,h2,h3,h4⟩:=HG e;exact⟨j,h1,h,h2,h3,h4⟩
def ay{α:Type}{xs:List α}{j:Nat}{v:α}(h:xs[j]?=some v):Ah xs (j:Int)=some v:=by
 have hj:j<xs.length:=(j7.mp h).1;have e:PJ xs.length (j:Int)=some j:=by
  unfold PJ;rw[ο (by lia),ο (by lia)];simp
 unfold Ah;rw[e];exact h
def HJ(b:Expr):Prop:=∀o i,subscripted b false o i=operate [o,i] (getItem o i)
def Vx(X:Cx)(r:R2):Prop :=
 ∀(value slice:Expr) (pq:aW) (s:Shared) (σ:St) (H:Hp) (x y:V) (v u:Value) (Q:VK),5#s->Θ x v->Θ y u->r x y H Q->
  subscripted slice false v u=operate [v,u] (getItem v u)->wpAny 9#0 X.A (subscriptTail value slice v u) (EP X pq σ Q) X.xe s
def ZT(X:Cx)(id:String)(r:V->List V->Hp->VK->Prop):Prop :=
 ∀(pq:aW) (s:Shared) (σ:St) (H:Hp) (x:V) (xs:List V) (v:Value) (us:23#0) (Q:VK),5#s->Θ x v->υ xs us->r x xs H Q->
  wpAny 9#0 X.A (call (.builtin id) (v::us)) (EP X pq σ Q) X.xe s
section
variable {X:Cx}{a b:Expr}{ta tb:TE}{pos:Pos}
def Wo{r:R2}(hr:Vx X r)(ha:PE X a ta)(hb:PE X b tb)(hs:HJ b):PE X (.Subscript a b pos) (Rz r ta tb):=by
 show 72;exact Subscript_ (SR ha hb I h λv u s2 x y H2 I2 rx ry q=>hr a b pq s2 σ H2 x y v u Q I2 rx ry q (hs _ _))
def S6(K:b7):R2:=λx y H Q=>∃p xs i v,x = .ref p/\y = .int i/\aM K H p xs/\Ah xs i=some v/\Q v H
def S7(K:b7):R2:=λx y H Q=>∃p xs i v,x = .ref p/\y = .int i/\aL K H p xs/\Ah xs i=some v/\Q v H
def PK:Vx X (S6 X.K):=by
 intro value slice pq s σ H x y v u Q I rx ry h hs;obtain⟨p,xs,i,z,rfl,rfl,hq,he,q⟩:=h;cases rx;obtain⟨t,rfl⟩:=ry;obtain⟨its,r,pl,hz⟩:=I.list hq;obtain⟨j,h1,h2,h3,h4,h5⟩:=HH he;obtain⟨w,ew,rw'⟩:=r.get h2;have hl:=r.length;have hn:=tO;have fin:EP X pq σ Q w s:=⟨z,H,I,rw',q⟩
 by_cases h0:0<=i
 .have hj:i.toNat=j:=by
   rw[seqIndex_of h0 h5]at h1;exact 18#h1
  exact item_listR pl.isList h0 (by lia) (by rw[hj];simpa using ew) fin hs
 .have hj:(i+(its.toArray.size:Int)).toNat=j:=by
   rw[seqIndex_neg (by lia) h4]at h1
   rw[r!,<-hl];exact 18#h1
  exact subscriptTail_builtinR (x:=w) pl.isList.typeIs slot_list_getitem.lookup
   (wpAny_getItem_list_neg (Q:=λr s'=>r=w/\EP X pq σ Q r s') pl.isList (by lia) (by rw[r!]<;>lia) (by lia) (by rw[hj];simpa using ew) ⟨rfl,fin⟩) hs
def S8:Vx X (S7 X.K):=by
 intro value slice pq s σ H x y v u Q I rx ry h hs;obtain⟨p,xs,i,z,rfl,rfl,hq,he,q⟩:=h;cases rx;obtain⟨t,rfl⟩:=ry;obtain⟨its,r,pl,hz⟩:=I.tuple hq;obtain⟨j,h1,h2,h3,h4,h5⟩:=HH he;obtain⟨w,ew,rw'⟩:=r.get h2;have hl:=r.length;have hn:=tO;have fin:EP X pq σ Q w s:=⟨z,H,I,rw',q⟩;exact subscriptTail_builtinR (x:=w) pl.typeIs slot_tuple_getitem.lookup
  (getItem_tuple (j:=j) (Q:=λr s'=>r=w/\EP X pq σ Q r s') pl (by lia) (by lia) (by rw[r!,<-hl];exact h1) (by simpa using ew) ⟨rfl,fin⟩) hs
def FA(its:23#0)(n j:Nat)(u:Value):Obj.mapSeq (·.setIfInBounds j u) { cls:=.type "list",data:=.seq its.toArray n}={ cls:=.type "list",data:=.seq (its.set j u).toArray n}:=by
 simp[Obj.mapSeq]
def θ.lst{pq:aW}{σ:St}{H:Hp}{s:Shared}{p:Addr}{xs:List V}(I:5#s)(h:H p=1#xs):
 ∃(its:23#0) (n:Nat),υ xs its/\s.heap.get? p=some { cls:=.type "list",data:=.seq its.toArray n}/\56#xs.length:=by
 obtain⟨z,its,n,r,e⟩:=I.hok p _ h;exact⟨its,n,r,e,z⟩
def θ.S9{pq:aW}{σ:St}{H:Hp}{s:Shared}{p:Addr}{xs ys:List V}{its its' : 23#0}{n n' : Nat}{f:Obj->Obj}(I:5#s)(h:H p=1#xs)
 (ho:s.heap.get? p=some { cls:=.type "list",data:=.seq its.toArray n}) (hf:f { cls:=.type "list",data:=.seq its.toArray n}={ cls:=.type "list",data:=.seq its'.toArray n'}) (r:υ ys its') (hz:56#ys.length) (t:Nat) :
 θ X pq σ (η H p (.lst ys)) { s with heap:=s.heap.update p f,toks:=t}:=by
 have e:(s.heap.update p f).get? p=some { cls:=.type "list",data:=.seq its'.toArray n'}:=by
  rw[c_ f ho (by rw[hf]<;>rfl),hf]
 refine I.write (x:=p) (e:=p) (by rw[h];trivial) (.inl rfl) (λb u hb q=>(M? _ _ (u! hb)).trans q) ⟨_,e⟩ ?_
 exact⟨hz,its',n',r,e⟩
def Wq:V->V->V->Hp->(Hp->Prop)->Prop:=λo i v H Q=>∃p xs k j,o = .ref p/\i = .int k/\H p=1#xs/\PJ xs.length k=some j/\Q (η H p 46#(xs.set j v))
def set_list:SM X Wq:=by
 intro pq s σ H o i v ov iv u Q I ro ri rv h;obtain⟨p,xs,k,j,rfl,rfl,hp,hj,q⟩:=h;cases ro;obtain⟨t,rfl⟩:=ri;obtain⟨its,n,r,ho,hz⟩:=I.lst hp;obtain⟨h1,h2,h3,h4⟩:=HG hj;have hl:=r.length;have hn:=tO;have I' : θ X pq σ (η H p 46#(xs.set j v)) { s with heap:=s.heap.update p (Obj.mapSeq (·.setIfInBounds j u))} :=
  I.S9 hp ho (FA its n j u) (r.set rv j) (by rw[List.length_set];exact hz) s.toks
 by_cases h0:0<=k
 .have hk:k.toNat=j:=by
   rw[seqIndex_of h0 h4]at h1;exact 18#h1
  exact PySem.W.ki_setAt ho h0 (by lia) (by rw[r!,<-hl];exact h4) (by rw[hk];exact⟨_,I',q⟩)
 .have hk:(k+(its.toArray.size:Int)).toNat=j:=by
   rw[seqIndex_neg (by lia) h3]at h1
   rw[r!,<-hl];exact 18#h1
  exact PySem.W.ki_setBack ho (by lia) (by rw[r!,<-hl];exact h3) (by lia) (by rw[hk];exact⟨_,I',q⟩)
def Be(lo hi:55#0)(n:Nat):(sliceBounds lo hi none n).1=6#(HT.fk n 0 lo)/\(sliceBounds lo hi none n).2.1=6#(HT.fk n n hi)/\(sliceBounds lo hi none n).2.2=1:=by
 refine⟨?_,?_,rfl⟩
 .cases lo with
  | none=>simp[sliceBounds,HT.fk]
  | some i =>
    simp only[sliceBounds,HT.fk,Option.getD_none,show(1:Int) > 0 by decide,if_true]
    by_cases h:i<0
    .simp only[h,if_true]<;>lia
    .simp only[h,if_false]<;>lia
 .cases hi with
  | none=>simp[sliceBounds,HT.fk]
  | some i =>
    simp only[sliceBounds,HT.fk,Option.getD_none,show(1:Int) > 0 by decide,if_true]
    by_cases h:i<0
    .simp only[h,if_true]<;>lia
    .simp only[h,if_false]<;>lia
def zk(its:23#0)(lo hi:55#0):slicePick its.toArray lo hi none=((its.drop (HT.fk its.length 0 lo)).take (HT.fk its.length its.length hi-HT.fk its.length 0 lo)).toArray:=by
 obtain⟨h1,h2,h3⟩:=Be lo hi its.toArray.size;unfold slicePick;rw[h1,h2,h3];simp only[sliceRange_one,pick_run,r!]<;>rfl
def Wr(K:b7):V->55#0->55#0->Hp->VK->Prop:=λx lo hi H Q=>∃a xs,x = .ref a/\aM K H a xs/\∀p,H p=none->Q (.ref p) (η H p 46#(qv xs lo hi))
def PL:Vw X (Wr X.K):=by
 intro pq s σ H x v vl vu lo hi sl Q I rx hs pl pu h;obtain⟨a,xs,rfl,hx,q⟩:=h;cases rx;obtain⟨its,r,ht,hz⟩:=I.list hx;have hlen:=r.length;refine⟨"list",_,slot_list_getitem.lookup,ht.isList.typeIs,?_⟩;refine wpAny_getItem_list_slice ht.isList hs pl pu .none 31#0 ?_ (by rw[r!]<;>lia)
 rw[zk,<-hlen];refine⟨19#.ref,_,I.laid (t':=s.toks) (o:=.lst (qv xs lo hi)) (λb ob q=>l! _ q) (Z' _) ?_,rfl,q _ (I.hok.fresh (Z' _))⟩
 exact⟨D! (iz xs lo hi) hz,_,0,(r.drop (HT.fk xs.length 0 lo)).take (HT.fk xs.length xs.length hi-HT.fk xs.length 0 lo),E! _ rfl⟩
def rV:V->Bool
 | .dZ=>true
 | .bl _=>true
 | .int _=>true
 | .str _=>true
 | _=>false
def PM:V->V->Bool
 | .dZ,.dZ=>true
 | .bl a,.bl b=>a==b
 | .bl a,.int b=>(if a then 1 else 0)==b
 | .int a,.bl b=>a==(if b then 1 else 0)
 | .int a,.int b=>a==b
 | .str a,.str b=>a==b
 | _,_=>false
def Tc{A:Around}{s:Shared}{y x:V}{u v:Value}(ry:Θ y u)(rx:Θ x v)(fy:rV y=true)(fx:rV x=true):SeqAt.EqAt A s u v (PM y x):=by
 cases y with
 | dZ =>
   cases ry;cases x with
   | dZ=>cases rx;exact SeqAt.EqAt.same _
   | bl b=>cases rx;exact SeqAt.EqAt.none_bool b
   | int b=>obtain⟨t,rfl⟩:=rx;exact SeqAt.EqAt.none_int b t
   | str b=>obtain⟨t,rfl⟩:=rx;exact SeqAt.EqAt.none_str b t
   | _=>exact absurd (show false=true from fx) e!
 | bl a =>
   cases ry;cases x with
   | dZ=>cases rx;exact SeqAt.EqAt.bool_none a
   | bl b=>cases rx;exact SeqAt.EqAt.bool_bool a b
   | int b=>obtain⟨t,rfl⟩:=rx;exact SeqAt.EqAt.bool_int a b t
   | str b=>obtain⟨t,rfl⟩:=rx;exact SeqAt.EqAt.bool_str a b t
   | _=>exact absurd (show false=true from fx) e!
 | int a =>
   show 79;cases x with
   | dZ=>cases rx;exact SeqAt.EqAt.int_none a t'
   | bl b=>cases rx;exact SeqAt.EqAt.int_bool a t' b
   | int b=>obtain⟨t,rfl⟩:=rx;exact SeqAt.EqAt.int_int a t' b t
   | str b=>obtain⟨t,rfl⟩:=rx;exact SeqAt.EqAt.int_str a t' b t
   | _=>exact absurd (show false=true from fx) e!
 | str a =>
   show 79;cases x with
   | dZ=>cases rx;exact SeqAt.EqAt.str_none a t'
   | bl b=>cases rx;exact SeqAt.EqAt.str_bool a t' b
   | int b=>obtain⟨t,rfl⟩:=rx;exact SeqAt.EqAt.str_int a t' b t
   | str b=>obtain⟨t,rfl⟩:=rx;exact SeqAt.EqAt.str_str a t' b t
   | _=>exact absurd (show false=true from fx) e!
 | _=>exact absurd (show false=true from fy) e!
def FD(x:V)(u:Value):Bool:=match u with
 | .none=>PM .dZ x
 | .bool b=>PM (.bl b) x
 | .int i _=>PM (.int i) x
 | .str z _=>PM (.str z) x
 | _=>false
def LP{x y:V}{u:Value}(r:Θ y u)(f:rV y=true):FD x u=PM y x:=by
 cases y with
 | dZ=>cases r;rfl
 | bl b=>cases r;rfl
 | int i=>obtain⟨t,rfl⟩:=r;rfl
 | str z=>obtain⟨t,rfl⟩:=r;rfl
 | _=>exact absurd (show false=true from f) e!
theorem rW{x:V}:∀{xs:List V} {us:23#0},υ xs us->xs.all rV=true->us.any (FD x)=xs.any λy=>PM y x
 | _,_,.nil,_=>rfl
 | y::xs,u::us,.cons r t,f=>by
   rw[List.all_cons,L!]at f;rw[T_,T_,LP r f.1,rW t f.2]
theorem oJ{A:Around}{s:Shared}{x:V}{v:Value}(rx:Θ x v)(fx:rV x=true):∀{xs:List V} {us:23#0},υ xs us->xs.all rV=true->∀u∈us,SeqAt.EqAt A s u v (FD x u)
 | _,_,.nil,_=>λu hu=>by cases hu
 | y::xs,u::us,.cons r t,f=>λu' hu=>by
   rw[List.all_cons,L!]at f;rcases h!.mp hu with rfl|hu
   .rw[LP r f.1];exact Tc r rx f.1 fx
   .exact oJ rx fx t f.2 u' hu
def Vy(x:V)(xs:List V):Bool:=xs.any λy=>PM y x
def YJ(K:b7)(neg:Bool):R2:=λx y H Q=>∃p xs,y = .ref p/\(aM K H p xs\/aL K H p xs)/\rV x=true/\xs.all rV=true/\Q (.bl (if neg then ! Vy x xs else Vy x xs)) H
def Jh:mh X (compareOp .In) (YJ X.K false):=by
 show 75;obtain⟨p,xs,rfl,hq,fx,fs,q⟩:=h;cases ry;rcases hq with hq|hq
 .obtain⟨its,r,pl,hz⟩:=I.list hq;refine SeqAt.in_listAt (FD x) pl.isList (λw hw=>oJ rx fx r fs w (by simpa using hw)) ⟨.bl _,H,I,rfl,?_⟩
  rw[show its.toArray.any (FD x)=its.any (FD x) by simp,rW r fs]
  exact q
 .obtain⟨its,r,pl,hz⟩:=I.tuple hq;refine SeqAt.in_tupleAt (FD x) pl (λw hw=>oJ rx fx r fs w (by simpa using hw)) ⟨.bl _,H,I,rfl,?_⟩
  rw[show its.toArray.any (FD x)=its.any (FD x) by simp,rW r fs]
  exact q
def Bf:mh X (compareOp .NotIn) (YJ X.K true):=by
 show 75;obtain⟨p,xs,rfl,hq,fx,fs,q⟩:=h;cases ry;rcases hq with hq|hq
 .obtain⟨its,r,pl,hz⟩:=I.list hq;refine SeqAt.notIn_listAt (FD x) pl.isList (λw hw=>oJ rx fx r fs w (by simpa using hw)) ⟨.bl _,H,I,rfl,?_⟩
  rw[show its.toArray.any (FD x)=its.any (FD x) by simp,rW r fs]
  exact q
 .obtain⟨its,r,pl,hz⟩:=I.tuple hq;refine SeqAt.notIn_tupleAt (FD x) pl (λw hw=>oJ rx fx r fs w (by simpa using hw)) ⟨.bl _,H,I,rfl,?_⟩
  rw[show its.toArray.any (FD x)=its.any (FD x) by simp,rW r fs]
  exact q
def Bg:fc X (.builtin "len") (λxs H Q=>∃p ys,xs=[.ref p]/\(aM X.K H p ys\/aL X.K H p ys)/\Q (.int ys.length) H):=by
 intro pq s σ H xs us Q I r h;obtain⟨p,ys,rfl,hq,q⟩:=h;obtain⟨u,rfl,rx⟩:=vals1 r;cases rx;have hn:=tO;rcases hq with hq|hq
 .obtain⟨its,r',pl,hz⟩:=I.list hq;have hlen:=r'.length;exact Calls.call_len_list pl.isList (by simp only[r!]<;>lia) ⟨.int ys.length,H,I.tok _,⟨s.toks+1,by rw[r!,hlen]⟩,q⟩
 .obtain⟨its,r',pl,hz⟩:=I.tuple hq;have hlen:=r'.length;exact len_tuple pl (by simp only[r!]<;>lia) ⟨.int ys.length,H,I.tok _,⟨s.toks+1,by rw[r!,hlen]⟩,q⟩
def Bh:fc X (.type "list") (λxs H Q=>∃p ys,xs=[.ref p]/\(aM X.K H p ys\/aL X.K H p ys)/\∀l,H l=none->Q (.ref l) (η H l (.lst ys))):=by
 intro pq s σ H xs us Q I r h;obtain⟨p,ys,rfl,hq,q⟩:=h;obtain⟨u,rfl,rx⟩:=vals1 r;cases rx;have fin:∀(its:23#0),υ ys its->56#ys.length->∀(h' : Heap) (c' : Nat),(∀b o',22#o'->45#o')->
  19#h'.get?=some { cls:=.type "list",dict:=none,data:=.seq its.toArray c',slots:=#[]}->EP X pq σ Q (19#.ref) { s with heap:=h'}:=λits r' hz h' c' kp e =>
  ⟨19#.ref,_,I.laid (t':=s.toks) kp (Z' _) (show bL X.prog X.w _ h' _ (.lst ys) from⟨hz,its,c',r',e⟩),rfl,q _ (I.hok.fresh (Z' _))⟩
 rcases hq with hq|hq
 .obtain⟨its,r',pl,hz⟩:=I.list hq;have hlen:=r'.length;obtain⟨o,ho,hc,n,hd⟩:=pl.isList;exact call_list_seq p (.inl rfl) ho hc hd (λh' c' kp e=>fin its r' hz h' c' kp e) (by simp only[r!]<;>lia)
 .obtain⟨its,r',pl,hz⟩:=I.tuple hq;have hlen:=r'.length;obtain⟨o,ho,hc,n,hd⟩:=pl;exact call_list_seq p (.inr rfl) ho hc hd (λh' c' kp e=>fin its r' hz h' c' kp e) (by simp only[r!]<;>lia)
def zo:fc X (.type "tuple") (λxs H Q=>∃p ys,xs=[.ref p]/\((aM X.K H p ys/\∀l,H l=none->Q (.ref l) (η H l (.tup ys)))\/(aL X.K H p ys/\Q (.ref p) H))):=by
 intro pq s σ H xs us Q I r h;obtain⟨p,ys,rfl,h⟩:=h;obtain⟨u,rfl,rx⟩:=vals1 r;cases rx;rcases h with⟨hq,q⟩|⟨hq,q⟩
 .obtain⟨its,r',pl,hz⟩:=I.list hq;have hlen:=r'.length;refine call_tuple_list pl.isList (λh' kp=>?_) (by simp only[r!]<;>lia)
  have I1:5#{ s with heap:=h'}:=I.kept (t':=s.toks) kp
  have I2:θ X pq σ (η H h'.objs.size (.tup ys)) { s with heap:=h'.push { cls:=.type "tuple",data:=.seq its.toArray}} :=
   I1.laid (t':=s.toks) (λb o e=>l! _ e) (Z' _) (show bL X.prog X.w _ _ _ (.tup ys) from⟨hz,its,r',IsTup.new _ _⟩)
  exact⟨.ref h'.objs.size,_,I2,rfl,q _ (I1.hok.fresh (Z' _))⟩
 .obtain⟨its,r',pl,hz⟩:=I.tuple hq;exact call_tuple_same pl ⟨.ref p,H,I,rfl,q⟩
def ZU(K:b7)(T:String)(x:V)(H:Hp):Prop:=match x with
 | .str _=>T="str"
 | .int _=>T="int"
 | .ref p=>(T="list"/\∃xs,aM K H p xs)\/(T="tuple"/\∃o,K.lookup p=some o/\o.cls = .type "tuple"/\o.dict=none)\/
  (T="dict"/\((∃kvs,H p=some (.dK kvs))\/∃kvs,H p=some (.dT kvs)))\/(T="set"/\∃S n,H p=some (.set S n))
 | _=>False
def LQ{pq:aW}{σ:St}{H:Hp}{s:Shared}{T:String}{x:V}{v:Value}(I:5#s)(r:Θ x v)(ty:ZU X.K T x H):
 s.TypeIs v T/\∀a,v = .ref a->∃ob,s.heap.get? a=some ob/\ob.dict=none:=by
 cases x with
 | str z =>
   obtain⟨t,rfl⟩:=r;cases(show T="str" from ty)
   exact⟨typeIs_str s z t,λ_ e=>nomatch e⟩
 | int i =>
   obtain⟨t,rfl⟩:=r;cases(show T="int" from ty)
   exact⟨typeIs_int s i t,λ_ e=>nomatch e⟩
 | ref p =>
   cases r;rcases ty with⟨rfl,xs,hq⟩|⟨rfl,o,hk,hc,hd⟩|⟨rfl,hk⟩|⟨rfl,S,n,hk⟩
   .obtain⟨its,_,pl,_⟩:=I.list hq;refine⟨pl.isList.typeIs,λa e=>?_⟩
    cases e;obtain⟨o,n,e,c,hd,_⟩:=pl;exact⟨o,e,hd⟩
   .refine⟨⟨o,I.CM p o hk,hc⟩,λa e=>?_⟩
    cases e;exact⟨o,I.CM _ o hk,hd⟩
   .have z:∃o,s.heap.get? p=some o/\o.ExactDict:=by
     rcases hk with⟨kvs,hk⟩|⟨kvs,hk⟩
     .obtain⟨_,_,_,_,o,_,_,e,ex,_⟩:=I.hok p _ hk;exact⟨o,e,ex⟩
     .obtain⟨_,_,_,_,o,_,_,e,ex,_⟩:=I.hok p _ hk;exact⟨o,e,ex⟩
    obtain⟨o,e,ex⟩:=z;refine⟨⟨o,e,ex.1⟩,λa e2=>?_⟩
    cases e2;exact⟨o,e,ex.2.1⟩
   .obtain⟨o,_,_,_,e,ex,_⟩:=I.hok p _ hk;refine⟨⟨o,e,ex.1⟩,λa e2=>?_⟩
    cases e2;exact⟨o,e,ex.2.1⟩
 | _=>exact False.elim ty
def ZV(K:b7)(T:String)(r:V->List V->Hp->VK->Prop)(to:TE):TE:=λσ H Q=>to σ H λx H1=>ZU K T x H1/\r x [] H1 Q
def ZW(K:b7)(T:String)(r:V->List V->Hp->VK->Prop)(to:TE)(t:TA):TE:=λσ H Q=>to σ H λx H1=>ZU K T x H1/\t σ H1 λxs H2=>r x xs H2 Q
variable {o e:Expr}{es:List Expr}{to:TE}{t:TA}{name:Str}{apos cpos:Pos}{T id:String}{r:V->List V->Hp->VK->Prop}
def LR(pa:PlainAttrs T)(slot:Slot T name id)(hty:typeOf (.builtin id)=pure (.type "method_descriptor"))(hm:ZT X id r)(ho:PE X o to)
 (hbase:attributeBase o name X.env (eval o X.env)=eval o X.env:=by rfl) (hline:(apos.endLine==cpos.line)=true:=by rfl):PE X (.Call (.Attribute o name apos) [] [] cpos) (ZV X.K T r to):=by
 show 72;refine wpAny_Call_method0_late hbase hline (dR 39#ho λv s1 ⟨x,H1,I1,r1,ty,q1⟩=>?_)
 obtain⟨h1,h2⟩:=LQ I1 r1 ty;exact⟨T,id,pa,slot,hty,h1,h2,Calls.callWith_builtin rfl (PySem.evalArgs_none (hm pq s1 σ H1 x [] v [] Q I1 r1 .nil q1))⟩
def jY(pa:PlainAttrs T)(slot:Slot T name id)(hty:typeOf (.builtin id)=pure (.type "method_descriptor"))(hm:ZT X id r)(ho:PE X o to)(ha:PA X (e::es) t)
 (hbase:attributeBase o name X.env (eval o X.env)=eval o X.env:=by rfl)
 (hfew:((backTo cpos (21#(e::es))).all (λx=>! x.1)&&(backToKw cpos (keywordEach [] X.env)).all (λx=>x.1.isSome)
  && 7#(58#(e::es)+([]:List Keyword).length+(if([]:List Keyword).isEmpty then 0 else 1)<30))=true:=by rfl)
 (hline:(apos.endLine==cpos.line)=true:=by rfl) (hs:21#(e::es)=43#e::21#es:=by rfl) (hplain:(backTo cpos (21#es)).any (·.1)=false:=by rfl) :
 PE X (.Call (.Attribute o name apos) (e::es) [] cpos) (ZW X.K T r to t):=by
 show 72;refine wpAny_Call_method_late hbase hfew hline rfl (dR 39#ho λv s1 ⟨x,H1,I1,r1,ty,q1⟩=>?_)
 obtain⟨h1,h2⟩:=LQ I1 r1 ty;refine⟨T,id,pa,slot,hty,h1,h2,?_⟩;have hA:=ha cpos pq s1 σ H1 _ I1 q1;rw[hs]at hA ⊢;refine Calls.callWith_builtin (by show(false || (backTo cpos (21#es)).any (·.1))=false;rw[hplain]<;>rfl) (Calls.evalArgs_plain ?_)
 exact dR hA λus s2 ⟨vs,H2,I2,r2,q2⟩=>hm pq s2 σ H2 x vs v us Q I2 r1 r2 q2
end
def ZX(X:Cx)(id:String)(r:V->List V->Hp->VK->Prop):Prop :=
 ∀(pq:aW) (s:Shared) (σ:St) (H:Hp) (x:V) (xs:List V) (v:Value) (us:23#0) (Q:VK),5#s->Θ x v->υ xs us->r x xs H Q->
  wpAny 9#0 X.A (call (.builtin id) (v::us)) (EP X pq σ Q) X.xe s
def υ.one:∀{x:V} {us:23#0},υ [x] us->∃u,us=[u]/\Θ x u
 | _,_,.cons r .nil=>⟨_,rfl,r⟩
def υ.rep{xs:List V}{us:23#0}(h:υ xs us):∀k:Nat,υ (List.replicate k xs).flatten (List.replicate k us).flatten
 | 0=>.nil
 | k+1=>by
   rw[n_,n_,O_,O_];exact υ.append h (υ.rep h k)
theorem foldl_rep(its:23#0):∀(k:Nat) (acc:23#0),
 List.foldl (λx1 x2=>x1++x2) acc.toArray (List.replicate k its.toArray)=(acc++(List.replicate k its).flatten).toArray
 | 0,acc=>by simp
 | k+1,acc=>by
   have e:acc.toArray++its.toArray=(acc++its).toArray:=by simp
   have e2:(acc++its)++(List.replicate k its).flatten=acc++(List.replicate (k+1) its).flatten:=by
    rw[n_,O_,List.append_assoc]
   rw[<-e2,<-foldl_rep its k (acc++its),<-e,n_,t_]
section
variable {X:Cx}{pq:aW}{σ:St}{H:Hp}{s:Shared}{l b:Addr}{xs ys zs:List V}
def θ.Td{its its' : 23#0}{n:Nat}{f:42#0->42#0}{t' : Nat}(I:5#s)(hH:H l=1#xs)
 (e:s.heap.get? l=some { cls:=.type "list",data:=.seq its.toArray n}) (hf:f its.toArray=its'.toArray) (hv:υ ys its') (hz:56#ys.length) :
 θ X pq σ (η H l (.lst ys)) { s with heap:=s.heap.update l 86#f,toks:=t'}:=by
 have q:=PySem.IsL.update e f;rw[hf]at q;refine I.write (x:=l) (e:=l) (by rw[hH];exact trivial) (.inl rfl) (λb' u hb hu=>(M? s.heap 86#f (u! hb)).trans hu) ⟨_,q⟩ ?_
 exact⟨hz,its',_,hv,q⟩
def θ.ZY{its:23#0}{t' : Nat}(I:5#s)(hv:υ ys its)(hz:56#ys.length):
 θ X pq σ (η H s.heap.objs.size (.lst ys)) { s with heap:=33#{ cls:=.type "list",data:=.seq its.toArray},toks:=t'} :=
 I.laid (λ_ _ q=>l! _ q) (Z' _) ⟨hz,its,0,hv,E! _ rfl⟩
def θ.fresh(I:5#s):19#H=none:=I.hok.fresh (Z' _)
def θ.LS(I:5#s)(hH:H l=1#xs):56#xs.length/\∃(its:23#0) (n:Nat),υ xs its/\xs.length=its.length/\s.heap.get? l=some { cls:=.type "list",data:=.seq its.toArray n}:=by
 obtain⟨z,its,n,r,e⟩:=I.hok l _ hH;exact⟨z,its,n,r,r.length,e⟩
def C5{n:Nat}(h:n<=sizeLine):Builtin.List.listTooLong n=false:=by
 unfold Builtin.List.listTooLong;exact eV (by lia)
end
section
variable {X:Cx}
def PN:V->List V->Hp->VK->Prop:=λx vs H Q=>∃l xs y,x = .ref l/\vs=[y]/\H l=1#xs/\xs.length<sizeLine/\Q .dZ (η H l 46#(xs++[y]))
def cN:ZX X "list.append" PN:=by
 intro pq s σ H x vs v us Q I rx rv h;obtain⟨l,xs,y,rfl,rfl,hH,hz,q⟩:=h;cases rx;obtain⟨u,rfl,ru⟩:=rv.one;obtain⟨z,its,n,r,hl,e⟩:=I.LS hH;refine call_meets F.slot_list_append ⟨_,e,rfl⟩ F.entry_list_append (F.args_list_append_2 _ _) (PySem.list_append l its.toArray n u (by rw[r!];lia)) ⟨e,?_⟩
 refine⟨.dZ,_,I.Td (its':=its++[u]) hH e 31#0 (r.append (.cons ru .nil)) ?_,rfl,q⟩
 rw[k!,U!]
 lia
def PR:V->List V->Hp->VK->Prop:=λx vs H Q=>∃l b xs zs,x = .ref l/\vs=[.ref b]/\H l=1#xs/\H b=1#zs/\56#(xs.length+zs.length)/\Q .dZ (η H l 46#(xs++zs))
def Ji:ZX X "list.extend" PR:=by
 intro pq s σ H x vs v us Q I rx rv h;obtain⟨l,b,xs,zs,rfl,rfl,hH,hB,hz,q⟩:=h;cases rx;obtain⟨u,rfl,ru⟩:=rv.one;cases ru;obtain⟨z,its,n,r,hl,e⟩:=I.LS hH;obtain⟨z2,its2,n2,r2,hl2,e2⟩:=I.LS hB;have hsz:56#(its.toArray.size+its2.toArray.size):=by rw[r!,r!];lia
 have LU : ¬(! its.toArray.isEmpty&&Builtin.List.listTooLong (its.toArray.size+its2.toArray.size))=true:=by
  rw[C5 hsz,g_];exact e!
 refine call_meets F.slot_list_extend ⟨_,e,rfl⟩ F.entry_list_extend (F.args_list_extend_2 _ _)
  (AutoSeq1.list_extend_list_list_0 l its.toArray n b its2.toArray n2 LU (by rw[r!];lia) (by lia)) ⟨e,e2,?_⟩
 refine⟨.dZ,_,I.Td (its':=its++its2) hH e 31#0 (r.append r2) ?_,rfl,q⟩
 rw[k!]
 lia
def ZZ:R2:=λx y H Q=>∃l k xs,x = .ref l/\y = .int k/\H l=1#xs/\-(2^63)<=k/\k<2^63/\56#(xs.length*k.toNat)/\
 ∀p,H p=none->Q (.ref p) (η H p (.lst (List.replicate k.toNat xs).flatten))
def len_rep{α:Type}(xs:List α)(k:Nat):(List.replicate k xs).flatten.length=k*xs.length:=by
 induction k with
 | zero=>simp
 | succ k ih=>rw[n_,O_,k!,ih,Nat.succ_mul,Nat.add_comm]
def wZ:mh X (binaryOp .Mult) ZZ:=by
 show 75;obtain⟨l,k,xs,rfl,rfl,hH,h1,h2,hz,q⟩:=h;cases rx;obtain⟨t,rfl⟩:=ry;obtain⟨z,its,n,r,hl,e⟩:=I.LS hH;have hlen:56#(its.toArray.size*k.toNat):=by rw[r!,<-hl];exact hz
 have Z0 : ¬ its.toArray.size*k.toNat > (2^63-1)/8:=by
  have:(sizeLine:Nat)<=(2^63-1)/8:=16#0
  lia
 have hfit : ¬(! Builtin.List.listFitsIndex k)=true:=by
  rw[fitsIndex_both h1 h2];exact e!
 have LU : ¬ Builtin.List.listTooLong (its.toArray.size*k.toNat)=true:=by
  rw[C5 hlen];exact e!
 have hnew:List.foldl (λx1 x2=>x1++x2) #[] (List.replicate (if its.toArray.isEmpty=true then 0 else k.toNat) its.toArray)=(List.replicate k.toNat its).flatten.toArray:=by
  have f0:∀m:Nat,List.foldl (λx1 x2=>x1++x2) #[] (List.replicate m its.toArray)=(List.replicate m its).flatten.toArray:=λm=>by
   have:=foldl_rep its m [];rw[List.nil_append]at this;exact this
  rw[f0];cases its with
  | nil=>simp
  | cons a r'=>rw[ξ 31#0]
 refine wpAny_binaryOp_repeat_ref (T:="list") (U:="int") (16#0) ⟨_,e,rfl⟩ (λs'=>typeIs_int s' k t) noFill_list_mul F.fills_int_mul F.slot_int_rmul repeat_list F.slot_int_index.lookup
  (call_meets F.slot_int_rmul (typeIs_int s k t) F.entry_int_rmul (F.args_int_rmul_2 _ _) (int___rmul___int_list k t l its.toArray n)
   ⟨e,rfl,⟨_,e,rfl⟩,call_meets F.slot_list_mul ⟨_,e,rfl⟩ F.entry_list_mul (F.args_list_mul_2 _ _) (AutoListH.list___mul___list_int_3 l its.toArray n k t hfit Z0 LU) ⟨e,?_⟩⟩)
 rw[hnew];exact⟨.ref _,_,I.ZY (t':=s.toks) (r.rep k.toNat) (by rw[len_rep,Nat.mul_comm];exact hz),rfl,q _ I.fresh⟩
end
end L2
namespace Att
open PySem PySem.W PySem.Calls PyProof.Rows
def vL{P:Params}{h:Heap}:∀(ns:List Int) (vs:23#0),WellAll P h vs (ns.map WData.int)->IntsAre vs ns:=by
 intro ns
 induction ns with
 | nil =>
   intro vs w;rw[_J]at w;cases w;exact .nil
 | cons n ns ih =>
   intro vs w;rw[F!]at w;cases w with
   | cons a b =>
     cases a;exact .cons _ _ (ih _ b)
def Jj{l:OpenLaw}{n:Nat}(hn:l.most=some n){P:Params}{h:Heap}{args:List WData}{vals:23#0}
 (hpre:l.row.toRowW.claim.pre args=true) (Z1:WellAll P h vals args) :
 ∃a vs ns,vals=[Value.ref a]/\args=[WData.list (ns.map WData.int)]/\h.get? a=some { cls:=.type "list",data:=.seq vs.toArray}/\IntsAre vs ns/\ns.length<=n:=by
 have hsh:WShape.hasAll [] args [.list .int]=true:=(pre_splitW hpre).1;have hc:l.pre.holds [] { args:=args}=true:=(pre_splitW hpre).2;obtain⟨d,r,rfl,h1,h2⟩:=hasAllW_cons hsh;obtain rfl:=hasAllW_nil h2;obtain⟨xs,rfl,h3⟩:=hasW_list h1;obtain⟨ns,rfl⟩:=items_int h3;have hlen:ns.length<=n:=by
  unfold OpenLaw.pre at hc;have h4:(WTm.not (.lt (.lit (.int (n:Int))) (.len (.arg 0)))).holds [] { args:=[.list (ns.map .int)]}=true:=by
   have h4:=(holds_andW hc).1;rw[hn]at h4;exact h4
  have h5:=condW_of h4 (w_not (w_lt w_lit (w_len_list (w_arg rfl))));rw[χ]at h5;refine aeg λq=>?_
  have q' : (n:Int)<6#ns.length:=by lia
  first
   | (rw[cH q']at h5;exact absurd h5 (16#0))
   | (simp at h5;lia)
 cases Z1 with
 | cons w1 w2 =>
   cases w2;cases w1 with
   | list ho hall=>exact⟨_,_,ns,rfl,rfl,ho,vL ns _ hall,hlen⟩
def Jk(l:OpenLaw)(args:List WData):l.row.toRowW.claim.post args (.bool true) args=true :=
 postW_of (r:=l.row.toRowW) (X:=(true==true))
  (show WShape.has [] (.bool true) .bool=true by first | rfl | decide | simp[WShape.has,WShape.arms,WShape.armsAll])
  (show(WTm.eq .res (.lit (.bool true))).value [] { args:=args,res:=some (.bool true),after:=args}=some (.bool (true==true)) from w_eq_bool (w_res rfl) w_lit) rfl
def C6{l:OpenLaw}{n:Nat}{q:Program}{loose:List Str}{XP:(Str->81#0)->Heap->Prop}{YP:World->Heap->Prop}{d:DefRec}
 (hn:l.most=some n) (Ws:d.params.defaults=[])
 (call:∀(w:World) (s₀ s₁:Shared) (mg mb:oA) (fa:Addr) (o:Obj) (pm cd doc:Value) (a:Addr) (vs:23#0) (ns:List Int),
  Ground q loose [] XP w s₀ mg mb s₁.heap->YP w s₁.heap->
  s₁.heap.get? fa=some o->o.data = .func (docDef d.name d.params d.body d.scope pm cd doc)->s₁.heap.CodeRec cd d.name->mg d.name=11#fa->
  s₁.heap.get? a=some { cls:=.type "list",data:=.seq vs.toArray}->IntsAre vs ns->ns.length<=n->s₁.gens = #[]->
  codeAny (model l.prog w) callerA (.call (.ref fa) ⟨[.ref a],[]⟩) (λr s'=>r = .ok (.ret (.bool true))/\OldK s₁.heap s'.heap/\s'.os=s₁.os/\AllBare s'.gens) s₁) :
 WalkO q loose XP YP l.row.toRowW d [] (λf vs=>PySem.call f vs):=by
 intro w s₀ s₁ mg mb G Y fa o pm cd doc dV kV ho hd hcd hD hmg hg args vals as hpre hlay hrd Z1 hlo;obtain rfl:dV = .none:=Dflts.none hD Ws;obtain rfl:kV = .none:=Dflts.noKw hD;obtain⟨a,vs,ns,rfl,rfl,hobj,hints,hlen⟩:=Jj hn hpre Z1;refine enter_call (codeAny_mono (call w s₀ s₁ mg mb fa o pm cd doc a vs ns G Y ho (fd_plain hd) hcd hmg hobj hints hlen hg) λr s' hq=>?_)
 obtain⟨rfl,h2,h3,h4⟩:=hq;exact⟨.inl ⟨.bool true,.bool true,[],rfl,λ_=>rfl,.bool true,Jk l _,λ_=>⟨List.Pairwise.nil,λ_ hm=>(nomatch hm)⟩⟩,h2,h3,h4⟩
end Att
namespace L2
open PySem PySem.Spec PyProof.Rows
theorem Ai:∀{vs:23#0} {ns:List Int},IntsAre vs ns->υ (ns.map V.int) vs
 | _,_,.nil=>.nil
 | _,_,.cons n t h=>.cons ⟨t,rfl⟩ (Ai h)
end L2
namespace L2
open PySem PySem.Spec PyProof.Rows
def fH(s:Stmt):Arguments:=match s with
 | .FunctionDef _ a _ _ _ _ _ _ _ _=>a
 | _=>{ posonlyargs:=[],args:=[],vararg:=none,kwonlyargs:=[],kw_defaults:=[],kwarg:=none,defaults:=[]}
def dh(s:Stmt):List Stmt:=match s with
 | .FunctionDef _ _ b _ _ _ _ _ _ _=>b
 | _=>[]
def ai(s:Stmt):Scope:=match s with
 | .FunctionDef _ _ _ _ _ _ sc _ _ _=>sc
 | _=>{ kind:=.function,names:=[],isGenerator:=false,isCoroutine:=false}
abbrev HK:Lg:=λ_ _ _ _ _ _=>False
abbrev E0:XK:=λ_ _ _=>False
def aK{X:Cx}:Passes HK X E0:=λ_ _ _ _ _ _ _ h=>h.elim
structure PU(K:b7)(x qual:Str)(st:Stmt)(f:Addr)(fd:FuncData):Prop where
 ex:∃(oc:Value) (od:Option Addr) (kV doc pm:Value) (an:Option Addr) (cdv ct:Value) (osl:Array (81#0)),
  fd=PySem.W.fnOf x qual (fH st) (dh st) (ai st) .none kV doc pm an cdv ct/\K.lookup f=some ⟨oc,od,.func fd,osl⟩/\PySem.W.codeIn K cdv qual=true
 kp:PySem.W.keepIn K (.ref f)=true
section
variable {P:Program}{w:World}{K:b7}{mg:oA}{base:Heap}
def PU.ok{x qual:Str}{st:Stmt}{f:Addr}{fd:FuncData}{N ps:List Str}{k:Nat}{sp:Sp}(F:PU K x qual st f fd)(S:aC N ps (ai st))(len:∀vs H Q E,sp vs H Q E->vs.length=ps.length)
 (hbody:∀(cdv:Value) (A:Around) (outer:List Env) (s:Shared) (H:Hp) (vs:List V) (Q:VK) (E:XK),gy k (A.deeper (envOfC qual (ai st) s.heap.objs.size f cdv))->sp vs H Q E->
  ∃t,z8 (vJ HK P w K mg base N qual (ai st) f cdv A outer s H E).E7 (dh st) t/\t { nx:=λ_ H'=>Q .dZ H',rt:=Q} (start N vs) H):oH P w K mg base HK (k+1) f fd ps sp:=by
 obtain⟨oc,od,kV,doc,pm,an,cdv,ct,osl,rfl,lk,hcd⟩:=F.ex;refine LK lk hcd S len λA outer s H vs Q E hr vK=>?_
 obtain⟨t,h,q⟩:=hbody cdv A outer s H vs Q E hr vK;exact⟨t,h.E7,q⟩
def PU.binds{x qual:Str}{st:Stmt}{f:Addr}{fd:FuncData}{ps:List Str}(F:PU K x qual st f fd)
 (h:∀(kV doc pm:Value) (an:Option Addr) (cdv ct:Value) (us:23#0),us.length=ps.length->bindArgs (PySem.W.fnOf x qual (fH st) (dh st) (ai st) .none kV doc pm an cdv ct) ⟨us,[]⟩=pure (ps.zip us)):Binds K fd ps []:=by
 obtain⟨oc,od,kV,doc,pm,an,cdv,ct,osl,rfl,lk,hcd⟩:=F.ex;exact .all (h kV doc pm an cdv ct)
def Tf{x qual:Str}{st:Stmt}{f:Addr}{oc:Value}{od an:Option Addr}{osl:Array (81#0)}{kV doc pm cdv ct:Value}(l:K.lookup f=some ⟨oc,od,.func (PySem.W.fnOf x qual (fH st) (dh st) (ai st) .none kV doc pm an cdv ct),osl⟩)
 (c:PySem.W.codeIn K cdv qual=true) (k:PySem.W.keepIn K (.ref f)=true):PU K x qual st f (PySem.W.fnOf x qual (fH st) (dh st) (ai st) .none kV doc pm an cdv ct):=⟨⟨oc,od,kV,doc,pm,an,cdv,ct,osl,rfl,l,c⟩,k⟩
end
def rX{A:Around}{k:Nat}(hr:gy k A):A.units+1<cLine:=j_ (Nat.add_le_add_left (16#0:1<=64) _) hr.units
def cO{n:Nat}(h:n<=1000):n<sizeLine:=j_ h (16#0)
section
variable {X:Cx}
def pv(i:Nat){x:Str}{pos:Pos}(hN:X.N[i]?=some x:=by rfl)(hv:YD X.env.scope x:=by first | exact Or.inl rfl | exact Or.inr (Or.inl rfl) | exact Or.inr (Or.inr rfl))(hd:(x==("__debug__":Str))=false:=by decide)
 (hcd:(x==("__classdict__":Str))=false:=by decide):PE X (.Name x pos) (SE i):=SG hN hv hd hcd
end
def cJ{A B:Prop}(h:B):if false=true then A else B:=by
 rw[ξ e!];exact h
def cY{A B:Prop}(h:A):if true=true then A else B:=by
 rw[ο rfl];exact h
def iI{c A B:Prop}[Decidable c](h1:c->A)(h2 : ¬ c->B):if c then A else B:=by
 by_cases h:c
 .rw[ο h];exact h1 h
 .rw[ξ h];exact h2 h
def Aj{c A B:Prop}[Decidable c](hc:c)(h:B):if(! decide c)=true then A else B:=by
 rw[cH hc];exact cJ h
def ah(H H' : Hp):Prop:=∀b o,H b=some o->H' b=some o
def ah.refl(H:Hp):ah H H:=λ_ _ h=>h
def ah.trans{H H1 H2:Hp}(a:ah H H1)(b:ah H1 H2):ah H H2:=λc o h=>b c o (a c o h)
def ah.free{H H' : Hp}(e:ah H H'){l:Addr}(h:H' l=Option.none):H l=Option.none:=by
 cases q:H l with
 | none=>rfl
 | some o =>
   rw[e l o q]at h;cases h
def ah.seq{K:b7}{H H' : Hp}{a:Addr}{xs:List V}(e:ah H H')(h:aM K H a xs):aM K H' a xs:=by
 rcases h with(h|⟨o,h⟩) | h
 .exact .inl (.inl (e _ _ h))
 .exact .inl (.inr ⟨o,e _ _ h⟩)
 .exact .inr h
def eO(cells:List (Str×Addr)):List (Str×NameKind)->List (Str×Addr)->List (Str×Addr)
 | [],cs=>cs
 | (n,k)::r,cs=>eO cells r (if(k==NameKind.free)=true then(n,(cells.lookup n).getD 0)::cs else cs)
theorem w4{env:Env}{f:Str×NameKind->List (Str×Addr)->Sem (ForInStep (List (Str×Addr)))}
 (hf1:∀n k cs c,(k==NameKind.free)=true->env.cells.lookup n=some c->f (n,k) cs=pure (.yield ((n,c)::cs)))
 (hf2:∀n k cs,(k==NameKind.free)=false->f (n,k) cs=pure (.yield cs)) :
 ∀(names:List (Str×NameKind)) (cs:List (Str×Addr)),(∀n k,(n,k)∈names->(k==NameKind.free)=true->∃c,env.cells.lookup n=some c)->
  forIn names cs f=(pure (eO env.cells names cs):Sem (List (Str×Addr)))
 | [],cs,_=>by rw[List.forIn_nil];rfl
 | (n,k)::r,cs,h=>by
   have ih:=λcs=>w4 hf1 hf2 r cs λm j hm=>h m j (lG _ hm)
   rw[List.forIn_cons];cases e:(k==NameKind.free) with
   | true =>
     obtain⟨c,hc⟩:=h n k o! e;rw[hf1 n k cs c e hc,pure_bind];show forIn r ((n,c)::cs) f=_;rw[ih]
     conv=>rhs;unfold eO
     rw[ο e,hc];rfl
   | false =>
     rw[hf2 n k cs e,pure_bind];show forIn r cs f=_;rw[ih]
     conv=>rhs;unfold eO
     rw[ξ (by rw[e];exact e!)]
def qS{scope:Scope}{env:Env}(h:∀n k,(n,k)∈scope.names->(k==NameKind.free)=true->∃c,env.cells.lookup n=some c):closureFor scope env=pure (eO env.cells scope.names []):=by
 simp only[closureFor];rw[w4 (env:=env) ?_ ?_ scope.names [] h]
 .rfl
 .intro n k cs c e hc;show(if(k==NameKind.free)=true then _ else _)=_
  rw[ο e];unfold cellOf;rw[hc];rfl
 .intro n k cs e;show(if(k==NameKind.free)=true then _ else _)=_
  rw[ξ (by rw[e];exact e!)]
theorem lM{cells:List (Str×Addr)}{x:Str}{c:Addr}:∀{names:List (Str×NameKind)} {cs:List (Str×Addr)},(eO cells names cs).lookup x=some c->cs.lookup x=some c\/((x,NameKind.free)∈names/\(cells.lookup x).getD 0=c)
 | [],cs,h=>.inl h
 | (n,k)::r,cs,h=>by
   unfold eO at h;rcases lM h with q|⟨q1,q2⟩
   .by_cases e:(k==NameKind.free)=true
    .rw[ο e]at q
     by_cases hx:x=n
     .subst hx;rw[adW]at q;have hk:k=NameKind.free:=eq_of_beq e;exact .inr ⟨by rw[hk];exact o!,18#q⟩
     .have hb:(x==n)=false:=beq_eq_false_iff_ne.mpr hx;simp only[J?,hb]at q;exact .inl q
    .rw[ξ e]at q;exact .inl q
   .exact .inr ⟨lG _ q1,q2⟩
theorem kP{cells:List (Str×Addr)}{x:Str}:∀{names:List (Str×NameKind)} {cs:List (Str×Addr)},((x,NameKind.free)∈names\/∃c,cs.lookup x=some c)->∃c,(eO cells names cs).lookup x=some c
 | [],cs,h=>by
   rcases h with h|h
   .cases h
   .exact h
 | (n,k)::r,cs,h=>by
   unfold eO;apply kP;rcases h with h|⟨c,h⟩
   .rcases h!.mp h with h|h
    .cases h
     right
     rw[ο (by rfl)]
     exact⟨_,adW⟩
    .exact .inl h
   .right
    by_cases e:(k==NameKind.free)=true
    .rw[ο e]
     by_cases hx:x=n
     .subst hx;exact⟨_,adW⟩
     .have hb:(x==n)=false:=beq_eq_false_iff_ne.mpr hx;exact⟨c,by simp only[J?,hb];exact h⟩
    .rw[ξ e];exact⟨c,h⟩
theorem nh{env:Env}{x:Str}{k:NameKind}:∀{names:List (Str×NameKind)},
 (names.map λ(n,k)=>if(61#k) then(n,NameKind.cell) else(n,k)).lookup x=some k->
  ∃k0,names.lookup x=some k0/\(k=k0\/(k0 = .free/\k = .cell))
 | [],h=>by cases h
 | (n,j)::r,h=>by
   have ih:=@nh env x k r
   replace h:List.lookup x ((if(61#j)=true then(n,NameKind.cell) else(n,j))::_)=some k:=h
   cases hx:x==n with
   | true =>
     by_cases hc:(61#j)=true
     .rw[ο hc]at h;simp only[J?,hx]at h ⊢;have hj:j=NameKind.free:=by
       rw[L!,L!]at hc;exact eq_of_beq hc.1.1
      exact⟨j,rfl,.inr ⟨hj,(18#h).symm⟩⟩
     .rw[ξ hc]at h;simp only[J?,hx]at h ⊢;exact⟨j,rfl,.inl (18#h).symm⟩
   | false =>
     by_cases hc:(61#j)=true
     .rw[ο hc]at h;simp only[J?,hx]at h ⊢;exact ih h
     .rw[ξ hc]at h;simp only[J?,hx]at h ⊢;exact ih h
theorem rY{env:Env}{x:Str}:∀{names:List (Str×NameKind)},names.lookup x=some .free->
 (names.map λ(n,k)=>if(61#k) then(n,NameKind.cell) else(n,k)).lookup x=some .cell\/
 (names.map λ(n,k)=>if(61#k) then(n,NameKind.cell) else(n,k)).lookup x=some .free
 | [],h=>by cases h
 | (n,j)::r,h=>by
   have ih:=@rY env x r;show List.lookup x ((if(61#j)=true then(n,NameKind.cell) else(n,j))::_)=_\/
    List.lookup x ((if(61#j)=true then(n,NameKind.cell) else(n,j))::_)=_
   cases hx:x==n with
   | true =>
     simp only[J?,hx]at h;cases h
     by_cases hc:(61#NameKind.free)=true
     .rw[ο hc];simp only[J?,hx];exact .inl trivial
     .rw[ξ hc];simp only[J?,hx];exact .inr trivial
   | false =>
     simp only[J?,hx]at h
     by_cases hc:(61#j)=true
     .rw[ο hc];simp only[J?,hx];exact ih h
     .rw[ξ hc];simp only[J?,hx];exact ih h
def eR(X:Cx)(N:List Str)(scope:Scope)(xe:eG)(C:Addr)(s:Shared)(H:Hp)(fp:70#0):Cx where
 prog:=X.prog
 w:=X.w
 K:=X.K
 mg:=X.mg
 base:=X.base
 A:=X.A
 N:=N
 s₀:=s
 H₀:=H
 env:=compEnvC scope (89#0) C X.env
 outer:=X.stack
 stack:=X.stack
 ex:=fp
 fn:=λ_=>false
 calm:=X.calm
 pn:=[]
 xe:=xe
def gz(σ:St)(js:List Nat):St:=js.map λj=>(σ[j]?).getD none
structure ff(X:Cx)(scope:Scope)(own fq:List Str)(js:List Nat):Prop where
 kind:scope.kind = .function
 Bj:∀y∈scope.names,y.2≠.cell
 names:∀y∈scope.names,y.2 = .local->67#y.1=some .local
 free:∀y∈scope.names,y.2 = .free->53#y.1=some .cell\/53#y.1=some .free
 at_:js.map (λj=>X.N[j]?)=fq.map some
 fr:∀x∈fq,67#x=some .free
def w5{σ:St}{js:List Nat}{i:Nat}{v:V}(h:(gz σ js)[i]?=some (some v)):∃j,js[i]?=some j/\σ[j]?=some (some v):=by
 unfold gz at h;rw[c!]at h;cases e:js[i]? with
 | none=>rw[e]at h;cases h
 | some j =>
   rw[e]at h;have h' : (σ[j]?).getD none=some v:=18#h;refine⟨j,rfl,?_⟩;cases q:σ[j]? with
   | none=>rw[q]at h';cases h'
   | some o=>rw[q]at h';rw[show o=some v from h']
section
variable {X:Cx}
def jg{pq:aW}{σ:St}{H:Hp}{s:Shared}{scope:Scope}{own fq:List Str}{js:List Nat}(I:5#s)(T:ff X scope own fq js):
 ∀n k,(n,k)∈scope.names->(k==NameKind.free)=true->∃c,37#n:=λn k hm e=>by
 have hk:k=NameKind.free:=eq_of_beq e;exact I.ok.has n (T.free (n,k) hm hk)
def LV{pq:aW}{σ:St}{H:Hp}{s:Shared}{scope:Scope}{own fq:List Str}{js:List Nat}{fp:70#0}{D C:Addr}{h1:Heap}{t1:Nat}{m:oA}{xe:eG}
 (I:5#s) (T:ff X scope own fq js) (hf:∀b∈fp,qR X pq H b) (hfo:∀b∈fp,∃o,22#o) (hD:s.heap.objs.size<=D) (hC:s.heap.objs.size<=C) (hDC:D≠C)
 (old:∀b o,22#o->71#h1.get?) (hl:h1.get? D=some { cls:=.type "list",data:=.seq ([]:23#0).toArray 0}) (hn:h1.Ns C m) :
 θ (eR X (own++fq) scope xe C s H fp) [] (List.replicate own.length none++gz σ js) (η H D (.lst [])) { s with heap:=h1,toks:=t1}:=by
 have cells:∀x c,(89#0).lookup x=some c->37#x:=λx c h=>by
  rcases lM h with q|⟨q1,q2⟩
  .cases q
  .obtain⟨c',hc'⟩:=jg I T x .free q1 rfl;rw[hc']at q2;rw[hc'];exact n! some q2
 have Wu:∀b o,22#o->b<s.heap.objs.size:=λb o e=>b! e
 have hcl:∀x c,37#x->c<s.heap.objs.size:=λx c e=>by
  obtain⟨v,q⟩:=I.cell x c e;exact q.lt
 have aeU:∀b∈frs X.stack,b<s.heap.objs.size:=λb hb=>by
  obtain⟨_,o,ho,_⟩:=I.stack.mem hb;exact b! ho
 have hHD:H D=none:=I.hok.fresh hD;have Tg:H C=none:=I.hok.fresh hC;refine⟨⟨I.ok.mod,T.kind,I.ok.glob,I.ok.blt,hC,λx y c a b=>I.ok.inj x y c (cells x c a) (cells y c b),λx hx=>?_,λx c z _=>(nomatch z),I.ok.hd,I.ok.frames,.inl rfl,λb hb=>⟨?_,λx c e z=>?_⟩,
  λb o e=>I.bs b o e,D! I.ok.Pg I.sz,λb o e hb=>?_,λb hb z=>?_,I.stack,I.A7⟩,
  rfl,I.bare,Un.laid old hD hHD,⟨m,hn,λi x v e1 e2 e3=>?_⟩,λx c e=>?_,?_,λx c e=>?_,λp hp=>absurd (show p∈([]:aW) from hp) 31#0,?_,?_⟩
 .
  have hx:(relabel scope X.env).names.lookup x=some .cell\/(relabel scope X.env).names.lookup x=some .free:=hx;have hf0:(x,NameKind.free)∈scope.names:=by
   rcases hx with hx|hx
   .obtain⟨k0,q,r⟩:=nh hx;have hm:=O? q;rcases r with r|⟨r,_⟩
    .exact absurd r.symm (T.Bj _ hm)
    .rw[r]at hm;exact hm
   .obtain⟨k0,q,r⟩:=nh hx;have hm:=O? q;rcases r with r|⟨_,r⟩
    .rw[<-r]at hm;exact hm
    .cases r
  exact kP (.inl hf0)
 .
  obtain⟨o,ho⟩:=hfo b hb;exact q! (x! (Wu b o ho) hC)
 .exact(hf b hb).2.2.2.2.1 x c (cells x c e) z
 .
  obtain⟨_,_,_,f3,_,_⟩:=hf b hb;rcases f3 with z|z
  .exact I.ok.Lz b o e z
  .exact absurd (x! (b! (I.ok.bs b o e).1) z) (w? _)
 .
  obtain⟨_,f1,f2,_⟩:=hf b hb;rcases h!.mp (I.wQ b z) with q|q
  .exact f1 q
  .exact f2 q
 .
  by_cases hi:i<own.length
  .rw[m? (by simpa using hi),X_,ο hi]at e2
   cases e2
  .rw[A? (by simpa using hi),b_]at e2
   replace e1:(own++fq)[i]?=some x:=e1
   rw[A? (by lia)]at e1
   obtain⟨j,hj,hσ⟩:=w5 e2;have hN:X.N[j]?=some x:=by
    have q:=n! (λl=>l[i-own.length]?) T.at_
    simp only[c!,hj,e1,l_]at q;exact 18#q
   have hfx:=T.fr x (gB e1);have hm:=O? hfx;have hk:=T.free (x,.free) hm rfl;obtain⟨m0,hn0,HM⟩:=I.loc;obtain⟨u,r,l⟩:=HM j x v hN hσ (by rcases hk with k|k;exact .inr (.inl k);exact .inr (.inr k))
   refine⟨u,r,.inr ⟨rY hfx,?_⟩⟩;rcases l with⟨kD,_⟩|⟨_,c,hc,hcell⟩
   .have kD:53#x=some .local:=kD;rcases hk with k|k<;>(rw[kD]at k;cases k)
   .obtain⟨c',hc'⟩:=kP (cells:=X.env.cells) (names:=scope.names) (cs:=[]) (x:=x) (.inl hm);have q:=cells x c' hc';rw[hc]at q;cases q;exact⟨c,hc',hcell.keeps old⟩
 .
  obtain⟨v,q⟩:=I.cell x c (cells x c e);exact⟨v,q.keeps old⟩
 .
  show η H D (.lst []) C=none;rw[ao (u! hDC)];exact Tg
 .show η H D (.lst []) c=none;have e:=cells x c e;rw[ao (q! (x! (hcl x c e) hD))];exact I.gC x c e
 .exact I.hok.laid old hD ⟨v! _,[],0,.nil,hl⟩
 .show _=58#(own++fq);have q:=n! List.length T.at_;rw[χ,χ]at q;rw[k!,k!,b_];unfold gz;rw[χ,q]
def qG{pq:aW}{σ σ' : St}{H H' : Hp}{s s' : Shared}{scope:Scope}{N:List Str}{fp:70#0}{C:Addr}{h' : Heap}{xe:eG}
 (I:5#s) (hf:∀b∈fp,qR X pq H b) (hC:s.heap.objs.size<=C) (J:θ (eR X N scope xe C s H fp) [] σ' H' s') (sb:Heap.SameBut C s'.heap h'):θ X pq σ H' { s' with heap:=h'}:=by
 have Tg:H' C=none:=J.free;refine I.LA (ch:=fp) J.os ?_ ?_ J.bare (λb hb=>?_)
 .have u:Un (frs X.stack) fp H H' s.heap s'.heap:=J.base;have ne:∀b o,22#o->b≠C:=λb o e=>q! (x! (b! e) hC)
  refine⟨λb o e n hb hx=>(sb.2 b (ne b o e)).trans (u.keep b o e n hb hx),λb o e n hb hx=>?_,u.free,λb o e hx=>?_,u.tups,u.nc,u.oE⟩
  .obtain⟨sl,q⟩:=u.slot b o e n hb hx;exact⟨sl,(sb.2 b (ne b o e)).trans q⟩
  .obtain⟨o',q⟩:=u.there b o e hx;exact⟨o',(sb.2 b (ne b o e)).trans q⟩
 .intro b ob e;refine(J.hok b ob e).stay (λc w' hc q=>(sb.2 c ?_).trans q) (λ_ q=>q) λ_ _ q=>q
  rintro rfl;rcases hc with rfl|hc
  .rw[Tg]at e;cases e
  .rw[Tg]at hc;cases hc
 .obtain⟨_,f1,_,f3,f4,f5⟩:=hf b hb;exact⟨f3,f1,f4,f5⟩
end
section
variable {prog:Program}{w:World}{A:Around}{R:64#Result}{s:Shared}
abbrev HN(ifs:List Expr)(env:Env):Sem Bool:=forIn ifs true λc r=>if r=true then do let ok←isTrue c env (eval c env);pure (ForInStep.yield ok) else pure (ForInStep.yield r)
def Bk{elt target iter:Expr}{ifs:List Expr}{scope:Scope}{pos:Pos}{it acc:Value}{env:Env}(I:64#Nat)
 (turn:∀n s,I n s->wpAny (model prog w) A (pyNext it) (λr s₁=>match r with
  | none=>R (.ok .next) s₁
  | some v=>wpAny (model prog w) A (letOwnedTupleGo target it v) (λ_ s₀=>wpAny (model prog w) A (assign target env v) (λ_ s₂ =>
   wpAny (model prog w) A (HN ifs env) (λok s₃ =>
    if ok=true then wpAny (model prog w) A (eval elt env) (λx s₄ =>
     wpAny (model prog w) A (call (.builtin "list.append") [acc,x]) (λ_ s₅=>∃m,m<n/\I m s₅) (notedBy (model prog w) A env λe s'=>R (.error e) s') s₄) (notedBy (model prog w) A env λe s'=>R (.error e) s') s₃
    else ∃m,m<n/\I m s₃) (notedBy (model prog w) A env λe s'=>R (.error e) s') s₂) (notedBy (model prog w) A env λe s'=>R (.error e) s') s₀) (notedBy (model prog w) A env λe s'=>R (.error e) s') s₁) (notedBy (model prog w) A env λe s'=>R (.error e) s') s)
 (n:Nat) (h:I n s) :
 codeAny (model prog w) A (.compLoop (.ListComp elt [⟨target,iter,ifs,0⟩] scope pos) 0 it acc env) R s:=by
 refine codeAny_loop rfl I (λn s hI=>?_) n h
 show wpAny _ A ((compTurn (.ListComp elt [⟨target,iter,ifs,0⟩] scope pos) 0 it acc env).onRaise (λx=>do noteFrame x env;theTreesLotGoes x)) _ _ s
 refine wpAny_noted ?_;rw[compTurn_list];refine aR (wpAny_standAt (aR (z! (turn n s hI) (λr s₁ h₁=>?_) λ_ _ h'=>h')))
 cases r with
 | none=>exact Ω h₁
 | some v =>
   refine aR (z! h₁ (λ_ s₀ h₀=>?_) λ_ _ h'=>h')
   refine aR (z! h₀ (λ_ s₂ h₂=>aR (z! h₂ (λok s₃ h₃=>?_) λ_ _ h'=>h')) λ_ _ h'=>h')
   cases ok with
   | false=>exact Ω 47#h₃
   | true =>
     exact aR (aR (z! h₃ (λx s₄ h₄=>aR (z! h₄ (λ_ s₅ h₅=>Ω (Ω 47#h₅)) λ_ _ h'=>h')) λ_ _ h'=>h'))
end
def Wv(X:Cx)(ifs:List Expr)(t:TT):Prop :=
 ∀(pq:aW) (s:Shared) (σ:St) (H:Hp) (Q:Bool->Hp->Prop),5#s->t σ H Q->wpAny 9#0 X.A (HN ifs X.env) (TP X pq σ Q) X.xe s
def Ww:TT:=λ_ H Q=>Q true H
def aV{X:Cx}:Wv X [] Ww:=λ_ _ _ H _ I h=>wpAny_tests_nil ⟨H,I,h⟩
def gR{X:Cx}{c:Expr}{t:TT}(h:PT X c t):Wv X [c] t:=λpq s σ H Q I q=>wpAny_tests_one (h pq s σ H Q I q)
def kQ(J:It)(g:TG)(tt:TT)(te:TE)(n:Nat)(fr:St)(D:Addr)(Q:Hp->Prop)(H1:Hp):Prop :=
 ∃W:Nat->Nat->List V->Hp->Prop,(∃m,W 0 m [] H1)/\∀i m acc H,W i m acc H->H D=1#acc/\
   ((J.stop i H/\Q H)\/(J.go i H/\acc.length<sizeLine/\∃N:List V->Hp->Prop,(∀acc' H',N acc' H'->∃m',m'<m/\W (i+1) m' acc' H')/\
     ∀x H',J.LD i H x H'->g x (List.replicate n none++fr) H' λσ2 H2=>σ2.drop n=fr/\tt σ2 H2 λb H3 =>
     if b=true then te σ2 H3 λv H4=>H4 D=1#acc/\N (acc++[v]) (η H4 D 46#(acc++[v]))
     else N acc H3))
def RD(wi:TI)(g:TG)(tt:TT)(te:TE)(n:Nat)(js:List Nat):TE:=λσ H Q=>wi σ H λJ H1=>∀D,H1 D=none->kQ J g tt te n (gz σ js) D (λH2=>Q (.ref D) H2) (η H1 D (.lst []))
structure RE(A:Around)(cm:Bool)(P:Program)(w:World)(K:b7)(tg:Expr)(J:It)(fp:70#0)(it:Addr)(tn:Nat->Heap->Prop):Prop where
 mem:it∈fp
 obj:∀i h,tn i h->∀b∈fp,∃o,71#h.get?/\∀v,o.data≠.cell v
 keep:∀i h h',tn i h->(∀b∈fp,∀o,71#h.get?->45#o)->tn i h'
 item:∀(X:Cx),X.prog=P->X.w=w->X.K=K->X.A=A->X.calm=cm->∀(i:Nat) (pq:aW) (s:Shared) (σ:St) (H:Hp) (E:eG),5#s->(∀b∈fp,qR X pq H b)->tn i s.heap->J.go i H->
  wpAny (model P w) X.A (pyNext (.ref it)) (λr s1=>∃u,r=some u/\
   wpAny (model P w) X.A (letOwnedTupleGo tg (.ref it) u) (λ_ s2=>∃x H',θ X pq σ H' s2/\Θ x u/\J.LD i H x H'/\tn (i+1) s2.heap/\∀b∈fp,H' b=none) E s1) E s
 done:∀(X:Cx),X.prog=P->X.w=w->X.K=K->X.A=A->X.calm=cm->∀(i:Nat) (pq:aW) (s:Shared) (σ:St) (H:Hp) (E:eG),5#s->(∀b∈fp,qR X pq H b)->tn i s.heap->J.stop i H->
  wpAny (model P w) X.A (pyNext (.ref it)) (λr s1=>r=none/\5#s1) E s
 self:∀(A:Around) (i:Nat) (s:Shared) (Q:eG) (E:eG),tn i s.heap->Q (.ref it) s->wpAny (model P w) A (pyIter (.ref it)) Q E s
def Turn.x{A:Around}{cm:Bool}{P:Program}{w:World}{K:b7}{tg:Expr}{J:It}{fp:70#0}{it:Addr}{tn:Nat->Heap->Prop}(T:Turn P w K tg J fp it tn)(hc:cm=true):RE A cm P w K tg J fp it tn :=
 ⟨T.mem,T.obj,T.keep,λX a b c _ d=>T.item X a b c (d.trans hc),λX a b c _ d=>T.done X a b c (d.trans hc),T.self⟩
section
variable {X:Cx}{elt iter tg:Expr}{ifs:List Expr}{scope:Scope}{pos:Pos}{own fq:List Str}{js:List Nat}{wi:TI}{g:TG}{tt:TT}{te:TE}
def w6{pq:aW}{σ:St}{H2:Hp}{s2:Shared}{it:Addr}{fp:70#0}{tn:Nat->Heap->Prop}{J:It}{E:eG}{RR:Value->Addr->64#Result}{QQ:Addr->Hp->Prop}
 (T:ff X scope own fq js)
 (hg:∀C s H fp,PG (eR X (own++fq) scope (80#0) C s H fp) tg g)
 (ht:∀C s H fp,Wv (eR X (own++fq) scope (80#0) C s H fp) ifs tt)
 (he:∀C s H fp,PE (eR X (own++fq) scope (80#0) C s H fp) elt te)
 (I2:θ X pq σ H2 s2) (Lh:RE X.A X.calm X.prog X.w X.K tg J fp it tn) (st2:tn 0 s2.heap) (f2:∀b∈fp,qR X pq H2 b)
 (hl:∀D,H2 D=none->kQ J g tt te own.length (gz σ js) D (QQ D) (η H2 D (.lst [])))
 (hRR:∀D C σ' H' s',s2.heap.objs.size<=C->θ (eR X (own++fq) scope (80#0) C s2 H2 fp) [] σ' H' s'->QQ D H'->RR (.ref D) C (.ok .next) s') :
 wpAny 9#0 X.A (newList []) (λacc s₃=>wpAny 9#0 X.A (newFunctionEnv scope X.env.globals (89#0) [] X.env.qual none .none (some X.env)) (λcenv s₄ =>
  codeAny 9#0 X.A (.compStart (.ListComp elt [⟨tg,iter,ifs,0⟩] scope pos) 0 (.ref it) acc { cenv with scope:=relabel scope X.env}) (RR acc cenv.locals) s₄) E s₃) E s2:=by
 refine wpAny_newObj_type (wpAny_newFunctionEnv T.Bj (by intro y hy;simp at hy) (λh₁ Th PV=>?_) T.kind)
 dsimp only at Th PV ⊢;generalize PX:s2.heap.push { cls:=.type "list",dict:=none,data:=.seq ([]:23#0).toArray}=G2 at Th PV ⊢;have hC:G2.objs.size=s2.heap.objs.size+1:=by rw[<-PX,Heap.size_push]
 have hDC:s2.heap.objs.size≠G2.objs.size:=by rw[hC];exact q! (C_ _)
 have WA:s2.heap.objs.size<=G2.objs.size:=by rw[hC];exact G? _
 have below:∀b,b<s2.heap.objs.size->b≠G2.objs.size:=λb hb=>by rw[hC];exact q! (k_ hb)
 have old:∀b o,71#s2.heap.get?->71#h₁.get?:=λb o e=>PV.extBut b o (below b (b! e)) (l! _ (PX▸l! _ e))
 have hacc:h₁.get? s2.heap.objs.size=some { cls:=.type "list",data:=.seq ([]:23#0).toArray 0}:=PV.extBut _ _ hDC (l! _ (PX▸E! _ rfl));have Z2:∀b∈fp,∃o,71#s2.heap.get?:=λb hb=>let⟨o,e,_⟩:=Lh.obj _ _ st2 b hb;⟨o,e⟩
 have st1:tn 0 h₁:=Lh.keep _ _ _ st2 λb _ o e=>old b o e
 obtain⟨W,⟨m0,w0⟩,turn⟩:=hl s2.heap.objs.size (I2.hok.fresh (Z' _));have hfx:∀{H' : Hp},(∀b∈fp,H' b=none)->∀b∈fp,qR (eR X (own++fq) scope (80#0) G2.objs.size s2 H2 fp) [] H' b:=λ{H'} hn b hb=>by
  obtain⟨_,f1,f2',_,f4,_⟩:=f2 b hb;obtain⟨o,ho⟩:=Z2 b hb;refine⟨hn b hb,below b (b! ho),λz=>?_,.inl hb,λx c e=>?_,λp hp=>absurd (show p∈([]:aW) from hp) 31#0⟩
  .rcases h!.mp (I2.wQ b z) with q|q
   .exact f1 q
   .exact f2' q
  .rcases lM (show(89#0).lookup x=some c from e) with q|⟨q1,q2⟩
   .cases q
   .obtain⟨c',hc'⟩:=jg I2 T x .free q1 rfl;rw[hc']at q2;have q2:c' = c:=q2;rw[<-q2];exact f4 x c' hc'
 have fp0:∀b∈fp,η H2 s2.heap.objs.size (.lst []) b=none:=λb hb=>by
  obtain⟨o,ho⟩:=Z2 b hb;rw[ao (q! (b! ho))];exact(f2 b hb).1
 have back:∀{σ6:St} {p6:aW} {H6:Hp} {s6:Shared},θ (eR X (own++fq) scope (80#0) G2.objs.size s2 H2 fp) p6 σ6 H6 s6->σ6.drop own.length=gz σ js->
  θ (eR X (own++fq) scope (80#0) G2.objs.size s2 H2 fp) [] (List.replicate own.length none++gz σ js) H6 s6:=λ{σ6 p6 H6 s6} I6 hd=>by
  have hl6:σ6.length=58#(own++fq):=I6.len;have J6:=I6.iJ (YG:=[]) λp hp=>absurd hp 31#0
  refine J6.weak ?_ λi v e=>?_
  .have q:=n! List.length hd;rw[e_]at q;rw[k!]at hl6;rw[k!,b_]
   lia
  .by_cases hi:i<own.length
   .rw[m? (by simpa using hi),X_,ο hi]at e
    cases e
   .rw[A? (by simpa using hi),b_,<-hd,List.getElem?_drop]at e
    rw[show own.length+(i-own.length)=i by lia]at e
    exact e
 have loop:∀s₃:Shared,s₃={ s2 with heap:=h₁,toks:=s2.toks+([]:List (Str×Value)).length}->
  codeAny 9#0 X.A (.compLoop (.ListComp elt [⟨tg,iter,ifs,0⟩] scope pos) 0 (.ref it) (.ref s2.heap.objs.size) (compEnvC scope (89#0) G2.objs.size X.env))
   (RR (.ref s2.heap.objs.size) G2.objs.size) s₃:=by
  rintro s₃ rfl;refine Bk (λn s'=>∃i acc H',θ (eR X (own++fq) scope (80#0) G2.objs.size s2 H2 fp) [] (List.replicate own.length none++gz σ js) H' s'/\tn i s'.heap/\(∀b∈fp,H' b=none)/\W i n acc H') ?_ m0
   ⟨0,[],η H2 s2.heap.objs.size (.lst []),LV I2 T f2 Z2 (Z' _) WA hDC old hacc Th,st1,fp0,w0⟩
  rintro n s3 ⟨i,acc,H3,I3,st3,Ry,w3⟩;obtain⟨qw,WB⟩:=turn i n acc H3 w3;rcases WB with⟨stop,qn⟩|⟨go,hz,NN,hNN,step⟩
  .refine z! (Lh.done (eR X (own++fq) scope (80#0) G2.objs.size s2 H2 fp) rfl rfl rfl rfl rfl i [] s3 _ H3 (80#0) I3 (hfx Ry) st3 stop) (λr s4 ⟨hr,I4⟩=>?_) λ_ _ z=>z.elim
   subst hr;exact hRR _ _ _ H3 s4 WA I4 qn
  .refine z! (Lh.item (eR X (own++fq) scope (80#0) G2.objs.size s2 H2 fp) rfl rfl rfl rfl rfl i [] s3 _ H3 (80#0) I3 (hfx Ry) st3 go) (λr s4 ⟨u,hr,h4⟩=>?_) λ_ _ z=>z.elim
   subst hr;refine z! h4 (λ_ s5 ⟨x,H5,I5,r5,y5,LH,Wg⟩=>?_) λ_ _ z=>z.elim
   have Wh:=I5.pinned (hfx Wg) (Lh.obj _ _ LH);refine z! (hg _ _ _ _ _ s5 _ H5 x u _ Wh r5 (step x H5 y5)) (λ_ s6 ⟨σ6,H6,I6,WC,q6⟩=>?_) λ_ _ z=>z.elim
   refine z! (ht _ _ _ _ _ s6 σ6 H6 _ I6 q6) (λok s7 ⟨H7,I7,q7⟩=>?_) λ_ _ z=>z.elim
   have again:∀{H8:Hp} {s8:Shared},θ (eR X (own++fq) scope (80#0) G2.objs.size s2 H2 fp) ([]++tN fp s5.heap) σ6 H8 s8->tn (i+1) s8.heap/\∀b∈fp,H8 b=none:=λ{H8 s8} I8=>by
    refine⟨Lh.keep _ _ _ LH λb hb o e=>(I8.pin (b,o) (jL _ (jL _ (jf hb e)))).1,λb hb=>?_⟩
    obtain⟨o,e,d⟩:=Lh.obj _ _ LH b hb;exact(I8.pin (b,o) (jL _ (jL _ (jf hb e)))).2.1
   cases ok with
   | false =>
     rw[ξ e!];obtain⟨m',hm,w7⟩:=hNN _ _ q7;obtain⟨t7,n7⟩:=again I7;exact⟨m',hm,i+1,acc,H7,back I7 WC,t7,n7,w7⟩
   | true =>
     rw[ο rfl];refine z! (he _ _ _ _ _ s7 σ6 H7 _ I7 q7) (λxv s8 ⟨v,H8,I8,r8,RG,q8⟩=>?_) λ_ _ z=>z.elim
     obtain⟨m',hm,w8⟩:=hNN _ _ q8;refine z! (cN (X:=eR X (own++fq) scope (80#0) G2.objs.size s2 H2 fp) _ s8 σ6 H8 (.ref s2.heap.objs.size) [v] (.ref s2.heap.objs.size) [xv] (λy H9=>y = .dZ/\H9=η H8 s2.heap.objs.size 46#(acc++[v])) I8 rfl (.cons r8 .nil) ⟨_,acc,v,rfl,rfl,RG,hz,rfl,rfl⟩)
      (λ_ s9 ⟨y,H9,I9,_,_,e9⟩=>?_) λ_ _ z=>z.elim
     subst e9;obtain⟨t9,n9⟩:=again I9;exact⟨m',hm,i+1,acc++[v],_,back I9 WC,t9,n9,w8⟩
 exact codeAny_compStart_list (loop _ rfl) (Lh.self _ 0 _ _ _ st1 (loop _ rfl))
def aY(T:ff X scope own fq js)(hc:X.calm=true)(hi:PI X tg iter wi)
 (hg:∀C s H fp,PG (eR X (own++fq) scope (80#0) C s H fp) tg g)
 (ht:∀C s H fp,Wv (eR X (own++fq) scope (80#0) C s H fp) ifs tt)
 (he:∀C s H fp,PE (eR X (own++fq) scope (80#0) C s H fp) elt te)
 (hs:∀x,foldedSetIterable iter X.env x=pure x:=by intro _;rfl) :
 PE X (.ListComp elt [⟨tg,iter,ifs,0⟩] scope pos) (RD wi g tt te own.length js):=by
 show 72;rw[eval_ListComp];refine wpAny_comprehension_free (use:=none) rfl hs (qS (jg I T)) T.kind T.names ?_;refine z! 39#hi (λv s1 h1=>z! h1 (λitv s2 h2=>?_) λ_ _ z=>z) λ_ _ z=>z
 obtain⟨it,fp,tn,J,H2,e,I2,Lh,st2,f2,hl⟩:=h2;subst e;refine w6 (QQ:=λD H'=>Q (.ref D) H') T hg ht he I2 (Lh.x hc) st2 f2 hl λD C σ' H' s' hC J' q=>?_
 obtain⟨m,hn,_⟩:=J'.loc;exact⟨m,hn,λh' sb=>⟨.ref D,H',qG I2 f2 hC J' sb,rfl,q⟩⟩
def LW(i:Nat)(wi:TI)(g:TG)(tt:TT)(te:TE)(n:Nat)(js:List Nat):TS:=λD σ H=>RD wi g tt te n js σ H λv H1=>D.nx (σ.set i (some v)) H1
def fJ{i:Nat}{x:Str}{pos' spos:Pos}(hN:X.N.Nodup)(hix:X.N[i]?=some x)(hx:53#x=some .local)(T:ff X scope own fq js)(hc:X.calm=true)(hi:PI X tg iter wi)
 (hg:∀C s H fp,PG (eR X (own++fq) scope (80#0) C s H fp) tg g)
 (ht:∀C s H fp,Wv (eR X (own++fq) scope (80#0) C s H fp) ifs tt)
 (he:∀C s H fp,PE (eR X (own++fq) scope (80#0) C s H fp) elt te)
 (hsw:swapsWith (.ListComp elt [⟨tg,iter,ifs,0⟩] scope pos) (some (.Name x pos')) spos.line X.env=pure true:=by rfl)
 (hs:∀x,foldedSetIterable iter X.env x=pure x:=by intro _;rfl) :
 PS X (.Assign [.Name x pos'] (.ListComp elt [⟨tg,iter,ifs,0⟩] scope pos) spos) (LW i wi g tt te own.length js):=by
 intro pq s σ H D I h;rw[exec_Assign_Name_used _ _ _ _ hsw];refine aR (wpAny_standAt (aR ?_));show wpAny _ X.A (do let _←comprehension (.ListComp elt [⟨tg,iter,ifs,0⟩] scope pos) scope X.env _ (newList []) false (eval iter X.env) (some (assign (.Name x pos') X.env))) _ _ s
 refine aR (z! (wpAny_comprehension_free (use:=some (assign (.Name x pos') X.env)) (Q:=λ_ s'=>SP X pq D .next s') rfl hs (qS (jg I T)) T.kind T.names ?_) (λ_ s' hq=>Ω (Ω hq)) λ_ _ e=>e)
 refine z! 39#hi (λv s1 h1=>z! h1 (λitv s2 h2=>?_) λ_ _ z=>z) λ_ _ z=>z
 obtain⟨it,fp,tn,J,H2,e,I2,Lh,st2,f2,hl⟩:=h2;subst e;refine w6 (QQ:=λD' H'=>D.nx (σ.set i (11#D')) H') T hg ht he I2 (Lh.x hc) st2 f2 hl λD' C σ' H' s' hC J' q=>?_
 have I3:θ X pq σ H' s':=by
  obtain⟨hh,gg,dd,tt',oo⟩:=s';exact qG I2 f2 hC J' (Heap.SameBut.refl ..)
 obtain⟨m,hn,_⟩:=J'.loc;obtain⟨oC,es,ep,hoC,hdC,rest⟩:=id hn;have Tg:H' C=none:=J'.free;have hlC:76#C:=U? (x! I2.lt hC);have hfC:C∉X.fs:=λz=>by
  obtain⟨_,o,ho,_⟩:=I2.funs.mem z;exact absurd (x! (b! ho) hC) (w? _)
 have I4:θ X (pq++[(C,oC)]) σ H' s':=I3.iJ λp hp=>(t!.mp hp).elim (λz=>I3.pin p (jL _ z)) λz=>by
  have e:p=(C,oC):=by simpa using z
  subst e;exact⟨hoC,Tg,hlC,hfC,λv z=>by have z' : oC.data = .cell v:=z;rw[hdC]at z';cases z'⟩
 show wpAny _ X.A (assign (.Name x pos') X.env (.ref D')) _ _ _;refine wpAny_assign_Name (rR (v:=.ref D') I4 hN hix (.inl hx) rfl (λs5 I5=>?_) (.inr hx))
 have e5:s5.heap.get? C=some oC:=(I5.pin (C,oC) (jL _ (jL _ 31#0))).1
 refine⟨m,⟨oC,es,ep,e5,hdC,rest⟩,λh' sb=>⟨_,H',?_,q⟩⟩
 have I6:θ X pq (σ.set i (11#D')) H' s5:=I5.kO;refine I6.turned (t':=s5.toks) (λb o hb e=>(sb.2 b hb).trans e) Tg hlC (.inr (D! I2.sz hC)) (λy c e=>?_) (λp hp z=>?_)
 .obtain⟨v,qc⟩:=I2.cell y c e;exact q! (x! qc.lt hC)
 .have RH:=(I2.pin p hp).1;exact absurd (x! (b! RH) (by rw[z];exact hC)) (w? _)
end
section
variable {K:b7}{a:Addr}{xs:List V}{g:TG}{tt:TT}{te:TE}{n:Nat}{fr:St}{D:Addr}{Q:Hp->Prop}{H1:Hp}
def aU(Pv:Nat->List V->Hp->Prop)(h0:Pv 0 [] H1)(hl:∀i acc H,i<=xs.length->Pv i acc H->aM K H a xs/\H D=1#acc/\acc.length<=i)(hz:56#xs.length)
 (hs:∀i x acc H,xs[i]?=some x->Pv i acc H->g x (List.replicate n none++fr) H λσ2 H2=>σ2.drop n=fr/\tt σ2 H2 λb H3 =>
  if b=true then te σ2 H3 λv H4=>H4 D=1#acc/\Pv (i+1) (acc++[v]) (η H4 D 46#(acc++[v])) else Pv (i+1) acc H3)
 (hd:∀acc H,Pv xs.length acc H->Q H):kQ (Po K a) g tt te n fr D Q H1:=by
 refine⟨λi m acc H=>m=xs.length-i/\i<=xs.length/\Pv i acc H,⟨xs.length,by simp,v! _,h0⟩,?_⟩
 rintro i m acc H ⟨rfl,hi,p⟩;obtain⟨q,hD,ha⟩:=hl i acc H hi p;refine⟨hD,?_⟩
 by_cases hlt:i<xs.length
 .refine .inr ⟨⟨xs,xs[i],q,by simp[hlt]⟩,by lia,Pv (i+1),λacc' H' p'=>⟨xs.length-(i+1),by lia,rfl,hlt,p'⟩,λx H' y=>?_⟩
  obtain⟨e,y⟩:=y;subst e;exact hs i x acc _ (y xs q) p
 .have e:i=xs.length:=by lia
  subst e;exact .inl ⟨⟨xs,q,Z' _⟩,hd acc H p⟩
def mV(Pv:Nat->List V->Hp->Prop)(h0:Pv 0 [] H1)(hl:∀i acc H,i<=xs.length->Pv i acc H->aL K H a xs/\H D=1#acc/\acc.length<=i)(hz:56#xs.length)
 (hs:∀i x acc H,xs[i]?=some x->Pv i acc H->g x (List.replicate n none++fr) H λσ2 H2=>σ2.drop n=fr/\tt σ2 H2 λb H3 =>
  if b=true then te σ2 H3 λv H4=>H4 D=1#acc/\Pv (i+1) (acc++[v]) (η H4 D 46#(acc++[v])) else Pv (i+1) acc H3)
 (hd:∀acc H,Pv xs.length acc H->Q H):kQ (Vu K a) g tt te n fr D Q H1:=by
 refine⟨λi m acc H=>m=xs.length-i/\i<=xs.length/\Pv i acc H,⟨xs.length,by simp,v! _,h0⟩,?_⟩
 rintro i m acc H ⟨rfl,hi,p⟩;obtain⟨q,hD,ha⟩:=hl i acc H hi p;refine⟨hD,?_⟩
 by_cases hlt:i<xs.length
 .refine .inr ⟨⟨xs,xs[i],q,by simp[hlt]⟩,by lia,Pv (i+1),λacc' H' p'=>⟨xs.length-(i+1),by lia,rfl,hlt,p'⟩,λx H' y=>?_⟩
  obtain⟨e,y⟩:=y;subst e;exact hs i x acc _ (y xs q) p
 .have e:i=xs.length:=by lia
  subst e;exact .inl ⟨⟨xs,q,Z' _⟩,hd acc H p⟩
def cP{lo:Int}{m:Nat}(Pv:Nat->List V->Hp->Prop)(h0:Pv 0 [] H1)(hl:∀i acc H,i<=m->Pv i acc H->H D=1#acc/\acc.length<=i)(hz:m<=sizeLine)
 (hs:∀i acc H,i<m->Pv i acc H->g (.int (lo+i)) (List.replicate n none++fr) H λσ2 H2=>σ2.drop n=fr/\tt σ2 H2 λb H3 =>
  if b=true then te σ2 H3 λv H4=>H4 D=1#acc/\Pv (i+1) (acc++[v]) (η H4 D 46#(acc++[v])) else Pv (i+1) acc H3)
 (hd:∀acc H,Pv m acc H->Q H):kQ (LG lo m) g tt te n fr D Q H1:=by
 refine⟨λi k acc H=>k=m-i/\i<=m/\Pv i acc H,⟨m,by simp,v! _,h0⟩,?_⟩
 rintro i k acc H ⟨rfl,hi,p⟩;obtain⟨hD,ha⟩:=hl i acc H hi p;refine⟨hD,?_⟩
 by_cases hlt:i<m
 .refine .inr ⟨hlt,by lia,Pv (i+1),λacc' H' p'=>⟨m-(i+1),by lia,rfl,hlt,p'⟩,λx H' y=>?_⟩
  obtain⟨e,y⟩:=y;subst e y;exact hs i acc _ hlt p
 .have e:i=m:=by lia
  subst e;exact .inl ⟨Z' _,hd acc H p⟩
end
def C7(scope RI:Scope)(N fq:List Str)(js:List Nat):Bool :=
 7#(scope.kind = .function)&&scope.names.all (λy=>7#(y.2≠.cell))&&scope.names.all (λy=>7#(y.2 = .local->67#y.1=some .local)) &&
 scope.names.all (λy=>7#(y.2 = .free->RI.names.lookup y.1=some .cell\/RI.names.lookup y.1=some .free))&&7#(js.map (λj=>N[j]?)=fq.map some)&&fq.all (λx=>7#(67#x=some .free))
def az{X:Cx}{scope:Scope}{own fq:List Str}{js:List Nat}(RI:Scope)(N:List Str)(h1:X.env.scope=RI:=by rfl)(h2:X.N=N:=by rfl)(h:C7 scope RI N fq js=true:=by decide +kernel):ff X scope own fq js:=by
 unfold C7 at h;simp only[L!,decide_eq_true_eq,W?]at h;obtain⟨⟨⟨⟨⟨a,b⟩,c⟩,d⟩,e⟩,f⟩:=h;exact⟨a,b,c,by rw[h1];exact d,by rw[h2];exact e,f⟩
mutual
inductive rZ(K:b7)(H:Hp):V->PyData->Prop
 | dZ:rZ K H .dZ .none
 | bl (b:Bool):rZ K H (.bl b) (.bool b)
 | int (i:Int):rZ K H (.int i) (.int i)
 | str (x:Str):rZ K H (.str x) (.str x)
 | lst {a:Addr} {xs:List V} {ds:List PyData} (h:aM K H a xs) (r:DatVs K H xs ds):rZ K H (.ref a) (.list ds)
 | tup {a:Addr} {xs:List V} {ds:List PyData} (h:aL K H a xs) (r:DatVs K H xs ds):rZ K H (.ref a) (.tuple ds)
inductive DatVs(K:b7)(H:Hp):List V->List PyData->Prop
 | nil:DatVs K H [] []
 | cons {x:V} {d:PyData} {xs:List V} {ds:List PyData} (h:rZ K H x d) (r:DatVs K H xs ds):DatVs K H (x::xs) (d::ds)
end
section
variable {X:Cx}{pq:aW}{σ:St}{H:Hp}{s:Shared}
mutual
def rZ.reads(I:5#s):∀{v:V} {d:PyData} {u:Value},rZ X.K H v d->Θ v u->∃as,Reads s.heap u d as
 | _,_,u,.dZ,r=>by cases(show u=Value.none from r);exact⟨_,.none⟩
 | _,_,u,.bl b,r=>by cases(show u=Value.bool b from r);exact⟨_,.bool b⟩
 | _,_,u,.int i,r=>by obtain⟨t,rfl⟩:=(show ∃t,u=Value.int i t from r);exact⟨_,.int i t⟩
 | _,_,u,.str x,r=>by obtain⟨t,rfl⟩:=(show ∃t,u=Value.str x t from r);exact⟨_,.str x t⟩
 | _,_,u,.lst (a:=a) h rs,r=>by
   cases(show u=Value.ref a from r)
   obtain⟨its,rv,⟨o,n,e,c,_,d⟩,_⟩:=I.list h;obtain⟨as,q⟩:=DatVs.reads I rs rv;exact⟨_,.list e c d (by simpa using q)⟩
 | _,_,u,.tup (a:=a) h rs,r=>by
   cases(show u=Value.ref a from r)
   obtain⟨its,rv,⟨o,e,c,n,d⟩,_⟩:=I.tuple h;obtain⟨as,q⟩:=DatVs.reads I rs rv;exact⟨_,.tuple e c d (by simpa using q)⟩
def DatVs.reads(I:5#s):∀{vs:List V} {ds:List PyData} {us:23#0},DatVs X.K H vs ds->υ vs us->∃as,ReadsAll s.heap us ds as
 | _,_,_,.nil,.nil=>⟨_,.nil⟩
 | _,_,_,.cons h r,.cons rv rr=>by
   obtain⟨as,q⟩:=rZ.reads I h rv;obtain⟨bs,q2⟩:=DatVs.reads I r rr;exact⟨_,.cons q q2⟩
end
end
section
variable {X:Cx}
def WD(K:b7):R2:=λx y H Q=>∃d e,rZ K H x d/\rZ K H y e/\SeqAt.shaped d=true/\SeqAt.shaped e=true/\Q (.bl (PyData.eqv d e)) H
def WE(K:b7):R2:=λx y H Q=>∃d e,rZ K H x d/\rZ K H y e/\SeqAt.shaped d=true/\SeqAt.shaped e=true/\Q (.bl (! PyData.eqv d e)) H
def Ti(hu:X.A.units+64<cLine):mh X (compareOp .Eq) (WD X.K):=by
 show 75;obtain⟨d,e,h1,h2,s1,s2,q⟩:=h;obtain⟨as,ra⟩:=h1.reads I rx;obtain⟨bs,rb⟩:=h2.reads I ry;exact eq_dataH ra rb s1 s2 hu ⟨.bl _,H,I,rfl,q⟩
def Tj(hu:X.A.units+64<cLine):mh X (compareOp .NotEq) (WE X.K):=by
 show 75;obtain⟨d,e,h1,h2,s1,s2,q⟩:=h;obtain⟨as,ra⟩:=h1.reads I rx;obtain⟨bs,rb⟩:=h2.reads I ry;exact ne_dataH ra rb s1 s2 hu ⟨.bl _,H,I,rfl,q⟩
def WG:V->81#0
 | .ty n=>some (.type n)
 | .ref a=>some (.ref a)
 | _=>none
def PY{c:V}{u w:Value}(h:WG c=some u)(r:Θ c w):w=u:=by
 cases c with
 | ty n=>exact(show w=Value.type n from r).trans (18#h)
 | ref a=>exact(show w=Value.ref a from r).trans (18#h)
 | _=>cases h
def WH(K:b7):List V->Hp->VK->Prop:=λxs H Q=>∃x c t u b,xs=[x,c]/\WG c=some u/\tQ K H x t/\PySem.W.kitOne K t u=some b/\Q (.bl b) H
def LX:fc X (.builtin "isinstance") (WH X.K):=by
 intro pq s σ H xs us Q I r h;obtain⟨x,c,t,u,b,rfl,rc,ty,e,q⟩:=h;cases r with
 | cons r1 r2 =>
   cases r2 with
   | cons r2 r3 =>
     cases r3;cases PY rc r2;exact Jf I r1 ty e λtk=>⟨.bl b,H,I.tok tk,rfl,q⟩
def Tn(K:b7):PySem.W.kitOne K (.type "bool") (.type "bool")=some true:=83#0
def HP:ZT X "int.bit_length" (λx xs H Q=>∃i,x = .int i/\xs=[]/\Q (.int (35#i)) H):=by
 intro pq s σ H x xs v us Q I rx rs h;obtain⟨i,rfl,rfl,q⟩:=h;obtain⟨t,rfl⟩:=rx;cases rs;exact call_int_bit_length ⟨.int _,H,I.tok _,⟨_,rfl⟩,q⟩
end
def dl{n:Nat}(h:Nat.ble n 1000=true):n<=sizeLine:=B! (cO (Nat.le_of_ble_eq_true h))
def h8{j:Int}(h:decide (0<j)=true):0<j:=jz h
def r6{c A B:Prop}[Decidable c](h : ¬ c)(hb:B):if decide c=true then A else B:=by
 rw[eV h];exact cJ hb
def zp{c A B:Prop}[Decidable c](h:c)(ha:A):if decide c=true then A else B:=by
 rw[cH h];exact cY ha
def ah.new{H:Hp}{p:Addr}{o:HO}(h:H p=none):ah H (η H p o):=λb u e=>by
 rw[ao (aX e h)];exact e
def ah.put{H H2:Hp}{D:Addr}{o:HO}(s:ah H H2)(h:H D=none):ah H (η H2 D o):=λb u e=>by
 rw[ao (aX e h)];exact s b u e
def ah.sqT{K:b7}{H H' : Hp}{a:Addr}{xs:List V}(e:ah H H')(h:aL K H a xs):aL K H' a xs:=by
 rcases h with(h|⟨o,h⟩) | h
 .exact .inl (.inl (e _ _ h))
 .exact .inl (.inr ⟨o,e _ _ h⟩)
 .exact .inr h
def cV(H H' : Hp):Prop:=∀b xs,H b=10#xs->H' b=10#xs
def ah.tups{H H' : Hp}(s:ah H H'):cV H H':=λb xs e=>s b _ e
def cV.trans{H H1 H2:Hp}(a:cV H H1)(b:cV H1 H2):cV H H2:=λc xs e=>b c xs (a c xs e)
def cV.put{H:Hp}{D:Addr}{o:HO}{ys:List V}(h:H D=1#ys):cV H (η H D o):=λb xs e=>by
 rw[ao (bg e h 12#0)]
 exact e
def Paired.j8{α β:Type}{F:α->β->Prop}:∀{l:List α} {r:List β} {i:Nat} {x:α},Paired F l r->l[i]?=some x->∃y,r[i]?=some y/\F x y
 | _,_,_,_,.nil,e=>by simp at e
 | _,_,0,_,.cons h _,e=>by
   simp at e;subst e;exact⟨_,rfl,h⟩
 | _,_,i+1,x,.cons _ t,e=>by
   obtain⟨y,h1,h2⟩:=Paired.j8 (i:=i) (x:=x) t (by simpa using e)
   exact⟨y,by simpa using h1,h2⟩
def LY(ns:List Int)(lo hi:55#0):qv (ns.map V.int) lo hi=((ns.drop (HT.fk ns.length 0 lo)).take (HT.fk ns.length ns.length hi-HT.fk ns.length 0 lo)).map V.int:=by
 unfold qv;rw[χ,<-List.map_drop,<-List.map_take]
section
variable {X:Cx}{l:Expr}{tl:TE}{tg a b o e:Expr}{ta tb to:TE}{es:List Expr}
def LZ(K:b7)(hu:X.A.units+64<cLine)(h:X.K=K:=by rfl):mh X (compareOp .Eq) (WD K):=by subst h;exact Ti hu
def w9(K:b7)(hu:X.A.units+64<cLine)(h:X.K=K:=by rfl):mh X (compareOp .NotEq) (WE K):=by subst h;exact Tj hu
def Z3(K:b7)(h:X.K=K:=by rfl):fc X (.builtin "isinstance") (WH K):=by subst h;exact LX
def WI(K:b7):List V->Hp->VK->Prop:=λxs H Q=>∃p ys,xs=[.ref p]/\(aM K H p ys\/aL K H p ys)/\Q (.int ys.length) H
def Z4(K:b7)(h:X.K=K:=by rfl):fc X (.builtin "len") (WI K):=by subst h;exact Bg
def WJ(K:b7):List V->Hp->VK->Prop:=λxs H Q=>∃p ys,xs=[.ref p]/\(aM K H p ys\/aL K H p ys)/\∀l,H l=none->Q (.ref l) (η H l (.lst ys))
def WK(K:b7)(h:X.K=K:=by rfl):fc X (.type "list") (WJ K):=by subst h;exact Bh
def WL(K:b7):List V->Hp->VK->Prop:=λxs H Q=>∃p ys,xs=[.ref p]/\((aM K H p ys/\∀l,H l=none->Q (.ref l) (η H l (.tup ys)))\/(aL K H p ys/\Q (.ref p) H))
def oM(K:b7)(h:X.K=K:=by rfl):fc X (.type "tuple") (WL K):=by subst h;exact zo
def kE(K:b7)(h:X.K=K:=by rfl):Vx X (S6 K):=by subst h;exact PK
def mj(K:b7)(h:X.K=K:=by rfl):Vx X (S7 K):=by subst h;exact S8
def Z5(K:b7)(h:X.K=K:=by rfl):Vw X (Wr K):=by subst h;exact PL
def slT(K:b7)(h:X.K=K:=by rfl):Vw X (Wm K):=by subst h;exact S5
def Z6(K:b7)(h:X.K=K:=by rfl):mh X (compareOp .In) (YJ K false):=by subst h;exact Jh
def L0(K:b7)(h:X.K=K:=by rfl):mh X (compareOp .NotIn) (YJ K true):=by subst h;exact Bf
def oh(K:b7)(hl:PE X l tl)(h:X.K=K:=by rfl):PI X tg l (Rx K tl):=by subst h;exact Pp hl
def RJ(K:b7)(hl:PE X l tl)(h:X.K=K:=by rfl):PI X tg l (Wd K tl):=by subst h;exact SQ hl
def Ak(K:b7){k:Nat}{t:OY}{n:Nat}{pos:Pos}(hc:X.calm=true)(hp:Vt X es t)(hn:58#(assignEach es X.env)=n:=by rfl)(hst:(assignEach es X.env).findIdx? (·.1)=none:=by rfl)(h:X.K=K:=by rfl):
 PG X (.Tuple es k pos) (V9 K n t):=by subst h;exact SN hc hp hn hst
def WM{x:Str}{T:String}{pos:Pos}(hg:Gl X x)(hm:X.mg x=none)(hv:bootBuiltins x=some (.type T))(hn:x≠"__name__":=by decide)(hd:(x==("__debug__":Str))=false:=by decide):PE X (.Name x pos) (tC (.ty T)) :=
 Pj hg hm hv rfl hn hd
end
def zq(od:Option Addr)(c:Value)(e:Addr)(h:Heap):Prop:=∃oe vs,h.get? e=some oe/\oe.data = .fields vs/\vs[2]?=some c/\oe.dict=od
def L4(o:Obj)(f):(o.mapFields f).dict=o.dict:=by
 obtain⟨c,d,dt,sl⟩:=o;cases dt<;>rfl
section
variable {M:Model}{A:Around}{E:eG}{s:Shared}{B:Heap}{env:Env}{outer l:List Env}{L e:Addr}{cls a0:Value}{Q:64#Unit}{od:Option Addr}{c:Value}
def Bl{h:Heap}{T:Addr}{oT:Obj}{ts:42#0}(f:Obj->Obj)(hT:h.get? T=some oT)(hd:oT.data = .fields ts):h.UpToSlots (h.update T f):=λb o hb hn=>by
 have ne:T≠b:=λz=>by
  rw[<-z,hT]at hb;cases hb;exact hn ts hd
 exact⟨o.slots,(M? h f ne).trans hb⟩
def tR{h:Heap}{T:Addr}(f:Obj->Obj)(k:B.StaysIn h)(n:B.get? T=none):B.StaysIn (h.update T f):=λb o hb=>by
 have ne:T≠b:=λz=>by
  rw[<-z,n]at hb;cases hb
 exact(M? h f ne).trans (k b o hb)
def ni{h h' : Heap}(x:h.FunFrames B l)(u:h.UpToSlots h'):h'.FunFrames B l:=x.of_keeps λb o hb hn =>
 let⟨_,q⟩:=u b o hb hn
 ⟨_,q,rfl⟩
def RK{fl:Value}(hk:B.StaysIn s.heap)(hn:B.get? e=none)(hl:s.heap.FunFrames B l)(ht:s.heap.TracedAtW B e cls a0 fl)(h2:zq od c e s.heap)
 (q:∀h',Heap.FlyingW B l e cls a0 h'->zq od c e h'->s.heap.UpToSlots h'->Q () { s with heap:=h'}):wpAny M A (setFlight (.ref e) none) Q E s:=by
 obtain⟨oe,vs,T,oT,ts,ge,hc,de,f1,nT,Te,gT,dT,f3⟩:=ht;have z3:3<ts.size:=(w_.mp f3).1;rw[setFlight];refine aR (wpAny_field ge de f1 ?_);rw[ο 31#0]
 refine wpAny_setField gT dT z3 ?_;have up:=Bl (Obj.mapFields (·.setIfInBounds 3 ((none:Option Addr).elim Value.none λf=>rawInt f))) gT dT
 have YK:=(M? s.heap (Obj.mapFields (·.setIfInBounds 3 ((none:Option Addr).elim Value.none λf=>rawInt f))) Te).trans ge
 have dT':=N_ dT (·.setIfInBounds 3 ((none:Option Addr).elim Value.none λf=>rawInt f))
 refine q _ ⟨tR _ hk nT,hn,ni hl up,oe,vs,T,_,_,YK,hc,de,f1,nT,Te,c_ _ gT (_b dT'),dT',by simp[z3]⟩ ?_ up
 obtain⟨o2,v2,g2,d2,k2,z2⟩:=h2;rw[ge]at g2;cases g2;exact⟨oe,v2,YK,d2,k2,z2⟩
def L6{oe:Obj}{vs:42#0}{head:Value}{hadNext:Bool}(hfr:A.frames=some (env::outer))(hl:s.heap.FunFrames B (env::outer))(hf:env.frame=some L)(ge:s.heap.get? e=some oe)(hk:B.StaysIn s.heap)(hn:B.get? e=none)
 (de:oe.data = .fields vs) (hz:1<vs.size) (h0:vs[0]?=some a0) (h2:vs[2]?=some c) (hz2:oe.dict=od)
 (q:∀h',Heap.HeldW B (env::outer) e oe.cls a0 L h'->zq od c e h'->s.heap.UpToSlots h'->Q () { s with heap:=h'}) :
 wpAny M A (do let a←frameOf env;let pl←entryPlaceOf L hadNext;let b←EntryCells.newEntry head a .none (rawInt L) .none pl;setField (.ref e) 1 b) Q E s:=by
 have Z7:e∉(env::outer).filterMap (·.frame):=λz=>by
  obtain⟨_,o,ho,nf⟩:=hl.mem z;rw[ge]at ho;cases ho;exact nf vs de
 refine aR (wpAny_frameOf_fun hfr hl hf λh1 so=>aR (wpAny_entryPlaceOf λpl ip=>?_))
 rw[EntryCells.newEntry,newFields];refine aR (wpAny_newObj_type ?_ (ip.sizeOk5 _ _ _ _ _));generalize hnw:({ cls:=.type "traceback",dict:=none,data:=.fields ([head,.ref L,.none,rawInt L,.none]++(if pl.isEmpty then List.replicate 6 Value.none else pl)).toArray}:Obj)=nw
 have dn:nw.data = .fields ([head,.ref L,.none,rawInt L,.none]++(if pl.isEmpty then List.replicate 6 Value.none else pl)).toArray:=by rw[<-hnw]
 have ge1:h1.get? e=some oe:=(so.2.1 e Z7).trans ge;have Z8:=l! (h:=h1) nw ge1;have Te:h1.objs.size≠e:=U? (b! ge1);refine wpAny_setField Z8 de hz ?_;have Z9:=N_ de (·.setIfInBounds 1 (Value.ref h1.objs.size));have ge3:=c_ (Obj.mapFields (·.setIfInBounds 1 (Value.ref h1.objs.size))) Z8 (_b Z9);have gT3:=(M? (h1.push nw) (Obj.mapFields (·.setIfInBounds 1 (Value.ref h1.objs.size))) (u! Te)).trans (E! h1 (by rw[<-hnw];rfl))
 have up:s.heap.UpToSlots ((h1.push nw).update e (Obj.mapFields (·.setIfInBounds 1 (Value.ref h1.objs.size)))):=by
  have u1:s.heap.UpToSlots h1:=λb o hb _=>so.2.2 b o hb
  exact(u1.trans (.of_keeps λb o hb=>l! nw hb)).trans (Bl _ Z8 de)
 have k1:B.StaysIn h1:=λb o hb=>(so.2.1 b λz=>by rw[(hl.mem z).1]at hb;cases hb).trans (hk b o hb)
 have k2:B.StaysIn (h1.push nw):=λb o hb=>l! nw (k1 b o hb)
 refine q _ ⟨tR _ k2 hn,hn,ni hl up,_,_,h1.objs.size,nw,_,ge3,⟨Obj.cls_mapFields _ _,by rw[ad0 (16#0)];exact h0⟩,Z9,by simp[hz],k1.fresh,Te,gT3,dn,?_⟩ ?_ up
 .first | (simp;done) | (rcases ip with rfl | ⟨_,_,_,_,_,_,_,rfl⟩<;>simp)
 .exact⟨_,_,ge3,Z9,by rw[ad0 (16#0)];exact h2,(L4 _ _).trans hz2⟩
def WN(hfr:A.frames=some (env::outer))(hf:env.frame=some L)(fl:Heap.FlyingW B (env::outer) e cls a0 s.heap)(h2:zq od c e s.heap)
 (q:∀h',Heap.HeldW B (env::outer) e cls a0 L h'->zq od c e h'->s.heap.UpToSlots h'->Q () { s with heap:=h'}):wpAny M A (noteFrame (.ref e) env) Q E s:=by
 obtain⟨hk,hn,hl,oe,vs,T,oT,ts,ge,⟨hc,h0⟩,de,f1,nT,Te,gT,dT,f3⟩:=fl;obtain⟨o2,v2,g2,d2,k2,z2⟩:=h2;rw[ge]at g2;cases g2;rw[de]at d2;cases d2;cases hc;rw[noteFrame];simp only[hf];refine aR (wpAny_field ge de f1 ?_);rw[ο 31#0]
 refine aR (wpAny_field gT dT f3 ?_);rw[ξ (by simp[rawInt])]
 refine aR (wpAny_setField gT dT (w_.mp f3).1 ?_);have up:=Bl (Obj.mapFields (·.setIfInBounds 3 Value.none)) gT dT;have YK:=(M? s.heap (Obj.mapFields (·.setIfInBounds 3 Value.none)) Te).trans ge;exact L6 (s:={ s with heap:=s.heap.update T (Obj.mapFields (·.setIfInBounds 3 Value.none))}) hfr (ni hl up) hf YK (tR _ hk nT) hn de (w_.mp f1).1 h0 k2 z2 λh' x1 x2 x3=>q h' x1 x2 (up.trans x3)
def WO(x:Heap.FlyingW B (env::outer) e cls a0 s.heap):Heap.FlyingW B outer e cls a0 s.heap :=
 let⟨k1,k2,⟨_,_,k3⟩,k4⟩:=x
 ⟨k1,k2,k3,k4⟩
def leave_on2(hfr:A.frames=some (env::outer))(hf:env.frame=some L)(fl:Heap.FlyingW B (env::outer) e cls a0 s.heap)(h2:zq od c e s.heap)
 (q:∀h',Heap.FlyingW B outer e cls a0 h'->zq od c e h'->s.heap.UpToSlots h'->Q () { s with heap:=h'}):wpAny M A (leaving env (.ref e)) Q E s:=by
 rw[leaving];refine aR (WN hfr hf fl h2 λh' x1 x2 x3=>?_)
 obtain⟨y1,y2,y3,y4⟩:=x1;exact RK (s:={ s with heap:=h'}) y1 y2 y3 y4 x2 λh'' z1 z2 z3=>q h'' (WO (s:={ s with heap:=h''}) z1) z2 (x3.trans z3)
def leave_new{oe:Obj}{vs:42#0}(hfr:A.frames=some (env::outer))(hf:env.frame=some L)(hk:B.StaysIn s.heap)(hn:B.get? e=none)(hl:s.heap.FunFrames B (env::outer))(ge:s.heap.get? e=some oe)(de:oe.data = .fields vs)
 (h0:vs[0]?=some a0) (h1:vs[1]?=some .none) (h2:vs[2]?=some c) (hz2:oe.dict=od)
 (q:∀h',Heap.FlyingW B outer e oe.cls a0 h'->zq od c e h'->s.heap.UpToSlots h'->Q () { s with heap:=h'}):wpAny M A (leaving env (.ref e)) Q E s:=by
 rw[leaving,noteFrame];simp only[hf];refine aR (aR (wpAny_field ge de h1 ?_));rw[ξ (16#0)]
 refine L6 (a0:=a0) hfr hl hf ge hk hn de (w_.mp h1).1 h0 h2 hz2 λh' x1 x2 x3=>?_
 obtain⟨y1,y2,y3,y4⟩:=x1;exact RK (s:={ s with heap:=h'}) y1 y2 y3 y4 x2 λh'' z1 z2 z3=>q h'' (WO (s:={ s with heap:=h''}) z1) z2 (x3.trans z3)
end
section
variable {P:Program}{w:World}{H H0 H1:Hp}{h h0 h1 h2:Heap}{a:Addr}{o:HO}{fs:70#0}{B:Heap}
def bL.thing(x:bL P w H h a o):∃ob,h.get? a=some ob:=by
 cases o with
 | lst xs=>obtain⟨_,_,_,_,e⟩:=x;exact⟨_,e⟩
 | tup xs=>obtain⟨_,_,_,ob,e,_⟩:=x;exact⟨ob,e⟩
 | dK kvs=>obtain⟨_,_,_,_,ob,_,_,e,_⟩:=x;exact⟨ob,e⟩
 | dT kvs=>obtain⟨_,_,_,_,ob,_,_,e,_⟩:=x;exact⟨ob,e⟩
 | set S n=>obtain⟨ob,_,_,_,e,_⟩:=x;exact⟨ob,e⟩
 | ins C dx fs=>obtain⟨_,_,_,e,_⟩:=x;exact⟨_,e⟩
 | own y=>exact x
 | xd fs=>obtain⟨_,⟨ob,_,_,e,_⟩,_⟩:=x;exact⟨ob,e⟩
 | IW lo hi=>obtain⟨_,_,_,e⟩:=x;exact⟨_,e⟩
 | m9 ob u=>obtain⟨e,_⟩:=x;exact⟨_,e⟩
 | lF ps=>obtain⟨_,e,_⟩:=x;exact⟨_,e⟩
 | met f y=>exact⟨_,(show h.get? a=some _ from x)⟩
 | ext φ=>obtain⟨_,e,_⟩:=x;exact e
def P0(B:Heap)(fs:70#0)(h0:Heap)(H:Hp)(h:Heap):Prop:=∀b o,71#h.get?->(H b≠none\/∃o',h0.get? b=some o')->b∉fs->71#B.get?
def L8(un:Un fs [] H0 H1 h0 h1)(hok:oB P w H1 h1)(nof:∀b∈fs,H1 b=none)(fr:∀b∈fs,∀ob,h1.get? b=some ob->∀vs,ob.data≠.fields vs)(RL:P0 B fs h0 H1 h1)
 (hB:B.StaysIn h2) (up:h1.UpToSlots h2):Un fs [] H0 H1 h0 h2/\oB P w H1 h2/\P0 B fs h0 H1 h2:=by
 have WQ:∀b ob,h1.get? b=some ob->(H1 b≠none\/∃o',h0.get? b=some o')->b∉fs->h2.get? b=some ob:=λb ob e c n=>hB b ob (RL b ob e c n)
 have Vs:∀b u,H1 b=some u->b∉fs:=λb u e z=>by
  rw[nof b z]at e;cases e
 refine⟨⟨λb ob e n hb hx=>WQ b ob (un.keep b ob e n hb hx) (.inr ⟨ob,e⟩) hb,λb ob e n hb hx=>?_,un.free,λb ob e hx=>?_,un.tups,un.nc,un.oE⟩,λb u e=>?_,λb ob e c n=>?_⟩
 .obtain⟨sl,q⟩:=un.slot b ob e n hb hx;obtain⟨YF,q'⟩:=up b _ q (fr b hb _ q);exact⟨YF,q'⟩
 .obtain⟨o',q⟩:=un.there b ob e hx
  by_cases hb:b∈fs
  .obtain⟨YF,q'⟩:=up b _ q (fr b hb _ q);exact⟨_,q'⟩
  .exact⟨o',WQ b o' q (.inr ⟨ob,e⟩) hb⟩
 .refine(hok b u e).stay (λc v hc q=>?_) (λ_ q=>q) λ_ _ q=>q
  have hct:∃z,H1 c=some z:=by
   rcases hc with hc|hc
   .rw[hc];exact⟨u,e⟩
   .exact⟨_,hc⟩
  obtain⟨z,hz⟩:=hct;exact WQ c v q (.inl (by rw[hz];simp)) (Vs c z hz)
 .have ht:∃o1,h1.get? b=some o1:=by
   rcases c with c|⟨o',c⟩
   .cases hz:H1 b with
    | none=>exact absurd hz c
    | some z=>exact(hok b z hz).thing
   .exact un.there b o' c 31#0
  obtain⟨o1,q⟩:=ht;have q2:=RL b o1 q c n;have q3:=hB b o1 q2;rw[e]at q3;rw[18#q3];exact q2
end
def aaa(ea:Addr)(cls:Value):HO:=.ext λh=>∃oe vs,h.get? ea=some oe/\oe.cls=cls/\oe.data = .fields vs/\vs[2]?=some .none
def To(E:XK)(cls:Value)(od:Option Addr)(c:Value)(H:Hp):Prop:=(c = .none/\(∃C0:Addr,cls = .ref C0)/\E cls od H)\/∃C e' C',cls = .ref C/\od=none/\c = .ref e'/\H e' = some (aaa e' C')/\E (.int (C:Int) e') none H
def Ma(P:Program)(w:World):Lg:=λouter H s E e s'=>∃(ea:Addr) (cls a0:Value) (od:Option Addr) (c:Value) (H' : Hp) (B:Heap),e = .ref ea/\s'.os=s.os/\AllBare s'.gens/\Un (frs outer) [] H H' s.heap s'.heap/\oB P w H' s'.heap/\H' ea=none/\
 P0 B (frs outer) s.heap H' s'.heap/\Heap.FlyingW B outer ea cls a0 s'.heap/\zq od c ea s'.heap/\To E cls od c H'
structure Out(X:Cx)(E:XK):Prop where
 Pf:X.stack=X.env::X.outer
 fr:X.env.frame=some X.env.locals
 ex:X.ex=[]
 xe:∀e s',wpAny 9#0 X.A (leaving X.env e) (λ_ s''=>Ma X.prog X.w X.outer X.H₀ X.s₀ E e s'') (λe' s''=>Ma X.prog X.w X.outer X.H₀ X.s₀ E e' s'') s'->X.xe e s'
def Thr(X:Cx)(E:XK):Prop:=∀(pq:aW) (σ:St) (H:Hp) (s:Shared) (h1:Heap) (ea C0:Addr) (vs:23#0),5#s->Heap.MadeExcOf s.heap h1 ea (.ref C0) vs->E (.ref C0) none H->X.xe (.ref ea) { s with heap:=h1}
section
variable {X:Cx}{E:XK}{pq:aW}{σ:St}{H:Hp}{s:Shared}
def θ.Tp(I:5#s):∀b∈X.fs,∀ob,22#ob->∀vs,ob.data≠.fields vs:=λb hb ob e=>by
 obtain⟨_,o,ho,hnf⟩:=I.funs.mem hb;rw[e]at ho;cases ho;exact hnf
def θ.Tq(I:5#s)(hx:X.ex=[]):∀b∈X.fs,H b=none:=λb hb=>by
 obtain⟨_,o,ho,_⟩:=I.ok.funs.mem hb;exact I.base.free b o ho (I.ok.SA b hb) (by rw[hx];simp)
def P0.outer{B h0:Heap}{h:Heap}(I:5#s)(RL:P0 B (frs X.stack) h0 H h)(k:∀b o,71#X.s₀.heap.get?->∃o',h0.get? b=some o'):P0 B X.fs X.s₀.heap H h:=λb o e c n=>by
 refine RL b o e (c.imp id λ⟨o',q⟩=>k b o' q) λz=>?_
 rcases h!.mp (I.wQ b z) with q|q
 .subst q;rcases c with c|⟨o',c⟩
  .exact c I.free
  .exact absurd (x! (b! c) I.ok.above) (w? _)
 .exact n q
def HQ(O:Out X E)(I:5#s){B:Heap}{ea:Addr}{cls a0:Value}{od:Option Addr}{c:Value}{h2:Heap}(RL:P0 B X.fs X.s₀.heap H s.heap)(fl:Heap.FlyingW B X.outer ea cls a0 h2)(sc:zq od c ea h2)(up:s.heap.UpToSlots h2)(hn:H ea=none)(q:To E cls od c H):
 Ma X.prog X.w X.outer X.H₀ X.s₀ E (.ref ea) { s with heap:=h2}:=by
 have un:Un X.fs [] X.H₀ H X.s₀.heap s.heap:=by
  have u:=I.base;rw[O.ex]at u;exact u
 obtain⟨u2,Vz,c2⟩:=L8 un I.hok (I.Tq O.ex) I.Tp RL fl.1 up;exact⟨ea,cls,a0,od,c,H,B,rfl,I.os,I.bare,u2,Vz,hn,c2,fl,sc,q⟩
def Out.aab(O:Out X E){ea:Addr}{oe:Obj}{vs:42#0}{a0 c:Value}(I:5#s)(ge:s.heap.get? ea=some oe)(de:oe.data = .fields vs)(h0:vs[0]?=some a0)(h1:vs[1]?=some .none)(h2:vs[2]?=some c)
 (hn:H ea=none) (new:X.s₀.heap.get? ea=none) (q:To E oe.cls oe.dict c H):X.xe (.ref ea) s:=by
 refine O.xe _ _ ?_;have hfr:X.A.frames=some (X.env::X.outer):=by rw[I.ok.frames,O.Pf]
 have hl:s.heap.FunFrames (PySem.W.hideAll s.heap (ea::frs X.stack)) (X.env::X.outer):=by
  have z:=PySem.W.funFrames_hide (as:=ea::frs X.stack) I.stack λenv he b hb=>lG _ (p_.mpr ⟨env,he,hb⟩)
  rw[O.Pf]at z ⊢;exact z
 refine leave_new hfr O.fr (λb o e=>PySem.W.of_hideAll _ e) (PySem.W.hideAll_none _ (o! ..)) hl ge de h0 h1 h2 rfl λh3 fl sc up=>?_
 refine HQ O I (P0.outer I (h0:=X.s₀.heap) (λb o e c n=>?_) λb o e=>⟨o,e⟩) fl sc up hn q
 refine PySem.W.hideAll_get _ e λz=>?_
 rcases h!.mp z with z|z
 .subst z;rcases c with c|⟨o',c⟩
  .exact c hn
  .rw[new]at c;cases c
 .exact n z
def Out.aac(O:Out X E){ea:Addr}{oe:Obj}{vs:42#0}{a0:Value}(I:5#s)(ge:s.heap.get? ea=some oe)(de:oe.data = .fields vs)(h0:vs[0]?=some a0)(h1:vs[1]?=some .none)(h2:vs[2]?=some .none)
 (hn:H ea=none) (new:X.s₀.heap.get? ea=none) (hcl:∃C0:Addr,oe.cls = .ref C0) (q:E oe.cls oe.dict H):X.xe (.ref ea) s:=O.aab I ge de h0 h1 h2 hn new (.inl ⟨rfl,hcl,q⟩)
def Out.thr(O:Out X E):Thr X E:=by
 intro pq σ H s h1 ea C0 vs I mk q;have I1:5#{ s with heap:=h1}:=I.kept (t':=s.toks) mk.keeps
 have hn:H ea=none:=by
  cases hz:H ea with
  | none=>rfl
  | some z =>
    obtain⟨ob,e⟩:=(I.hok ea z hz).thing;rw[mk.new]at e;cases e
 obtain⟨t,ge,_,_⟩:=mk.there;refine O.aac I1 (a0:=.ref t) ge rfl rfl rfl rfl hn ?_ ⟨_,rfl⟩ q;cases hz:X.s₀.heap.get? ea with
 | none=>rfl
 | some o =>
   obtain⟨o',e⟩:=I.base.there ea o hz (by rw[O.ex];simp)
   rw[mk.new]at e;cases e
def θ.WR{H' : Hp}{s' : Shared}(I:5#s)(os:s'.os=s.os)(bare:AllBare s'.gens)(un:Un (frs X.stack) [] H H' s.heap s'.heap)(hok:oB X.prog X.w H' s'.heap):θ X pq σ H' s' :=
 I.LA (ch:=[]) os un hok bare λb z=>absurd z 31#0
def Out.passes(O:Out X E):Passes (Ma X.prog X.w) X E:=by
 intro pq σ H s e s' I q;obtain⟨ea,cls,a0,od,c,H',B,rfl,os,bare,un,hok,hn,RL,fl,sc,qE⟩:=q;have I1:=I.WR os bare un hok;refine O.xe _ _ ?_;have hfr:X.A.frames=some (X.env::X.outer):=by rw[I.ok.frames,O.Pf]
 rw[O.Pf]at fl;refine leave_on2 hfr O.fr fl sc λh2 fl2 VA up=>?_
 exact HQ O I1 (P0.outer I1 RL λb o e=>I.base.there b o e (by rw[O.ex];simp)) fl2 VA up hn qE
end
def jP{P:Program}{w:World}{K:b7}{mg:oA}{base:Heap}{N:List Str}{qual:Str}{scope:Scope}{f:Addr}{cd:Value}{A:Around}{outer:List Env}{s:Shared}{H:Hp}{E:XK}:
 Out (vJ (Ma P w) P w K mg base N qual scope f cd A outer s H E) E:=⟨rfl,rfl,rfl,λ_ _ h=>h⟩
def PU.Jl{P:Program}{w:World}{K:b7}{mg:oA}{base:Heap}{x qual:Str}{st:Stmt}{f:Addr}{fd:FuncData}{N ps:List Str}{k:Nat}{sp:Sp}(F:PU K x qual st f fd)(S:aC N ps (ai st))
 (len:∀vs H Q E,sp vs H Q E->vs.length=ps.length)
 (hbody:∀(cdv:Value) (A:Around) (outer:List Env) (s:Shared) (H:Hp) (vs:List V) (Q:VK) (E:XK),gy k (A.deeper (envOfC qual (ai st) s.heap.objs.size f cdv))->sp vs H Q E->
  ∃t,z8 (vJ (Ma P w) P w K mg base N qual (ai st) f cdv A outer s H E) (dh st) t/\t { nx:=λ_ H'=>Q .dZ H',rt:=Q} (start N vs) H):oH P w K mg base (Ma P w) (k+1) f fd ps sp:=by
 obtain⟨oc,od,kV,doc,pm,an,cdv,ct,osl,rfl,lk,hcd⟩:=F.ex;exact LK lk hcd S len λA outer s H vs Q E hr vK=>hbody cdv A outer s H vs Q E hr vK
section
variable {X:Cx}{E:XK}
def Tr(C:Addr)(E:XK)(t:TA):TS:=λ_ σ H=>t σ H λvs H1=>56#vs.length/\E (.ref C) none H1
def C8{x:Str}{C:Addr}{bm:23#0}{B newId initId:String}{e:Expr}{es:List Expr}{ta:TA}{np cpos pos:Pos}(th:Thr X E)(hc:X.calm=true)(hg:Gl X x)(O:∀h,X.K.In h->h.Ns mainGlobals X.mg->OwnCls x C bm newId X.mg h)
 (FB:ExcBaseFacts B newId initId bm) (ha:PA X (e::es) ta) (he:21#(e::es)=43#e::21#es:=by rfl) (hpl:(backTo cpos (21#es)).any (·.1)=false:=by rfl)
 (hd:(x==("__debug__":Str))=false:=by decide):PS X (.Raise (some (.Call (.Name x np) (e::es) [] cpos)) none pos) (Tr C E ta):=by
 intro pq s σ H D I h;have OC:=O _ I.mod.YC I.mod.glob;obtain⟨tl,N,nm,q,bs,hdct,sn,sub,ab,col,dd,k0,k1,k2,k3,k5,mN,hC,hN,hni,T⟩:=OC.obj;refine wpAny_Raise_call_subT (C:=C) (nm:=nm) (q:=q) (N:=N) (bs:=bs) (bm:=tl) (hdct:=hdct) (sn:=sn) (sub:=sub) (ab:=ab) (col:=col) (dd:=dd) (k0:=k0) (k1:=k1) (k2:=k2) (k3:=k3) (k5:=k5)
  FB (mN:=mN) (T.hasType FB.hasBase) (I.ok.hd hc) (by rw[he];show(false || (backTo cpos (21#es)).any (·.1))=false;rw[hpl];rfl) hni (Hl I hg OC.bound ⟨rfl,?_⟩ hd)
 have hA:=ha cpos pq s σ H _ I h;rw[he]at hA ⊢;refine Calls.evalArgs_plain (z! hA (λus s1 ⟨vs,H1,I1,r1,z,q1⟩=>?_) λ_ _ y=>y)
 exact⟨rfl,by rw[<-r1.length];exact z,I1.bk _ _ hC,hN.keeps I1.bk,T.keeps I1.bk,λh' ea hm=>th pq σ H1 s1 h' ea _ us I1 hm q1⟩
end
open PySem PySem.Spec PySem.Calls PyProof.Rows PySem.W PySem.Builtin PySem.Builtin.ObjectAttr PySem.Builtin.Getset_descriptor
section
variable {X:Cx}
def Mb:mh X (compareOp .IsNot) (λx y H Q=>∃a b,x = .bl a/\y = .bl b/\Q (.bl (!(a==b))) H):=by
 show 75;obtain⟨a,b,rfl,rfl,q⟩:=h;cases rx;cases ry;refine wpAny_isNot_plain rfl ⟨.bl _,H,I,?_,q⟩;cases a<;>cases b<;>rfl
def WS(K:b7):V->V->Hp->VK->Prop:=λo i H Q=>∃p xs j v,o = .ref p/\i = 40#(j:Nat)/\aM K H p xs/\xs[j]?=some v/\Q v H
def getL(K:b7)(hK:X.K=K:=by rfl):Wc X (WS K):=by
 subst hK;intro pq s σ H o i ov iv Q I ro ri h;obtain⟨p,xs,j,v,rfl,rfl,hq,e,q⟩:=h;cases ro;obtain⟨t,rfl⟩:=ri;obtain⟨its,r,pl,hz⟩:=I.list hq;obtain⟨u,eu,ru⟩:=r.get e;have hj:j<xs.length:=(j7.mp e).1;have hn:=tO;exact wpAny_getItem_list pl.isList (by lia) (by lia) (by simpa using eu) ⟨v,H,I,ru,q⟩
end
section
variable {X:Cx}{tg:Expr}
def r9{iter:Expr}{body:List Stmt}{wi:TI}{g:TG}{tb:TS}{pos:Pos}(hc:X.calm=true)(hi:PI X tg iter wi)(hg:PG X.E7 tg g)(hb:z8 X.E7 body tb)(hs:∀x,foldedSetIterable iter X.env x=pure x:=by intro _;rfl):
 PS X (.For tg iter body [] pos) (gD wi g tb):=by
 intro pq s σ H D I h;refine wpAny_For (dR 39#hi λv s1 h1=>dR h1 λitv s2 h2=>?_) hs
 obtain⟨it,fp,tn,J,H2,e,I2,T,st2,f2,W,⟨m0,w0⟩,turn⟩:=h2;subst e;have Fq:∀{H' : Hp},(∀b∈fp,H' b=none)->∀b∈fp,qR X.E7 pq H' b:=λhn b hb=>⟨hn b hb,(f2 b hb).2⟩
 refine codeAny_forLoop_any (λn s'=>∃i σ' H',θ X.E7 pq σ' H' s'/\tn i s'.heap/\(∀b∈fp,H' b=none)/\W i n σ' H') ?_ m0 ⟨0,σ,H2,I2.wR _,st2,λb hb=>(f2 b hb).1,w0⟩
 rintro n s3 ⟨i,σ3,H3,I3,st3,Ry,w3⟩;rcases turn i n σ3 H3 w3 with⟨stop,qn⟩|⟨go,N,hN,step⟩
 .refine z! (T.done X.E7 rfl rfl rfl hc i pq s3 σ3 H3 (80#0) I3 (Fq Ry) st3 stop) (λr s4 ⟨hr,I4⟩=>?_) λ_ _ z=>z.elim
  subst hr;exact wpAny_execs_nil ⟨σ3,H3,I4.kN,qn⟩
 .refine z! (T.item X.E7 rfl rfl rfl hc i pq s3 σ3 H3 (80#0) I3 (Fq Ry) st3 go) (λr s4 ⟨u,hr,h4⟩=>?_) λ_ _ z=>z.elim
  subst hr;refine z! h4 (λ_ s5 ⟨x,H5,I5,r5,y5,LH,Wg⟩=>?_) λ_ _ z=>z.elim
  have Wh:=I5.pinned (Fq Wg) (T.obj _ _ LH);refine z! (hg _ s5 σ3 H5 x u _ Wh r5 (step x H5 y5)) (λ_ s6 ⟨σ6,H6,I6,q6⟩=>?_) λ_ _ z=>z.elim
  refine z! (hb _ s6 σ6 H6 _ I6 q6) (λf s7 q7=>?_) λ_ _ z=>z.elim
  have again:∀{σ7:St} {H7:Hp},θ X.E7 (pq++tN fp s5.heap) σ7 H7 s7->N σ7 H7->∃m,m<n/\∃i σ' H',θ X.E7 pq σ' H' s7/\tn i s7.heap/\(∀b∈fp,H' b=none)/\W i m σ' H':=λ{σ7 H7} I7 n7=>by
   obtain⟨m',hm,w7⟩:=hN σ7 H7 n7;refine⟨m',hm,i+1,σ7,H7,I7.kO,T.keep _ _ _ LH λb hb o e=>(I7.pin (b,o) (jL _ (jL _ (jf hb e)))).1,λb hb=>?_,w7⟩
   obtain⟨o,e,d⟩:=T.obj _ _ LH b hb;exact(I7.pin (b,o) (jL _ (jL _ (jf hb e)))).2.1
  cases f with
  | next=>obtain⟨σ7,H7,I7,n7⟩:=q7;exact again I7 n7
  | cont=>obtain⟨σ7,H7,I7,n7⟩:=q7;exact again I7 n7
  | brk=>obtain⟨σ7,H7,I7,q7⟩:=q7;exact⟨σ7,H7,I7.kO.kN,q7⟩
  | ret v=>obtain⟨x7,σ7,H7,I7,r7,q7⟩:=q7;exact⟨x7,σ7,H7,I7.kO.kN,r7,q7⟩
def oN{P:Program}{w:World}{X:Cx}:Passes (Ma P w) X (λ_ _ _=>False):=by
 intro pq σ H s e s' I q;obtain⟨_,_,_,_,_,_,_,_,_,_,_,_,_,_,_,_,z⟩:=q;rcases z with⟨_,_,z⟩|⟨_,_,_,_,_,_,_,z⟩
 .exact z.elim
 .exact z.elim
end
def FE{K:b7}{h:Heap}{mg:oA}{x:Str}{C:Addr}{bmB:23#0}{newId:String}(X:K.In h)(G:77#h.Ns)(e:PySem.W.nsIn K mainGlobals x=some (some (.ref C)))(q:PySem.W.excIn K C bmB newId=true):
 OwnCls x C bmB newId mg h:=by
 refine⟨PySem.W.mg_of X G e,?_⟩;unfold PySem.W.excIn at q
 split at q
 .rename_i od cd sl look
  split at q
  .rename_i Cx bm j0 j1 j2 j3 nw j5 hmro hsl
   simp only[L!,beq_iff_eq,P_]at q;obtain⟨⟨⟨⟨⟨rfl,rfl⟩,WT⟩,ht⟩,hok⟩,hni⟩:=q;obtain⟨nm,bs,mro,ns,qn,hd,sn,sub,ab,col,del⟩:=cd
   (dsimp only at hmro WT hok hni;subst hmro WT)
   have hs2:sl = #[j0,j1,j2,j3,some (.builtin nw),j5]:=by
    obtain⟨l⟩:=sl;simp only at hsl;rw[hsl]
   subst hs2;exact⟨bm,ns,nm,qn,bs,hd,sn,sub,ab,col,od,j0,j1,j2,j3,j5,_,X _ _ look,.of_isNs (PySem.W.isNs_of_in X hok),PySem.W.nsMap_none_of_in X hok hni,PySem.W.tail_of_in X ht⟩
  .cases q
 .cases q
def aad{α:Type}:∀us:List α,us.length=1->∃a,us=[a]
 | [_],_=>⟨_,rfl⟩
def aae{α:Type}:∀us:List α,us.length=2->∃a b,us=[a,b]
 | [_,_],_=>⟨_,_,rfl⟩
def aaf{α:Type}:∀us:List α,us.length=3->∃a b c,us=[a,b,c]
 | [_,_,_],_=>⟨_,_,_,rfl⟩
def aag{α:Type}:∀us:List α,us.length=4->∃a b c d,us=[a,b,c,d]
 | [_,_,_,_],_=>⟨_,_,_,_,rfl⟩
section
variable {X:Cx}{pq:aW}{σ:St}{H:Hp}{s:Shared}{h' : Heap}
def θ.yields{t' : Nat}{wr:70#0}{T:Addr}{o:HO}(I:5#s)(k:∀b u,b∉wr->22#u->45#u)(hf:∀b∈wr,qR X pq H b)(hT:s.heap.objs.size<=T)
 (new:bL X.prog X.w (η H T o) h' T o):θ X pq σ (η H T o) { s with heap:=h',toks:=t'}:=by
 have hTn:H T=none:=I.hok.fresh hT;have nT:∀b u,H b=some u->b≠T:=λb u e=>aX e hTn
 have nw:∀b u,H b=some u->b∉wr:=λb u e hb=>by rw[(hf b hb).1]at e;cases e
 refine I.step (g':=s.gens) (d':=s.drawn) (ch:=wr) (λb hb=>?_) (λb o _ _ hc e _=>k b o hc e) (λb o _ _ hc e _=>⟨o.slots,k b o hc e⟩) (λb u hc e n=>?_)
  (λb o hc e=>⟨o,k b o hc e⟩) (λb xs e=>?_) (λb ob xs e=>?_) (λb ps e=>⟨#[],?_⟩) (λm hm=>?_) (λb u e=>?_) I.bare
 .obtain⟨_,f1,_,f3,f4,f5⟩:=hf b hb;exact⟨f3,f1,f4,f5⟩
 .rw[ao (q! (x! (b! e) hT))];exact n
 .rw[ao (nT b _ e)];exact e
 .rw[ao (nT b _ e)];exact e
 .rw[ao (nT b _ e),e];simp
 .obtain⟨o,es,ep,ho,r⟩:=hm;exact⟨o,es,ep,k _ o (λhb=>(hf _ hb).2.1 rfl) ho,r⟩
 .by_cases hb:b=T
  .subst hb;rw[aa]at e;cases e;exact new
  .rw[ao hb]at e;refine(I.hok b u e).stay (λc v hc q=>k c v ?_ q) (λc q=>66#(nT c _ q)) λc xs q=>66#(nT c _ q)
   rcases hc with z|z
   .rw[z];exact nw b u e
   .exact nw c _ z
def θ.P1{t' : Nat}{wr:70#0}(I:5#s)(k:∀b u,b∉wr->22#u->45#u)(hf:∀b∈wr,qR X pq H b):5#{ s with heap:=h',toks:=t'}:=by
 have nw:∀b u,H b=some u->b∉wr:=λb u e hb=>by rw[(hf b hb).1]at e;cases e
 refine I.step (g':=s.gens) (d':=s.drawn) (ch:=wr) (λb hb=>?_) (λb o _ _ hc e _=>k b o hc e) (λb o _ _ hc e _=>⟨o.slots,k b o hc e⟩) (λ_ _ _ _ n=>n)
  (λb o hc e=>⟨o,k b o hc e⟩) (λ_ _ e=>e) (λ_ _ _ e=>e) (λb ps e=>⟨#[],by rw[e];simp⟩) (λm hm=>?_) (λb u e=>?_) I.bare
 .obtain⟨_,f1,_,f3,f4,f5⟩:=hf b hb;exact⟨f3,f1,f4,f5⟩
 .obtain⟨o,es,ep,ho,r⟩:=hm;exact⟨o,es,ep,k _ o (λhb=>(hf _ hb).2.1 rfl) ho,r⟩
 .refine(I.hok b u e).stay (λc v hc q=>k c v ?_ q) (λ_ q=>q) λ_ _ q=>q
  rcases hc with z|z
  .rw[z];exact nw b u e
  .exact nw c _ z
end
def VB(K:b7)(a:Addr):It :=
 ⟨λi H=>∃xs x,aM K H a xs/\xs[i]?=some x,λi H v H'=>∃T x,v = .ref T/\H T=none/\H' = η H T (.tup [.int (i:Int),x])/\∀xs,aM K H a xs->xs[i]?=some x,λi H=>∃xs,aM K H a xs/\xs.length<=i⟩
def Jm{P:Program}{w:World}{K:b7}{elts:List Expr}{k:Nat}{pos:Pos}(a e it:Addr)(hne:e≠it):
 Turn P w K (.Tuple elts k pos) (VB K a) [e,it] e (λi h=>(∃old,IsEnum h e it (i:Int) old)/\h.IsListIter it a i) where
 mem:=by simp
 obj:=λi h st b hb=>by
  obtain⟨⟨old,he⟩,o,ho,c,d⟩:=st;have hb' : b=e\/b=it:=by simpa using hb
  rcases hb' with rfl|rfl
  .exact⟨_,he,λv z=>by cases z⟩
  .exact⟨o,ho,λv z=>by rw[d]at z;cases z⟩
 keep:=λi h h' st k=>by
  obtain⟨⟨old,he⟩,hit⟩:=st;exact⟨⟨old,k e 31#0 _ he⟩,hit.at λo x=>k it 31#0 o x⟩
 item:=by
  intro X hP hw hK hc i pq s σ H E I hf st hg;subst hP hw hK;obtain⟨xs,x,hq,hx⟩:=hg;obtain⟨its,rv,p,hz⟩:=I.list hq;obtain⟨u,hu,ru⟩:=rv.get hx;obtain⟨⟨old,he⟩,hit⟩:=st;refine wpAny_pyNext_enum_item he hit p.isList (x:=u) (by simpa using hu) hne λh1 ho Tt hT hsz hk=>?_
  refine⟨_,rfl,wpAny_letOwnedTupleGo_enum ho λh2 P4 hs2=>?_⟩
  have WU:s.heap.objs.size≠e:=U? (b! he);have hT2:19#h2.get?=some { cls:=.type "tuple",data:=.seq #[.int i s.toks,u]}:=(hs2.2 _ WU).trans hT;refine⟨19#.ref,η H s.heap.objs.size (.tup [.int (i:Int),x]),I.yields (wr:=[e,it]) (t':=s.toks+1) (λb o hb q=>?_) hf (Z' _) ?_,rfl,⟨_,x,rfl,I.fresh,rfl,λys hy=>by rw[I.rS hy hq];exact hx⟩,⟨⟨u,by simpa using P4⟩,?_⟩,λb hb=>?_⟩
  .have Mc:b≠e:=λz=>hb (by simp[z])
   have Tu:b≠it:=λz=>hb (by simp[z])
   exact(hs2.2 b Mc).trans (hk b o Mc Tu q)
  .exact⟨dl rfl,[.int i s.toks,u],.cons ⟨_,rfl⟩ (.cons ru .nil),⟨_,hT2,rfl,_,rfl⟩⟩
  .exact Tt.at λo q=>(hs2.2 it (u! hne)).trans q
  .rw[ao]
   .exact(hf b hb).1
   .have hb' : b=e\/b=it:=by simpa using hb
    rcases hb' with rfl|rfl
    .exact u! WU
    .obtain⟨o,q,_⟩:=hit;exact q! (b! q)
 done:=by
  intro X hP hw hK hc i pq s σ H E I hf st hg;subst hP hw hK;obtain⟨xs,hq,hx⟩:=hg;obtain⟨its,rv,p,hz⟩:=I.list hq;obtain⟨⟨old,he⟩,hit⟩:=st;obtain⟨f0,f1,f2,f3,f4,f5⟩:=hf it 31#0
  have hl:=rv.length;exact wpAny_pyNext_enum_end (I.ok.hd hc) he hit p.isList (by simp;lia) λh' eb=>47#(I.turned (t':=s.toks) (λb o hb e=>eb b o hb e) f0 f1 f3 f4 f5)
 self:=λ_ _ _ _ _ st h=>by
  obtain⟨⟨old,he⟩,_⟩:=st;exact wpAny_pyIter_enum he h
def Itz(K:b7)(a b:Addr):It :=
 ⟨λi H=>∃xs ys x y,aM K H a xs/\aM K H b ys/\xs[i]?=some x/\ys[i]?=some y,
  λi H v H'=>∃T x y,v = .ref T/\H T=none/\H' = η H T (.tup [x,y])/\(∀xs,aM K H a xs->xs[i]?=some x)/\∀ys,aM K H b ys->ys[i]?=some y,
  λi H=>∃xs ys,aM K H a xs/\aM K H b ys/\(xs.length<=i\/ys.length<=i)⟩
def Me{P:Program}{w:World}{K:b7}{elts:List Expr}{k:Nat}{pos:Pos}(a b z TI TO i1 i2:Addr)(D:ZipApart z TI TO i1 i2 a b):
 Turn P w K (.Tuple elts k pos) (Itz K a b) [z,TI,TO,i1,i2] z (λi h=>IsZip h z TI TO .none/\IsPair h TI (.ref i1) (.ref i2)/\(∃u v,IsPair h TO u v)/\h.IsListIter i1 a i/\h.IsListIter i2 b i) where
 mem:=by simp
 obj:=λi h st c hc=>by
  obtain⟨hz,hI,⟨u,v,hO⟩,⟨o1,OZ,_,d1⟩,o2,ho2,_,d2⟩:=st;have hc' : c=z\/c=TI\/c=TO\/c=i1\/c=i2:=by simpa using hc
  rcases hc' with rfl|rfl|rfl|rfl|rfl
  .exact⟨_,hz,λv z=>by cases z⟩
  .exact⟨_,hI,λv z=>by cases z⟩
  .exact⟨_,hO,λv z=>by cases z⟩
  .exact⟨o1,OZ,λv z=>by rw[d1]at z;cases z⟩
  .exact⟨o2,ho2,λv z=>by rw[d2]at z;cases z⟩
 keep:=λi h h' st k=>by
  obtain⟨hz,hI,⟨u,v,hO⟩,h1,h2⟩:=st;exact⟨k z 31#0 _ hz,k TI 31#0 _ hI,⟨u,v,k TO 31#0 _ hO⟩,h1.at λo e=>k i1 31#0 o e,h2.at λo e=>k i2 31#0 o e⟩
 item:=by
  intro X hP hw hK hc i pq s σ H E I hf st hg;subst hP hw hK;obtain⟨xs,ys,x,y,hq,hq2,hx,hy⟩:=hg;obtain⟨its,rv,p,YL⟩:=I.list hq;obtain⟨its2,YM,p2,aai⟩:=I.list hq2;obtain⟨u,hu,ru⟩:=rv.get hx;obtain⟨u2,hu2,ru2⟩:=YM.get hy;obtain⟨hz,hI,⟨v1,v2,hO⟩,h1,h2⟩:=st;refine wpAny_pyNext_zip_item D hz hI hO h1 h2 p.isList p2.isList (x:=u) (y:=u2) (by simpa using hu) (by simpa using hu2) λh3 hz3 hO3 h13 h23 hT hsz hk=>?_
  refine⟨_,rfl,wpAny_letOwnedTupleGo_zip hz3 λh4 hz4 Mf=>?_⟩
  have lt:∀{c o},s.heap.get? c=some o->s.heap.objs.size≠c:=λe=>U? (b! e)
  have Li:19#h4.get?=some { cls:=.type "tuple",data:=.seq #[u,u2]}:=(Mf.2 _ (lt hz)).trans hT;have kk:∀c o,c∉[z,TO,i1,i2]->s.heap.get? c=some o->h4.get? c=some o:=λc o hc q=>by
   have c1:c≠z:=λe=>hc (by simp[e])
   exact(Mf.2 c c1).trans (hk c o c1 (λe=>hc (by simp[e])) (λe=>hc (by simp[e])) (λe=>hc (by simp[e])) q)
  have hsub:∀c∈[z,TO,i1,i2],c∈[z,TI,TO,i1,i2]:=λc hc=>by
   have hc' : c=z\/c=TO\/c=i1\/c=i2:=by simpa using hc
   rcases hc' with rfl|rfl|rfl|rfl<;>simp
  refine⟨19#.ref,η H s.heap.objs.size (.tup [x,y]),I.yields (wr:=[z,TO,i1,i2]) (t':=s.toks) kk (λc hc=>hf c (hsub c hc)) (Z' _) ?_,rfl,
   ⟨_,x,y,rfl,I.fresh,rfl,λzs hy=>by rw[I.rS hy hq];exact hx,λzs hz=>by rw[I.rS hz hq2];exact hy⟩,⟨hz4,(Mf.2 _ D.TIz).trans (hk _ _ D.TIz D.TITO D.TIi1 D.TIi2 hI),⟨u,u2,(Mf.2 _ D.TOz).trans hO3⟩,?_,?_⟩,λc hc=>?_⟩
  .exact⟨dl rfl,[u,u2],.cons ru (.cons ru2 .nil),⟨_,Li,rfl,_,rfl⟩⟩
  .exact h13.at λo q=>(Mf.2 _ D.i1z).trans q
  .exact h23.at λo q=>(Mf.2 _ D.i2z).trans q
  .rw[ao]
   .exact(hf c hc).1
   .have hc' : c=z\/c=TI\/c=TO\/c=i1\/c=i2:=by simpa using hc
    rcases hc' with rfl|rfl|rfl|rfl|rfl
    .exact u! (lt hz)
    .exact u! (lt hI)
    .exact u! (lt hO)
    .obtain⟨o,q,_⟩:=h1;exact u! (lt q)
    .obtain⟨o,q,_⟩:=h2;exact u! (lt q)
 done:=by
  intro X hP hw hK hc i pq s σ H E I hf st hg;subst hP hw hK;obtain⟨xs,ys,hq,hq2,hx⟩:=hg;obtain⟨its,rv,p,YL⟩:=I.list hq;obtain⟨its2,YM,p2,aai⟩:=I.list hq2;obtain⟨hz,hI,⟨v1,v2,hO⟩,h1,h2⟩:=st;have hl:=rv.length;have hl2:=YM.length;have hsub:∀c∈[z,TO,i1,i2],c∈[z,TI,TO,i1,i2]:=λc hc=>by
   have hc' : c=z\/c=TO\/c=i1\/c=i2:=by simpa using hc
   rcases hc' with rfl|rfl|rfl|rfl<;>simp
  refine wpAny_pyNext_zip_end (I.ok.hd hc) D hz hI hO h1 h2 p.isList p2.isList (hx.imp (λq=>by simp;lia) λq=>by simp;lia) λh' kk=>47#(I.P1 (wr:=[z,TO,i1,i2]) (t':=s.toks) (λc o hc q=>?_) λc hc=>hf c (hsub c hc))
  exact kk c o (λe=>hc (by simp[e])) (λe=>hc (by simp[e])) (λe=>hc (by simp[e])) (λe=>hc (by simp[e])) q
 self:=λ_ _ _ _ _ st h=>wpAny_pyIter_zip st.1 h
def Jo{n a b:Nat}(la:a<n)(lb:b<n):ZipApart (n+4) (n+2) (n+3) n (n+1) a b:=by
 have k:∀{x y:Nat},x<y\/y<x->x≠y:=λh=>by lia
 constructor<;>exact k (by lia)
section
variable {X:Cx}{elts:List Expr}{n:Nat}{tp:Pos}
def WV(K:b7)(ta:TA):TI:=λσ H R=>ta σ H λvs H1=>∃a,vs=[.ref a]/\(∃xs,aM K H1 a xs)/\R (VB K a) H1
def aaj(K:b7)(ta:TA):TI:=λσ H R=>ta σ H λvs H1=>∃a b,vs=[.ref a,.ref b]/\(∃xs,aM K H1 a xs)/\(∃ys,aM K H1 b ys)/\R (Itz K a b) H1
def wk(K:b7){a:Expr}{ta:TA}{p pos:Pos}(hg:Gl X "enumerate")(hm:X.mg "enumerate"=none)(ha:PA X [a] ta)(hs:21#([a])=[43#a]:=by rfl)(hK:X.K=K:=by rfl):
 PI X (.Tuple elts n tp) (.Call (.Name "enumerate" p) [a] [] pos) (WV K ta):=by
 subst hK;intro pq s σ H R I h;refine Call_ (jN I hg hm boot_enumerate (h_ (dR (ha pos pq s σ H _ I h) λus s1 ⟨vs,H1,I1,r1,q1⟩=>?_) hs rfl))
 obtain⟨a,e,⟨xs,hq⟩,q⟩:=q1;subst e;cases r1 with
 | cons r rr =>
   cases rr;cases r;obtain⟨its,rv,pl,hz⟩:=I1.list hq;refine call_enumerate_list pl.isList λh' he hit hsz hk=>?_
   have I2:θ X pq σ H1 { s1 with heap:=h'}:=I1.kept (t':=s1.toks) hk
   refine wpAny_pyIter_enum he ⟨_,[s1.heap.objs.size+1,s1.heap.objs.size],_,_,H1,rfl,I2,Jm a _ _ (_v _),⟨⟨_,he⟩,hit⟩,λb hb=>?_,q⟩
   have hb' : b=s1.heap.objs.size+1\/b=s1.heap.objs.size:=by simpa using hb
   have WW:s1.heap.objs.size<=b:=by
    rcases hb' with rfl|rfl
    .exact G? _
    .exact Z' _
   exact I1.Fl WW (I1.hok.fresh WW)
def Mg(K:b7){a b:Expr}{ta:TA}{p pos:Pos}(hg:Gl X "zip")(hm:X.mg "zip"=none)(ha:PA X [a,b] ta)(hs:21#([a,b])=[43#a,43#b]:=by rfl)(hs2:21#([b])=[43#b]:=by rfl)(hK:X.K=K:=by rfl):
 PI X (.Tuple elts n tp) (.Call (.Name "zip" p) [a,b] [] pos) (aaj K ta):=by
 subst hK;intro pq s σ H R I h;refine Call_ (jN I hg hm boot_zip (h_ (dR (ha pos pq s σ H _ I h) λus s1 ⟨vs,H1,I1,r1,q1⟩=>?_) (by rw[hs,hs2]) (by rw[hs2];rfl)))
 obtain⟨a,b,e,⟨xs,hq⟩,⟨ys,hq2⟩,q⟩:=q1;subst e;cases r1 with
 | cons r rr =>
   cases rr with
   | cons r' rr =>
     cases rr;cases r;cases r';obtain⟨its,rv,pl,hz⟩:=I1.list hq;obtain⟨its2,YM,pl2,hz2⟩:=I1.list hq2;refine call_zip_2 pl.isList pl2.isList λh' hzz hI hO h1 h2 hsz hk=>?_
     have I2:θ X pq σ H1 { s1 with heap:=h'}:=I1.kept (t':=s1.toks) hk
     have la:a<s1.heap.objs.size:=by obtain⟨_,q,_⟩:=pl.isList;exact b! q
     have lb:b<s1.heap.objs.size:=by obtain⟨_,q,_⟩:=pl2.isList;exact b! q
     refine wpAny_pyIter_zip hzz ⟨_,[s1.heap.objs.size+4,s1.heap.objs.size+2,s1.heap.objs.size+3,s1.heap.objs.size,s1.heap.objs.size+1],_,_,H1,rfl,I2,
      Me a b _ _ _ _ _ (Jo la lb),⟨hzz,hI,⟨_,_,hO⟩,h1,h2⟩,λc hc=>?_,q⟩
     have hc' : c=s1.heap.objs.size+4\/c=s1.heap.objs.size+2\/c=s1.heap.objs.size+3\/c=s1.heap.objs.size\/c=s1.heap.objs.size+1:=by simpa using hc
     have hcs:s1.heap.objs.size<=c:=by
      rcases hc' with rfl|rfl|rfl|rfl|rfl
      .exact q_ _ _
      .exact q_ _ _
      .exact q_ _ _
      .exact Z' _
      .exact q_ _ _
     exact I1.Fl hcs (I1.hok.fresh hcs)
end
section
variable {K:b7}{a b:Addr}{xs ys:List V}{g:TG}{tt:TT}{te:TE}{n:Nat}{fr:St}{D:Addr}{Q:Hp->Prop}{H1:Hp}
def Dd{tb:TS}{D:Ends}{σ:St}{H:Hp}(Pv:Nat->St->Hp->Prop)(h0:Pv 0 σ H)(hl:∀i σ H,i<=xs.length->Pv i σ H->aM K H a xs)
 (hs:∀i x T σ H,xs[i]?=some x->Pv i σ H->H T=none->g (.ref T) σ (η H T (.tup [.int (i:Int),x])) λσ2 H2=>tb { D with nx:=Pv (i+1),ct:=Pv (i+1),bk:=D.nx} σ2 H2) (hd:∀σ H,Pv xs.length σ H->D.nx σ H) :
 ∃W:Nat->Nat->St->Hp->Prop,(∃m,W 0 m σ H)/\∀i m σ H,W i m σ H->
   ((VB K a).stop i H/\D.nx σ H)\/((VB K a).go i H/\∃N:St->Hp->Prop,(∀σ' H',N σ' H'->∃m',m'<m/\W (i+1) m' σ' H')/\∀x H',(VB K a).LD i H x H'->g x σ H' λσ2 H2=>tb { D with nx:=N,ct:=N,bk:=D.nx} σ2 H2):=by
 refine⟨λi m σ H=>m=xs.length-i/\i<=xs.length/\Pv i σ H,⟨xs.length,by simp,v! _,h0⟩,?_⟩
 rintro i m σ H ⟨rfl,hi,p⟩;have q:=hl i σ H hi p
 by_cases hlt:i<xs.length
 .refine .inr ⟨⟨xs,xs[i],q,by simp[hlt]⟩,Pv (i+1),λσ' H' p'=>⟨xs.length-(i+1),by lia,rfl,hlt,p'⟩,λv H' y=>?_⟩
  obtain⟨T,x,rfl,hT,rfl,y⟩:=y;exact hs i x T σ _ (y xs q) p hT
 .have e:i=xs.length:=by lia
  subst e;exact .inl ⟨⟨xs,q,Z' _⟩,hd σ H p⟩
def De(hxy:xs.length=ys.length)(Pv:Nat->List V->Hp->Prop)(h0:Pv 0 [] H1)(hl:∀i acc H,i<=xs.length->Pv i acc H->aM K H a xs/\aM K H b ys/\H D=1#acc/\acc.length<=i)(hz:56#xs.length)
 (hs:∀i x y T acc H,xs[i]?=some x->ys[i]?=some y->Pv i acc H->H T=none->g (.ref T) (List.replicate n none++fr) (η H T (.tup [x,y])) λσ2 H2=>σ2.drop n=fr/\tt σ2 H2 λb H3 =>
  if b=true then te σ2 H3 λv H4=>H4 D=1#acc/\Pv (i+1) (acc++[v]) (η H4 D 46#(acc++[v])) else Pv (i+1) acc H3)
 (hd:∀acc H,Pv xs.length acc H->Q H):kQ (Itz K a b) g tt te n fr D Q H1:=by
 refine⟨λi m acc H=>m=xs.length-i/\i<=xs.length/\Pv i acc H,⟨xs.length,by simp,v! _,h0⟩,?_⟩
 rintro i m acc H ⟨rfl,hi,p⟩;obtain⟨q,q2,hD,ha⟩:=hl i acc H hi p;refine⟨hD,?_⟩
 by_cases hlt:i<xs.length
 .have aak:i<ys.length:=by lia
  refine .inr ⟨⟨xs,ys,xs[i],ys[i],q,q2,by simp[hlt],by simp[aak]⟩,by lia,Pv (i+1),λacc' H' p'=>⟨xs.length-(i+1),by lia,rfl,hlt,p'⟩,λv H' y=>?_⟩
  obtain⟨T,x,z,rfl,hT,rfl,y1,y2⟩:=y;exact hs i x z T acc _ (y1 xs q) (y2 ys q2) p hT
 .have e:i=xs.length:=by lia
  subst e;exact .inl ⟨⟨xs,ys,q,q2,.inl (Z' _)⟩,hd acc H p⟩
end
section
variable {X:Cx}
def Df:fc X (.type "range") (λxs H Q=>∃j:Int,xs=[.int j]/\∀p,H p=none->Q (.ref p) (η H p (.IW 0 j))):=by
 intro pq s σ H xs us Q I r h;obtain⟨j,rfl,q⟩:=h;obtain⟨u,rfl,t,rfl⟩:=vals1 r;refine call_range_1 ⟨19#.ref,_,I.laid (t':=s.toks+1+1) (λb o e=>l! _ e) (Z' _) ?_,rfl,q _ I.fresh⟩
 exact⟨_,_,_,E! _ rfl⟩
def zu(n:Nat):List V:=(13#n).map λi=>V.int ((i:Nat):Int)
def RN(hc:X.calm=true):fc X (.type "list") (λxs H Q=>∃p,∃n:Nat,xs=[.ref p]/\H p=some (.IW 0 (n:Int))/\n<=900/\∀l,H l=none->Q (.ref l) (η H l (.lst (zu n)))):=by
 intro pq s σ H xs us Q I r h;obtain⟨p,n,rfl,hp,hn,q⟩:=h;obtain⟨u,rfl,rx⟩:=vals1 r;cases rx;obtain⟨t,u,v,e⟩:=(show bL X.prog X.w H s.heap p (.IW 0 (n:Int)) from I.hok p _ hp)
 have hsz:Builtin.Range.rangeSize 0 (n:Int) 1=(n:Int):=by rw[rangeSize_one];split<;>lia
 refine call_list_range (I.ok.hd hc) e (small_one (by lia) (by lia) (by lia) (by lia)) hsz (D! hn (16#0)) λh' tk acc c kp e' hacc=>?_
 refine⟨19#.ref,_,I.laid (t':=tk) kp (Z' _) ?_,rfl,q _ I.fresh⟩;have hl:acc.toList.length=n:=by rw[N?];exact hacc.1
 have hz:56#(zu n).length:=by
  unfold zu;rw[χ,y!];exact B! (cO (by lia))
 refine⟨hz,acc.toList,c,?_,by simpa using e'⟩
 have key:∀(ys:23#0) (k:Nat),(∀j v,ys[j]?=some v->∃t,v=Value.int (((k+j:Nat)):Int) t)->υ ((List.range' k ys.length).map λi=>V.int ((i:Nat):Int)) ys:=by
  intro ys
  induction ys with
  | nil=>intro k _;exact .nil
  | cons y r ih =>
    intro k hy;obtain⟨t,ht⟩:=hy 0 y rfl;refine .cons ⟨t,by simpa using ht⟩ (ih (k+1) λj v hv=>?_)
    obtain⟨t',ht'⟩:=hy (j+1) v (by simpa using hv)
    exact⟨t',by rw[ht'];congr 2;lia⟩
 have z:=key acc.toList 0 λj v hv=>by
  obtain⟨t,ht⟩:=hacc.2 j v (by simpa using hv)
  exact⟨t,by rw[ht];congr 1;lia⟩
 rw[hl]at z;unfold zu;rw[List.range_eq_range'];exact z
def sumK(K:b7)(hc:X.calm=true)(hK:X.K=K:=by rfl):fc X (.builtin "sum") (λxs H Q=>∃(p:Addr) (ns:List Int),xs=[.ref p]/\aM K H p (ns.map V.int)/\Q (.int ns.sum) H):=by
 subst hK;intro pq s σ H xs us Q I r h;obtain⟨p,ns,rfl,hq,q⟩:=h;obtain⟨u,rfl,rx⟩:=vals1 r;cases rx;obtain⟨its,rv,pl,hz⟩:=I.list hq;have hi:∀{ns:List Int} {its:23#0},υ (ns.map V.int) its->∃xs:Array (Int×Tok),its.toArray=intItems xs/\xs.toList.map (·.1)=ns:=by
  intro ns
  induction ns with
  | nil=>intro its r;cases r;exact⟨#[],by simp[intItems],rfl⟩
  | cons a l ih =>
    intro its r;cases r with
    | cons r1 r2 =>
      obtain⟨t,rfl⟩:=r1;obtain⟨xs,h1,h2⟩:=ih r2;refine⟨#[(a,t)]++xs,?_,by simp[h2]⟩
      have Mc:=n! Array.toList h1;simp only[intItems,Array.toList_map,List.toList_toArray]at Mc;simp[intItems,Mc,Array.map_append]
 obtain⟨ar,e1,e2⟩:=hi rv;have hl:s.heap.IsList p (intItems ar):=e1▸pl.isList;refine sum_intListG (I.ok.hd hc) hl λh' tk t' hk=>?_
 have e3:preSum (numAt ar) ar.size=ns.sum:=by rw[preSum_eq,Y_ 31#0,e2]
 rw[e3];exact⟨.int ns.sum,H,I.kept hk,⟨t',rfl⟩,q⟩
def aal(K:b7)(hc:X.calm=true)(hK:X.K=K:=by rfl):fc X (.type "set") (λxs H Q=>∃(p:Addr) (ns:List Int),xs=[.ref p]/\aM K H p (ns.map V.int)/\ns.length<=900/\
 ∀(l:Addr) (S:Int->Bool),H l=none->Q (.ref l) (η H l (.set S 58#(firstMet (λi=>ns.getD i 0) ns.length)))):=by
 subst hK;intro pq s σ H xs us Q I r h;obtain⟨p,ns,rfl,hq,hn,q⟩:=h;obtain⟨u,rfl,rx⟩:=vals1 r;cases rx;obtain⟨its,rv,pl,hz⟩:=I.list hq;have hl:=rv.length;rw[χ]at hl;have hsz:its.toArray.size=ns.length:=by rw[r!];lia
 refine PySem.call_set_list (I.ok.hd hc) pl.isList (ns:=ns) (by simpa using intsAre_of rv) (by rw[hsz];show ns.length+1<4096;lia) λh' tk hS hk=>?_
 rw[hsz]at hS;exact⟨19#.ref,_,I.laid (t':=tk) (o:=.set (λk'=>(firstMet (λi=>ns.getD i 0) ns.length).any λx=>x==k') 58#(firstMet (λi=>ns.getD i 0) ns.length)) (λb o e=>hk b o (b! e) e) (Z' _) hS,rfl,q _ _ I.fresh⟩
def Tv:fc X (.builtin "len") (λxs H Q=>∃(p:Addr) (S:Int->Bool) (n:Nat),xs=[.ref p]/\H p=some (.set S n)/\Q (.int (n:Int)) H):=by
 intro pq s σ H xs us Q I r h;obtain⟨p,S,n,rfl,hp,q⟩:=h;obtain⟨u,rfl,rx⟩:=vals1 r;cases rx;obtain⟨o,es,ep,t,ho,hex,hd,_,_,hb,hf,rfl⟩:=(show bL X.prog X.w H s.heap p (.set S n) from I.hok p _ hp)
 refine call_len_set ho hex hd hf (by have:es.size<4096:=hb;lia) ⟨.int _,H,I.tok _,⟨_,rfl⟩,q⟩
end
end L2
namespace HT
open PySem PyProof.Rows
section
variable {prog:Program}{w:World}{A:Around}{E:eG}{s:Shared}
def qx{t sl:Addr}{items:42#0}{vl vu:Value}{lo hi:55#0}{Q:eG}(ht:IsTup s.heap t items)(hs:s.heap.IsSliceOf sl vl vu .none)(pl:IsPart vl lo)(pu:IsPart vu hi)
 (hw:82#0=0/\87#0=items.size) (h:Q (.ref t) s):32#(getItem (.ref t) (.ref sl)):=by
 obtain⟨os,hos,hcs,hds⟩:=id hs;have ZS:s.TypeIs (.ref sl) "slice":=⟨os,hos,hcs⟩;unfold getItem
 try with_reducible refine J! ?_
 first | refine 52#(Ω ?_) | skip
 refine 52#(wpAny_sequenceKey ht.typeIs (16#0) ?_)
 refine wpAny_bind (wpAny_callSpecial?_slot (name:=Str.ofString "__getitem__") ht.typeIs v_
  (wpAny_call_entry v_ ht.typeIs entry_tuple_getitem ?_ (args_tuple_getitem _ _)))
 show wpAny _ _ (Builtin.Tuple.tupleItemsOf (.ref t) >>= _) _ _ s;refine 52#(tupleItemsOf_ ht ?_);refine 52#(wpAny_typeOf ZS ?_);rw[ο (16#0)]
 refine 52#(mU hs pl pu ?_);have hyes:(6#(82#0)==0&&(1:Int)==1&&(87#0-82#0)==items.size)=true:=by
  rw[hw.1,hw.2];simp
 show wpAny _ _ (if(6#(82#0)==0&&(1:Int)==1&&(87#0-82#0)==items.size)=true then _ else _) _ _ s
 rw[ο hyes];refine wpAny_bind ?_;unfold Builtin.Tuple.tupleIsExact;refine 52#(wpAny_typeOf ht.typeIs (Ω ?_));rw[ο (16#0)]
 exact 52#(wpAny_rule (Ω ⟨_,rfl,Ω h⟩))
end
end HT
namespace L2
open PySem PySem.Spec PyProof.Rows
section
variable {X:Cx}
def WX:V->55#0->55#0->Hp->VK->Prop:=λx lo hi H Q=>∃a xs,x = .ref a/\H a=10#xs/\∀p H',ah H H'->H' p=10#(qv xs lo hi)->Q (.ref p) H'
def P5:Vw X WX:=by
 intro pq s σ H x v vl vu lo hi sl Q I rx hs pl pu h;obtain⟨a,xs,rfl,hx,q⟩:=h;cases rx;obtain⟨its,r,ht,hz⟩:=I.tuple (aL.of hx);have hlen:its.toArray.size=xs.length:=by rw[r!];exact r.length.symm
 refine⟨"tuple",_,v_.lookup,ht.typeIs,?_⟩
 by_cases hw:HT.fk xs.length 0 lo=0/\HT.fk xs.length xs.length hi=xs.length
 .refine HT.qx ht hs pl pu (by rw[hlen];exact hw) ⟨.ref a,H,I,rfl,q a H (ah.refl _) ?_⟩
  unfold qv;rw[hw.1,hw.2,List.drop_zero,Nat.sub_zero,H!];exact hx
 .refine HT.lH ht hs pl pu (by rw[hlen];exact hw) ?_ (by rw[hlen];exact hz)
  rw[hlen];refine⟨19#.ref,_,I.laid (t':=s.toks) (o:=.tup (qv xs lo hi)) (λb ob q=>l! _ q) (Z' _) ?_,rfl,q _ _ (ah.new (I.hok.fresh (Z' _))) aa⟩
  exact⟨D! (iz xs lo hi) hz,_,(r.drop (HT.fk xs.length 0 lo)).take (HT.fk xs.length xs.length hi-HT.fk xs.length 0 lo),IsTup.new _ _⟩
end
end L2
namespace Ring
open PySem
abbrev eW:=Int×Int×Int
def bit(S:Int)(k:Nat):Bool:=7#(S/2^k%2=1)
def cz(S:Int):List Nat:=(13#(35#S)).filter (bit S)
def bump(e:List Int)(i:Int):List Int:=e.set i.toNat (e.getD i.toNat 0+1)
def step(ts:List eW)(e:List Int)(k:Nat):List Int:=match ts[k]? with
 | some t=>bump (bump e t.1) t.2.1
 | none=>e
def mq(p:Nat)(ts:List eW)(S:Int):List Int:=(cz S).foldl (step ts) (List.replicate p 0)
def xg(p:Nat)(ts:List eW)(S:Int):List Nat:=(13#p).filter λi=>7#((mq p ts S).getD i 0%2=1)
def O0(ts:List eW)(k i:Nat):Int:=match ts[k]? with
 | some t=>(if t.1=(i:Int) then 1 else 0)+(if t.2.1=(i:Int) then 1 else 0)
 | none=>0
def mW(e:List Int)(i:Int):58#(bump e i)=e.length:=by unfold bump;rw[List.length_set]
def Mh(ts:List eW)(e:List Int)(k:Nat):58#(step ts e k)=e.length:=by
 unfold step
 split
 .rw[mW,mW]
 .rfl
def Dg(e:List Int)(j:Int)(i:Nat)(h0:0<=j)(h1:j<e.length):(bump e j).getD i 0=e.getD i 0+if j=(i:Int) then 1 else 0:=by
 unfold bump;rw[w!,w!,w!]
 by_cases h:j=(i:Int)
 .have hi:j.toNat=i:=by lia
  rw[ο h,hi,_Y (by lia)]
  rfl
 .have hi:j.toNat≠i:=by lia
  rw[ξ h,ad1 hi]
  lia
structure HR(p:Nat)(ts:List eW):Prop where
 ends:∀t∈ts,0<=t.1/\t.1<(p:Int)/\0<=t.2.1/\t.2.1<(p:Int)
def step_get{p:Nat}{ts:List eW}(W:HR p ts)(e:List Int)(k i:Nat)(he:e.length=p):(step ts e k).getD i 0=e.getD i 0+O0 ts k i:=by
 unfold step O0;cases h:ts[k]? with
 | none=>simp
 | some t =>
   obtain⟨a0,a1,b0,b1⟩:=W.ends t (gB h);dsimp only;rw[Dg _ _ _ b0 (by rw[mW,he];exact b1),Dg _ _ _ a0 (by rw[he];exact a1)]
   lia
def tS(ts:List eW)(ks:List Nat)(i:Nat):Int:=(ks.map λk=>O0 ts k i).sum
theorem Dh{p:Nat}{ts:List eW}(W:HR p ts)(i:Nat):∀(ks:List Nat) (e:List Int),e.length=p->(ks.foldl (step ts) e).getD i 0=e.getD i 0+tS ts ks i
 | [],e,_=>by simp[tS]
 | k::r,e,he=>by
   rw[t_,Dh W i r _ (by rw[Mh,he]),step_get W e k i he]
   unfold tS;rw[F!,List.sum_cons]
   lia
def Mi{p:Nat}{ts:List eW}(W:HR p ts)(S:Int)(i:Nat):(mq p ts S).getD i 0=tS ts (cz S) i:=by
 unfold mq;rw[Dh W i _ _ 31#0]
 have e:(54#(0:Int)).getD i 0=0:=by
  rw[w!,X_]
  split<;>rfl
 rw[e]
 lia
def gU(m k:Nat):bit (m:Int) k=2#0:=by
 unfold bit;rw[adP];have e:((m:Int)/2^k%2=1)↔(m/2^k%2=1):=by
  have h2:((2:Int)^k)=6#(2^k):=by simp
  rw[h2,<-Int.natCast_ediv]
  lia
 simp only[e]
def xh(m:Nat):35#(m:Int)=if m=0 then 0 else m.log2+1:=by
 unfold Builtin.Int.intBits
 by_cases h:m=0
 .simp[h]
 .simp[h]
def bits_le{m n:Nat}(h:m<2^n):35#(m:Int)<=n:=by
 rw[xh]
 split
 .exact v! _
 .rename_i h0
  exact(Nat.log2_lt h0).mpr h
def Mj{m k:Nat}(h:35#(m:Int)<=k):bit (m:Int) k=false:=by
 rw[gU];rw[xh]at h
 by_cases h0:m=0
 .simp[h0]
 .rw[ξ h0]at h;exact q? (x! aeh (B? (16#0) h))
theorem sd(f:59#0)(a:Nat):∀d,(∀k,a<=k->f k=false)->(13#(a+d)).filter f=(13#a).filter f
 | 0,_=>rfl
 | d+1,h=>by
   rw[<-Nat.add_assoc,C?,d_,sd f a d h];have e:[a+d].filter f=[]:=by rw[M!,ξ (by rw[h _ (by lia)];simp)];rfl
   rw[e,f_]
def kR{m n:Nat}(h:m<2^n):cz (m:Int)=(13#n).filter λk=>2#0:=by
 unfold cz;have hb:=bits_le h;obtain⟨d,hd⟩:=_U hb;have e:(λk=>2#0)=bit (m:Int):=funext λk=>(gU m k).symm
 rw[e]
 conv=>rhs;rw[hd]
 exact(sd _ _ d λk hk=>Mj hk).symm
def wm{m n:Nat}(h:m<2^n){k:Nat}(hk:k∈cz (m:Int)):k<n:=by
 rw[kR h]at hk;exact A!.mp (C!.mp hk).1
theorem sum_filter(ts:List eW)(i:Nat)(f:59#0):∀ks:List Nat,tS ts (ks.filter f) i=(ks.map λk=>if f k=true then O0 ts k i else 0).sum
 | []=>rfl
 | k::r=>by
   have ih:=sum_filter ts i f r;rw[F!,List.sum_cons,<-ih];cases h:f k with
   | true =>
     rw[M!,ο h];unfold tS;rw[F!,List.sum_cons];simp
   | false =>
     rw[M!,ξ (by rw[h];simp)]
     simp
def Mk{a b x y:Nat}(q:x/2+2*(y/2)=a/2+b/2)(h:x%2+2*(y%2)=a%2+b%2):x+2*y=a+b:=by lia
def mod_one{u v:Nat}(hu:u=0\/u=1)(hv:v=0\/v=1):(u^^^v)+2*(u&&&v)=u+v:=by
 rcases hu with rfl|rfl<;>rcases hv with rfl|rfl<;>rfl
def Bm:∀a b:Nat,(a^^^b)+2*(a&&&b)=a+b:=by
 intro a
 induction a using Nat.strongRecOn with
 | ind a ih =>
   intro b
   by_cases h:a=0
   .subst h;simp
   .have q:=ih (a/2) (by lia) (b/2)
    rw[<-Nat.xor_div_two,<-Nat.and_div_two]at q;refine Mk q ?_;have e1:(a^^^b)%2=a%2^^^b%2:=Nat.xor_mod_two_pow (n:=1);have e2:(a&&&b)%2=a%2&&&b%2:=Nat.and_mod_two_pow (n:=1);rw[e1,e2];exact mod_one (V_ a) (V_ b)
def xor_int(a b:Nat):Builtin.bitXor (a:Int) (b:Int)=6#(a^^^b):=by
 have h:(a:Int)+b-2*6#(a&&&b)=6#(a^^^b):=by
  have q:=Bm a b
  lia
 have e:=PyProof.Rows.bitXor_and (a:Int) (b:Int);rw[e,adJ (by lia) (by lia)]
 simpa using h
open PySem L2
def Ml(t:eW):List V:=[.int t.1,.int t.2.1,.int t.2.2]
def TupAt(H:Hp)(x:V)(t:eW):Prop:=∃b,x = .ref b/\H b=10#(Ml t)
structure bF(H:Hp)(w:Addr)(p:Nat)(ts:List eW):Prop where
 ex:∃b xs,H w=10#([.int (p:Int),.ref b])/\H b=10#xs/\Paired (TupAt H) xs ts
structure O1(p:Nat)(ts:List eW):Prop where
 inw:HR p ts
 len:ts.length<=24
 WY:p<=10
def TupAt.tups{H H' : Hp}(s:cV H H'){x:V}{t:eW}(h:TupAt H x t):TupAt H' x t:=by
 obtain⟨b,e,h⟩:=h;exact⟨b,e,s _ _ h⟩
def bF.tups{H H' : Hp}{w:Addr}{p:Nat}{ts:List eW}(s:cV H H')(h:73#0):bF H' w p ts:=by
 obtain⟨b,xs,h1,h2,h3⟩:=h.ex;exact⟨b,xs,s _ _ h1,s _ _ h2,Paired.imp' 74#s h3⟩
def bF.same{H H' : Hp}{w:Addr}{p:Nat}{ts:List eW}(s:ah H H')(h:73#0):bF H' w p ts:=h.tups s.tups
def aA(l:List Nat):List V:=l.map λk=>V.int ((k:Nat):Int)
def bU(l:List Nat)(k:Nat):aA (l++[k])=aA l++[.int (k:Int)]:=by unfold aA;rw[g!];rfl
def av(l:List Nat):(aA l).length=l.length:=by unfold aA;rw[χ]
def eT{l:List Nat}{i:Nat}{x:V}(h:(aA l)[i]?=some x):∃k,l[i]?=some k/\x = .int (k:Int):=by
 unfold aA at h;rw[c!]at h;obtain⟨k,e,q⟩:=qC.mp h;exact⟨k,e,q.symm⟩
def bj(f:59#0)(i:Nat):(13#(i+1)).filter f=(13#i).filter f++(if f i=true then[i] else[]):=by
 rw[C?,d_]
 congr 1
 cases h:f i with
 | true=>rw[M!,ο h,ο rfl];rfl
 | false=>rw[M!,ξ (by rw[h];simp),ξ 31#0];rfl
def qT(f:59#0)(H:Hp)(D:Addr)(i:Nat)(acc:List V)(H2:Hp):Prop:=ah H H2/\H2 D=1#acc/\acc=aA ((13#i).filter f)
section
variable {f:59#0}{H H2 H3:Hp}{D:Addr}{i:Nat}{acc:List V}
def qT.start(hD:H D=none):qT f H D 0 [] (η H D (.lst [])):=68#hD
def qT.len(p:qT f H D i acc H2):H2 D=1#acc/\acc.length<=i:=by
 refine⟨p.2.1,?_⟩;rw[p.2.2,av];exact D! (b? _ _) (by rw[y!];exact Z' _)
def qT.yes(p:qT f H D i acc H2)(hD:H D=none)(s:ah H2 H3)(hf:f i=true):H3 D=1#acc/\qT f H D (i+1) (acc++[.int (i:Int)]) (η H3 D 46#(acc++[.int (i:Int)])):=by
 refine⟨s _ _ p.2.1,(p.1.trans s).put hD,aa,?_⟩;rw[bj,ο hf,bU,<-p.2.2]
def qT.no(p:qT f H D i acc H2)(s:ah H2 H3)(hf:f i=false):qT f H D (i+1) acc H3:=by
 refine⟨p.1.trans s,s _ _ p.2.1,?_⟩;rw[bj,ξ (by rw[hf];simp),f_]
 exact p.2.2
end
def bG(ts:List eW)(k:Nat):eW:=ts.getD k (0,0,0)
def stepT(e:List Int)(t:eW):List Int:=bump (bump e t.1) t.2.1
theorem Al{ts:List eW}:∀(ks:List Nat) (e:List Int),(∀k∈ks,k<ts.length)->(ks.map (bG ts)).foldl stepT e=ks.foldl (step ts) e
 | [],_,_=>rfl
 | k::r,e,h=>by
   rw[F!,t_,t_,Al r _ λj hj=>h j (lG _ hj)]
   have hk:=h k o!;have e1:ts[k]?=some (bG ts k):=by
    unfold bG;rw[w!];simp[hk]
   have e2:step ts e k=stepT e (bG ts k):=by
    unfold step stepT;rw[e1]
   rw[e2]
def Am{p:Nat}{ts:List eW}{m:Nat}(h:m<17#0):mq p ts (m:Int)=((cz (m:Int)).map (bG ts)).foldl stepT (List.replicate p 0):=by
 unfold mq;rw[Al _ _ λk hk=>wm h hk]
def Jp(e:List Int)(t:eW):58#(stepT e t)=e.length:=by unfold stepT;rw[mW,mW]
theorem tT:∀(l:List eW) (e:List Int),58#(l.foldl stepT e)=e.length
 | [],_=>rfl
 | t::r,e=>by rw[t_,tT r,Jp]
def oO(l:List Int):List V:=l.map V.int
def tU{l:List Int}{i:Nat}(h:i<l.length):(oO l)[i]?=3#(l.getD i 0):=by
 unfold oO;rw[c!,w!];simp[h]
def xj(l:List Int)(i:Nat):(oO l).set i (.int (l.getD i 0+1))=oO (bump l (i:Int)):=by
 unfold oO bump;rw[a!,List.map_set]
def Mm(p:Nat):(54#([V.int 0])).flatten=oO (List.replicate p 0):=by
 induction p with
 | zero=>rfl
 | succ p ih=>rw[n_,O_,ih,n_];rfl
def nj{n j:Nat}(h:j<n):PJ n (j:Int)=some j:=by
 unfold PJ;rw[ο (by lia),ο (by lia),a!]
def qU(k:Nat):PyData:=.int (k:Int)
theorem gE{K:b7}{H:Hp}:∀l:List Nat,DatVs K H (aA l) (l.map qU)
 | []=>.nil
 | _::r=>.cons (.int _) (gE r)
theorem Di:∀l:List Nat,PyData.canLayAll0 (l.map qU)=true
 | []=>rfl
 | _::r=>by
   have ih:=Di r;simp only[F!,PyData.canLayAll0,ih,u_];rfl
theorem An:∀l:List Nat,PyData.depthAll (l.map qU)=0
 | []=>rfl
 | _::r=>by
   have ih:=An r;show max (PyData.depth (PyData.int _)) (PyData.depthAll (r.map _))=0;rw[ih];rfl
def ee(l:List Nat):SeqAt.shaped (.list (l.map qU))=true:=by
 unfold SeqAt.shaped;have e:(PyData.list (l.map qU)).canLay0=PyData.canLayAll0 (l.map qU):=by simp[PyData.canLay0]
 rw[e,Di,D?];refine cH ?_;have e2:PyData.depth (PyData.list (l.map qU))=PyData.depthAll (l.map qU)+1:=by simp[PyData.depth]
 rw[e2,An]
 decide
def P6(l:List Nat):PyData.eqv (.list (l.map qU)) (.list [])=decide (l=[]):=by
 cases l with
 | nil=>rfl
 | cons a r=>rfl
def Tw(S:Int)(k:Nat):7#(V.int (Builtin.bitAnd (S/2^k) 1)=V.int 1)=bit S k:=by
 unfold bit;rw[PyProof.Rows.bitAnd_m1];rw[W!];simp
def Bo(S:Int)(k:Nat):7#(V.int (S/2^k%2)=V.int 1)=bit S k:=by
 unfold bit;rw[W!];simp
def P7(x:Int):7#(V.int x=V.int 1)=decide (x=1):=by
 rw[W!];simp
structure se(p:Int)(t:eW):Prop where
 a0:0<=t.1
 a1:t.1<p
 b0:0<=t.2.1
 b1:t.2.1<p
 ne:t.1≠t.2.1
 l0:1<=t.2.2
 l1:t.2.2<=1000000000000000000000000000000
structure aE(p:Nat)(ts:List eW):Prop where
 p1:1<=p
 p2:p<=10
 len:ts.length<=24
 Dl:∀t∈ts,se (p:Int) t
def aE.Lj{p:Nat}{ts:List eW}(g:aE p ts):O1 p ts:=⟨⟨λt ht=>let z:=g.Dl t ht;⟨z.a0,z.a1,z.b0,z.b1⟩⟩,g.len,g.p2⟩
def vM(p:Int)(H:Hp)(D:Addr)(n:Nat)(H2:Hp):Prop:=ah H H2/\∃acc ts,H2 D=1#acc/\Paired (TupAt H2) acc ts/\acc.length=n/\∀t∈ts,se p t
section
variable {p:Int}{H H2 H3:Hp}{D b:Addr}{n:Nat}{t:eW}
def vM.start(hD:H D=none):vM p H D 0 (η H D (.lst [])):=⟨ah.new hD,[],[],aa,.nil,rfl,λt ht=>nomatch ht⟩
def vM.push(h:vM p H D n H2)(hD:H D=none)(s:ah H2 H3)(g:se p t)(hb:H3 b=10#(Ml t)):
 ∃acc,H3 D=1#acc/\acc.length=n/\vM p H D (n+1) (η H3 D 46#(acc++[.ref b])):=by
 obtain⟨s2,acc,ts,hd,pr,hn,gt⟩:=h;have RO:H3 D=1#acc:=s _ _ hd;refine⟨acc,RO,hn,(s2.trans s).put hD,acc++[.ref b],ts++[t],aa,?_,by rw[k!,U!,hn],λu hu=>?_⟩
 .exact Paired.snoc (85#74#(s.tups.trans (cV.put RO))) ⟨b,rfl,cV.put RO _ _ hb⟩
 .rcases t!.mp hu with hu|hu
  .exact gt u hu
  .cases p!.mp hu;exact g
def vM.fin{q:Nat}(h:vM (q:Int) H D n H2):∃acc ts,H2 D=1#acc/\ts.length=n/\(∀t∈ts,se (q:Int) t)/\∀l,H2 l=none->∀w,η H2 l (.tup acc) w=none->
 ah H (η (η H2 l (.tup acc)) w (.tup [.int (q:Int),.ref l]))/\bF (η (η H2 l (.tup acc)) w (.tup [.int (q:Int),.ref l])) w q ts:=by
 obtain⟨s2,acc,ts,hd,pr,hn,gt⟩:=h;refine⟨acc,ts,hd,by rw[<-pr.length,hn],gt,λl hl w hw=>?_⟩
 have n1:ah H2 (η H2 l (.tup acc)):=ah.new hl;have n2:=n1.trans (ah.new (o:=.tup [.int (q:Int),.ref l]) hw);refine⟨s2.trans n2,l,acc,aa,?_,85#74#n2.tups⟩
 rw[ao (aX aa hw),aa]
end
def Mn{p o r:Int}(h:0<=o)(h1:o<p)(r0:0<=r)(r1:r<p-1):0<=(o+1+r)%p/\(o+1+r)%p<p/\o≠(o+1+r)%p:=by
 have hp:0<p:=by lia
 refine⟨Int.emod_nonneg _ (by lia),aeb _ hp,?_⟩
 by_cases hlt:o+1+r<p
 .rw[Int.emod_eq_of_lt (by lia) hlt]
  lia
 .have e:(o+1+r)%p=o+1+r-p:=by
   rw[<-Int.sub_emod_right,Int.emod_eq_of_lt (by lia) (by lia)]
  rw[e]
  lia
def cD{n:Nat}(h:n<=24):n<=sizeLine:=B! (cO (by lia))
def cZ{n:Nat}(h:n<=900):n<sizeLine:=cO (by lia)
def P8{ns:List Int}{k:Nat}(h:k<ns.length):(ns.map V.int)[k]?=3#(ns.getD k 0):=by
 rw[c!,w!];simp[h]
def iN(x m:Int)(h:0<m):0<=x%m/\x%m<m:=⟨Int.emod_nonneg _ (by lia),aeb _ h⟩
end Ring
namespace RM
def bI(f:59#0):59#0
 | 0=>false
 | n+1=>bI f n^^f n
theorem bN{f g:59#0}:∀{n:Nat},(∀k,k<n->f k=g k)->bI f n=bI g n
 | 0,_=>rfl
 | n+1,h=>by
   unfold bI;rw[bN λk hk=>h k (by lia),h n (by lia)]
theorem jC(f g:59#0):∀n,bI (λk=>f k^^g k) n=(bI f n^^bI g n)
 | 0=>rfl
 | n+1=>by
   unfold bI;rw[jC f g n];cases bI f n<;>cases bI g n<;>cases f n<;>cases g n<;>rfl
theorem qV:∀n,bI (λ_=>false) n=false
 | 0=>rfl
 | n+1=>by unfold bI;rw[qV n];rfl
theorem kT(c:Bool)(f:59#0):∀n,bI (λk=>c&&f k) n=(c&&bI f n)
 | 0=>by cases c<;>rfl
 | n+1=>by
   unfold bI;rw[kT c f n];cases c<;>simp
theorem tV(f:Nat->59#0)(n:Nat):∀m,bI (λx=>bI (λk=>f x k) n) m=bI (λk=>bI (λx=>f x k) m) n
 | 0=>by
   show false=_;rw[<-qV n];rfl
 | m+1=>by
   show(bI (λx=>bI (λk=>f x k) n) m^^bI (λk=>f m k) n)=_
   rw[tV f n m,<-jC];rfl
def fT{f:59#0}{n:Nat}(h:∀k,k<n->f k=false):bI f n=false:=by
 rw[bN (g:=λ_=>false) h,qV]
theorem sj{f:59#0}{a:Nat}:∀{n:Nat},a<n->(∀k,k<n->k≠a->f k=false)->bI f n=f a
 | 0,h,_=>absurd h (l? _)
 | n+1,h,z=>by
   unfold bI
   by_cases e:a=n
   .subst e;rw[fT λk hk=>z k (by lia) (by lia)]
    simp
   .rw[sj (a:=a) (by lia) λk hk hn=>z k (by lia) hn,z n (by lia) (λq=>e q.symm)]
    simp
def ia(C:59#0){a m:Nat}(h:a<m):bI (λx=>C x&&decide (a=x)) m=C a:=by
 rw[sj h λk _ hk=>by simp[u! hk]]
 simp
structure Net where
 p:Nat
 n:Nat
 a:Nat->Nat
 b:Nat->Nat
 al:∀k,k<n->a k<p
 bl:∀k,k<n->b k<p
 ne:∀k,k<n->a k≠b k
variable (N:Net)
def Net.inc(k x:Nat):Bool:=7#(N.a k=x)^^7#(N.b k=x)
def Net.bd(m x:Nat):Bool:=bI (λk=>2#0&&N.inc k x) N.n
def Net.dm(m:Nat):Prop:=∀x,x<N.p->N.bd m x=false
variable {N}
def jQ(m q x:Nat):N.bd (m^^^q) x=(N.bd m x^^N.bd q x):=by
 unfold Net.bd;rw[<-jC];refine bN λk _=>?_
 rw[j!];cases 2#0<;>cases 90#0<;>cases N.inc k x<;>rfl
def wq(x:Nat):N.bd 0 x=false:=by
 unfold Net.bd;exact fT λk _=>by simp
def qW{k:Nat}(h:k<N.n)(x:Nat):N.bd (2^k) x=N.inc k x:=by
 unfold Net.bd;rw[sj h λj _ hj=>by simp[G!,u! hj]]
 simp[G!]
def dm.xor{m q:Nat}(h:N.dm m)(h' : N.dm q):N.dm (m^^^q):=λx hx=>by rw[jQ,h x hx,h' x hx];rfl
def dm.zero:N.dm 0:=λx _=>wq x
def Mp{m:Nat}(C:59#0)(h:∀k,k<N.n->2#0=true->C (N.a k)=C (N.b k)):bI (λx=>C x&&N.bd m x) N.p=false:=by
 have e:bI (λx=>C x&&N.bd m x) N.p=bI (λx=>bI (λk=>C x&&(2#0&&N.inc k x)) N.n) N.p :=
  bN λx _=>(kT (C x) _ N.n).symm
 rw[e,tV];refine fT λk hk=>?_
 have e2:bI (λx=>C x&&(2#0&&N.inc k x)) N.p=(2#0&&(C (N.a k)^^C (N.b k))):=by
  rw[<-ia C (N.al k hk),<-ia C (N.bl k hk),<-jC,<-kT];refine bN λx _=>?_
  unfold Net.inc;cases C x<;>cases 2#0<;>cases 7#(N.a k=x)<;>cases 7#(N.b k=x)<;>rfl
 rw[e2];cases hb:2#0 with
 | false=>rfl
 | true=>rw[h k hk hb];simp
def join(L:Nat->Nat)(u v:Nat):Nat->Nat:=λx=>if L x=max (L u) (L v) then min (L u) (L v) else L x
def join_eq{L:Nat->Nat}{u v x y:Nat}(h:L x=L y):join L u v x=join L u v y:=by unfold join;rw[h]
def Ao(L:Nat->Nat)(u v:Nat):join L u v u=join L u v v:=by
 unfold join
 split<;>split<;>lia
def Aq{L:Nat->Nat}{u v:Nat}(h:L u=L v):join L u v=L:=by
 funext x
 unfold join;rw[h]
 split<;>lia
def xm{L:Nat->Nat}{u v x y:Nat}(h:join L u v x=join L u v y):L x=L y\/(L x=L u/\L y=L v)\/(L x=L v/\L y=L u):=by
 unfold join at h;have mm:(max (L u) (L v)=L u/\min (L u) (L v)=L v)\/(max (L u) (L v)=L v/\min (L u) (L v)=L u):=by
  rcases F_ (L u) (L v) with q|q
  .exact .inr ⟨_y q,Q_ q⟩
  .exact .inl ⟨_E q,_z q⟩
 rcases mm with⟨e1,e2⟩|⟨e1,e2⟩
 .rw[e1,e2]at h
  split at h
  .rename_i hx
   split at h
   .rename_i hy
    exact .inl (hx.trans hy.symm)
   .exact .inr (.inl ⟨hx,h.symm⟩)
  .split at h
   .rename_i hy
    exact .inr (.inr ⟨h,hy⟩)
   .exact .inl h
 .rw[e1,e2]at h
  split at h
  .rename_i hx
   split at h
   .rename_i hy
    exact .inl (hx.trans hy.symm)
   .exact .inr (.inr ⟨hx,h.symm⟩)
  .split at h
   .rename_i hy
    exact .inr (.inl ⟨h,hy⟩)
   .exact .inl h
def join_le{L:Nat->Nat}{u v x:Nat}(h:L x<=x):join L u v x<=x:=by
 unfold join
 split<;>lia
def Jq{L:Nat->Nat}{u v:Nat}(h:∀x,L (L x)=L x)(x:Nat):join L u v (join L u v x)=join L u v x:=by
 have hu:=h u;have hv:=h v;have hx:=h x;have hlo:L (min (L u) (L v))=min (L u) (L v):=by
  rcases F_ (L u) (L v) with q|q
  .rw[Q_ q];exact hu
  .rw[_z q];exact hv
 unfold join
 split
 .rw[hlo]
  split<;>lia
 .rw[hx]
  split<;>lia
def Net.aO(N:Net)(S:59#0):Nat->Nat->Nat
 | 0=>λx=>x
 | k+1=>if S k=true then join (Net.aO N S k) (N.a k) (N.b k) else Net.aO N S k
variable {S:59#0}
theorem sr:∀(k x:Nat),N.aO S k x<=x
 | 0,_=>Z' _
 | k+1,x=>by
   unfold Net.aO
   split
   .exact join_le (sr k x)
   .exact sr k x
theorem cQ:∀(k x:Nat),N.aO S k (N.aO S k x)=N.aO S k x
 | 0,_=>rfl
 | k+1,x=>by
   by_cases hs:S k=true
   .have e:N.aO S (k+1)=join (N.aO S k) (N.a k) (N.b k):=by
     conv=>lhs;unfold Net.aO
     rw[ο hs]
    rw[e];exact Jq (cQ k) x
   .have e:N.aO S (k+1)=N.aO S k:=by
     conv=>lhs;unfold Net.aO
     rw[ξ hs]
    rw[e];exact cQ k x
theorem Ar{x y k:Nat}(h:N.aO S k x=N.aO S k y):∀d,N.aO S (k+d) x=N.aO S (k+d) y
 | 0=>h
 | d+1=>by
   have ih:=Ar h d;show N.aO S (k+d+1) x=N.aO S (k+d+1) y;unfold Net.aO
   split
   .exact join_eq ih
   .exact ih
def jD{j k:Nat}(h:j<k)(hs:S j=true):N.aO S k (N.a j)=N.aO S k (N.b j):=by
 obtain⟨d,rfl⟩:=_U (Nat.succ_le_of_lt h);refine Ar ?_ d;show N.aO S (j+1) (N.a j)=N.aO S (j+1) (N.b j);unfold Net.aO;rw[ο hs];exact Ao _ _ _
inductive Net.ou(N:Net)(S:59#0)(k u:Nat):Nat->Prop
 | refl:Net.ou N S k u u
 | fwd {j:Nat} (h:Net.ou N S k u (N.a j)) (hj:j<k) (hs:S j=true):Net.ou N S k u (N.b j)
 | bwd {j:Nat} (h:Net.ou N S k u (N.b j)) (hj:j<k) (hs:S j=true):Net.ou N S k u (N.a j)
def Net.ou.trans{k u v w:Nat}(h:N.ou S k u v)(h' : N.ou S k v w):N.ou S k u w:=by
 induction h' with
 | refl=>exact h
 | fwd _ hj hs ih=>exact .fwd ih hj hs
 | bwd _ hj hs ih=>exact .bwd ih hj hs
def Net.ou.mono{k l u v:Nat}(h:N.ou S k u v)(kD:k<=l):N.ou S l u v:=by
 induction h with
 | refl=>exact .refl
 | fwd _ hj hs ih=>exact .fwd ih (by lia) hs
 | bwd _ hj hs ih=>exact .bwd ih (by lia) hs
theorem cj:∀(k u v:Nat),N.aO S k u=N.aO S k v->N.ou S k u v
 | 0,u,v,h=>by
   have e:u=v:=h;subst e;exact .refl
 | k+1,u,v,h=>by
   unfold Net.aO at h
   split at h
   .rename_i hs
    rcases xm h with q|⟨q1,q2⟩|⟨q1,q2⟩
    .exact(cj k u v q).mono (by lia)
    .have c1:=(cj k u _ q1).mono (G? k);have c2:=(cj k _ v q2.symm).mono (G? k);exact Net.ou.trans (.fwd c1 (by lia) hs) c2
    .have c1:=(cj k u _ q1).mono (G? k);have c2:=(cj k _ v q2.symm).mono (G? k);exact Net.ou.trans (.bwd c1 (by lia) hs) c2
   .exact(cj k u v h).mono (by lia)
def Net.gA(N:Net)(k:Nat):Nat->Nat:=N.aO (λ_=>true) k
def Net.oj(N:Net)(k:Nat):Bool:=! 7#(N.gA k (N.a k)=N.gA k (N.b k))
def Dm(k:Nat):N.gA (k+1)=if N.oj k=true then join (N.gA k) (N.a k) (N.b k) else N.gA k:=by
 show N.aO (λ_=>true) (k+1)=_
 unfold Net.aO;rw[ο rfl];unfold Net.oj
 by_cases h:N.gA k (N.a k)=N.gA k (N.b k)
 .rw[ξ (by simp[h])]
  exact Aq h
 .rw[ο (by simp[h])]
  rfl
def j9{m:Nat}(hf:∀k,2#0=true->k<N.n/\N.oj k=true)(he:N.dm m):m=0:=by
 by_cases h0:m=0
 .exact h0
 exfalso
 have hK:m.testBit m.log2=true:=Nat.testBit_log2 h0;obtain⟨YN,YO⟩:=hf _ hK;generalize hKe:m.log2=K at hK YN YO;have hlt:m<2^(K+1):=by rw[<-hKe];exact aeh
 have hcl:=Mp (N:=N) (m:=m^^^2^K) (λx=>7#(N.gA K x=N.gA K (N.a K))) λk hk hb=>by
  have hkK:k<K:=by
   rw[j!,G!]at hb
   by_cases e:K=k
   .subst e;simp[hK]at hb
   .have hb' : 2#0=true:=by simpa[e]using hb
    have:k<K+1:=by
     by_cases q:k<K+1
     .exact q
     .have z:=q? (x! hlt (B? (16#0) (show K+1<=k by lia)))
      rw[hb']at z;cases z
    lia
  have e:N.gA K (N.a k)=N.gA K (N.b k):=jD (S:=λ_=>true) hkK rfl
  show 7#(N.gA K (N.a k)=_)=7#(N.gA K (N.b k)=_);rw[e]
 have e:bI (λx=>7#(N.gA K x=N.gA K (N.a K))&&N.bd (m^^^2^K) x) N.p=bI (λx=>7#(N.gA K x=N.gA K (N.a K))&&N.inc K x) N.p :=
  bN λx hx=>by rw[jQ,he x hx,qW YN];simp
 rw[e]at hcl;have e2:bI (λx=>7#(N.gA K x=N.gA K (N.a K))&&N.inc K x) N.p=(7#(N.gA K (N.a K)=N.gA K (N.a K))^^7#(N.gA K (N.b K)=N.gA K (N.a K))):=by
  rw[<-ia (λx=>7#(N.gA K x=N.gA K (N.a K))) (N.al K YN),<-ia (λx=>7#(N.gA K x=N.gA K (N.a K))) (N.bl K YN),<-jC]
  refine bN λx _=>?_
  unfold Net.inc;cases 7#(N.gA K x=N.gA K (N.a K))<;>cases 7#(N.a K=x)<;>cases 7#(N.b K=x)<;>rfl
 rw[e2]at hcl;unfold Net.oj at YO;have hne : ¬ N.gA K (N.b K)=N.gA K (N.a K):=λq=>by rw[q]at YO;simp at YO
 simp[hne]at hcl
def Net.trail(N:Net):Nat->Nat->Nat
 | 0=>λ_=>0
 | k+1=>if N.oj k=true then λv=>if N.gA k v=max (N.gA k (N.a k)) (N.gA k (N.b k)) then Net.trail N k v^^^(Net.trail N k (N.a k)^^^Net.trail N k (N.b k)^^^2^k) else Net.trail N k v
   else Net.trail N k
theorem mX:∀(k v j:Nat),69#(N.trail k v)=true->j<k/\N.oj j=true
 | 0,v,j,h=>by simp[Net.trail]at h
 | k+1,v,j,h=>by
   have ih:=mX k;unfold Net.trail at h
   split at h
   .rename_i hf
    dsimp only at h
    split at h
    .rw[j!,j!,j!,G!]at h
     by_cases e:k=j
     .subst e;exact⟨by lia,hf⟩
     .have z : ¬(69#(N.trail k v)=false/\69#(N.trail k (N.a k))=false/\69#(N.trail k (N.b k))=false):=by
       rintro⟨z1,z2,z3⟩;simp[z1,z2,z3,e]at h
      cases h1:69#(N.trail k v) with
      | true=>obtain⟨q,r⟩:=ih v j h1;exact⟨by lia,r⟩
      | false=>cases h2:69#(N.trail k (N.a k)) with
        | true=>obtain⟨q,r⟩:=ih _ j h2;exact⟨by lia,r⟩
        | false=>cases h3:69#(N.trail k (N.b k)) with
          | true=>obtain⟨q,r⟩:=ih _ j h3;exact⟨by lia,r⟩
          | false=>exact absurd ⟨h1,h2,h3⟩ z
    .obtain⟨q,r⟩:=ih v j h;exact⟨by lia,r⟩
   .obtain⟨q,r⟩:=ih v j h;exact⟨by lia,r⟩
def Mq(a b c d e f g h:Bool)(hlh:(d^^f)=(g^^h)):((a^^g)^^(((c^^d)^^(e^^f))^^(c^^e)))=(a^^h):=by
 have e1:(((c^^d)^^(e^^f))^^(c^^e))=(d^^f):=by cases c<;>cases d<;>cases e<;>cases f<;>rfl
 rw[e1,hlh];cases a<;>cases g<;>cases h<;>rfl
theorem xn:∀(k:Nat),k<=N.n->∀v x,N.bd (N.trail k v) x=(decide (v=x)^^7#(N.gA k v=x))
 | 0,_,v,x=>by
   show N.bd 0 x=(decide (v=x)^^decide (v=x));rw[wq];simp
 | k+1,hk,v,x=>by
   have ih:=xn k (by lia)
   rw[Dm];unfold Net.trail
   by_cases hf:N.oj k=true
   .rw[ο hf,ο hf]
    by_cases hm:N.gA k v=max (N.gA k (N.a k)) (N.gA k (N.b k))
    .have e:join (N.gA k) (N.a k) (N.b k) v=min (N.gA k (N.a k)) (N.gA k (N.b k)):=by unfold join;rw[ο hm]
     show N.bd (if N.gA k v=_ then _ else _) x=_
     rw[ο hm,e,jQ,jQ,jQ,qW (by lia),ih,ih,ih]
     unfold Net.inc;refine Mq _ false _ _ _ _ _ _ ?_;rw[hm];rcases F_ (N.gA k (N.a k)) (N.gA k (N.b k)) with q|q
     .rw[_y q,Q_ q,Bool.xor_comm]
     .rw[_E q,_z q]
    .have e:join (N.gA k) (N.a k) (N.b k) v=N.gA k v:=by unfold join;rw[ξ hm]
     show N.bd (if N.gA k v=_ then _ else _) x=_
     rw[ξ hm,e,ih]
   .rw[ξ hf,ξ hf];exact ih v x
def Net.ring(N:Net)(c:Nat):Nat:=N.trail N.n (N.a c)^^^N.trail N.n (N.b c)^^^2^c
def Mr{c:Nat}(h:c<N.n):N.gA N.n (N.a c)=N.gA N.n (N.b c):=jD (S:=λ_=>true) h rfl
def mY{c:Nat}(h:c<N.n):N.dm (N.ring c):=λx _=>by
 unfold Net.ring;rw[jQ,jQ,qW h,xn _ (Z' _),xn _ (Z' _),Mr h];unfold Net.inc;cases 7#(N.a c=x)<;>cases 7#(N.b c=x)<;>cases 7#(N.gA N.n (N.b c)=x)<;>rfl
def oQ{c j:Nat}(h:69#(N.ring c)=true):j=c\/(j<N.n/\N.oj j=true):=by
 unfold Net.ring at h;rw[j!,j!,G!]at h
 by_cases e:c=j
 .exact .inl e.symm
 .right
  cases h1:69#(N.trail N.n (N.a c)) with
  | true=>exact mX _ _ _ h1
  | false=>cases h2:69#(N.trail N.n (N.b c)) with
    | true=>exact mX _ _ _ h2
    | false=>simp[h1,h2,e]at h
def su{c:Nat}(hf:N.oj c=false):(N.ring c).testBit c=true:=by
 unfold Net.ring;rw[j!,j!,G!];cases h1:(N.trail N.n (N.a c)).testBit c with
 | true=>obtain⟨_,q⟩:=mX _ _ _ h1;rw[hf]at q;cases q
 | false=>cases h2:(N.trail N.n (N.b c)).testBit c with
   | true=>obtain⟨_,q⟩:=mX _ _ _ h2;rw[hf]at q;cases q
   | false=>simp
def Jr{j:Nat}(h:j<N.n)(hf:N.oj j=true):69#(N.trail N.n (N.a j))=true\/69#(N.trail N.n (N.b j))=true:=by
 have z:N.ring j=0:=j9 (λk hk=>by
  rcases oQ hk with rfl|q
  .exact⟨h,hf⟩
  .exact q) (mY h)
 have b:69#(N.ring j)=false:=by rw[z];simp
 unfold Net.ring at b;rw[j!,j!,G!]at b;cases h1:69#(N.trail N.n (N.a j)) with
 | true=>exact .inl rfl
 | false=>cases h2:69#(N.trail N.n (N.b j)) with
   | true=>exact .inr rfl
   | false=>simp[h1,h2]at b
def cnt(f:59#0):Nat->Nat
 | 0=>0
 | n+1=>cnt f n+(27#(f n))
theorem fU{f g:59#0}:∀{n:Nat},(∀k,k<n->f k=g k)->cnt f n=cnt g n
 | 0,_=>rfl
 | n+1,h=>by
   unfold cnt;rw[fU λk hk=>h k (by lia),h n (by lia)]
theorem Dp{f g:59#0}{h:Nat}(hg:g h=true):∀{p:Nat},h<p->(∀x,x<p->f x=(g x && ! decide (x=h)))->cnt g p=cnt f p+1
 | 0,hh,_=>absurd hh (l? _)
 | p+1,hh,e=>by
   unfold cnt
   by_cases q:h=p
   .subst q;have z:cnt g h=cnt f h:=fU λk hk=>by rw[e k (by lia)];simp[show k≠h by lia]
    rw[z,ο hg,e h (by lia)]
    simp
   .rw[Dp hg (by lia) λx hx=>e x (by lia),e p (by lia)]
    simp[u! q]
    lia
theorem iA(f:59#0):∀n,58#((13#n).filter f)=cnt f n
 | 0=>rfl
 | n+1=>by
   rw[C?,d_,k!,iA f n];show _=cnt f n+(27#(f n))
   cases h:f n with
   | true=>rw[M!,ο h];rfl
   | false=>rw[M!,ξ (by rw[h];simp)];rfl
theorem lN(f:59#0):∀n,cnt f n+cnt (λk=>! f k) n=n
 | 0=>rfl
 | n+1=>by
   have ih:=lN f n;unfold cnt;cases h:f n<;>simp<;>lia
theorem Bp{f:59#0}:∀{n:Nat},(∀k,k<n->f k=true)->cnt f n=n
 | 0,_=>rfl
 | n+1,h=>by
   unfold cnt;rw[Bp λk hk=>h k (by lia),ο (h n (by lia))]
variable {N:Net}{S:59#0}
def Net.root(N:Net)(S:59#0)(k x:Nat):Bool:=7#(N.aO S k x=x)
def iB(k:Nat):N.aO S (k+1)=if S k=true then join (N.aO S k) (N.a k) (N.b k) else N.aO S k:=by
 conv=>lhs;unfold Net.aO
def lO{k x:Nat}(h:x<N.p):N.aO S k x<N.p:=j_ (sr k x) h
def Js{L:Nat->Nat}{u v:Nat}(hr:∀x,L (L x)=L x)(hne:L u≠L v)(x:Nat):7#(join L u v x=x)=(7#(L x=x) && ! 7#(x=max (L u) (L v))):=by
 have hhi:L (max (L u) (L v))=max (L u) (L v):=by
  rcases F_ (L u) (L v) with q|q
  .rw[_y q];exact hr v
  .rw[_E q];exact hr u
 have hlo:L (min (L u) (L v))=min (L u) (L v):=by
  rcases F_ (L u) (L v) with q|q
  .rw[Q_ q];exact hr u
  .rw[_z q];exact hr v
 unfold join
 by_cases h:L x=max (L u) (L v)
 .rw[ο h];have h1 : ¬ min (L u) (L v)=x:=λz=>by
   rw[<-z,hlo]at h
   lia
  by_cases h2:x=max (L u) (L v)
  .simp[h1,h2]
   lia
  .have h3 : ¬ L x=x:=λz=>h2 (z.symm.trans h)
   simp[h1,h3]
 .rw[ξ h];have h2 : ¬ x=max (L u) (L v):=λz=>h (by rw[z];exact hhi)
  simp[h2]
def xo{k:Nat}(hk:k<N.n):cnt (N.root S k) N.p=cnt (N.root S (k+1)) N.p+(if(S k && ! 7#(N.aO S k (N.a k)=N.aO S k (N.b k)))=true then 1 else 0):=by
 cases hs:S k with
 | false =>
   have e:N.root S (k+1)=N.root S k:=by unfold Net.root;rw[iB,ξ (by rw[hs];simp)]
   rw[e];simp
 | true =>
   by_cases h:N.aO S k (N.a k)=N.aO S k (N.b k)
   .have e:N.root S (k+1)=N.root S k:=by unfold Net.root;rw[iB,ο hs,Aq h]
    rw[e];simp[h]
   .have hhi:N.aO S k (max (N.aO S k (N.a k)) (N.aO S k (N.b k)))=max (N.aO S k (N.a k)) (N.aO S k (N.b k)):=by
     rcases F_ (N.aO S k (N.a k)) (N.aO S k (N.b k)) with q|q
     .rw[_y q];exact cQ _ _
     .rw[_E q];exact cQ _ _
    have h1:=lO (S:=S) (k:=k) (N.al k hk);have h2:=lO (S:=S) (k:=k) (N.bl k hk);rw[Dp (f:=N.root S (k+1)) (g:=N.root S k) (h:=max (N.aO S k (N.a k)) (N.aO S k (N.b k))) (cH hhi) (by lia) λx _=>by
     unfold Net.root;rw[iB,ο hs];exact Js (cQ k) h x]
    simp[h]
theorem sy:∀k,k<=N.n->cnt (N.root (λ_=>true) k) N.p+cnt N.oj k=N.p
 | 0,_=>by
   show cnt (N.root (λ_=>true) 0) N.p+0=N.p
   rw[Bp (f:=N.root (λ_=>true) 0) λx _=>cH rfl]
   rfl
 | k+1,hk=>by
   have ih:=sy k (by lia)
   have st:=xo (N:=N) (S:=λ_=>true) (k:=k) (by lia)
   have e:((λ_=>true:59#0) k && ! 7#(N.aO (λ_=>true) k (N.a k)=N.aO (λ_=>true) k (N.b k)))=N.oj k:=by rw[D?];rfl
   rw[e]at st;show cnt (N.root (λ_=>true) (k+1)) N.p+(cnt N.oj k+27#(N.oj k))=N.p
   lia
def Dq:(N.n:Int)-N.p+cnt (N.root (λ_=>true) N.n) N.p=(cnt (λk=>! N.oj k) N.n:Nat):=by
 have h:=sy (N:=N) N.n (Z' _);have h2:=lN N.oj N.n
 lia
def Net.aJ(N:Net):List Nat:=(13#N.n).filter λk=>! N.oj k
def cf{c:Nat}:c∈N.aJ↔c<N.n/\N.oj c=false:=by
 unfold Net.aJ;rw[C!,A!];simp
def FF:N.aJ.length=cnt (λk=>! N.oj k) N.n:=iA _ _
def eZ{m n:Nat}(h:∀k,2#0=true->k<n):m<2^n:=Nat.lt_pow_two_of_testBit m λk hk=>by
 cases q:2#0 with
 | false=>rfl
 | true=>exact absurd (h k q) (by lia)
def fV{m n k:Nat}(h:m<2^n)(hb:2#0=true):k<n:=by
 by_cases q:k<n
 .exact q
 .have z:=q? (x! h (B? (16#0) (show n<=k by lia)))
  rw[hb]at z;cases z
def sC{m q:Nat}(hm:m<2^N.n)(hq:q<2^N.n)(em:N.dm m)(eq:N.dm q)(h:∀c,c<N.n->N.oj c=false->m.testBit c=q.testBit c):m=q:=by
 have z:m^^^q=0:=j9 (N:=N) (λk hk=>by
  have hk':=fV (V! hm hq) hk;refine⟨hk',?_⟩;cases hf:N.oj k with
  | true=>rfl
  | false =>
    rw[j!,h k hk' hf]at hk;simp at hk) (dm.xor em eq)
 have e:m=m^^^q^^^q:=by rw[E?,Z?,z?]
 rw[e,z,k?]
def sD{c:Nat}(h:c<N.n):N.ring c<2^N.n:=eZ λk hk=>by
 rcases oQ hk with rfl|⟨q,_⟩
 .exact h
 .exact q
def jh{c d:Nat}(hc:N.oj c=false)(hd:N.oj d=false):(N.ring c).testBit d=decide (c=d):=by
 by_cases e:c=d
 .subst e;rw[su hc];simp
 .cases q:(N.ring c).testBit d with
  | false=>simp[e]
  | true=>rcases oQ q with rfl | ⟨_,r⟩
          .exact absurd rfl e
          .rw[hd]at r;cases r
def Net.kU(N:Net)(number:Nat):List Nat->Nat->Nat
 | [],_=>0
 | c::r,i=>(if number.testBit i=true then N.ring c else 0)^^^Net.kU N number r (i+1)
theorem pY{number:Nat}:∀{l:List Nat} {i:Nat},(∀c∈l,c<N.n)->N.dm (N.kU number l i)/\N.kU number l i<2^N.n
 | [],_,_=>⟨dm.zero,R! _⟩
 | c::r,i,h=>by
   obtain⟨h1,h2⟩:=pY (number:=number) (l:=r) (i:=i+1) λd hd=>h d (lG _ hd)
   have hc:=h c o!;unfold Net.kU
   split
   .exact⟨dm.xor (mY hc) h1,V! (sD hc) h2⟩
   .rw[k?];exact⟨h1,h2⟩
theorem Dr{number d:Nat}(hd:N.oj d=false):∀{l:List Nat} {i:Nat},(∀c∈l,N.oj c=false)->d∉l->(N.kU number l i).testBit d=false
 | [],_,_,_=>by simp[Net.kU]
 | c::r,i,h,hn=>by
   have ih:=Dr (number:=number) (d:=d) hd (l:=r) (i:=i+1) (λe he=>h e (lG _ he)) λq=>hn (lG _ q)
   unfold Net.kU;rw[j!,ih]
   split
   .rw[jh (h c o!) hd];have:c≠d:=λq=>hn (by rw[q];exact o!)
    simp[this]
   .simp
theorem Dt{number:Nat}:∀{l:List Nat} {i j:Nat} {d:Nat},l.Nodup->(∀c∈l,N.oj c=false)->l[j]?=some d->(N.kU number l i).testBit d=number.testBit (i+j)
 | [],_,_,_,_,_,h=>by simp at h
 | c::r,i,0,d,hn,hf,h=>by
   have e:c=d:=by simpa using h
   subst e;have hc:=hf c o!;unfold Net.kU;rw[j!,Dr hc (λe he=>hf e (lG _ he)) (O!.mp hn).1]
   cases q:number.testBit (i+0) with
   | true=>rw[ο (by simpa using q),su hc];rfl
   | false=>rw[ξ (by simpa using q)];simp
 | c::r,i,j+1,d,hn,hf,h=>by
   have h' : r[j]?=some d:=by simpa using h
   have hd:d∈r:=gB h';have ih:=Dt (number:=number) (l:=r) (i:=i+1) (j:=j) (d:=d) (O!.mp hn).2 (λe he=>hf e (lG _ he)) h'
   unfold Net.kU;rw[j!,ih];have hne:c≠d:=λq=>(O!.mp hn).1 (q▸hd)
   have z:(if number.testBit i=true then N.ring c else 0).testBit d=false:=by
    split
    .rw[jh (hf c o!) (hf d (lG _ hd))];simp[hne]
    .simp
   rw[z,show i+1+j=i+(j+1) by lia]
   simp
end RM
namespace Ring
open PySem L2
def maskOf(f:59#0):Nat->Nat
 | 0=>0
 | n+1=>(if f n=true then 2^n else 0)+maskOf f n
theorem mask_lt(f:59#0):∀n,maskOf f n<2^n
 | 0=>by show 0<1;decide
 | n+1=>by
   have ih:=mask_lt f n;have e:2^(n+1)=2^n+2^n:=by rw[F?];lia
   unfold maskOf
   split<;>lia
theorem mask_bit(f:59#0)(j:Nat):∀n,69#(maskOf f n)=(decide (j<n)&&f j)
 | 0=>by simp[maskOf]
 | n+1=>by
   have ih:=mask_bit f j n;have hl:=mask_lt f n;unfold maskOf
   by_cases h:f n=true
   .rw[ο h];rcases Nat.lt_trichotomy j n with q|q|q
    .rw[Nat.testBit_two_pow_add_gt q,ih];simp[q,show j<n+1 by lia]
    .subst q;rw[Nat.testBit_two_pow_add_eq,ih];simp[h]
    .have z:2^n+maskOf f n<2^j:=x! (show 2^n+maskOf f n<2^(n+1) by rw[F?];lia) (B? (16#0) q)
     rw[q? z];simp[show ¬ j<n+1 by lia]
   .rw[ξ h,U_,ih]
    by_cases q:j=n
    .subst q;have h' : f j=false:=by simpa using h
     simp[h']
    .by_cases r:j<n
     .simp[r,show j<n+1 by lia]
     .simp[r,show ¬ j<n+1 by lia]
def Ms(n:Nat):maskOf (λ_=>true) n=2^n-1:=by
 induction n with
 | zero=>rfl
 | succ n ih =>
   unfold maskOf;rw[ih,ο rfl,F?];have:=R! n
   lia
def HS(n j:Nat):69#(2^n-1)=decide (j<n):=by
 rw[<-Ms,mask_bit];simp
def Tz{a b x y:Nat}(q:x/2+y/2=a/2+b/2)(h:x%2+y%2=a%2+b%2):x+y=a+b:=by lia
def TF{u v:Nat}(hu:u=0\/u=1)(hv:v=0\/v=1):(u ||| v)+(u&&&v)=u+v:=by
 rcases hu with rfl|rfl<;>rcases hv with rfl|rfl<;>rfl
def TH:∀a b:Nat,(a ||| b)+(a&&&b)=a+b:=by
 intro a
 induction a using Nat.strongRecOn with
 | ind a ih =>
   intro b
   by_cases h:a=0
   .subst h;simp
   .have q:=ih (a/2) (by lia) (b/2)
    rw[<-Nat.or_div_two,<-Nat.and_div_two]at q;refine Tz q ?_;have e1:(a ||| b)%2=a%2 ||| b%2:=Nat.or_mod_two_pow (n:=1)
    have e2:(a&&&b)%2=a%2&&&b%2:=Nat.and_mod_two_pow (n:=1);rw[e1,e2];exact TF (V_ a) (V_ b)
def or_int(a b:Nat):Builtin.bitOr (a:Int) (b:Int)=6#(a ||| b):=by
 have q:=TH a b;rw[PyProof.Rows.bitOr_and,adJ (by lia) (by lia)]
 have h:(a:Int)+b-6#(a&&&b)=6#(a ||| b):=by lia
 simpa using h
def iO(k:Nat):(1:Int)*2^(k:Int).toNat=6#(2^k):=by
 rw[a!,Int.one_mul];simp
def ji{ts:List eW}{k:Nat}(h:k<ts.length):bG ts k∈ts:=by
 unfold bG;rw[w!];simp[h]
def tW{ts:List eW}{k:Nat}(h:k<ts.length):ts[k]?=some (bG ts k):=by
 unfold bG;rw[w!];simp[h]
def aE.N{p:Nat}{ts:List eW}(g:aE p ts):RM.Net where
 p:=p
 n:=ts.length
 a:=λk=>(bG ts k).1.toNat
 b:=λk=>(bG ts k).2.1.toNat
 al:=λk hk=>by
  have z:=g.Dl _ (ji hk);have z0:=z.a0;have z1:=z.a1
  lia
 bl:=λk hk=>by
  have z:=g.Dl _ (ji hk);have z0:=z.b0;have z1:=z.b1
  lia
 ne:=λk hk e=>by
  have z:=g.Dl _ (ji hk);have z0:=z.a0;have z1:=z.b0;exact z.ne (by lia)
def HU{p:Nat}{ts:List eW}{g:aE p ts}{k:Nat}(h:k<ts.length):(bG ts k).1=6#(g.N.a k):=by
 have z:=(g.Dl _ (ji h)).a0;show _=6#(bG ts k).1.toNat
 lia
def HV{p:Nat}{ts:List eW}{g:aE p ts}{k:Nat}(h:k<ts.length):(bG ts k).2.1=6#(g.N.b k):=by
 have z:=(g.Dl _ (ji h)).b0;show _=6#(bG ts k).2.1.toNat
 lia
def P9{p:Nat}{ts:List eW}{g:aE p ts}{k:Nat}(h:k<ts.length)(x:Nat):O0 ts k x%2=27#(g.N.inc k x):=by
 unfold O0 RM.Net.inc;rw[tW h];dsimp only;rw[HU (g:=g) h,HV (g:=g) h];generalize g.N.a k=u;generalize g.N.b k=v
 by_cases h1:u=x
 .by_cases h2:v=x
  .simp[h1,h2]
  .have Tu : ¬((v:Int)=(x:Int)):=by lia
   simp[h1,h2,Tu]
 .have Mc : ¬((u:Int)=(x:Int)):=by lia
  by_cases h2:v=x
  .simp[h1,h2,Mc]
  .have Tu : ¬((v:Int)=(x:Int)):=by lia
   simp[h1,h2,Mc,Tu]
theorem Mt{p:Nat}{ts:List eW}{g:aE p ts}(m x:Nat):∀n,n<=ts.length->((13#n).map λk=>if 2#0=true then O0 ts k x else 0).sum%2=27#(RM.bI (λk=>2#0&&g.N.inc k x) n)
 | 0,_=>rfl
 | n+1,h=>by
   have ih:=Mt (g:=g) m x n (by lia)
   have hd:=P9 (g:=g) (k:=n) (by lia) x
   rw[C?,g!,List.sum_append];show(_+((if m.testBit n=true then O0 ts n x else 0)+0))%2=if(RM.bI _ n^^(m.testBit n&&g.N.inc n x))=true then 1 else 0
   generalize ((13#n).map λk=>if 2#0=true then O0 ts k x else 0).sum=u at ih ⊢
   generalize RM.bI (λk=>2#0&&g.N.inc k x) n=v at ih ⊢
   generalize g.N.inc n x=i at hd ⊢;generalize O0 ts n x=d at hd ⊢;cases m.testBit n<;>cases v<;>cases i<;>simp at ih hd ⊢ <;> lia
def HW{p:Nat}{ts:List eW}(g:aE p ts){m:Nat}(hm:m<17#0){x:Nat}:7#((mq p ts (m:Int)).getD x 0%2=1)=g.N.bd m x:=by
 rw[Mi g.Lj.inw,kR hm,sum_filter];have h:=Mt (g:=g) m x ts.length (Z' _);rw[h];show _=RM.bI _ ts.length;generalize RM.bI (λk=>2#0&&g.N.inc k x) ts.length=v
 cases v<;>simp
def Du{p:Nat}{ts:List eW}(g:aE p ts){m:Nat}(hm:m<17#0):xg p ts (m:Int)=[]↔g.N.dm m:=by
 unfold xg;rw[Z_]
 constructor
 .intro h x hx;have q:=h x (A!.mpr hx);rw[HW g hm]at q
  simpa using q
 .intro h x hx;rw[HW g hm,h x (A!.mp hx)];simp
def dF(f:Nat->Nat)(n:Nat):List V:=(13#n).map λx=>V.int 6#(f x)
def cE(f:Nat->Nat)(n:Nat):58#(dF f n)=n:=by unfold dF;rw[χ,y!]
def c5{f:Nat->Nat}{n x:Nat}(h:x<n):(dF f n)[x]?=3#6#(f x):=by
 unfold dF;rw[c!,o_ h];rfl
def lP{f:Nat->Nat}{n x:Nat}{v:V}(h:(dF f n)[x]?=some v):x<n/\v = .int 6#(f x):=by
 have hx:x<n:=by
  have:=(j7.mp h).1
  rwa [cE]at this
 rw[c5 hx]at h;exact⟨hx,(18#h).symm⟩
def As(f:Nat->Nat)(n:Nat):dF f (n+1)=dF f n++[.int 6#(f n)]:=by
 unfold dF;rw[C?,g!];rfl
def xq{f g:Nat->Nat}{n:Nat}(h:∀x,x<n->f x=g x):dF f n=dF g n:=by
 unfold dF;refine L_ λx hx=>?_
 rw[h x (A!.mp hx)]
def Dv(p:Nat):(54#([V.int 0])).flatten=dF (λ_=>0) p:=by
 induction p with
 | zero=>rfl
 | succ p ih =>
   rw[As,<-ih,List.replicate_succ',List.flatten_append];rfl
def xr(f:Nat->Nat)(H:Hp)(D:Addr)(i:Nat)(acc:List V)(H2:Hp):Prop:=ah H H2/\H2 D=1#acc/\acc=dF f i
section
variable {f:Nat->Nat}{H H2 H3:Hp}{D:Addr}{i:Nat}{acc:List V}{v:V}
def xr.start(hD:H D=none):xr f H D 0 [] (η H D (.lst [])):=68#hD
def xr.len(p:xr f H D i acc H2):H2 D=1#acc/\acc.length<=i:=⟨p.2.1,by rw[p.2.2,cE];exact Z' _⟩
def xr.next(p:xr f H D i acc H2)(hD:H D=none)(s:ah H2 H3)(hv:v = .int 6#(f i)):H3 D=1#acc/\xr f H D (i+1) (acc++[v]) (η H3 D 46#(acc++[v])):=by
 refine⟨s _ _ p.2.1,(p.1.trans s).put hD,aa,?_⟩;rw[As,<-p.2.2,hv]
end
theorem Au{N:RM.Net}{m:Nat}:∀n,((13#n).filter λk=>2#0).foldl (λL k=>RM.join L (N.a k) (N.b k)) (λx=>x)=N.aO (λk=>2#0) n
 | 0=>rfl
 | n+1=>by
   rw[bj,B_,Au n,RM.iB]
   split<;>rfl
end Ring
namespace RM
theorem xu{N:Net}{S S' : 59#0}:∀{n:Nat},(∀k,k<n->S k=S' k)->N.aO S n=N.aO S' n
 | 0,_=>rfl
 | n+1,h=>by rw[iB,iB,xu λk hk=>h k (by lia),h n (by lia)]
end RM
namespace Ring
open PySem L2
def pieceOf(L:Nat->Nat)(p s:Nat):List Nat:=(13#p).filter λx=>7#(L x=s)
def fK(L:Nat->Nat)(p:Nat):List Nat:=(13#p).filter λx=>7#(L x=x)
def RP(D:Addr)(H0 H:Hp)(y:V)(l:List Nat):Prop:=∃b,y = .ref b/\b≠D/\H0 b=none/\H b=1#(aA l)
def xw(L:Nat->Nat)(p:Nat)(H:Hp)(D:Addr)(i:Nat)(H2:Hp):Prop:=ah H H2/\∃ys,H2 D=1#ys/\Paired (RP D H H2) ys ((fK L i).map (pieceOf L p))/\ys.length<=i
section
variable {L:Nat->Nat}{p i:Nat}{H H2 H3:Hp}{D b:Addr}
def xw.start(hD:H D=none):xw L p H D 0 (η H D (.lst [])):=⟨ah.new hD,[],aa,.nil,Z' _⟩
def xx:fK L (i+1)=fK L i++(if L i=i then[i] else[]):=by
 unfold fK;rw[bj]
 by_cases h:L i=i<;>simp[h]
def xw.skip(h:xw L p H D i H2)(hn : ¬ L i=i):xw L p H D (i+1) H2:=by
 obtain⟨s,ys,hd,pr,hl⟩:=h;refine⟨s,ys,hd,?_,by lia⟩
 rw[xx,ξ hn,f_];exact pr
def xw.push(h:xw L p H D i H2)(hD:H D=none)(hr:L i=i)(s:ah H2 H3)(hb:H2 b=none)(TJ:H3 b=1#(aA (pieceOf L p i))):
 ∃ys,H3 D=1#ys/\ys.length<=i/\xw L p H D (i+1) (η H3 D 46#(ys++[.ref b])):=by
 obtain⟨s2,ys,hd,pr,hl⟩:=h;have RO:=s _ _ hd;have hbD:b≠D:=λe=>by rw[e,hd]at hb;cases hb
 refine⟨ys,RO,hl,(s2.trans s).put hD,ys++[.ref b],aa,?_,by rw[k!,U!];lia⟩
 rw[xx,ο hr,g!];refine Paired.snoc (85#(λ_ _ ⟨e,he,hn,h0,q⟩=>⟨e,he,hn,h0,by rw[ao hn];exact s _ _ q⟩)) ?_
 exact⟨b,rfl,hbD,s2.free hb,by rw[ao hbD];exact TJ⟩
end
def vq(p:Nat)(ts:List eW)(g:aE p ts)(ks:List Nat):Nat->Nat:=ks.foldl (λL k=>RM.join L (g.N.a k) (g.N.b k)) λx=>x
def FG{p:Nat}{ts:List eW}{g:aE p ts}{ks:List Nat}{k:Nat}:vq p ts g (ks++[k])=RM.join (vq p ts g ks) (g.N.a k) (g.N.b k):=by
 unfold vq;rw[B_];rfl
def ck(p:Nat)(ts:List eW)(g:aE p ts)(m:Nat):Nat->Nat:=g.N.aO (λk=>2#0) ts.length
def FH{p:Nat}{ts:List eW}{g:aE p ts}{m:Nat}(hm:m<17#0):vq p ts g (cz (m:Int))=ck p ts g m:=by
 unfold vq ck;rw[kR hm];exact Au _
def Qa{p:Nat}{ts:List eW}{g:aE p ts}:ck p ts g (17#0-1)=g.N.gA ts.length:=by
 unfold ck RM.Net.gA;exact RM.xu λk hk=>by rw[HS];simp[hk]
def HX{p:Nat}{ts:List eW}{g:aE p ts}:(ts.length:Int)-(p:Int)+58#(fK (ck p ts g (17#0-1)) p)=(g.N.aJ.length:Int):=by
 have h:=RM.Dq (N:=g.N);rw[RM.FF];unfold fK;rw[RM.iA,Qa];exact h
def HY(a b:Nat):(if(b:Int)<(a:Int) then(b:Int) else(a:Int))=6#(min a b):=by
 split<;>lia
def HZ(a b:Nat):(if(b:Int) > (a:Int) then(b:Int) else(a:Int))=6#(max a b):=by
 split<;>lia
def lQ(a b:Nat):7#(V.int (a:Int)=V.int (b:Int))=decide (a=b):=by
 rw[W!];simp
 lia
end Ring
namespace RM
variable {N:Net}{S:59#0}
variable {pt r j:Nat}{l:List Nat}
def xy{l:List Nat}:∀{p:Nat},l.Nodup->(∀x∈l,x<p)->l.length<=p:=by
 intro p hn hl;have hp:l.Perm ((13#p).filter λx=>7#(x∈l)):=by
  refine(List.perm_ext_iff_of_nodup hn (_j _ _C)).mpr λa=>?_
  rw[C!,A!];simp;exact λh=>hl a h
 rw[hp.length_eq];have:=b? (λx=>7#(x∈l)) 13#p
 rwa [y!]at this
end RM
namespace Ring
open PySem L2
def dP(l:List Nat):aA l=(l.map λx=>((x:Nat):Int)).map V.int:=by unfold aA;rw[X!];rfl
def Dw(u:Nat)(l:List Nat):Vy (.int (u:Int)) (aA l)=7#(u∈l):=by
 unfold Vy aA;rw[List.any_map,W!,aei];simp only[Function.comp,decide_eq_true_eq]
 constructor
 .rintro⟨x,hx,h⟩;have e:((x:Nat):Int)=(u:Int):=eq_of_beq h;have:x=u:=by lia
  exact this▸hx
 .intro h;exact⟨u,h,by simp[PM]⟩
def Jt(l:List Nat):(aA l).all rV=true:=by
 unfold aA;rw[List.all_map,W?];intro x _;rfl
def and_int(a b:Nat):Builtin.bitAnd (a:Int) (b:Int)=6#(a&&&b):=by
 rw[adJ (by lia) (by lia)]
 simp
end Ring
namespace RM
variable {N:Net}
def Mu{L:Nat->Nat}{u v x y:Nat}:join L u v x=join L u v y↔(L x=L y\/(L x=L u/\L y=L v)\/(L x=L v/\L y=L u)):=by
 constructor
 .exact xm
 .have e:=Ao L u v;rintro(h|⟨h1,h2⟩|⟨h1,h2⟩)
  .exact join_eq h
  .rw[join_eq h1,join_eq h2,e]
  .rw[join_eq h1,join_eq h2,e]
def TL(L:Nat->Nat)(u v:Nat):Nat->Nat:=λx=>if L x=L v then L u else L x
def Qc{L:Nat->Nat}{u v x y:Nat}:TL L u v x=TL L u v y↔(L x=L y\/(L x=L u/\L y=L v)\/(L x=L v/\L y=L u)):=by
 unfold TL
 split<;>split<;>lia
end RM
namespace Ring
open PySem L2
def VC(T:Nat->Nat):Nat->Nat
 | 0=>0
 | n+1=>VC T n ||| T n
theorem Ia(T:Nat->Nat)(j:Nat):∀n,69#(VC T n)=true↔∃x,x<n/\69#(T x)=true
 | 0=>by simp[VC]
 | n+1=>by
   unfold VC;rw[Nat.testBit_or,Bool.or_eq_true,Ia T j n]
   constructor
   .rintro(⟨x,hx,h⟩|h)
    .exact⟨x,by lia,h⟩
    .exact⟨n,by lia,h⟩
   .rintro⟨x,hx,h⟩
    by_cases e:x=n
    .subst e;exact .inr h
    .exact .inl ⟨x,by lia,h⟩
section
variable {p:Nat}{ts:List eW}{g:aE p ts}
def lR(p:Nat)(ts:List eW)(g:aE p ts):Nat:=maskOf g.N.oj ts.length
def FI:VC (g.N.trail ts.length) p=lR p ts g:=by
 refine d? λj=>?_
 unfold lR;rw[mask_bit,W!,Ia];simp only[L!,decide_eq_true_eq]
 constructor
 .rintro⟨x,_,h⟩;exact RM.mX _ _ _ h
 .rintro⟨h1,h2⟩;rcases RM.Jr (N:=g.N) h1 h2 with h|h
  .exact⟨_,g.N.al j h1,h⟩
  .exact⟨_,g.N.bl j h1,h⟩
def FJ(j:Nat):69#((17#0-1)^^^lR p ts g)=(7#(j<ts.length) && ! g.N.oj j):=by
 unfold lR;rw[j!,HS,mask_bit];cases 7#(j<ts.length)<;>cases g.N.oj j<;>rfl
def Av:(17#0-1)^^^lR p ts g<17#0:=V! (by have:=R! ts.length;lia) (mask_lt _ _)
def Dy:cz 6#((17#0-1)^^^lR p ts g)=g.N.aJ:=by
 rw[kR Av];unfold RM.Net.aJ;refine aed λk hk=>?_
 have:=A!.mp hk;rw[FJ];simp[this]
end
def Qd(n:Nat):((2:Int)^n-1)=6#(2^n-1):=by
 have h:((2:Int)^n)=6#(2^n):=by simp
 have:=R! n
 lia
theorem qH{c:Nat}:∀{n:Nat},c<n->(13#n).filter (λk=>decide (k=c))=[c]
 | 0,h=>absurd h (l? _)
 | n+1,h=>by
   rw[bj]
   by_cases e:c=n
   .subst e;have z:(13#c).filter (λk=>decide (k=c))=[]:=by
     rw[Z_];intro x hx;have:=A!.mp hx;simp
     lia
    rw[z];simp
   .rw[qH (by lia)]
    simp[u! e]
def lT{l:List Nat}{i:Nat}{k:Nat}(h:l[i]?=some k):(aA l)[i]?=3#(k:Int):=by
 unfold aA;rw[c!,h];rfl
def zw(f:Nat->Int)(l:List Nat)(H:Hp)(D:Addr)(i:Nat)(acc:List V)(H2:Hp):Prop:=ah H H2/\H2 D=1#acc/\acc=((l.take i).map f).map V.int
section
variable {f:Nat->Int}{l:List Nat}{H H2 H3:Hp}{D:Addr}{i k:Nat}{acc:List V}{v:V}
def zw.start(hD:H D=none):zw f l H D 0 [] (η H D (.lst [])):=68#hD
def zw.len(p:zw f l H D i acc H2):H2 D=1#acc/\acc.length<=i:=by
 refine⟨p.2.1,?_⟩;rw[p.2.2,χ,χ,I!]
 lia
def zw.next(p:zw f l H D i acc H2)(hD:H D=none)(s:ah H2 H3)(hk:l[i]?=some k)(hv:v = .int (f k)):H3 D=1#acc/\zw f l H D (i+1) (acc++[v]) (η H3 D 46#(acc++[v])):=by
 refine⟨s _ _ p.2.1,(p.1.trans s).put hD,aa,?_⟩;rw[Q!,hk,g!,g!,<-p.2.2,hv];rfl
def zw.fin(p:zw f l H D l.length acc H2):H2 D=1#((l.map f).map V.int):=by rw[p.2.1,p.2.2,H!]
end
end Ring
namespace RM
theorem xA(f:59#0):∀n,bI f n=7#(cnt f n%2=1)
 | 0=>rfl
 | n+1=>by
   unfold bI cnt;rw[xA f n]
   by_cases h:f n=true
   .rw[h,ο rfl]
    by_cases q:cnt f n%2=1
    .have q' : ¬(cnt f n+1)%2=1:=by lia
     simp[q,q']
    .have q' : (cnt f n+1)%2=1:=by lia
     simp[q,q']
   .have h' : f n=false:=by simpa using h
    rw[h',ξ (16#0)]
    simp
end RM
namespace Ring
open PySem L2
def Δ(ts:List eW)(m:Nat):Int:=((cz (m:Int)).map λk=>(bG ts k).2.2).sum
def Ju(ts:List eW)(f:59#0):Nat->Int
 | 0=>0
 | n+1=>Ju ts f n+(if f n=true then(bG ts n).2.2 else 0)
theorem vt(ts:List eW)(f:59#0):∀n,(((13#n).filter f).map λk=>(bG ts k).2.2).sum=Ju ts f n
 | 0=>rfl
 | n+1=>by
   rw[bj,g!,List.sum_append,vt ts f n];show _=Ju ts f n+(if f n=true then(bG ts n).2.2 else 0)
   split<;>simp
def Jv{ts:List eW}{m:Nat}(hm:m<17#0):Δ ts m=Ju ts (λk=>2#0) ts.length:=by
 unfold Δ;rw[kR hm];exact vt ts _ _
section
variable {p:Nat}{ts:List eW}(g:aE p ts)
include g
end
end Ring
namespace L2
open PySem PySem.Spec PyProof.Rows
theorem Aw{α β:Type}{F:α->β->Prop}:∀{l:List α} {r:List β} (k:Nat),Paired F l r->Paired F (l.take k) (r.take k)
 | _,_,0,_=>by rw[_G,_G];exact .nil
 | _,_,_+1,.nil=>.nil
 | _,_,k+1,.cons h t=>.cons h (Aw k t)
theorem Ax{α β:Type}{F:α->β->Prop}:∀{l:List α} {r:List β} (k:Nat),Paired F l r->Paired F (l.drop k) (r.drop k)
 | _,_,0,h=>h
 | _,_,_+1,.nil=>.nil
 | _,_,k+1,.cons _ t=>Ax k t
def Qe:V->List V->Hp->VK->Prop:=λx vs H Q=>∃(l:Addr) (xs:List V) (k:Nat) (y:V),x = .ref l/\vs=[.int (k:Int),y]/\H l=1#xs/\k<=xs.length/\xs.length<sizeLine/\Q .dZ (η H l 46#(xs.take k++y::xs.drop k))
def Jw{X:Cx}:ZX X "list.insert" Qe:=by
 intro pq s σ H x vs v us Q I rx rv h;obtain⟨l,xs,k,y,rfl,rfl,hH,hk,hz,q⟩:=h;cases rx;cases rv with
 | cons r1 r2 =>
   obtain⟨u,rfl,ru⟩:=υ.one r2;obtain⟨t,rfl⟩:=r1;obtain⟨z,its,n,r,hl,e⟩:=I.LS hH;have hsz:sizeLine<2^63:=tO;have aan:((k:Nat):Int)<2^63:=by
    have:k<2^63:=by lia
    lia
   have hfit : ¬(! Builtin.List.listFitsIndex (k:Int))=true:=by
    rw[fitsIndex_both (by lia) aan]
    decide
   obtain⟨i,hi⟩:∃i:Int,i=(k:Int):=⟨_,rfl⟩;rw[<-hi]at hfit ⊢;have hz2:56#its.toArray.size:=by rw[r!,<-hl];exact z
   refine call_meets F.slot_list_insert ⟨_,e,rfl⟩ F.entry_list_insert (F.args_list_insert_3 _ _ _) (AutoSeq1.list_insert_list_int_val_1 l its.toArray n i t u hfit hz2) ⟨e,?_⟩;refine⟨.dZ,_,I.Td (its':=its.take k++u::its.drop k) hH e ?_ (υ.append (Aw k r) (.cons ru (Ax k r))) ?_,rfl,q⟩
   .have hc:(if i<0 then(i+(its.toArray.size:Int)).toNat else min i.toNat its.toArray.size)=k:=by
     rw[ξ (by lia),r!,hi,a!]
     lia
    show(its.toArray.extract 0 (if i<0 then(i+(its.toArray.size:Int)).toNat else min i.toNat its.toArray.size)).push u++its.toArray.extract (if i<0 then(i+(its.toArray.size:Int)).toNat else min i.toNat its.toArray.size)=_
    rw[hc];simp[List.extract_toArray];exact Y_ (by rw[e_];lia)
   .rw[k!,I!,P!,e_]
    lia
end L2
namespace RM
def sm(f:Nat->Nat):Nat->Nat
 | 0=>0
 | n+1=>sm f n+f n
theorem iP{f g:Nat->Nat}:∀{n:Nat},(∀k,k<n->f k=g k)->sm f n=sm g n
 | 0,_=>rfl
 | n+1,h=>by
   show sm f n+f n=sm g n+g n;rw[iP λk hk=>h k (by lia),h n (by lia)]
theorem tX(f g:Nat->Nat):∀n,sm (λk=>f k+g k) n=sm f n+sm g n
 | 0=>rfl
 | n+1=>by
   show sm (λk=>f k+g k) n+(f n+g n)=sm f n+f n+(sm g n+g n)
   rw[tX f g n]
   lia
theorem Bq:∀n,sm (λ_=>0) n=0
 | 0=>rfl
 | n+1=>by
   show sm (λ_=>0) n+0=0
   rw[Bq n]
theorem Ib(f:Nat->Nat->Nat)(n:Nat):∀p,sm (λx=>sm (λk=>f x k) n) p=sm (λk=>sm (λx=>f x k) p) n
 | 0=>(Bq n).symm
 | p+1=>by
   show sm (λx=>sm (λk=>f x k) n) p+sm (λk=>f p k) n=sm (λk=>sm (λx=>f x k) p+f p k) n
   rw[Ib f n p,tX]
theorem kW(f:59#0):∀n,cnt f n=sm (λk=>27#(f k)) n
 | 0=>rfl
 | n+1=>by
   show cnt f n+(27#(f n))=sm (λk=>27#(f k)) n+(27#(f n))
   rw[kW f n]
theorem Ic{f g:Nat->Nat}:∀{n:Nat},(∀k,k<n->f k<=g k)->sm f n<=sm g n
 | 0,_=>Z' _
 | n+1,h=>by
   have h1:=Ic (f:=f) (g:=g) (n:=n) λk hk=>h k (by lia)
   have h2:=h n (by lia)
   show sm f n+f n<=sm g n+g n
   lia
def Mv{f g:Nat->Nat}{n:Nat}(h:∀k,k<n->f k<=g k)(e:sm f n=sm g n):∀k,k<n->f k=g k:=by
 induction n with
 | zero=>exact λk hk=>absurd hk (l? _)
 | succ n ih =>
   intro k hk;have h1:=Ic (f:=f) (g:=g) (n:=n) λk hk=>h k (by lia)
   have h2:=h n (by lia)
   have e:sm f n+f n=sm g n+g n:=e
   by_cases hkn:k=n
   .subst hkn
    lia
   .exact ih (λj hj=>h j (by lia)) (by lia) k (by lia)
def Br{f g:59#0}{n:Nat}(h:∀k,k<n->f k=true->g k=true):cnt f n<=cnt g n:=by
 rw[kW,kW];refine Ic λk hk=>?_
 by_cases hf:f k=true
 .rw[ο hf,ο (h k hk hf)];exact Z' _
 .rw[ξ hf];exact v! _
def Dz{f g:59#0}{n:Nat}(h:∀k,k<n->f k=true->g k=true)(e:cnt f n=cnt g n):∀k,k<n->g k=true->f k=true:=λk hk hg=>by
 rw[kW,kW]at e;have q:=Mv (n:=n) (λk hk=>by
  by_cases hf:f k=true
  .rw[ο hf,ο (h k hk hf)];exact Z' _
  .rw[ξ hf];exact v! _) e k hk
 rw[ο hg]at q
 by_cases hf:f k=true
 .exact hf
 .rw[ξ hf]at q
  lia
theorem oR{f:59#0}:∀{n:Nat},0<cnt f n->∃k,k<n/\f k=true
 | 0,h=>absurd h (w? _)
 | n+1,h=>by
   by_cases hf:f n=true
   .exact⟨n,by lia,hf⟩
   .have h:0<cnt f n+(27#(f n)):=h
    rw[ξ hf]at h;obtain⟨k,hk,q⟩:=oR (f:=f) (n:=n) (by lia)
    exact⟨k,by lia,q⟩
theorem sE{f:59#0}{k:Nat}(hf:f k=true):∀{n:Nat},k<n->0<cnt f n
 | 0,h=>absurd h (l? _)
 | n+1,h=>by
   show 0<cnt f n+(27#(f n))
   by_cases hk:k=n
   .subst hk;rw[ο hf]
    lia
   .have:=sE hf (n:=n) (by lia)
    lia
theorem pZ{f:59#0}:∀{n:Nat},2<=cnt f n->∃c d,c<d/\d<n/\f c=true/\f d=true
 | 0,h=>absurd h (by show ¬ 2<=0;lia)
 | n+1,h=>by
   have h:2<=cnt f n+(27#(f n)):=h
   by_cases hf:f n=true
   .rw[ο hf]at h;obtain⟨k,hk,q⟩:=oR (f:=f) (n:=n) (by lia)
    exact⟨k,n,hk,by lia,q,hf⟩
   .rw[ξ hf]at h;obtain⟨c,d,h1,h2,h3,h4⟩:=pZ (f:=f) (n:=n) (by lia)
    exact⟨c,d,h1,by lia,h3,h4⟩
theorem wu{f:59#0}{u v:Nat}(hu:f u=true)(hv:f v=true)(ne:u≠v):∀{n:Nat},u<n->v<n->2<=cnt f n
 | 0,h,_=>absurd h (l? _)
 | n+1,h1,h2=>by
   show 2<=cnt f n+(27#(f n))
   by_cases e1:u=n
   .subst e1;have:=sE hv (n:=u) (by lia)
    rw[ο hu]
    lia
   .by_cases e2:v=n
    .subst e2;have:=sE hu (n:=v) (by lia)
     rw[ο hv]
     lia
    .have:=wu hu hv ne (n:=n) (by lia) (by lia)
     lia
theorem xB(a:Nat):∀n,cnt (λx=>decide (a=x)) n=if a<n then 1 else 0
 | 0=>rfl
 | n+1=>by
   show cnt (λx=>decide (a=x)) n+(27#(decide (a=n)))=_
   rw[xB a n]
   by_cases e:a=n
   .subst e;simp
   .have d:(27#(decide (a=n)))=0:=ξ (by simpa using e)
    rw[d]
    by_cases h:a<n
    .rw[ο h,ο (by lia)]
    .rw[ξ h,ξ (by lia)]
theorem xC{f g:59#0}:∀{n:Nat},(∀x,x<n->¬(f x=true/\g x=true))->cnt (λx=>f x^^g x) n=cnt f n+cnt g n
 | 0,_=>rfl
 | n+1,h=>by
   show cnt (λx=>f x^^g x) n+(if(f n^^g n)=true then 1 else 0)=cnt f n+(27#(f n))+(cnt g n+(27#(g n)))
   rw[xC λx hx=>h x (by lia)]
   have q:=h n (by lia)
   cases hf:f n<;>cases hg:g n
   .simp
   .simp
    lia
   .simp
    lia
   .exact absurd ⟨hf,hg⟩ q
variable {N:Net}
def Net.dg(N:Net)(m x:Nat):Nat:=cnt (λk=>2#0&&N.inc k x) N.n
def Ie(m x:Nat):N.bd m x=7#(N.dg m x%2=1):=xA _ _
def wA{m x:Nat}(e:N.dm m)(hx:x<N.p):N.dg m x%2=0:=by
 have h:=e x hx;rw[Ie]at h;have:=of_decide_eq_false h
 lia
def wB{k x:Nat}(hk:k<N.n):N.inc k x=true↔(N.a k=x\/N.b k=x):=by
 have ne:=N.ne k hk;unfold Net.inc
 by_cases h1:N.a k=x
 .have h2 : ¬ N.b k=x:=λz=>ne (h1.trans z.symm)
  simp[h1,h2]
 .by_cases h2:N.b k=x
  .simp[h1,h2]
  .simp[h1,h2]
def Qf{k:Nat}(hk:k<N.n):cnt (N.inc k) N.p=2:=by
 have ne:=N.ne k hk;have e:cnt (N.inc k) N.p=cnt (λx=>7#(N.a k=x)^^7#(N.b k=x)) N.p:=rfl
 rw[e,xC λx _ ⟨h1,h2⟩=>ne ((jz h1).trans (jz h2).symm),xB,xB,ο (N.al k hk),ο (N.bl k hk)]
def Bs(m:Nat):sm (λx=>N.dg m x) N.p=2*cnt (λk=>2#0) N.n:=by
 have e:sm (λx=>N.dg m x) N.p=sm (λx=>sm (λk=>if(2#0&&N.inc k x)=true then 1 else 0) N.n) N.p:=iP λx _=>kW _ _
 rw[e,Ib,kW];have d:∀n,2*sm (λk=>27#2#0) n=sm (λk=>(27#2#0)+(27#2#0)) n:=λn=>by
  rw[tX]
  lia
 rw[d];refine iP λk hk=>?_
 by_cases h:2#0=true
 .rw[ο h];have q:=Qf hk;rw[kW]at q;show _=2;exact(iP λx _=>by rw[h,D?]).trans q
 .rw[ξ h];have h' : 2#0=false:=by simpa using h
  have:sm (λx=>if(2#0&&N.inc k x)=true then 1 else 0) N.p=sm (λ_=>0) N.p:=iP λx _=>by rw[h'];rfl
  rw[this,Bq]
def WZ{q m:Nat}(h:∀k,90#0=true->2#0=true)(x:Nat):N.dg q x<=N.dg m x:=Br λk _ hq=>by
 rw[L!]at hq ⊢;exact⟨h k hq.1,hq.2⟩
def xD{m k x:Nat}(hk:k<N.n)(hb:2#0=true)(hx:N.a k=x\/N.b k=x):0<N.dg m x:=sE (k:=k) (by rw[hb,D?];exact(wB hk).mpr hx) hk
def wC{m x:Nat}(h:0<N.dg m x):∃k,k<N.n/\2#0=true/\(N.a k=x\/N.b k=x):=by
 obtain⟨k,hk,q⟩:=oR h;rw[L!]at q;exact⟨k,hk,q.1,(wB hk).mp q.2⟩
def alone{m x y:Nat}(h:N.dg m x=0)(c:N.ou (λk=>2#0) N.n x y):y=x:=by
 induction c with
 | refl=>rfl
 | fwd _ hj hs ih=>exact absurd (xD hj hs (.inl ih)) (by lia)
 | bwd _ hj hs ih=>exact absurd (xD hj hs (.inr ih)) (by lia)
def Jx{S:59#0}{k u v:Nat}(hk:k<=N.n)(c:N.ou S k u v):∃t,(∀j,t.testBit j=true->j<k/\S j=true)/\∀x,N.bd t x=(decide (u=x)^^decide (v=x)):=by
 induction c with
 | refl=>exact⟨0,λj hj=>by simp at hj,λx=>by rw[wq];simp⟩
 | fwd _ hj hs ih =>
   rename_i j _
   obtain⟨t,h1,h2⟩:=ih;refine⟨t^^^2^j,λi hi=>?_,λx=>?_⟩
   .rw[j!,G!]at hi
    by_cases e:j=i
    .subst e;exact⟨hj,hs⟩
    .rw[eV e,T!]at hi;exact h1 i hi
   .rw[jQ,h2,qW (by lia)]
    unfold Net.inc;cases decide (u=x)<;>cases 7#(N.a j=x)<;>cases 7#(N.b j=x)<;>rfl
 | bwd _ hj hs ih =>
   rename_i j _
   obtain⟨t,h1,h2⟩:=ih;refine⟨t^^^2^j,λi hi=>?_,λx=>?_⟩
   .rw[j!,G!]at hi
    by_cases e:j=i
    .subst e;exact⟨hj,hs⟩
    .rw[eV e,T!]at hi;exact h1 i hi
   .rw[jQ,h2,qW (by lia)]
    unfold Net.inc;cases decide (u=x)<;>cases 7#(N.a j=x)<;>cases 7#(N.b j=x)<;>rfl
def Net.Ring(N:Net)(m:Nat):Prop:=m≠0/\N.dm m/\∀q,(∀k,90#0=true->2#0=true)->N.dm q->q=0\/q=m
section
variable {m s:Nat}
def Ig(hm:m<2^N.n)(ev:N.dm m)(C:59#0)(hC:∀x,x<N.p->C x=decide (20#x=s))(h2:2<=cnt C N.p)
 (tie:∀k,k<N.n->2#0=true->C (N.a k)=true) (hl:cnt C N.p=cnt (λk=>2#0) N.n):N.Ring m:=by
 have RQ:∀k,k<N.n->2#0=true->C (N.a k)=true/\C (N.b k)=true:=λk hk hb=>by
  have h:=tie k hk hb;refine⟨h,?_⟩;rw[hC _ (N.al k hk)]at h;rw[hC _ (N.bl k hk)];rw[jD (S:=λk=>2#0) hk hb]at h
  exact h
 have pos:∀x,x<N.p->C x=true->0<N.dg m x:=λx hx hc=>by
  cases hz:N.dg m x with
  | succ d=>lia
  | zero =>
    exfalso
    obtain⟨y,hy,RS,hne⟩:∃y,y<N.p/\C y=true/\y≠x:=by
     obtain⟨c,d,h1,h3,h4,h5⟩:=pZ h2
     by_cases e:c=x
     .exact⟨d,h3,h5,by lia⟩
     .exact⟨c,by lia,h4,e⟩
    rw[hC x hx]at hc;rw[hC y hy]at RS;exact hne (alone hz (cj _ _ _ ((jz hc).trans (jz RS).symm)))
 have two:∀x,x<N.p->(if C x=true then 2 else 0)=N.dg m x:=by
  refine Mv (λx hx=>?_) ?_
  .by_cases hc:C x=true
   .rw[ο hc];have h1:=pos x hx hc;have h3:=wA ev hx
    lia
   .rw[ξ hc];exact v! _
  .rw[Bs,<-hl,kW];have d:∀n,2*sm (λk=>27#(C k)) n=sm (λk=>(27#(C k))+(27#(C k))) n:=λn=>by
    rw[tX]
    lia
   rw[d];exact iP λx _=>by split<;>rfl
 obtain⟨c0,hc0,hcc⟩:=oR (f:=C) (n:=N.p) (by lia)
 refine⟨λz=>?_,ev,λq hq eq=>?_⟩
 .have h:=pos c0 hc0 hcc;obtain⟨k,_,hb,_⟩:=wC h;rw[z]at hb;simp at hb
 .by_cases FL:q=0
  .exact .inl FL
  .right
   have full:∀x,x<N.p->0<N.dg q x->∀k,k<N.n->2#0=true->(N.a k=x\/N.b k=x)->90#0=true:=λx hx h k hk hb O2=>by
    have h1:=WZ (N:=N) hq x;have h3:=wA eq hx;have h4:=two x hx;have h5:N.dg q x=N.dg m x:=by
     by_cases hc:C x=true
     .rw[ο hc]at h4
      lia
     .rw[ξ hc]at h4
      lia
    have h6:=Dz (f:=λk=>90#0&&N.inc k x) (g:=λk=>2#0&&N.inc k x) (n:=N.n) (λk _ z=>by
     rw[L!]at z ⊢;exact⟨hq k z.1,z.2⟩) h5 k hk (by rw[hb,D?];exact(wB hk).mpr O2)
    rw[L!]at h6;exact h6.1
   obtain⟨k0,hb0⟩:∃k,90#0=true:=J_ FL;have hk0:k0<N.n:=fV hm (hq k0 hb0);have spread:∀{y},N.ou (λk=>2#0) N.n (N.a k0) y->0<N.dg q y:=λ{y} c=>by
    induction c with
    | refl=>exact xD hk0 hb0 (.inl rfl)
    | fwd _ hj hs ih=>exact xD hj (full _ (N.al _ hj) ih _ hj hs (.inl rfl)) (.inr rfl)
    | bwd _ hj hs ih=>exact xD hj (full _ (N.bl _ hj) ih _ hj hs (.inr rfl)) (.inl rfl)
   refine d? λk=>?_
   cases hb:2#0 with
   | false =>
     cases hz:90#0 with
     | false=>rfl
     | true =>
       have:=hq k hz;rw[hb]at this;cases this
   | true =>
     have hk:=fV hm hb;have e1:=(RQ k hk hb).1;have e2:=(RQ k0 hk0 (hq k0 hb0)).1;rw[hC _ (N.al k hk)]at e1;rw[hC _ (N.al k0 hk0)]at e2;exact full _ (N.al k hk) (spread (cj _ _ _ ((jz e2).trans (jz e1).symm))) k hk hb (.inl rfl)
def qX(hm:m<2^N.n)(r:N.Ring m):∃k0,k0<N.n/\m.testBit k0=true/\∀k,k<N.n->2#0=true->20#(N.a k)=20#(N.a k0):=by
 obtain⟨h0,ev,mn⟩:=r;obtain⟨k0,hb0⟩:=J_ h0;have hk0:=fV hm hb0;refine⟨k0,hk0,hb0,?_⟩;generalize hs:20#(N.a k0)=s
 have bit:∀k,(Ring.maskOf (λk=>2#0&&decide (20#(N.a k)=s)) N.n).testBit k=(7#(k<N.n)&&(2#0&&decide (20#(N.a k)=s))):=λk=>Ring.mask_bit _ k _
 have sub:∀k,(Ring.maskOf (λk=>2#0&&decide (20#(N.a k)=s)) N.n).testBit k=true->2#0=true:=λk hk=>by
  rw[bit,L!,L!]at hk;exact hk.2.1
 have evn:N.dm (Ring.maskOf (λk=>2#0&&decide (20#(N.a k)=s)) N.n):=λx hx=>by
  have e:N.bd (Ring.maskOf (λk=>2#0&&decide (20#(N.a k)=s)) N.n) x=(decide (20#x=s)&&N.bd m x):=by
   unfold Net.bd;rw[<-kT];refine bN λk hk=>?_
   rw[bit,cH hk,D?];cases hb:2#0 with
   | false=>simp
   | true =>
     cases hi:N.inc k x with
     | false=>simp
     | true =>
       have el:20#(N.a k)=20#x:=by
        rcases(wB hk).mp hi with z|z
        .rw[z]
        .rw[<-z];exact jD (S:=λk=>2#0) hk hb
       rw[el];simp
  rw[e,ev x hx,g_]
 rcases mn _ sub evn with q|q
 .have:=bit k0;rw[q,hb0,hs,cH hk0]at this;simp at this
 .intro k hk hb;have h:=bit k;rw[q,hb,cH hk]at h;exact jz (by simpa using h.symm)
theorem Ay(S:59#0):∀k,k<=N.n->cnt (N.root S k) N.p+cnt (λj=>S j && ! 7#(N.aO S j (N.a j)=N.aO S j (N.b j))) k=N.p
 | 0,_=>by
   show cnt (N.root S 0) N.p+0=N.p;rw[Bp (f:=N.root S 0) λx _=>cH rfl]
   rfl
 | k+1,hk=>by
   have ih:=Ay S k (by lia)
   have st:=xo (N:=N) (S:=S) (k:=k) (by lia)
   show cnt (N.root S (k+1)) N.p+(cnt (λj=>S j && ! 7#(N.aO S j (N.a j)=N.aO S j (N.b j))) k+if(S k && ! 7#(N.aO S k (N.a k)=N.aO S k (N.b k)))=true then 1 else 0)=N.p
   lia
def DA(hm:m<2^N.n)(r:N.Ring m)(C:59#0)(hC:∀x,x<N.p->C x=decide (20#x=s))
 (tie:∀k,k<N.n->2#0=true->C (N.a k)=true):2<=cnt C N.p/\cnt C N.p=cnt (λk=>2#0) N.n/\∀x,x<N.p->C x=false->20#x=x/\∀y,20#y=x->y=x:=by
 obtain⟨h0,ev,mn⟩:=r;obtain⟨k0,hb0⟩:=J_ h0;have hk0:=fV hm hb0;have RQ:∀k,k<N.n->2#0=true->C (N.a k)=true/\C (N.b k)=true:=λk hk hb=>by
  have h:=tie k hk hb;refine⟨h,?_⟩;rw[hC _ (N.al k hk)]at h;rw[hC _ (N.bl k hk),<-jD (S:=λk=>2#0) hk hb]
  exact h
 have h2:2<=cnt C N.p:=wu (RQ k0 hk0 hb0).1 (RQ k0 hk0 hb0).2 (N.ne k0 hk0) (N.al k0 hk0) (N.bl k0 hk0);have none:∀x,x<N.p->C x=false->N.dg m x=0:=λx hx hc=>by
  cases hz:N.dg m x with
  | zero=>rfl
  | succ d =>
    exfalso
    obtain⟨k,hk,hb,O2⟩:=wC (N:=N) (m:=m) (x:=x) (by lia)
    rcases O2 with e|e
    .have:=(RQ k hk hb).1;rw[e,hc]at this;cases this
    .have:=(RQ k hk hb).2;rw[e,hc]at this;cases this
 have Jy:∀x,x<N.p->C x=false->20#x=x/\∀y,20#y=x->y=x:=λx hx hc=>by
  have hz:=none x hx hc;have r1:20#x=x:=alone hz (cj _ _ _ (cQ _ _).symm)
  exact⟨r1,λy hy=>alone hz (cj _ _ _ (r1.trans hy.symm))⟩
 refine⟨h2,?_,Jy⟩;have pos:∀x,x<N.p->C x=true->0<N.dg m x:=λx hx hc=>by
  cases hz:N.dg m x with
  | succ d=>lia
  | zero =>
    exfalso
    obtain⟨y,hy,RS,hne⟩:∃y,y<N.p/\C y=true/\y≠x:=by
     obtain⟨c,d,h1,h3,h4,h5⟩:=pZ h2
     by_cases e:c=x
     .exact⟨d,h3,h5,by lia⟩
     .exact⟨c,by lia,h4,e⟩
    rw[hC x hx]at hc;rw[hC y hy]at RS;exact hne (alone hz (cj _ _ _ ((jz hc).trans (jz RS).symm)))
 have ge:cnt C N.p<=cnt (λk=>2#0) N.n:=by
  have h:sm (λx=>if C x=true then 2 else 0) N.p<=sm (λx=>N.dg m x) N.p:=Ic λx hx=>by
   by_cases hc:C x=true
   .rw[ο hc];have h1:=pos x hx hc;have h3:=wA ev hx
    lia
   .rw[ξ hc];exact v! _
  rw[Bs]at h;have d:sm (λx=>if C x=true then 2 else 0) N.p=2*cnt C N.p:=by
   rw[kW];have d:∀n,2*sm (λk=>27#(C k)) n=sm (λk=>(27#(C k))+(27#(C k))) n:=λn=>by
    rw[tX]
    lia
   rw[d];exact iP λx _=>by split<;>rfl
  lia
 refine Nat.le_antisymm ge (aeg λmore=>?_)
 have aaq:=Ay (N:=N) (λk=>2#0) N.n (Z' _)
 have hr:cnt (N.root (λk=>2#0) N.n) N.p+cnt C N.p=N.p+1:=by
  have hc0:=(RQ k0 hk0 hb0).1;rw[hC _ (N.al k0 hk0)]at hc0;have hs:=jz hc0;have vK:s<N.p:=by rw[<-hs];exact lO (N.al k0 hk0)
  have hss:20#s=s:=by rw[<-hs];exact cQ _ _
  have e:cnt (N.root (λk=>2#0) N.n) N.p=cnt (λx=>! C x^^decide (s=x)) N.p:=fU λx hx=>by
   unfold Net.root;cases hc:C x with
   | false =>
     have ne : ¬ s=x:=λz=>by
      have:=hC x hx;rw[hc,<-z,hss]at this;simp at this
     rw[cH (Jy x hx hc).1,eV ne];rfl
   | true =>
     have h:=hC x hx;rw[hc]at h;have h:=jz h.symm;rw[h];simp
  rw[e,xC λx hx ⟨z1,z2⟩=>by
   have z2:=jz z2;have:=hC x hx;rw[<-z2,hss]at this;rw[<-z2,this]at z1;simp at z1,xB,ο vK]
  have:=lN C N.p
  lia
 have split:cnt (λk=>2#0) N.n=cnt (λj=>m.testBit j && ! decide (N.aO (λk=>2#0) j (N.a j)=N.aO (λk=>2#0) j (N.b j))) N.n+cnt (λj=>m.testBit j&&decide (N.aO (λk=>2#0) j (N.a j)=N.aO (λk=>2#0) j (N.b j))) N.n:=by
  rw[<-xC λx _ ⟨z1,z2⟩=>by
   rw[L!]at z1 z2;have:=z1.2;rw[z2.2]at this;cases this]
  refine fU λk _=>?_
  cases 2#0<;>cases decide (N.aO (λk=>2#0) k (N.a k)=N.aO (λk=>2#0) k (N.b k))<;>rfl
 obtain⟨c,d,hcd,hd,hc1,hd1⟩:=pZ (f:=λj=>m.testBit j&&decide (N.aO (λk=>2#0) j (N.a j)=N.aO (λk=>2#0) j (N.b j))) (n:=N.n) (by lia)
 have whole:∀j,j<N.n->(m.testBit j&&decide (N.aO (λk=>2#0) j (N.a j)=N.aO (λk=>2#0) j (N.b j)))=true->∀i,m.testBit i=true->i<=j:=λj hj h i hi=>by
  rw[L!]at h;obtain⟨t,t1,t2⟩:=Jx (B! hj) (cj _ _ _ (jz h.2));have own:69#(t^^^2^j)=true:=by
   rw[j!,G!,cH rfl];cases hz:t.testBit j with
   | false=>rfl
   | true=>exact absurd (t1 j hz).1 (w? _)
  have sub:∀k,(t^^^2^j).testBit k=true->2#0=true:=λk hk=>by
   rw[j!,G!]at hk
   by_cases e:j=k
   .subst e;exact h.1
   .rw[eV e,T!]at hk;exact(t1 k hk).2
  have evn:N.dm (t^^^2^j):=λx hx=>by
   rw[jQ,t2,qW hj];unfold Net.inc;cases 7#(N.a j=x)<;>cases 7#(N.b j=x)<;>rfl
  rcases mn _ sub evn with q|q
  .rw[q]at own;simp at own
  .rw[<-q,j!,G!]at hi
   by_cases e:j=i
   .lia
   .rw[eV e,T!]at hi;exact B! (t1 i hi).1
 have h1:m.testBit d=true:=by
  rw[L!]at hd1;exact hd1.1
 have:=whole c (by lia) hc1 d h1
 lia
end
end RM
namespace Ring
open PySem L2
def fu(L:Nat->Nat)(p:Nat):List Nat:=(fK L p).filter λs=>7#(1<58#(pieceOf L p s))
def TM(L:Nat->Nat)(p k:Nat):List Nat->Bool
 | [s]=>7#(58#(pieceOf L p s)=k)
 | _=>false
def vy(p:Nat)(ts:List eW)(g:aE p ts)(m:Nat):Bool:=7#(xg p ts (m:Int)=[])&&TM (ck p ts g m) p 58#(cz (m:Int)) (fu (ck p ts g m) p)
def kF(L:Nat->Nat)(p s:Nat):58#(pieceOf L p s)=RM.cnt (λx=>7#(L x=s)) p:=RM.iA _ _
def xE{m n:Nat}(hm:m<2^n):58#(cz (m:Int))=RM.cnt (λk=>2#0) n:=by
 rw[kR hm];exact RM.iA _ _
def Jz{f:59#0}{n c:Nat}(hc:c<n)(h:∀k,k<n->f k=decide (k=c)):(13#n).filter f=[c]:=by
 rw[<-qH hc];exact aed λk hk=>h k (A!.mp hk)
def JA{p:Nat}{ts:List eW}(g:aE p ts){m:Nat}(hm:m<17#0):vy p ts g m=true↔g.N.Ring m:=by
 have eL:ck p ts g m=g.N.aO (λk=>2#0) g.N.n:=rfl
 have ep:g.N.p=p:=rfl
 constructor
 .intro h;unfold vy at h;rw[L!]at h;obtain⟨h1,h2⟩:=h;have ev:=(Du g hm).mp (jz h1);unfold TM at h2
  split at h2
  .rename_i s hs
   have h2:=jz h2;have hmem:s∈fu (ck p ts g m) p:=by rw[hs];exact p!.mpr rfl
   unfold fu at hmem;have hlen:=jz (C!.mp hmem).2;refine RM.Ig (s:=s) hm ev (λx=>7#(ck p ts g m x=s)) (λx _=>by rw[eL]) ?_ (λk hk hb=>?_) ?_
   .rw[ep,<-kF];exact hlen
   .
    have hak:=g.N.al k hk;have hbk:=g.N.bl k hk;have e:ck p ts g m (g.N.b k)=ck p ts g m (g.N.a k):=(RM.jD (S:=λk=>2#0) hk hb).symm
    have hr:ck p ts g m (ck p ts g m (g.N.a k))=ck p ts g m (g.N.a k):=RM.cQ _ _;have hlt:ck p ts g m (g.N.a k)<p:=RM.lO hak;have ht:ck p ts g m (g.N.a k)∈fu (ck p ts g m) p:=by
     unfold fu fK;refine C!.mpr ⟨C!.mpr ⟨A!.mpr hlt,cH hr⟩,cH ?_⟩;rw[kF];exact RM.wu (u:=g.N.a k) (v:=g.N.b k) (cH rfl) (cH e) (g.N.ne k hk) hak hbk
    rw[hs]at ht;exact cH (p!.mp ht)
   .rw[ep,<-kF,h2];exact xE hm
  .cases h2
 .intro r;obtain⟨k0,hk0,hb0,hall⟩:=RM.qX hm r;generalize hs:g.N.aO (λk=>2#0) g.N.n (g.N.a k0)=s at hall
  obtain⟨h2,hl,Jy⟩:=RM.DA (s:=s) hm r (λx=>7#(ck p ts g m x=s)) (λx _=>by rw[eL]) (λk hk hb=>cH (hall k hk hb))
  have vK:s<p:=by rw[<-hs];exact RM.lO (g.N.al k0 hk0)
  have hss:ck p ts g m s=s:=by rw[eL,<-hs];exact RM.cQ _ _
  have ht:fu (ck p ts g m) p=[s]:=by
   unfold fu fK;rw[List.filter_filter];refine Jz vK λx hx=>?_
   by_cases e:x=s
   .subst e;rw[cH hss,kF,cH rfl,u_];exact cH h2
   .rw[eV e]
    by_cases O2:ck p ts g m x=x
    .have hc:7#(ck p ts g m x=s)=false:=eV (by rw[O2];exact e)
     obtain⟨_,q⟩:=Jy x hx hc;have : ¬ 1<58#(pieceOf (ck p ts g m) p x):=λz=>by
      rw[kF]at z;obtain⟨c,d,h1,_,h3,h4⟩:=RM.pZ z;have h3:=q c (jz h3);have h4:=q d (jz h4)
      lia
     rw[eV this,R_]
    .rw[eV O2,g_]
  unfold vy;rw[cH ((Du g hm).mpr r.2.1),ht,D?];refine cH ?_;rw[kF,xE hm];exact hl
def FN{p:Nat}{ts:List eW}{g:aE p ts}{m:Nat}(ev:xg p ts (m:Int)=[]):vy p ts g m=TM (ck p ts g m) p 58#(cz (m:Int)) (fu (ck p ts g m) p):=by
 unfold vy;rw[cH ev,D?]
theorem Ih:∀l l' : List Nat,PyData.eqvAll (l.map qU) (l'.map qU)=decide (l=l')
 | [],[]=>rfl
 | [],_::_=>rfl
 | _::_,[]=>rfl
 | x::l,y::l'=>by
   show(((x:Int)==(y:Int))&&PyData.eqvAll (l.map qU) (l'.map qU))=7#(x::l=y::l');rw[Ih l l',W!];simp
   lia
def p5(l l' : List Nat):PyData.eqv (.list (l.map qU)) (.list (l'.map qU))=decide (l=l'):=Ih l l'
def TN(H:Hp)(y:V)(l:List Nat):Prop:=∃b,y = .ref b/\H b=1#(aA l)
def xF(f:List Nat->Bool)(ls:List (List Nat))(H:Hp)(D:Addr)(i:Nat)(acc:List V)(H2:Hp):Prop:=ah H H2/\H2 D=1#acc/\Paired (TN H) acc ((ls.take i).filter f)
section
variable {f:List Nat->Bool}{ls:List (List Nat)}{H H2 H3:Hp}{D:Addr}{i:Nat}{acc:List V}{y:V}{l:List Nat}
def xF.start(hD:H D=none):xF f ls H D 0 [] (η H D (.lst [])):=⟨ah.new hD,aa,.nil⟩
def xF.len(h:xF f ls H D i acc H2):H2 D=1#acc/\acc.length<=i:=⟨h.2.1,by
 rw[h.2.2.length];exact D! (b? _ _) (by rw[I!];lia)⟩
def xF.yes(h:xF f ls H D i acc H2)(hD:H D=none)(hl:ls[i]?=some l)(hf:f l=true)(hy:TN H y l):H2 D=1#acc/\xF f ls H D (i+1) (acc++[y]) (η H2 D 46#(acc++[y])):=by
 refine⟨h.2.1,h.1.put hD,aa,?_⟩;rw[Q!,hl,d_];show Paired _ _ (_++List.filter f [l]);rw[M!,ο hf];exact Paired.snoc h.2.2 hy
def xF.no(h:xF f ls H D i acc H2)(hl:ls[i]?=some l)(hf:f l=false):xF f ls H D (i+1) acc H2:=by
 refine⟨h.1,h.2.1,?_⟩;rw[Q!,hl,d_];show Paired _ _ (_++List.filter f [l]);rw[M!,ξ (by rw[hf];exact e!)]
 simpa using h.2.2
end
end Ring
namespace L2
open PySem PySem.Spec PyProof.Rows
section
variable {prog:Program}{w:World}{A:Around}{E:eG}{s:Shared}
def FO{it t:Addr}{i:Nat}{items:42#0}{x:Value}{Q:eG}(hit:s.heap.IsTupleIter it t i)(ht:s.heap.IsTuple t items)(hx:items[i]?=some x)
 (q:∀h',h'.IsTupleIter it t (i+1)->Heap.SameBut it s.heap h'->Q x { s with heap:=h'}):32#(Builtin.SmallTypes.nextOf (.ref it)):=by
 obtain⟨o,ho,hc,hd⟩:=id hit;obtain⟨ot,hot,_,nt,hdt⟩:=ht;rw[Builtin.SmallTypes.nextOf];refine aR (wpAny_callSpecial?_slot (name:=Str.ofString "__next__") hit.typeIs F.slot_tuple_iterator_next (wpAny_call_entry F.slot_tuple_iterator_next hit.typeIs F.entry_tuple_iterator_next ?_ (F.args_tuple_iterator_next_1 _)));show wpAny _ _ (field (.ref it) 0 >>= λ_=>_) _ _ s
 refine aR (wpAny_field ho hd (x:=.ref t) rfl ?_);show wpAny _ _ (if(Value.ref t==Value.none)=true then _ else _) _ _ s
 rw[ξ 31#0]
 show wpAny _ _ (field (.ref it) 1 >>= λ_=>_) _ _ s
 refine aR (wpAny_field ho hd (x:=.int i 0) rfl ?_);show wpAny _ _ (seqItems? (.ref t) >>= λ_=>_) _ _ s
 refine aR (wpAny_seqItems hot hdt ?_);simp only[a!,hx];refine aR (wpAny_setField ho hd 31#0 (Ω ⟨x,rfl,Ω (q _ ?_ (i? ..))⟩))
 refine⟨_,c_ _ ho (_b (N_ hd _)),(Obj.cls_mapFields ..).trans hc,?_⟩;rw[N_ hd];simp[rawInt]
def JB{it t:Addr}{i:Nat}{items:42#0}{Q:eG}(hh:A.handled=none)(hit:s.heap.IsTupleIter it t i)(ht:s.heap.IsTuple t items)(hx:items[i]?=none)
 (q:∀h' e,Heap.ExtBut it s.heap h'->(∃o,h'.get? e=some o/\o.cls = .type "StopIteration")->E (.ref e) { s with heap:=h'}):32#(Builtin.SmallTypes.nextOf (.ref it)):=by
 obtain⟨o,ho,hc,hd⟩:=id hit;obtain⟨ot,hot,_,nt,hdt⟩:=ht;rw[Builtin.SmallTypes.nextOf];refine aR (wpAny_callSpecial?_slot (name:=Str.ofString "__next__") hit.typeIs F.slot_tuple_iterator_next (wpAny_call_entry F.slot_tuple_iterator_next hit.typeIs F.entry_tuple_iterator_next ?_ (F.args_tuple_iterator_next_1 _)));show wpAny _ _ (field (.ref it) 0 >>= λ_=>_) _ _ s
 refine aR (wpAny_field ho hd (x:=.ref t) rfl ?_);show wpAny _ _ (if(Value.ref t==Value.none)=true then _ else _) _ _ s
 rw[ξ 31#0]
 show wpAny _ _ (field (.ref it) 1 >>= λ_=>_) _ _ s
 refine aR (wpAny_field ho hd (x:=.int i 0) rfl ?_);show wpAny _ _ (seqItems? (.ref t) >>= λ_=>_) _ _ s
 refine aR (wpAny_seqItems hot hdt ?_);simp only[a!,hx];refine aR (wpAny_rule (aR (wpAny_setField ho hd 31#0 ?_)))
 show wpAny _ _ (newExc (.type "StopIteration") [] >>= λ_=>_) _ _ _
 refine aR ?_;simp only[newExc,newTuple];refine aR (wpAny_newObj_type ?_ (by size_fits))
 refine aR (m:=firstArgMember _ _) (wpAny_of_eq (a:=Value.none) (by first | rfl | (simp only[firstArgMember];rfl)) (wpAny_newObj_type ?_ (by size_fits)))
 exact wpAny_raiseNew_none hh (q _ _ (((i? ..).extBut.push _).push _) ⟨_,E! _ rfl,rfl⟩)
def vz(hh:A.handled=none)(it t:Addr)(hne:t≠it)(items:42#0):
 Draws prog w A it [it,t] items.size (λi v=>items[i]?=some v) (λi h=>h.IsTupleIter it t i/\h.IsTuple t items) where
 live:=λ_ _ st=>let⟨o,ho,_⟩:=st.1;⟨o,ho⟩
 frame:=λ_ _ _ st hk=>⟨st.1.at λo e=>hk it 31#0 o e,st.2.at λo e=>hk t 31#0 o e⟩
 item:=λi s Q E hi st hQ=>FO st.1 st.2 (x:=items[i]) (by simp[hi]) λh' aas hs'=>hQ _ h' s.toks (by simp[hi]) ⟨aas,st.2.extBut hs'.extBut hne⟩ hs'
 done:=λs Q E st hE=>JB hh st.1 st.2 31#0 hE
end
open AutoSeq1 (wpAny_loadPart') in
def tY(l:Addr)(items:42#0)(n:Nat)(dct:Option Addr)(sl:Array (81#0)):
 Meets (Builtin.«enumerate.__new__» ⟨[.type "enumerate",.ref l],[]⟩) (λ_ R s=>s.heap.get? l=some { cls:=.type "tuple",dict:=dct,data:=.seq items n,slots:=sl}/\
  R (.ok (.ret (.ref 49#(33#{ cls:=.type "tuple_iterator",data:=.fields #[.ref l,.int 0 0]}))))
    { s with heap:=(33#{ cls:=.type "tuple_iterator",data:=.fields #[.ref l,.int 0 0]}).push { cls:=.type "enumerate",data:=.fields #[.none,.bool false,19#.ref,rawInt 0,.none,.none]}}) :=
 .of_wp λprog w A R s h=>by
  obtain⟨hp,g,d,tk,os⟩:=s;obtain⟨hl,h⟩:=h;have hsub:=sub_enumerate;have hL:Heap.IsTuple (Shared.heap ⟨hp,g,d,tk,os⟩) l items:=⟨_,hl,rfl,n,rfl⟩
  wp_walk using wpAny_loadPart' hl
  refine wpAny_stack_any λst=>Ω ?_
  split
  .rename_i c _ _ _ _ _
   cases(c==Value.type "enumerate")
   .wp_walk using wpAny_loadPart' hl,wpAny_pyIter_tuple hL
    exact⟨_,rfl,h⟩
   .wp_walk using wpAny_loadPart' hl,wpAny_pyIter_tuple hL
    exact⟨_,rfl,h⟩
  .wp_walk using wpAny_loadPart' hl,wpAny_pyIter_tuple hL
   exact⟨_,rfl,h⟩
section
variable {prog:Program}{w:World}{A:Around}{E:eG}{s:Shared}
def FP{l:Addr}{items:42#0}{Q:eG}(hL:s.heap.IsTuple l items)
 (h:∀h',IsEnum h' (s.heap.objs.size+1) s.heap.objs.size 0 .none->h'.IsTupleIter s.heap.objs.size l 0->h'.objs.size=s.heap.objs.size+2->(∀b o,22#o->45#o)->Q (.ref (s.heap.objs.size+1)) { s with heap:=h'}) :
 32#(call (.type "enumerate") [.ref l]):=by
 obtain⟨⟨c,dct,dt,sl⟩,hl,hc,n,hd⟩:=hL
 replace hc:c = .type "tuple":=hc
 replace hd:dt = .seq items n:=hd
 subst hc hd;refine callType_new F.called_enumerate (16#0) (F.typeCall_enumerate_1 _) (F.newCall_enumerate_1 _) (λobj=>F.args_object_init_2 obj _) F.entry_enumerate_new (tY l items n dct sl) ⟨hl,?_⟩
 have hz:49#(33#{ cls:=.type "tuple_iterator",data:=.fields #[.ref l,.int 0 0]})=s.heap.objs.size+1:=Heap.size_push ..;show _/\_;rw[hz];have he:IsEnum ((33#{ cls:=.type "tuple_iterator",data:=.fields #[.ref l,.int 0 0]}).push { cls:=.type "enumerate",data:=.fields #[.none,.bool false,19#.ref,rawInt 0,.none,.none]}) (s.heap.objs.size+1) s.heap.objs.size 0 .none:=by
  have z:=E! (33#{ cls:=.type "tuple_iterator",data:=.fields #[.ref l,.int 0 0]}) (o:={ cls:=.type "enumerate",data:=.fields #[.none,.bool false,19#.ref,rawInt 0,.none,.none]}) rfl;rw[hz]at z;exact z
 exact⟨⟨_,he,rfl⟩,h _ he ⟨_,l! _ (E! _ rfl),rfl,rfl⟩ (by rw[Heap.size_push,hz]) λb o x=>l! _ (l! _ x)⟩
end
def Mw(K:b7)(a:Addr):It :=
 ⟨λi H=>∃xs x,aL K H a xs/\xs[i]?=some x,λi H v H'=>∃T x,v = .ref T/\H T=none/\H' = η H T (.tup [.int (i:Int),x])/\∀xs,aL K H a xs->xs[i]?=some x,λi H=>∃xs,aL K H a xs/\xs.length=i⟩
def FQ{P:Program}{w:World}{K:b7}{elts:List Expr}{k:Nat}{pos:Pos}(a e it:Addr)(hne:e≠it):
 Turn P w K (.Tuple elts k pos) (Mw K a) [e,it] e (λi h=>(∃old,IsEnum h e it (i:Int) old)/\h.IsTupleIter it a i) where
 mem:=by simp
 obj:=λi h st b hb=>by
  obtain⟨⟨old,he⟩,o,ho,c,d⟩:=st;have hb' : b=e\/b=it:=by simpa using hb
  rcases hb' with rfl|rfl
  .exact⟨_,he,λv z=>by cases z⟩
  .exact⟨o,ho,λv z=>by rw[d]at z;cases z⟩
 keep:=λi h h' st k=>by
  obtain⟨⟨old,he⟩,hit⟩:=st;exact⟨⟨old,k e 31#0 _ he⟩,hit.at λo x=>k it 31#0 o x⟩
 item:=by
  intro X hP hw hK hc i pq s σ H E I hf st hg;subst hP hw hK;obtain⟨xs,x,hq,hx⟩:=hg;obtain⟨its,rv,p,hz⟩:=I.tuple hq;obtain⟨u,hu,ru⟩:=rv.get hx;obtain⟨⟨old,he⟩,hit⟩:=st;have pT:s.heap.IsTuple a its.toArray:=p;have hai:a≠it:=λz=>by
   obtain⟨o1,h1,_,_,d1⟩:=pT;obtain⟨o2,h2,_,d2⟩:=hit;rw[z,h2]at h1;cases h1;rw[d2]at d1;cases d1
  have hae:e∉[it,a]:=λz=>by
   have z' : e=it\/e=a:=by simpa using z
   rcases z' with z' | z'
   .exact hne z'
   .obtain⟨o1,h1,_,_,d1⟩:=pT;rw[<-z',he]at h1;cases h1;cases d1
  refine wpAny_pyNext_enum_itemD (vz (A:=X.A.in1) (I.ok.hd hc) it a hai its.toArray) he ⟨hit,pT⟩ (by have:=(j7.mp hu).1;simpa using this) hne hae λy h1 tk hy ho Tt hT hsz hk=>?_
  have hyu:y=u:=by
   have z:its.toArray[i]?=some u:=by simpa using hu
   rw[hy]at z;exact 18#z
  subst hyu;refine⟨_,rfl,wpAny_letOwnedTupleGo_enum ho λh2 P4 hs2=>?_⟩
  have WU:s.heap.objs.size≠e:=U? (b! he);have hT2:19#h2.get?=some { cls:=.type "tuple",data:=.seq #[.int i tk,y]}:=(hs2.2 _ WU).trans hT;refine⟨19#.ref,η H s.heap.objs.size (.tup [.int (i:Int),x]),I.yields (wr:=[e,it]) (t':=tk+1) (λb o hb q=>?_) hf (Z' _) ?_,rfl,⟨_,x,rfl,I.fresh,rfl,λys hy=>by rw[I.z9 hy hq];exact hx⟩,⟨⟨y,by simpa using P4⟩,?_⟩,λb hb=>?_⟩
  .have Mc:b≠e:=λz=>hb (by simp[z])
   have Tu:b≠it:=λz=>hb (by simp[z])
   exact(hs2.2 b Mc).trans (hk b o Mc Tu q)
  .exact⟨dl rfl,[.int i tk,y],.cons ⟨_,rfl⟩ (.cons ru .nil),⟨_,hT2,rfl,_,rfl⟩⟩
  .exact Tt.1.at λo q=>(hs2.2 it (u! hne)).trans q
  .rw[ao]
   .exact(hf b hb).1
   .have hb' : b=e\/b=it:=by simpa using hb
    rcases hb' with rfl|rfl
    .exact u! WU
    .obtain⟨o,q,_⟩:=hit;exact q! (b! q)
 done:=by
  intro X hP hw hK hc i pq s σ H E I hf st hg;subst hP hw hK;obtain⟨xs,hq,hx⟩:=hg;obtain⟨its,rv,p,hz⟩:=I.tuple hq;obtain⟨⟨old,he⟩,hit⟩:=st;have pT:s.heap.IsTuple a its.toArray:=p;have hai:a≠it:=λz=>by
   obtain⟨o1,h1,_,_,d1⟩:=pT;obtain⟨o2,h2,_,d2⟩:=hit;rw[z,h2]at h1;cases h1;rw[d2]at d1;cases d1
  obtain⟨f0,f1,f2,f3,f4,f5⟩:=hf it 31#0
  have hl:=rv.length;have hi:i=its.toArray.size:=by rw[r!];lia
  subst hi;exact wpAny_pyNext_enum_endD (vz (A:=X.A.in1) (I.ok.hd hc) it a hai its.toArray) he ⟨hit,pT⟩ λh' eb=>47#(I.turned (t':=s.toks) (λb o hb e=>eb b o hb e) f0 f1 f3 f4 f5)
 self:=λ_ _ _ _ _ st h=>by
  obtain⟨⟨old,he⟩,_⟩:=st;exact wpAny_pyIter_enum he h
section
variable {X:Cx}{elts:List Expr}{n:Nat}{tp:Pos}
def TQ(K:b7)(ta:TA):TI:=λσ H R=>ta σ H λvs H1=>∃a,vs=[.ref a]/\(∃xs,aL K H1 a xs)/\R (Mw K a) H1
def DB(K:b7){a:Expr}{ta:TA}{p pos:Pos}(hg:Gl X "enumerate")(hm:X.mg "enumerate"=none)(ha:PA X [a] ta)(hs:21#([a])=[43#a]:=by rfl)(hK:X.K=K:=by rfl):
 PI X (.Tuple elts n tp) (.Call (.Name "enumerate" p) [a] [] pos) (TQ K ta):=by
 subst hK;intro pq s σ H R I h;refine Call_ (jN I hg hm boot_enumerate (h_ (dR (ha pos pq s σ H _ I h) λus s1 ⟨vs,H1,I1,r1,q1⟩=>?_) hs rfl))
 obtain⟨a,e,⟨xs,hq⟩,q⟩:=q1;subst e;cases r1 with
 | cons r rr =>
   cases rr;cases r;obtain⟨its,rv,pl,hz⟩:=I1.tuple hq;refine FP (show s1.heap.IsTuple a its.toArray from pl) λh' he hit hsz hk=>?_
   have I2:θ X pq σ H1 { s1 with heap:=h'}:=I1.kept (t':=s1.toks) hk
   refine wpAny_pyIter_enum he ⟨_,[s1.heap.objs.size+1,s1.heap.objs.size],_,_,H1,rfl,I2,FQ a _ _ (_v _),⟨⟨_,he⟩,hit⟩,λb hb=>?_,q⟩
   have hb' : b=s1.heap.objs.size+1\/b=s1.heap.objs.size:=by simpa using hb
   have WW:s1.heap.objs.size<=b:=by
    rcases hb' with rfl|rfl
    .exact G? _
    .exact Z' _
   exact I1.Fl WW (I1.hok.fresh WW)
end
end L2
namespace RM
variable {N:Net}
def Net.cut(N:Net)(C:59#0):Nat:=Ring.maskOf (λk=>C (N.a k)^^C (N.b k)) N.n
def Net.par(N:Net)(q m:Nat):Bool:=bI (λk=>90#0&&2#0) N.n
def sF(q r m:Nat):N.par (q^^^r) m=(N.par q m^^N.par r m):=by
 unfold Net.par;rw[<-jC];refine bN λk _=>?_
 rw[j!];cases 90#0<;>cases r.testBit k<;>cases 2#0<;>rfl
def mZ(m:Nat):N.par 0 m=false:=fT λk _=>by simp
def Qg{k:Nat}(h:k<N.n)(m:Nat):N.par (2^k) m=2#0:=by
 unfold Net.par;rw[sj h λj _ hj=>by simp[G!,u! hj]]
 simp[G!]
def Qh(C:59#0)(k:Nat):(N.cut C).testBit k=(7#(k<N.n)&&(C (N.a k)^^C (N.b k))):=Ring.mask_bit _ k _
def TR(C:59#0):N.cut C<2^N.n:=Ring.mask_lt _ _
def Qi{q:Nat}(e:N.dm q)(C:59#0):N.par q (N.cut C)=false:=by
 have h:N.par q (N.cut C)=bI (λx=>C x&&N.bd q x) N.p:=by
  have e1:bI (λx=>C x&&N.bd q x) N.p=bI (λx=>bI (λk=>C x&&(90#0&&N.inc k x)) N.n) N.p:=bN λx _=>(kT _ _ _).symm
  rw[e1,tV];unfold Net.par;refine bN λk hk=>?_
  rw[Qh,cH hk,D?];have e2:bI (λx=>C x&&(90#0&&N.inc k x)) N.p=(90#0&&(C (N.a k)^^C (N.b k))):=by
   have e3:∀x,(C x&&(90#0&&N.inc k x))=((90#0&&(C x&&7#(N.a k=x)))^^(90#0&&(C x&&7#(N.b k=x)))):=λx=>by
    unfold Net.inc;cases C x<;>cases 90#0<;>cases 7#(N.a k=x)<;>cases 7#(N.b k=x)<;>rfl
   rw[bN λx _=>e3 x,jC,kT,kT,ia C (N.al k hk),ia C (N.bl k hk)]
   cases 90#0<;>rfl
  exact e2.symm
 rw[h];exact fT λx hx=>by rw[e x hx,g_]
end RM
namespace Ring
def orM(ks:List Nat):Nat:=ks.foldl (λm k=>m ||| 2^k) 0
def Mx(ks:List Nat)(j:Nat):∀m,69#(ks.foldl (λm k=>m ||| 2^k) m)=(m.testBit j || 7#(j∈ks)):=by
 induction ks with
 | nil=>intro m;simp
 | cons k r ih =>
   intro m;rw[t_,ih,Nat.testBit_or,G!]
   by_cases h:k=j
   .subst h;simp
   .have h' : ¬ j=k:=λz=>h z.symm
    simp[h,h']
def Ii(ks:List Nat)(j:Nat):69#(orM ks)=7#(j∈ks):=by
 unfold orM;rw[Mx];simp
def TU{ks:List Nat}{n:Nat}(h:∀k∈ks,k<n):orM ks<2^n:=RM.eZ λk hk=>by
 rw[Ii]at hk;exact h k (jz hk)
open PySem L2
def Ij{p:Nat}{ts:List eW}{g:aE p ts}{q m:Nat}(hm:m<17#0):decide (58#(cz 6#(q&&&m))%2=1)=g.N.par q m:=by
 rw[xE (n:=ts.length) (_n q hm)];unfold RM.Net.par;rw[RM.xA];have e:RM.cnt (λk=>(q&&&m).testBit k) ts.length=RM.cnt (λk=>90#0&&2#0) g.N.n:=RM.fU λk _=>by rw[T?]
 rw[e]
def Qj(f:59#0)(n:Nat):maskOf f n ||| (if f n=true then 2^n else 0)=maskOf f (n+1):=d? λj=>by
 rw[Nat.testBit_or,mask_bit,mask_bit]
 by_cases e:j=n
 .subst e;cases h:f j with
  | true=>simp[G!]
  | false=>simp
 .have e1:7#(j<n+1)=decide (j<n):=K?.mpr (by lia)
  rw[e1]
  split
  .have e2 : ¬ n=j:=λz=>e z.symm
   simp[G!,e2]
  .simp
def xorL(rs:List Nat):Nat:=rs.foldl (λm r=>m^^^r) 0
def JC(rs:List Nat):∀m,rs.foldl (λm r=>m^^^r) m=m^^^xorL rs:=by
 induction rs with
 | nil=>intro m;show m=m^^^0;simp
 | cons r rs ih =>
   intro m;show rs.foldl (λm r=>m^^^r) (m^^^r)=m^^^rs.foldl (λm r=>m^^^r) (0^^^r)
   rw[ih,ih,k?,E?]
def xorL_cons(rs:List Nat)(r:Nat):xorL (r::rs)=r^^^xorL rs:=by
 show rs.foldl (λm r=>m^^^r) (0^^^r)=_
 rw[JC,k?]
def My(l:List Nat){i:Nat}(h:i<=l.length):qv (aA l) (some (i:Int)) none=aA (l.drop i):=by
 unfold qv;rw[HT.PB,HT.LN,av,Q_ h];unfold aA;rw[<-List.map_drop,<-List.map_take,Y_ (by rw[e_];lia)]
end Ring
namespace L2
open PySem PySem.Spec PyProof.Rows
section
variable {κ:Type}[DecidableEq κ]
def fg(kvs:List (κ×V))(k:κ):Option V:=(kvs.find? λkv=>7#(kv.1=k)).map (·.2)
def putK(kvs:List (κ×V))(k:κ)(v:V):List (κ×V) :=
 if(kvs.any λkv=>7#(kv.1=k))=true then kvs.map (λkv=>if kv.1=k then(kv.1,v) else kv) else kvs++[(k,v)]
def fh(kvs:List (κ×V))(k:κ):List (κ×V):=kvs.filter λkv=>7#(kv.1≠k)
def xG{k:κ}:fg ([]:List (κ×V)) k=none:=rfl
def dw{p:κ×V}{r:List (κ×V)}{k:κ}(e:p.1=k):fg (p::r) k=some p.2:=by simp[fg,D_,e]
def c6{p:κ×V}{r:List (κ×V)}{k:κ}(e : ¬ p.1=k):fg (p::r) k=fg r k:=by simp[fg,D_,e]
theorem iQ(k:κ):∀kvs:List (κ×V),(kvs.any λkv=>7#(kv.1=k))=(fg kvs k).isSome
 | []=>rfl
 | p::r=>by
   rw[T_]
   by_cases e:p.1=k
   .simp only[dw e,cH e,Bool.true_or,Option.isSome_some]
   .rw[c6 e,eV e,Bool.false_or];exact iQ k r
theorem DC(k j:κ)(y:V):∀kvs:List (κ×V),fg (kvs.map λkv=>if kv.1=k then(kv.1,y) else kv) j=(fg kvs j).map λx=>if j=k then y else x
 | []=>rfl
 | p::r=>by
   have ih:=DC k j y r;rw[F!]
   by_cases h:p.1=k
   .rw[ο h]
    by_cases e:p.1=j
    .rw[dw (p:=(p.1,y)) e,dw e,l_,ο (e.symm.trans h)]
    .rw[c6 (p:=(p.1,y)) e,c6 e,ih]
   .rw[ξ h]
    by_cases e:p.1=j
    .rw[dw (p:=p) e,dw e,l_,ξ (λz=>h (e.trans z))]
    .rw[c6 (p:=p) e,c6 e,ih]
theorem Az(k j:κ)(y:V):∀kvs:List (κ×V),fg kvs k=none->fg (kvs++[(k,y)]) j=if j=k then some y else fg kvs j
 | [],_=>by
   by_cases e:k=j
   .rw[ο e.symm];exact dw (p:=(k,y)) e
   .rw[ξ (λz=>e z.symm)];exact c6 (p:=(k,y)) e
 | p::r,hn=>by
   rw[List.cons_append];have hk : ¬ p.1=k:=λz=>by rw[dw z]at hn;cases hn
   rw[c6 hk]at hn;have ih:=Az k j y r hn
   by_cases e:p.1=j
   .rw[dw e,dw e,ξ (λz=>hk (e.trans z))]
   .rw[c6 e,c6 e,ih]
def Mz(kvs:List (κ×V))(k j:κ)(y:V):fg (putK kvs k y) j=if j=k then some y else fg kvs j:=by
 unfold putK
 by_cases a:(kvs.any λkv=>7#(kv.1=k))=true
 .rw[ο a,DC];rw[iQ]at a
  by_cases e:j=k
  .obtain⟨x,hx⟩:=Option.isSome_iff_exists.mp a;rw[ο e,e,hx,l_,ο rfl]
  .rw[ξ e];cases fg kvs j with
   | none=>rfl
   | some x=>rw[l_,ξ e]
 .rw[ξ a];refine Az k j y kvs ?_;rw[iQ]at a;cases q:fg kvs k with
  | none=>rfl
  | some x=>rw[q]at a;exact(a rfl).elim
def oU(kvs:List (κ×V))(k:κ)(v:V):58#(putK kvs k v)<=kvs.length+1:=by
 unfold putK
 split
 .rw[χ];lia
 .rw[k!,P!,s_];lia
def DE{kvs:List (κ×V)}{k:κ}(v:V)(h:fg kvs k=none):putK kvs k v=kvs++[(k,v)]:=by
 unfold putK;rw[iQ,h];exact ξ (16#0)
def rP.tZ{o:Option V}{u:81#0}(r:rP o u):o.isSome=u.isSome:=by
 cases o with
 | none=>cases u with
   | none=>rfl
   | some _=>exact(show False from r).elim
 | some _=>cases u with
   | none=>exact(show False from r).elim
   | some _=>rfl
def rP.getD{o:Option V}{u:81#0}{d:V}{d' : Value}(r:rP o u)(rd:Θ d d'):Θ (o.getD d) (u.getD d'):=by
 cases o with
 | none=>cases u with
   | none=>exact rd
   | some _=>exact(show False from r).elim
 | some _=>cases u with
   | none=>exact(show False from r).elim
   | some _=>exact r
def KV.val{kvs:List (κ×V)}{vs:List (κ×Value)}(r:KV kvs vs)(k:κ):rP (fg kvs k) (valueAt vs k):=by
 unfold KV at r
 induction r with
 | nil=>exact True.intro
 | @cons p q ps qs h t ih =>
   obtain⟨h1,h2⟩:=h
   by_cases e:p.1=k
   .have e' : q.1=k:=h1.symm.trans e;have b:valueAt (q::qs) k=some q.2:=by simp[valueAt,D_,e']
    rw[dw e,b];exact h2
   .have e' : ¬ q.1=k:=λz=>e (h1.trans z)
    have b:valueAt (q::qs) k=valueAt qs k:=by simp[valueAt,D_,e']
    rw[c6 e,b];exact ih
def KV.any{kvs:List (κ×V)}{vs:List (κ×Value)}(r:KV kvs vs)(k:κ):(kvs.any λkv=>7#(kv.1=k))=vs.any λkv=>7#(kv.1=k):=by
 unfold KV at r
 induction r with
 | nil=>rfl
 | cons h t ih=>rw[T_,T_,ih,h.1]
def KV.repl{kvs:List (κ×V)}{vs:List (κ×Value)}(r:KV kvs vs)(k:κ){y:V}{u:Value}(ry:Θ y u):
 KV (kvs.map λkv=>if kv.1=k then(kv.1,y) else kv) (vs.map λkv=>if kv.1=k then(kv.1,u) else kv):=by
 unfold KV at r ⊢
 induction r with
 | nil=>exact .nil
 | @cons p q ps qs h t ih =>
   rw[F!,F!];refine .cons ?_ ih;obtain⟨h1,h2⟩:=h
   by_cases e:p.1=k
   .rw[ο e,ο (h1.symm.trans e)];exact⟨h1,ry⟩
   .rw[ξ e,ξ (λz=>e (h1.trans z))];exact⟨h1,h2⟩
def KV.put{kvs:List (κ×V)}{vs:List (κ×Value)}(r:KV kvs vs)(k:κ){y:V}{u:Value}(ry:Θ y u):KV (putK kvs k y) (stored vs k u):=by
 unfold putK stored;rw[r.any k]
 by_cases e:(vs.any λkv=>7#(kv.1=k))=true
 .rw[ο e,ο e];exact r.repl k ry
 .rw[ξ e,ξ e];exact Paired.snoc r ⟨rfl,ry⟩
def KV.length{kvs:List (κ×V)}{vs:List (κ×Value)}(r:KV kvs vs):kvs.length=vs.length:=Paired.length r
def MA(kvs:List (κ×V))(k:κ):58#(fh kvs k)<=kvs.length:=b? _ _
end
def xH{P:Program}{w:World}{k:Key}{u:Value}(r:Θ (kV k) u):(dz P w).is k u=true:=by
 cases k with
 | inl i=>obtain⟨t,e⟩:=(show ∃t,u=Value.int i t from r);subst e;exact CP P w i t
 | inr x=>obtain⟨t,e⟩:=(show ∃t,u=Value.str x t from r);subst e;exact CQ P w x t
theorem AA{P:Program}{w:World}:∀{ks:List Key} {us:23#0},υ (ks.map kV) us->ItemsAre (dz P w) ks us
 | [],_,r=>by rw[_J]at r;cases r;exact .nil
 | k::ks,_,r=>by
   rw[F!]at r;cases r with
   | cons h t=>exact .cons (xH h) (AA t)
abbrev KT(H:Hp):50#V->50#(Addr×Value)->Prop:=Paired λp q=>p.1=q.1/\H q.2.1=10#(p.1.map kV)/\Θ p.2 q.2.2
def KT.val{H:Hp}{kvs:50#V}{xs:50#(Addr×Value)}(r:KT H kvs xs)(k:List Key):rP (fg kvs k) ((atKey xs k).map (·.2)):=by
 induction r with
 | nil=>exact True.intro
 | @cons p q ps qs h t ih =>
   obtain⟨h1,_,h2⟩:=h
   by_cases e:p.1=k
   .have e' : q.1=k:=h1.symm.trans e;have b:atKey (q::qs) k=some q.2:=by simp[atKey,D_,e']
    rw[dw e,b];exact h2
   .have e' : ¬ q.1=k:=λz=>e (h1.trans z)
    have b:atKey (q::qs) k=atKey qs k:=by simp[atKey,D_,e']
    rw[c6 e,b];exact ih
def KT.repl{H:Hp}{kvs:50#V}{xs:50#(Addr×Value)}(r:KT H kvs xs)(k:List Key){y:V}{u:Value}(ry:Θ y u):
 KT H (kvs.map λkv=>if kv.1=k then(kv.1,y) else kv) (xs.map (putAt k u)):=by
 induction r with
 | nil=>exact .nil
 | @cons p q ps qs h t ih =>
   rw[F!,F!];refine .cons ?_ ih;obtain⟨h1,h2,h3⟩:=h;unfold putAt
   by_cases e:p.1=k
   .rw[ο e,ο (h1.symm.trans e)];exact⟨h1,h2,ry⟩
   .rw[ξ e,ξ (λz=>e (h1.trans z))];exact⟨h1,h2,h3⟩
def KT.put{H:Hp}{kvs:50#V}{xs:50#(Addr×Value)}(r:KT H kvs xs)(k:List Key){b:Addr}{y:V}{u:Value}(hb:H b=10#(k.map kV))(ry:Θ y u):
 KT H (putK kvs k y) (storedH xs k b u):=by
 have e:(kvs.any λkv=>7#(kv.1=k))=(atKey xs k).isSome:=by
  rw[iQ,(r.val k).tZ,Option.isSome_map]
 unfold putK storedH;rw[e]
 by_cases q:(atKey xs k).isSome=true
 .rw[ο q,ο q];exact r.repl k ry
 .rw[ξ q,ξ q];exact Paired.snoc r ⟨rfl,hb,ry⟩
def KT.keeps{H H' : Hp}{kvs:50#V}{xs:50#(Addr×Value)}(r:KT H kvs xs)(ht:∀b ys,H b=10#ys->H' b=10#ys):KT H' kvs xs :=
 Paired.A6 r λ_ _ z=>⟨z.1,ht _ _ z.2.1,z.2.2⟩
section
variable {P:Program}{w:World}{H:Hp}{h:Heap}{a:Addr}
def RT{u:HO}(ok:oB P w H h)(e:Rd H a u):bL P w H h a u:=e.ok ok
def xJ{kvs:List (Key×V)}(ok:oB P w H h)(e:Rd H a (.dK kvs)):56#kvs.length/\(a==sysModules)=false/\∃vs,KV kvs vs/\h.DictOf (dz P w) a vs :=
 show bL P w H h a (.dK kvs) from RT ok e
def RU{kvs:List (Key×V)}(ok:oB P w H h)(e:H a=some (.dK kvs)):56#kvs.length/\(a==sysModules)=false/\∃vs,KV kvs vs/\h.DictOf (dz P w) a vs:=xJ ok (.inl e)
def oW{ks:List Key}(ok:oB P w H h)(e:H a=10#(ks.map kV)):(tupleKind (dz P w)).is h ks a:=by
 obtain⟨_,its,r,o,h1,h2,n,h3⟩:=(show bL P w H h a (.tup (ks.map kV)) from ok a _ e)
 exact⟨o,its.toArray,n,h1,h2,h3,by simpa using AA r⟩
def xK{kvs:50#V}(ok:oB P w H h)(e:Rd H a (.dT kvs)):56#kvs.length/\(a==sysModules)=false/\
 ∃xs,KT H kvs xs/\h.DictOfH (tupleKind (dz P w)) a xs:=by
 obtain⟨z,y,xs,r,o,es,ep,h1,h2,h3,h4,h5⟩:=(show bL P w H h a (.dT kvs) from RT ok e)
 refine⟨z,y,xs,r,o,es,ep,h1,h2,h3,h4,λx hx=>?_,h5⟩
 have all:∀{l:50#V} {m:50#(Addr×Value)},KT H l m->∀x∈m,(tupleKind (dz P w)).is h x.1 x.2.1:=by
  intro l m q
  induction q with
  | nil=>intro x hx;exact nomatch hx
  | @cons p q ps qs hq t ih =>
    intro x hx;rcases h!.mp hx with e|hx
    .subst e;exact oW ok (by rw[<-hq.1];exact hq.2.1)
    .exact ih x hx
 exact all r x hx
def MB{kvs:50#V}(ok:oB P w H h)(e:H a=some (.dT kvs)):56#kvs.length/\(a==sysModules)=false/\
 ∃xs,KT H kvs xs/\h.DictOfH (tupleKind (dz P w)) a xs:=xK ok (.inl e)
end
def qY(H:Hp)(a:Addr)(y:V)(r:Option V):Prop :=
 (∃kvs k,Rd H a (.dK kvs)/\y=kV k/\r=fg kvs k)\/∃kvs k b,Rd H a (.dT kvs)/\y = .ref b/\H b=10#(k.map kV)/\r=fg kvs k
def DF(H:Hp)(a:Addr)(y v:V)(H' : Hp):Prop :=
 (∃kvs k,H a=some (.dK kvs)/\y=kV k/\kvs.length<sizeLine/\H' = η H a (.dK (putK kvs k v)))\/
 ∃kvs k b,H a=some (.dT kvs)/\y = .ref b/\H b=10#(k.map kV)/\kvs.length<sizeLine/\H' = η H a (.dT (putK kvs k v))
theorem qY.k{H:Hp}{a:Addr}{kvs:List (Key×V)}{k:Key}(e:H a=some (.dK kvs)):qY H a (kV k) (fg kvs k):=.inl ⟨kvs,k,.inl e,rfl,rfl⟩
theorem DF.k{H:Hp}{a:Addr}{kvs:List (Key×V)}{k:Key}{v:V}(e:H a=some (.dK kvs))(hl:kvs.length<sizeLine):DF H a (kV k) v (η H a (.dK (putK kvs k v))):=.inl ⟨kvs,k,e,rfl,hl,rfl⟩
def DF.t{H:Hp}{a b:Addr}{kvs:50#V}{k:List Key}{v:V}(e:H a=some (.dT kvs))(eb:H b=10#(k.map kV))(hl:kvs.length<sizeLine):
 DF H a (.ref b) v (η H a (.dT (putK kvs k v))):=.inr ⟨kvs,k,b,e,rfl,eb,hl,rfl⟩
section
variable {X:Cx}{pq:aW}{σ:St}{H:Hp}{s:Shared}{a:Addr}{y v:V}{u r:Value}{o:Option V}{A:Around}{E:eG}
def θ.big(I:5#s):sysModules<s.heap.objs.size:=by
 have h:mainGlobals<s.heap.objs.size:=(I.mod.glob.keeps I.bk).lt;exact Nat.lt_trans (16#0) h
def JD{Q:eG}(hu:A.units+1<cLine)(I:5#s)(g:qY H a y (some v))(ry:Θ y u)(h:∀w' s',5#s'->Θ v w'->Q w' s'):
 wpAny 9#0 A (getItem (.ref a) u) Q E s:=by
 rcases g with⟨kvs,k,e,ey,l⟩|⟨kvs,k,b,e,ey,eb,l⟩
 .subst ey;obtain⟨z,hd,vs,rel,dd⟩:=xJ I.hok e;obtain⟨w',hw,rw'⟩:=rP.some_of (v:=v) (o:=valueAt vs k) (by rw[l];exact rel.val k)
  exact wpAny_getItem_of (xH ry) dd.mapOf hw (h w' _ (I.tok _) rw')
 .subst ey;cases(show u=Value.ref b from ry)
  obtain⟨z,hd,xs,rel,dd⟩:=xK I.hok e;obtain⟨w',hw,rw'⟩:=rP.some_of (v:=v) (o:=(atKey xs k).map (·.2)) (by rw[l];exact rel.val k)
  obtain⟨p,hp,RH⟩:=qC.mp hw;refine wpAny_getItem_heap (tupleKind_room_in1 hu) (oW I.hok eb) dd hp ?_;rw[RH];exact h w' _ (I.tok _) rw'
def Qk{Q:eG}(hu:A.units+1<cLine)(I:5#s)(g:qY H a y o)(ry:Θ y u)(h:∀s',5#s'->Q (.bool (! o.isSome)) s'):
 wpAny 9#0 A (compareOp .NotIn u (.ref a)) Q E s:=by
 rcases g with⟨kvs,k,e,ey,l⟩|⟨kvs,k,b,e,ey,eb,l⟩
 .subst ey;obtain⟨z,hd,vs,rel,dd⟩:=xJ I.hok e;refine wpAny_notIn_of (xH ry) hd dd.mapOf ?_;rw[<-(rel.val k).tZ,<-l];exact h _ (I.tok _)
 .subst ey;cases(show u=Value.ref b from ry)
  obtain⟨z,hd,xs,rel,dd⟩:=xK I.hok e;refine wpAny_notIn_heap (tupleKind_room_in1 hu) (oW I.hok eb) hd dd ?_;have q:=(rel.val k).tZ;rw[Option.isSome_map]at q;rw[<-q,<-l];exact h _ (I.tok _)
def sG{h' : Heap}{t' : Nat}{ob:HO}(I:5#s)(mu:VY (H a))(hs:Heap.SameBut a s.heap h')(he:∃q,h'.get? a=some q)(new:bL X.prog X.w (η H a ob) h' a ob):
 θ X pq σ (η H a ob) { s with heap:=h',toks:=t'} :=
 I.write (x:=a) (e:=a) mu (.inl rfl) (λb q hb z=>(hs.2 b hb).trans z) he new
def MC{P:Program}{w:World}{H' : Hp}{h' : Heap}{kvs:List (Key×V)}{vs:List (Key×Value)}(z:56#kvs.length)(hd:(a==sysModules)=false)(rel:KV kvs vs)(dd:h'.DictOf (dz P w) a vs):
 bL P w H' h' a (.dK kvs):=⟨z,hd,vs,rel,dd⟩
def JE{H' : Hp}{Q:64#Unit}(hu:A.units+1<cLine)(I:5#s)(g:DF H a y v H')(ry:Θ y u)(rv:Θ v r)(h:∀s',θ X pq σ H' s'->Q () s'):
 wpAny 9#0 A (setItem (.ref a) u r) Q E s:=by
 rcases g with⟨kvs,k,e,ey,l,eH⟩|⟨kvs,k,b,e,ey,eb,l,eH⟩
 .subst ey eH;obtain⟨z,hd,vs,rel,dd⟩:=RU I.hok e;have hz:56#vs.length:=by rw[<-rel.length];exact z
  have hl:56#58#(putK kvs k v):=by have:=oU kvs k v;lia
  refine wpAny_setItem_pairs (hsz:=hz) (xH ry) dd λh' Ql hs=>h _ ?_
  have he:∃q,h'.get? a=some q:=let⟨q,_,_,hq,_⟩:=Ql;⟨q,hq⟩;exact sG I (by rw[e];exact True.intro) hs he (MC hl hd (rel.put k rv) Ql)
 .subst ey eH;cases(show u=Value.ref b from ry)
  obtain⟨z,hd,xs,rel,dd⟩:=MB I.hok e;have hz:56#xs.length:=by rw[<-Paired.length rel];exact z
  have hl:56#58#(putK kvs k v):=by have:=oU kvs k v;lia
  refine wpAny_setItem_heap (hsz:=hz) (tupleKind_room_in1 hu) (oW I.hok eb) dd λh' Ql hs=>h _ ?_
  obtain⟨q,es,ep,hq,h2,h3,h4,_,h5⟩:=Ql;refine sG I (by rw[e];exact True.intro) hs ⟨q,hq⟩ ⟨hl,hd,_,(rel.put k eb rv).keeps λc ys ec=>?_,q,es,ep,hq,h2,h3,h4,h5⟩
  rw[ao (bg ec e 60#0)]
  exact ec
end
def W0(i:Expr):Prop:=∀ov iv,subscripted i false ov iv=operate [ov,iv] (getItem ov iv)
def Qm{prog:Program}{w:World}{A:Around}{E:eG}{s:Shared}{env:Env}{value slice:Expr}{pos:Pos}{T id:String}{Q:eG}
 (hl:typeLookup (.type T) "__getitem__"=pure (some (.builtin id))) (hs:W0 slice)
 (h:wpAny (model prog w) A (eval value env) (λo s₁=>wpAny (model prog w) A (eval slice env) (λi s₂=>s₂.TypeIs o T/\wpAny (model prog w) A (getItem o i) Q E s₂) E s₁) E s) :
 32#(eval (.Subscript value slice pos) env):=by
 refine Subscript_ (z! h (λo s₁ h₁=>z! h₁ (λi s₂ h₂=>?_) λ_ _ x=>x) λ_ _ x=>x)
 obtain⟨hT,h₂⟩:=h₂;unfold subscriptTail;refine aR ?_;rw[getitemInPython_of_ne hT.not_modules];refine aR (wpAny_specialOf hT hl ?_);have fin:wpAny (model prog w) A (subscripted slice false o i) (λr s₃=>wpAny (model prog w) A (letTemporaryGo value o r >>= λ_=>pure r) Q E s₃) E s₂:=by
  rw[hs o i];exact wpAny_operating (z! h₂ (λr s₃ h₃=>aR (wpAny_letTemporaryGo (Ω h₃))) λ_ _ x=>x)
 first
  | exact Ω (aR fin)
  | exact aR (Ω (aR fin))
  | exact aR fin
def DG{X:Cx}{pq:aW}{σ:St}{H:Hp}{s:Shared}{a:Addr}{y:V}{o:Option V}(I:5#s)(g:qY H a y o):s.TypeIs (.ref a) "dict":=by
 rcases g with⟨kvs,k,e,_,_⟩|⟨kvs,k,b,e,_,_,_⟩
 .obtain⟨_,_,vs,_,dd⟩:=xJ I.hok e;exact dd.typeIs
 .obtain⟨_,_,xs,_,dd⟩:=xK I.hok e;exact dd.typeIs
def W2(td ty:TE):TE:=λσ H Q=>td σ H λx H1=>ty σ H1 λy H2=>∃a v,x = .ref a/\qY H2 a y (some v)/\Q v H2
def Qn(ty td:TE):TE:=λσ H Q=>ty σ H λy H1=>td σ H1 λx H2=>∃a o,x = .ref a/\qY H2 a y o/\Q (.bl (! o.isSome)) H2
def W3(td ty tv:TE):TS:=λD σ H=>tv σ H λv H1=>td σ H1 λx H2=>ty σ H2 λy H3=>∃a H4,x = .ref a/\DF H3 a y v H4/\D.nx σ H4
section
variable {X:Cx}{o i e value:Expr}{pos pos' tpos:Pos}{td ty tv:TE}
def Ik(hu:X.A.units+1<cLine)(ho:PE X o td)(hi:PE X i ty)(hs:W0 i):PE X (.Subscript o i pos) (W2 td ty):=by
 show 72;refine Qm PySem.F.slot_dict_getitem.lookup hs (dR 39#ho λu s1 ⟨x,H1,I1,rx,q1⟩=>dR (hi pq s1 σ H1 _ I1 q1) λiv s2 ⟨y,H2,I2,ry,a,v,ex,g,q2⟩=>?_)
 subst ex;obtain rfl:u=Value.ref a:=rx;exact⟨DG I2 g,JD hu I2 g ry λw' s3 I3 rw'=>⟨v,H2,I3,rw',q2⟩⟩
def JF(hu:X.A.units+1<cLine)(hi:PE X i ty)(ho:PE X o td):PC X .NotIn i o (Qn ty td):=by
 show 72;refine dR 39#hi λiv s1 ⟨y,H1,I1,ry,q1⟩=>dR (ho pq s1 σ H1 _ I1 q1) λu s2 ⟨x,H2,I2,rx,a,ov,ex,g,q2⟩=>?_
 subst ex;obtain rfl:u=Value.ref a:=rx;exact Qk hu I2 g ry λs3 I3=>⟨.bl (! ov.isSome),H2,I3,rfl,q2⟩
def Il(hu:X.A.units+1<cLine)(ho:PE X o td)(hi:PE X i ty)(hv:PE X value tv)(hs:swapsWith value (some (.Subscript o i pos')) pos.line X.env=pure false):
 PS X (.Assign [.Subscript o i pos'] value pos) (W3 td ty tv):=by
 intro pq s σ H D I h;refine wpAny_Assign_Subscript (dR 39#hv λr s1 ⟨v,H1,I1,rv,q1⟩=>dR (ho pq s1 σ H1 _ I1 q1) λu s2 ⟨x,H2,I2,rx,q2⟩=>dR (hi pq s2 σ H2 _ I2 q2) λiv s3 ⟨y,H3,I3,ry,a,H4,ex,g,q3⟩=>?_) hs
 subst ex;obtain rfl:u=Value.ref a:=rx;exact JE hu I3 g ry rv λs4 I4=>⟨σ,H4,I4,q3⟩
end
def MD{P:Program}{w:World}{H:Hp}(h:Heap)(hb:sysModules<h.objs.size):bL P w H (h.push { cls:=.type "dict",data:=.dict #[]}) h.objs.size (.dK []) :=
 ⟨v! _,beq_eq_false_iff_ne.mpr (u! (q! hb)),[],.nil,Heap.DictOf.new h⟩
def ME{P:Program}{w:World}{H:Hp}(h:Heap)(hb:sysModules<h.objs.size):bL P w H (h.push { cls:=.type "dict",data:=.dict #[]}) h.objs.size (.dT []) :=
 ⟨v! _,beq_eq_false_iff_ne.mpr (u! (q! hb)),[],.nil,_,#[],0,E! _ rfl,⟨rfl,rfl,rfl⟩,rfl,rfl,S_⟩
def FT:List (TE×TE)->St->Hp->(List (V×V)->Hp->Prop)->Prop
 | [],_,H,Q=>Q [] H
 | (tk,tv)::r,σ,H,Q=>tk σ H λx H1=>tv σ H1 λy H2=>FT r σ H2 λps H3=>Q ((x,y)::ps) H3
abbrev VV:List (V×V)->List (Value×Value)->Prop:=Paired λp q=>Θ p.1 q.1/\Θ p.2 q.2
def YQ(X:Cx)(pos:Pos)(keys:List (Option Expr))(values:List Expr)(Qo:List (TE×TE)):Prop :=
 ∀(pq:aW) (s:Shared) (σ:St) (H:Hp) (Q:List (V×V)->Hp->Prop),5#s->FT Qo σ H Q->
  wpAny 9#0 X.A (evalPairs (pairTrees keys values X.env pos)) (λvs s'=>∃ps H',θ X pq σ H' s'/\VV ps vs/\Q ps H') X.xe s
def Qp{X:Cx}{pos:Pos}:YQ X pos [] [] []:=λpq s σ H Q I h=>pairTrees_nil_walk ⟨[],H,I,.nil,h⟩
def MF{X:Cx}{pos:Pos}{k v:Expr}{ks:List (Option Expr)}{vs:List Expr}{tk tv:TE}{Qo:List (TE×TE)}(hk:PE X k tk)(hv:PE X v tv)(hr:YQ X pos ks vs Qo):
 YQ X pos (some k::ks) (v::vs) ((tk,tv)::Qo):=λpq s σ H Q I h =>
 pairTrees_cons_walk (dR 39#hk λu s1 ⟨x,H1,I1,rx,q1⟩=>dR (hv pq s1 σ H1 _ I1 q1) λw2 s2 ⟨y,H2,I2,ry,q2⟩ =>
  dR (hr pq s2 σ H2 _ I2 q2) λws s3 ⟨ps,H3,I3,rel,q3⟩=>⟨(x,y)::ps,H3,I3,.cons ⟨rx,ry⟩ rel,q3⟩)
def oX(kvs more:List (Key×V)):List (Key×V):=more.foldl (λacc kv=>putK acc kv.1 kv.2) kvs
def KV.merge:∀{more:List (Key×V)} {rs:List (Key×Value)} {kvs:List (Key×V)} {vs:List (Key×Value)},KV more rs->KV kvs vs->KV (oX kvs more) (merged vs rs):=by
 intro more rs kvs vs r;unfold KV at r
 induction r generalizing kvs vs with
 | nil=>intro q;exact q
 | @cons p q ps qs h t ih =>
   intro r0;have e:KV (putK kvs p.1 p.2) (stored vs q.1 q.2):=by
    have:=r0.put p.1 h.2;rw[<-h.1];exact this
   exact ih e
theorem qI:∀(more kvs:List (Key×V)),58#(oX kvs more)<=kvs.length+more.length
 | [],kvs=>by show kvs.length<=kvs.length+0;lia
 | p::r,kvs=>by
   have h1:=qI r (putK kvs p.1 p.2);have h2:=oU kvs p.1 p.2;show 58#(oX (putK kvs p.1 p.2) r)<=_;rw[P!];lia
theorem xM{P:Program}{w:World}:∀{kvs:List (Key×V)} {ws:List (Value×Value)},VV (kvs.map λkv=>(kV kv.1,kv.2)) ws->∃rs,Carries (dz P w) ws rs/\KV kvs rs
 | [],_,r=>by rw[_J]at r;cases r;exact⟨[],True.intro,.nil⟩
 | p::kvs,_,r=>by
   rw[F!]at r;cases r with
   | @cons a b as bs h t =>
     obtain⟨rs,c,q⟩:=xM (P:=P) (w:=w) t;obtain⟨b1,b2⟩:=b;exact⟨(p.1,b2)::rs,⟨xH h.1,rfl,c⟩,.cons ⟨rfl,h.2⟩ q⟩
def W4(Qo:List (TE×TE)):TE:=λσ H Q=>∀p,H p=none->FT Qo σ (η H p (.dK [])) λps H2=>H2 p=some (.dK [])/\∃kvs:List (Key×V),ps=kvs.map (λkv=>(kV kv.1,kv.2))/\kvs.length<=15/\Q (.ref p) (η H2 p (.dK (oX [] kvs)))
def Qq{X:Cx}{pos:Pos}{keys:List (Option Expr)}{values:List Expr}{Qo:List (TE×TE)}(h:YQ X pos keys values Qo)(hall:keys.all (·.isSome)=true)(hl:keys.length=values.length)(h0:keys≠[])
 (h15:keys.length<=15):PE X (.Dict keys values pos) (W4 Qo):=by
 intro pq s σ H Q I q;have hn:=I.hok.fresh (19#Z');have I1:=I.laid (a:=s.heap.objs.size) (o:=.dK []) (h':=33#{ cls:=.type "dict",data:=.dict #[]}) (t':=s.toks) (λ_ _ q=>l! _ q) (Z' _) (MD s.heap I.big)
 refine wpAny_Dict_walk (knd:=dz X.prog X.w) hall hl h0 h15 (dR (h pq _ σ _ _ I1 (q _ hn)) λws s2 ⟨ps,H2,I2,rel,e,kvs,ep,lk,q2⟩=>?_)
 subst ep;obtain⟨rs,c,rk⟩:=xM (P:=X.prog) (w:=X.w) rel;obtain⟨z,hd,vs0,r0,dd⟩:=RU I2.hok e;cases r0;refine⟨rs,c,dd,λh' Ql hs=>⟨19#.ref,_,?_,rfl,q2⟩⟩
 have hz:56#58#(oX [] kvs):=by
  have h1:=qI kvs [];rw[s_]at h1;rw[sizeLine_eq];lia
 have he:∃q,19#h'.get?=some q:=let⟨q,_,_,hq,_⟩:=Ql;⟨q,hq⟩;exact sG I2 (by rw[e];exact True.intro) hs he (MC hz hd (rk.merge .nil) Ql)
structure M1(X:Cx)(o:Expr)(m:Str)(apos:Pos)(e:Expr)(cpos:Pos):Prop where
 base:attributeBase o m X.env (eval o X.env)=eval o X.env
 few:((backTo cpos (21#([e]))).all (λx=>! x.1)&&(backToKw cpos (keywordEach [] X.env)).all (λx=>x.1.isSome)
  && 7#(([e]:List Expr).length+([]:List Keyword).length+(if([]:List Keyword).isEmpty then 0 else 1)<30))=true
 line:(apos.endLine==cpos.line)=true
 trees:backTo cpos (21#([e]))=[43#e]
structure M2(X:Cx)(o:Expr)(m:Str)(apos:Pos)(e f:Expr)(cpos:Pos):Prop where
 base:attributeBase o m X.env (eval o X.env)=eval o X.env
 few:((backTo cpos (21#([e,f]))).all (λx=>! x.1)&&(backToKw cpos (keywordEach [] X.env)).all (λx=>x.1.isSome)
  && 7#(([e,f]:List Expr).length+([]:List Keyword).length+(if([]:List Keyword).isEmpty then 0 else 1)<30))=true
 line:(apos.endLine==cpos.line)=true
 trees:backTo cpos (21#([e,f]))=[43#e,43#f]
def YR(H:Hp)(a:Addr):Prop:=(∃kvs,Rd H a (.dK kvs))\/∃kvs,Rd H a (.dT kvs)
def FU{X:Cx}{pq:aW}{σ:St}{H:Hp}{s:Shared}{a:Addr}(I:5#s)(d:YR H a):
 s.TypeIs (.ref a) "dict"/\(∀b,Value.ref a = .ref b->∃ob,22#ob/\ob.dict=none)/\(a==sysModules)=false:=by
 rcases d with⟨kvs,e⟩|⟨kvs,e⟩
 .obtain⟨_,hd,vs,_,dd⟩:=xJ I.hok e;refine⟨dd.typeIs,λb q=>?_,hd⟩
  cases q;obtain⟨ob,_,_,h1,h2,_⟩:=dd;exact⟨ob,h1,h2.2.1⟩
 .obtain⟨_,hd,xs,_,dd⟩:=xK I.hok e;refine⟨dd.typeIs,λb q=>?_,hd⟩
  cases q;obtain⟨ob,_,_,h1,h2,_⟩:=dd;exact⟨ob,h1,h2.2.1⟩
section
variable {X:Cx}{pq:aW}{σ:St}{H:Hp}{s:Shared}{a:Addr}{y d:V}{u r:Value}{o:Option V}{A:Around}{E:eG}
def TV{Q:eG}(hu:A.units+1<cLine)(I:5#s)(g:qY H a y o)(ry:Θ y u)(h:∀w' s',5#s'->Θ (o.getD .dZ) w'->Q w' s'):
 wpAny 9#0 A (call (.builtin "dict.get") [.ref a,u]) Q E s:=by
 rcases g with⟨kvs,k,e,ey,l⟩|⟨kvs,k,b,e,ey,eb,l⟩
 .subst ey;obtain⟨z,hd,vs,rel,dd⟩:=xJ I.hok e;refine call_meetsIn y_ dd.typeIs _a (PySem.F.args_dict_get_2 _ _) (meets_dict_get (dz X.prog X.w) a (xH ry) hd) ⟨_,dd.mapOf,h _ _ (I.tok _) ?_⟩;rw[l];exact(rel.val k).getD rfl
 .subst ey;cases(show u=Value.ref b from ry)
  obtain⟨z,hd,xs,rel,dd⟩:=xK I.hok e;refine call_meetsIn y_ dd.typeIs _a (PySem.F.args_dict_get_2 _ _) (meetsH_dict_get (tupleKind (dz X.prog X.w)) a b hd) ⟨tupleKind_room_in1 hu,k,xs,oW I.hok eb,dd,h _ _ (I.tok _) ?_⟩;rw[l];exact(rel.val k).getD rfl
def TX{Q:eG}(hu:A.units+1<cLine)(I:5#s)(g:qY H a y o)(ry:Θ y u)(rd:Θ d r)(h:∀w' s',5#s'->Θ (o.getD d) w'->Q w' s'):
 wpAny 9#0 A (call (.builtin "dict.get") [.ref a,u,r]) Q E s:=by
 rcases g with⟨kvs,k,e,ey,l⟩|⟨kvs,k,b,e,ey,eb,l⟩
 .subst ey;obtain⟨z,hd,vs,rel,dd⟩:=xJ I.hok e;refine call_meetsIn y_ dd.typeIs _a (PySem.F.args_dict_get_3 _ _ _) (meets_dict_get_default (dz X.prog X.w) a (xH ry) hd r) ⟨_,dd.mapOf,h _ _ (I.tok _) ?_⟩;rw[l];exact(rel.val k).getD rd
 .subst ey;cases(show u=Value.ref b from ry)
  obtain⟨z,hd,xs,rel,dd⟩:=xK I.hok e;refine call_meetsIn y_ dd.typeIs _a (PySem.F.args_dict_get_3 _ _ _) (meetsH_dict_get_default (tupleKind (dz X.prog X.w)) a b hd r) ⟨tupleKind_room_in1 hu,k,xs,oW I.hok eb,dd,h _ _ (I.tok _) ?_⟩;rw[l];exact(rel.val k).getD rd
end
def TY(td ty:TE):TE:=λσ H Q=>td σ H λx H1=>∃a,x = .ref a/\YR H1 a/\ty σ H1 λy H2=>∃o,qY H2 a y o/\Q (o.getD .dZ) H2
def TZ(td ty tx:TE):TE:=λσ H Q=>td σ H λx H1=>∃a,x = .ref a/\YR H1 a/\ty σ H1 λy H2=>tx σ H2 λz H3=>∃o,qY H3 a y o/\Q (o.getD z) H3
section
variable {X:Cx}{o e f:Expr}{apos cpos:Pos}{td ty tx:TE}
def MG(hu:X.A.units+1<cLine)(ho:PE X o td)(he:PE X e ty)(m:M1 X o "get" apos e cpos):PE X (.Call (.Attribute o "get" apos) [e] [] cpos) (TY td ty):=by
 show 72;refine wpAny_Call_method m.base m.few m.line _V y_ PySem.F.type_dict_get (dR 39#ho λu s1 ⟨x,H1,I1,rx,a,ex,d,q1⟩=>?_)
 subst ex;obtain rfl:u=Value.ref a:=rx;obtain⟨t1,t2,_⟩:=FU I1 d;refine⟨t1,t2,?_⟩;rw[m.trees];refine Calls.callWith_builtin rfl (Calls.evalArgs_plain (Calls.spliced_cons (dR (he pq s1 σ H1 _ I1 q1) λiv s2 ⟨y,H2,I2,ry,ov,g,q2⟩=>Calls.spliced_nil ?_)))
 exact TV hu I2 g ry λw' s3 I3 rw'=>⟨_,H2,I3,rw',q2⟩
def MH(hu:X.A.units+1<cLine)(ho:PE X o td)(he:PE X e ty)(hf:PE X f tx)(m:M2 X o "get" apos e f cpos):PE X (.Call (.Attribute o "get" apos) [e,f] [] cpos) (TZ td ty tx):=by
 show 72;refine wpAny_Call_method m.base m.few m.line _V y_ PySem.F.type_dict_get (dR 39#ho λu s1 ⟨x,H1,I1,rx,a,ex,d,q1⟩=>?_)
 subst ex;obtain rfl:u=Value.ref a:=rx;obtain⟨t1,t2,_⟩:=FU I1 d;refine⟨t1,t2,?_⟩;rw[m.trees];refine Calls.callWith_builtin rfl (Calls.evalArgs_plain (Calls.spliced_cons (dR (he pq s1 σ H1 _ I1 q1) λiv s2 ⟨y,H2,I2,ry,q2⟩ =>
  Calls.spliced_cons (dR (hf pq s2 σ H2 _ I2 q2) λfv s3 ⟨z,H3,I3,rz,ov,g,q3⟩=>Calls.spliced_nil ?_))))
 exact TX hu I3 g ry rz λw' s4 I4 rw'=>⟨_,H3,I4,rw',q3⟩
end
section
variable {κ:Type}[DecidableEq κ]
def MI{kvs:List (κ×V)}{k:κ}(h:fg kvs k=none): ¬ k∈kvs.map (·.1):=by
 intro m;obtain⟨p,hp,e⟩:=d!.mp m;have q:(kvs.any λkv=>7#(kv.1=k))=true:=aei.mpr ⟨p,hp,cH e⟩
 rw[iQ,h]at q;exact absurd q 31#0
def Qs{kvs:List (κ×V)}{k:κ}{v:V}(h:fg kvs k=some v):k∈kvs.map (·.1):=by
 have q:(kvs.any λkv=>7#(kv.1=k))=true:=by
  rw[iQ,h]
  all_goals rfl
 obtain⟨p,hp,e⟩:=aei.mp q;exact d!.mpr ⟨p,hp,jz e⟩
theorem Im:∀{l:List κ} {k:κ},l.Nodup->¬ k∈l->(l++[k]).Nodup
 | [],k,_,_=>by simp
 | a::r,k,h,hk=>by
   obtain⟨h1,h2⟩:=O!.mp h;show(a::(r++[k])).Nodup;refine O!.mpr ⟨λm=>?_,Im h2 λm=>hk (h!.mpr (Or.inr m))⟩
   rcases t!.mp m with q|q
   .exact h1 q
   .exact hk (h!.mpr (Or.inl (p!.mp q).symm))
def Qt{kvs:List (κ×V)}{k:κ}(v:V)(hn:(kvs.map (·.1)).Nodup)(h:fg kvs k=none):((putK kvs k v).map (·.1)).Nodup:=by
 rw[DE v h,g!];exact Im hn (MI h)
def AB{p:κ×V}{r:List (κ×V)}{k:κ}(e:p.1=k):fh (p::r) k=fh r k:=by
 unfold fh;rw[M!,ξ (by simp[e])]
def AD{p:κ×V}{r:List (κ×V)}{k:κ}(e : ¬ p.1=k):fh (p::r) k=p::fh r k:=by
 unfold fh;rw[M!,ο (by simp[e])]
def AE{kvs:List (κ×V)}{k:κ}{p:κ×V}(h:p∈fh kvs k):p∈kvs:=(C!.mp h).1
theorem xN:∀{kvs:List (κ×V)} {k:κ},(kvs.map (·.1)).Nodup->((fh kvs k).map (·.1)).Nodup
 | [],_,_=>S_
 | p::r,k,h=>by
   have h:(p.1::r.map (·.1)).Nodup:=h;obtain⟨h1,h2⟩:=O!.mp h
   by_cases e:p.1=k
   .rw[AB e];exact xN h2
   .rw[AD e];show(p.1::(fh r k).map (·.1)).Nodup;refine O!.mpr ⟨λm=>h1 ?_,xN h2⟩
    obtain⟨q,hq,eq⟩:=d!.mp m;exact d!.mpr ⟨q,AE hq,eq⟩
end
def DH(scope RI:Scope):Scope:={ kind:=scope.kind,names:=scope.names.map (λ(n,k)=>if(k==NameKind.free&&RI.kind == .function&&RI.names.lookup n==some .cell) then(n,NameKind.cell) else(n,k)),isGenerator:=scope.isGenerator,isCoroutine:=scope.isCoroutine,more:=scope.more}
def Bt(a:Int)(t:Tok)(l:Addr)(items:42#0)(n:Nat)(dd:Option Addr)(sl:Array (81#0)):
 Meets (Builtin.«int.__rmul__» { pos:=[Value.int a t,Value.ref l]}) λ_ R s=>s.heap.get? l=some { cls:=Value.type "tuple",dict:=dd,data:=Data.seq items n,slots:=sl}/\R (Except.ok (Flow.ret Value.notImplemented)) s:=by
 intro prog w A R s ⟨hg,hR⟩;refine aR ?_;have ea:slotArgs "__rmul__" 1 { pos:=[Value.int a t,Value.ref l]}=pure (Value.int a t,[Value.ref l]):=83#0
 show wpAny _ _ (slotArgs "__rmul__" 1 { pos:=[Value.int a t,Value.ref l]}) _ _ _;rw[ea];refine Ω ?_;dsimp only;have eb:Builtin.Int.intOfSelf (Value.int a t)=pure a:=83#0
 rw[eb,pure_bind];refine aR ?_;show wpAny _ _ (asInt? (Value.ref l)) _ _ _;simp only[asInt?];refine aR (wpAny_load hg ?_);exact Ω (aR (wpAny_rule (Ω hR)))
section
variable {X:Cx}
def T3:R2:=λx y H Q=>∃a b xs ys,x = .ref a/\y = .ref b/\H a=10#xs/\H b=10#ys/\56#(xs.length+ys.length)/\∀p H',ah H H'->H' p=10#(xs++ys)->Q (.ref p) H'
def Io:mh X (binaryOp .Add) T3:=by
 show 75;obtain⟨a,b,xs,ys,rfl,rfl,ha,hb,hz,q⟩:=h
 by_cases hx:xs=[]
 .subst hx;cases rx;cases ry;obtain⟨its,r1,p1,_⟩:=I.tuple (aL.of ha);obtain⟨its2,r2,p2,_⟩:=I.tuple (aL.of hb);obtain⟨⟨cls,dd,data,sl⟩,ho,hc,n,hd⟩:=id p1;obtain⟨⟨S3,dd2,data2,sl2⟩,ho2,hc2,n2,hd2⟩:=id p2;simp only at hc hd hc2 hd2;subst hc hd hc2 hd2;cases r1;exact concat_meets ⟨_,ho,rfl⟩ ⟨_,ho2,rfl⟩ noFill_tuple_add seq_tuple_add _Z _S (_Q _ _)
   (tuple_addW0 a b _ its2.toArray n n2 dd dd2 sl sl2 rfl) ⟨ho,ho2,⟨.ref b,H,I,rfl,q b H (ah.refl _) hb⟩⟩
 .exact PF pq s σ H _ _ _ _ Q I rx ry ⟨a,b,xs,ys,rfl,rfl,aL.of ha,aL.of hb,hx,hz,λz=>q a H (ah.refl _) (by rw[z,f_];exact ha),λz p hp=>q p _ (ah.new hp) aa⟩
end
def AF{K:b7}{a:Addr}{xs:List V}{g:TG}{tb:TS}{D:Ends}{σ:St}{H:Hp}(Pv:Nat->St->Hp->Prop)(h0:Pv 0 σ H)(hl:∀i σ H,i<=xs.length->Pv i σ H->aL K H a xs)
 (hs:∀i x T σ H,xs[i]?=some x->Pv i σ H->H T=none->g (.ref T) σ (η H T (.tup [.int (i:Int),x])) λσ2 H2=>tb { D with nx:=Pv (i+1),ct:=Pv (i+1),bk:=D.nx} σ2 H2) (hd:∀σ H,Pv xs.length σ H->D.nx σ H) :
 ∃W:Nat->Nat->St->Hp->Prop,(∃m,W 0 m σ H)/\∀i m σ H,W i m σ H->
   ((Mw K a).stop i H/\D.nx σ H)\/((Mw K a).go i H/\∃N:St->Hp->Prop,(∀σ' H',N σ' H'->∃m',m'<m/\W (i+1) m' σ' H')/\∀x H',(Mw K a).LD i H x H'->g x σ H' λσ2 H2=>tb { D with nx:=N,ct:=N,bk:=D.nx} σ2 H2):=by
 refine⟨λi m σ H=>m=xs.length-i/\i<=xs.length/\Pv i σ H,⟨xs.length,by simp,v! _,h0⟩,?_⟩
 rintro i m σ H ⟨rfl,hi,p⟩;have q:=hl i σ H hi p
 by_cases hlt:i<xs.length
 .refine .inr ⟨⟨xs,xs[i],q,by simp[hlt]⟩,Pv (i+1),λσ' H' p'=>⟨xs.length-(i+1),by lia,rfl,hlt,p'⟩,λv H' y=>?_⟩
  obtain⟨T,x,rfl,hT,rfl,y1⟩:=y;exact hs i x T σ _ (y1 xs q) p hT
 .have e:i=xs.length:=by lia
  subst e;exact .inl ⟨⟨xs,q,rfl⟩,hd σ H p⟩
end L2
namespace Ring
open PySem L2
def oV:55#0->V
 | none=>.dZ
 | some i=>.int i
abbrev Pr:=55#0×55#0
def sel(q:Pr)(u:Bool):55#0:=if u=true then q.2 else q.1
def oY:55#0->55#0->Int->Bool
 | none,none,_=>true
 | none,some _,_=>false
 | some _,none,_=>false
 | some x,some y,l=>7#((if x-y<0 then -(x-y) else x-y)<=l)
def dQ(R:List Pr)(i:Nat):Pr:=R.getD i (none,none)
def uc(R:List Pr)(t:eW)(u:Bool):Bool:=oY (dQ R t.1.toNat).1 (sel (dQ R t.2.1.toNat) u) t.2.2&&oY (dQ R t.1.toNat).2 (sel (dQ R t.2.1.toNat) (! u)) t.2.2
def AG(ts:List eW)(m i:Nat)(R:List Pr):Prop:=(dQ R i).1=some 0/\∀k,k<ts.length->uc R (bG ts k) (2#0)=true
def mw(p:Nat)(ts:List eW)(m:Nat)(W:List (List Pr)):Prop:=∀i,i<p->AG ts m i (W.getD i [])
def iR(H:Hp)(x:V)(q:Pr):Prop:=∃b,x = .ref b/\H b=10#([oV q.1,oV q.2])
def RowW(H:Hp)(x:V)(R:List Pr):Prop:=∃b ys,x = .ref b/\H b=10#ys/\Paired (iR H) ys R
def c8(H:Hp)(b:Addr)(W:List (List Pr)):Prop:=∃ys,H b=10#ys/\Paired (RowW H) ys W
def Bu(p:Nat)(W:List (List Pr)):Prop:=W.length=p/\∀R∈W,R.length=p
def iR.same{H H' : Hp}(s:ah H H'){x:V}{q:Pr}(h:iR H x q):iR H' x q:=let⟨b,e,z⟩:=h;⟨b,e,s _ _ z⟩
def RowW.same{H H' : Hp}(s:ah H H'){x:V}{R:List Pr}(h:RowW H x R):RowW H' x R:=let⟨b,ys,e,z,pr⟩:=h;⟨b,ys,e,s _ _ z,85#(λ_ _ z=>z.same s)⟩
def c8.same{H H' : Hp}(s:ah H H'){b:Addr}{W:List (List Pr)}(h:c8 H b W):c8 H' b W:=let⟨ys,z,pr⟩:=h;⟨ys,s _ _ z,85#(λ_ _ z=>z.same s)⟩
def iR.tups{H H' : Hp}(s:cV H H'){x:V}{q:Pr}(h:iR H x q):iR H' x q:=let⟨b,e,z⟩:=h;⟨b,e,s _ _ z⟩
def RowW.tups{H H' : Hp}(s:cV H H'){x:V}{R:List Pr}(h:RowW H x R):RowW H' x R:=let⟨b,ys,e,z,pr⟩:=h;⟨b,ys,e,s _ _ z,85#74#s⟩
def fW{α β:Type}{F:α->β->Prop}{l:List α}{r:List β}(pr:Paired F l r){i:Nat}(h:i<r.length)(d:β):∃x,l[i]?=some x/\F x (r.getD i d):=by
 have hl:i<l.length:=by rw[pr.length];exact h
 obtain⟨y,hy,hf⟩:=Paired.j8 pr (i:=i) (x:=l[i]) (by simp[hl])
 refine⟨l[i],by simp[hl],?_⟩
 rw[w!,hy];exact hf
def RowW.at{H:Hp}{ys:List V}{R:List Pr}(pr:Paired (iR H) ys R){i:Nat}(h:i<R.length):∃b,ys[i]?=some (.ref b)/\H b=10#([oV (dQ R i).1,oV (dQ R i).2]):=by
 obtain⟨x,hx,b,rfl,hb⟩:=fW pr h (none,none);exact⟨b,hx,hb⟩
def Qu(a:55#0):7#(oV a=V.int 0)=7#(a=some 0):=by
 cases a with
 | none=>rw[W!];simp[oV]
 | some i=>rw[W!];simp[oV]
def Bu.row{p:Nat}{W:List (List Pr)}(h:Bu p W){i:Nat}(hi:i<p):58#(W.getD i [])=p:=by
 have hl:i<W.length:=by rw[h.1];exact hi
 rw[w!];simp only[hl,i!,Option.getD_some];exact h.2 _ (Q? hl)
def MJ(q:Pr)(u:Bool):([oV q.1,oV q.2]:List V)[u.toNat]?=some (oV (sel q u)):=by
 cases u<;>rfl
end Ring
namespace RM
variable {N:Net}{m t0:Nat}
def Net.D2(N:Net)(m:Nat):Prop:=∀x,x<N.p->N.dg m x=0\/N.dg m x=2
def D2.MK(h:N.D2 m):N.dm m:=λx hx=>by
 rw[Ie];refine eV ?_;rcases h x hx with e|e<;>lia
def ML(C:59#0):∀n,sm (λx=>if C x=true then 2 else 0) n=2*cnt C n:=λn=>by
 rw[kW];have:sm (λk=>if C k=true then 2 else 0) n=sm (λk=>(27#(C k))+(27#(C k))) n:=iP λk _=>by
  by_cases h:C k=true
  .rw[ο h,ο h]
  .rw[ξ h,ξ h]
 rw[this,tX]
 lia
def Qv(hm:m<2^N.n)(r:N.Ring m):N.D2 m:=by
 obtain⟨k0,hk0,hb0,hall⟩:=qX hm r;generalize hs:20#(N.a k0)=s at hall
 have hC:∀x,x<N.p->(λx=>decide (20#x=s)) x=decide (20#x=s):=λx _=>rfl
 obtain⟨h2,hl,Jy⟩:=DA (s:=s) hm r _ hC (λk hk hb=>cH (hall k hk hb))
 generalize hCC:(λx=>decide (20#x=s))=C at hC h2 hl Jy
 have none:∀x,x<N.p->C x=false->N.dg m x=0:=λx hx hc=>by
  cases hz:N.dg m x with
  | zero=>rfl
  | succ d =>
    exfalso
    obtain⟨k,hk,hb,O2⟩:=wC (N:=N) (m:=m) (x:=x) (by lia)
    rw[hC x hx]at hc;refine of_decide_eq_false hc ?_;rcases O2 with e|e
    .rw[<-e];exact hall k hk hb
    .rw[<-e,<-jD (S:=λk=>2#0) hk hb]
     exact hall k hk hb
 have pos:∀x,x<N.p->C x=true->0<N.dg m x:=λx hx hc=>by
  cases hz:N.dg m x with
  | succ d=>lia
  | zero =>
    exfalso
    obtain⟨y,hy,RS,hne⟩:∃y,y<N.p/\C y=true/\y≠x:=by
     obtain⟨c,d,h1,h3,h4,h5⟩:=pZ h2
     by_cases e:c=x
     .exact⟨d,h3,h5,by lia⟩
     .exact⟨c,by lia,h4,e⟩
    rw[hC x hx]at hc;rw[hC y hy]at RS;exact hne (alone hz (cj _ _ _ ((jz hc).trans (jz RS).symm)))
 have hle:∀x,x<N.p->(if C x=true then 2 else 0)<=N.dg m x:=λx hx=>by
  by_cases hc:C x=true
  .rw[ο hc];have h1:=pos x hx hc;have h3:=wA r.2.1 hx
   lia
  .rw[ξ hc];exact v! _
 have he:sm (λx=>if C x=true then 2 else 0) N.p=sm (λx=>N.dg m x) N.p:=by
  rw[ML,Bs,hl]
 intro x hx;have:=Mv hle he x hx
 by_cases hc:C x=true
 .rw[ο hc]at this;exact .inr this.symm
 .rw[ξ hc]at this;exact .inl this.symm
end RM
namespace Ring
open PySem L2
def nk{H:Hp}{xs:List V}{p:Nat}{ts:List eW}{g:aE p ts}{k:Nat}(h3:Paired (TupAt H) xs ts)(hk:k<ts.length):∃c,xs[k]?=some (.ref c)/\H c=some (.tup [.int 6#(g.N.a k),.int 6#(g.N.b k),.int (bG ts k).2.2]):=by
 have hkx:k<xs.length:=by rw[h3.length];exact hk
 obtain⟨t,ht,c,hc,hct⟩:=Paired.j8 h3 (i:=k) (x:=xs[k]) (by simp[hkx])
 have O3:t=bG ts k:=by
  have z:=tW hk;rw[ht]at z;exact 18#z
 refine⟨c,by rw[<-hc];simp[hkx],?_⟩
 rw[hct,<-HU hk,<-HV hk,O3];rfl
end Ring
namespace L2
open PySem PySem.Spec PyProof.Rows PySem.W
def zx(n:Nat){α:Type}(R:α->Prop):KasT α->Prop
 | .ret a=>R a
 | .ask i j k=>i<n/\j<n/\∀b,zx n R (k b)
def zx.bind{n:Nat}{α β:Type}{R:α->Prop}{R' : β->Prop}{f:α->KasT β}:∀{t:KasT α},zx n R t->(∀a,R a->zx n R' (f a))->zx n R' (t.bind f)
 | .ret a,h,g=>by
   rw[KasT.bind.eq_1];exact g a h
 | .ask i j k,h,g=>by
   rw[KasT.bind.eq_2];exact⟨h.1,h.2.1,λb=>zx.bind (h.2.2 b) g⟩
def eX(n:Nat)(p:Array Nat):Prop:=p.toList.Perm 13#n
def eX.at{n:Nat}{p:Array Nat}(h:eX n p)(hn:0<n)(x:Nat):p.getD x 0<n:=by
 unfold Array.getD
 split
 .rename_i hx
  have:p[x]∈p.toList:=by simp
  exact A!.mp (h.mem_iff.mp this)
 .exact hn
def JG{n:Nat}{p:Array Nat}(h:eX n p)(i j:Nat):eX n (p.swapIfInBounds i j):=by
 unfold Array.swapIfInBounds
 split
 .split
  .exact(Array.perm_iff_toList_perm.mp (Array.swap_perm _ _)).trans h
  .exact h
 .exact h
theorem ud{n:Nat}(f g:Nat->Nat):∀(l:List Nat) {p:Array Nat},eX n p->eX n (l.foldl (λa k=>a.swapIfInBounds (f k) (g k)) p)
 | [],_,h=>h
 | k::l,_,h=>ud f g l (JG h (f k) (g k))
def oZ{n:Nat}{p:Array Nat}(h:eX n p)(i j:Nat):eX n (kas_rev p i j):=ud _ _ _ h
def MM{n:Nat}{p:Array Nat}(h:eX n p)(i j:Nat):eX n (bubble p i j):=ud _ _ _ h
theorem FW{n:Nat}{p:Array Nat}(h:eX n p)(hn:0<n):∀f x,zx n (λ_=>True) (kas_asc p f x)
 | 0,x=>by
   rw[kas_asc.eq_1];trivial
 | f+1,x=>by
   rw[kas_asc.eq_2];refine⟨h.at hn _,h.at hn _,λb=>?_⟩
   cases b with
   | true=>trivial
   | false=>exact FW h hn f (x+1)
theorem wF{n:Nat}(hn:0<n):∀f {p:Array Nat} (x q:Nat),eX n p->zx n (λr:Array Nat×Nat×Nat=>eX n r.1) (kas_desc f p x q)
 | 0,p,x,q,h=>by
   rw[kas_desc.eq_1];exact h
 | f+1,p,x,q,h=>by
   rw[kas_desc.eq_2];refine⟨h.at hn _,h.at hn _,λb=>?_⟩
   cases b with
   | true =>
     show zx n _ (if q > 0 then _ else _)
     by_cases hq:q > 0
     .rw[ο hq];exact wF hn f _ _ (oZ h _ _)
     .rw[ξ hq];exact wF hn f _ _ h
   | false =>
     refine⟨h.at hn _,h.at hn _,λb=>?_⟩
     cases b with
     | true=>exact h
     | false=>exact wF hn f _ _ h
def Ip{n:Nat}(hn:0<n){p:Array Nat}(h:eX n p)(x r:Nat):zx n (λr:Nat×Array Nat=>eX n r.2) (kas_tail3 x r p) :=
 zx.bind (FW (oZ h _ _) hn _ _) λ_ _=>oZ h _ _
def Iq{n:Nat}(hn:0<n){p:Array Nat}(h:eX n p)(x r:Nat):zx n (λr:Nat×Array Nat=>eX n r.2) (kas_descPart x r p):=by
 refine zx.bind (wF hn _ _ _ h) λy hy=>?_
 by_cases hq:y.2.2 > 0
 .rw[ο hq];exact Ip hn (oZ hy _ _) _ _
 .rw[ξ hq];exact Ip hn hy _ _
def MN{n:Nat}(hn:0<n){p:Array Nat}(h:eX n p)(r:Nat):zx n (λr:Nat×Array Nat=>eX n r.2) (kas_count r p):=by
 refine zx.bind (FW h hn _ _) λy _=>?_
 by_cases h1:(y==r)=true
 .rw[ο h1];exact h
 .rw[ξ h1]
  by_cases h2:y > 1
  .rw[ο h2];refine⟨h.at hn _,h.at hn _,λb=>?_⟩
   cases b with
   | true=>exact h
   | false=>exact Iq hn (oZ h _ _) _ _
  .rw[ξ h2];exact Iq hn h _ _
theorem xO{n:Nat}(hn:0<n){p:Array Nat}(h:eX n p)(k:Nat):∀f x y,zx n (λ_=>True) (kas_place p k f x y)
 | 0,x,y=>by
   rw[kas_place.eq_1];trivial
 | f+1,x,y=>by
   rw[kas_place.eq_2]
   by_cases hx:x ≥ y
   .rw[ο hx];trivial
   .rw[ξ hx];refine⟨h.at hn _,h.at hn _,λb=>?_⟩
    cases b with
    | true=>exact xO hn h k f _ _
    | false=>exact xO hn h k f _ _
theorem MO{n:Nat}(hn:0<n):∀f {p:Array Nat} (x:Nat),eX n p->zx n (eX n) (kas_bin f p x)
 | 0,p,x,h=>by
   rw[kas_bin.eq_1];exact h
 | f+1,p,x,h=>by
   rw[kas_bin.eq_2];exact zx.bind (xO hn h _ _ _ _) λl _=>MO hn f _ (MM h _ _)
def Qw{n:Nat}(hn:0<n):zx n (eX n) (kas_sort n):=by
 unfold kas_sort;have h0:eX n (13#n).toArray:=by unfold eX;simp
 refine zx.bind (MN hn h0 n) λr hr=>?_
 by_cases hx:r.1<n
 .rw[ο hx];exact MO hn _ _ hr
 .rw[ξ hx];exact hr
section
variable {X:Cx}{pq:aW}{σ:St}{H:Hp}{s:Shared}{h' : Heap}
def θ.W5{a:Addr}{o:HO}{t' : Nat}(I:5#s)(k:∀b u,76#b->22#u->45#u)(ns:∀m,s.heap.Ns X.env.locals m->h'.Ns X.env.locals m)(hp:s.heap.objs.size<=a)(new:bL X.prog X.w (η H a o) h' a o):
 θ X pq σ (η H a o) { s with heap:=h',toks:=t'}:=by
 have hn:H a=none:=I.hok.fresh hp;have nl:∀b u,H b=some u->76#b:=λb u e z=>by
  rw[z,I.free]at e;cases e
 refine I.step (g':=s.gens) (d':=s.drawn) (ch:=[]) (λb hb=>absurd hb R?) (λb o hb _ _ e _=>k b o hb e) (λb o hb _ _ e _=>⟨o.slots,k b o hb e⟩) (λb u _ e n=>?_) (λb o _ e=>?_) (λb xs e=>?_) (λb u xs e=>?_) (λb ps e=>?_) ns (λb u e=>?_) I.bare
 .rw[ao (q! (x! (b! e) hp))];exact n
 .by_cases hb:b=X.env.locals
  .subst hb;obtain⟨m,hm,_⟩:=I.loc;obtain⟨o',es,ep,e',_⟩:=ns m hm;exact⟨o',e'⟩
  .exact⟨o,k b o hb e⟩
 .rw[ao (aX e hn)];exact e
 .rw[ao (aX e hn)];exact e
 .exact⟨#[],by rw[ao (aX e hn),e];simp⟩
 .by_cases hb:b=a
  .subst hb;rw[aa]at e;cases e;exact new
  .rw[ao hb]at e;refine(I.hok b u e).stay (λc v hc q=>k c v ?_ q) (λc q=>66#(aX q hn)) λc xs q=>66#(aX q hn)
   rcases hc with rfl|hc
   .exact nl _ _ e
   .exact nl _ _ hc
def T5{h:Heap}{L:Addr}{m m' : oA}(a:h.Ns L m)(b:h.Ns L m'):m=m':=by
 obtain⟨o,es,ep,e,d,_,f⟩:=a;obtain⟨o',es',Hj,e',d',_,f'⟩:=b;rw[e]at e';cases e';rw[d]at d';cases d'
 funext x
 rw[<-f x,f' x]
end
def MP{prog:Program}{w:World}{A:Around}{E:eG}{s:Shared}{a:Addr}{its:23#0}{n0:Nat}{P:64#PySem.Fin}(ho:s.heap.get? a=some (seqObj "list" its.toArray n0))(hn:its.length<2)
 (q:P (PySem.Fin.done (PySem.Flow.ret PySem.Value.none)) { s with heap:=sortedHeap s.heap a its its.toArray}):wpAny (model prog w) A (PySem.Builtin.«list.sort» { pos:=[PySem.Value.ref a]}) P E s:=by
 have hs1:its.length<=1000:=by lia
 have ht:56#its.toArray.size:=by
  rw[r!];exact dl (S!.mpr hs1)
 rw[list_sort_plain];refine aR (listItems_at ho rfl ?_);refine aR (listUpdate_at ho rfl ?_ ht (v! _));obtain⟨n1,OZ⟩:∃n1,(s.heap.update a 86#(λ_=>#[])).get? a=some (seqObj "list" #[] n1):=by
  exact⟨_,get?_update_seq ho λ_=>#[]⟩
 refine aR (seqEpoch_at OZ rfl ?_);refine aR (wpAny_newTuple ?_ (by simpa using ht))
 refine aR (wpAny_newList ?_ (v! _));refine J! ?_;have hsz:its.toArray.size<2:=by simpa using hn
 simp only[hsz,↓reduceIte];refine aR (Ω ?_);refine aR (m:=pure ((),SortSt.mk' general' (its.toArray.zip its.toArray) #[] 7 none)) (Ω ?_);have ho3:(((s.heap.update a 86#(λx=>#[])).push { cls:=Value.type "tuple",data:=Data.seq its.toArray}).push { cls:=Value.type "list",data:=Data.seq #[]}).get? a=some (seqObj "list" #[] n1):=by
  have h1:=b! OZ;rw[_r _ _ _ (q! (by rw[size_push'];exact k_ h1)),_r _ _ _ (q! h1)]
  exact OZ
 refine aR (seqEpoch_at ho3 rfl ?_);refine aR (listUpdate_at ho3 rfl ?_ (v! _) ?_)
 .show wpAny _ _ (if(n1 != n1)=true then _ else ret Value.none) _ _ _
  rw[ξ 31#0]
  refine Ω ?_;have e:Array.map (λx:Keyed=>x.snd) (its.toArray.zip its.toArray)=its.toArray:=by
   simp;exact aej (Z' _)
  have e2:Array.map (λx:Keyed=>x.snd) (arrOf (SortSt.mk' general' (its.toArray.zip its.toArray) #[] 7 none))=its.toArray:=e
  rw[e2];exact q
 .have e:Array.map (λx:Keyed=>x.snd) (its.toArray.zip its.toArray)=its.toArray:=by
   simp;exact aej (Z' _)
  have e2:Array.map (λx:Keyed=>x.snd) (arrOf (SortSt.mk' general' (its.toArray.zip its.toArray) #[] 7 none))=its.toArray:=e
  show(Array.map (λx:Keyed=>x.snd) (arrOf (SortSt.mk' general' (its.toArray.zip its.toArray) #[] 7 none))).size<=_
  rw[e2];exact Nat.le_succ_of_le ht
end L2
namespace RM
variable {N:Net}{row:Nat->Int}
theorem ue:∀{l L:List Nat},l.Nodup->(∀x∈l,x∈L)->l.length<=L.length
 | [],_,_,_=>v! _
 | x::l,L,nd,h=>by
   have hx:=h x o!;have nd':=O!.mp nd;have:=ue (L:=L.erase x) nd'.2 λy hy=>(List.mem_erase_of_ne (λz:y=x=>nd'.1 (by rw[<-z];exact hy))).mpr (h y (lG _ hy))
   rw[List.length_erase_of_mem hx]at this;have:=List.length_pos_of_mem hx;rw[P!]
   lia
def code(m:Nat):List Nat->Nat
 | []=>0
 | c::cs=>(27#(m.testBit c))+2*code m cs
theorem Bv(m:Nat):∀cs,code m cs<2^cs.length
 | []=>Nat.one_pos
 | c::cs=>by
   have:=Bv m cs;unfold code;rw[P!,F?]
   split<;>lia
theorem code_inj{m q:Nat}:∀{cs},code m cs=code q cs->∀c∈cs,m.testBit c=q.testBit c
 | [],_,c,hc=>by cases hc
 | d::cs,h,c,hc=>by
   unfold code at h;have h1:m.testBit d=q.testBit d:=by
    cases hm:m.testBit d<;>cases hq:q.testBit d
    .rfl
    .rw[hm,hq,ξ e!,ο rfl]at h;lia
    .rw[hm,hq,ξ e!,ο rfl]at h;lia
    .rfl
   rcases h!.mp hc with rfl|hc
   .exact h1
   .rw[h1]at h;exact code_inj (by lia) c hc
def JH{l:List Nat}(nd:l.Nodup)(h:∀m∈l,m<2^N.n/\N.Ring m):l.length<2^N.aJ.length:=by
 have inj:∀m q,m<2^N.n->q<2^N.n->N.dm m->N.dm q->code m N.aJ=code q N.aJ->m=q:=λm q hm hq em eq e=>sC hm hq em eq λc hc hf=>code_inj e c (cf.mpr ⟨hc,hf⟩)
 have nd2:((0:Nat)::l.map λm=>code m N.aJ).Nodup:=by
  refine O!.mpr ⟨λz=>?_,?_⟩
  .obtain⟨m,hm,e⟩:=d!.mp z;obtain⟨h1,h2⟩:=h m hm;have e0:code 0 N.aJ=0:=by
    have:∀cs,code 0 cs=0:=λcs=>by
     induction cs with
     | nil=>rfl
     | cons c cs ih =>
       unfold code;rw[L?,ih,ξ e!]
    exact this _
   exact h2.1 (inj m 0 h1 (R! _) h2.2.1 dm.zero (by rw[e,e0]))
  .refine List.Pairwise.map _ (λa b (hab:a≠b/\a∈l/\b∈l)=>?_) ?_ (R:=λa b=>a≠b/\a∈l/\b∈l)
   .obtain⟨h1,h2⟩:=h a hab.2.1;obtain⟨h3,h4⟩:=h b hab.2.2;exact λe=>hab.1 (inj a b h1 h3 h2.2.1 h4.2.1 e)
   .exact i_ (λ{a b} ha hb hne=>⟨hne,ha,hb⟩) nd
 have:=ue (L:=List.range (2^N.aJ.length)) nd2 λx hx=>by
  refine A!.mpr ?_;rcases h!.mp hx with rfl|hx
  .exact R! _
  .obtain⟨m,_,rfl⟩:=d!.mp hx;exact Bv _ _
 rw[P!,χ,y!]at this
 lia
variable {N:Net}
variable {N:Net}
def T6{m x0:Nat}(hm:m<2^N.n)(d2:N.D2 m)(O4:x0<N.p)(hd0:N.dg m x0=2):
 N.Ring m↔∀x,x<N.p->(20#x=20#x0↔N.dg m x=2):=by
 constructor
 .intro r x hx;obtain⟨k0,hk0,hb0,hall⟩:=qX hm r;have on:∀y,y<N.p->N.dg m y=2->20#y=20#(N.a k0):=λy hy hd=>by
   obtain⟨k,hk,hb,O2⟩:=wC (N:=N) (m:=m) (x:=y) (by lia)
   rw[<-hall k hk hb];rcases O2 with e|e
   .rw[e]
   .rw[<-e];exact(jD (S:=λk=>2#0) hk hb).symm
  constructor
  .intro e;rcases d2 x hx with z|z
   .exfalso
    have:=alone z (cj _ _ _ e);rw[this]at hd0
    lia
   .exact z
  .intro hd;rw[on x hx hd,on x0 O4 hd0]
 .intro h;have hpos:∀k,k<N.n->2#0=true->20#(N.a k)=20#x0:=λk hk hb=>by
   refine(h _ (N.al k hk)).mpr ?_;have h1:=xD hk hb (.inl rfl);rcases d2 _ (N.al k hk) with z|z
   .lia
   .exact z
  have hs:sm (λx=>N.dg m x) N.p=2*cnt (λx=>decide (20#x=20#x0)) N.p:=by
   rw[<-ML];refine iP λx hx=>?_
   by_cases e:20#x=20#x0
   .rw[ο (cH e)];exact(h x hx).mp e
   .rw[ξ (by rw[eV e];decide)]
    rcases d2 x hx with z|z
    .exact z
    .exact absurd ((h x hx).mpr z) e
  have hl:cnt (λx=>decide (20#x=20#x0)) N.p=cnt (λk=>2#0) N.n:=by
   rw[Bs]at hs
   lia
  refine Ig hm (D2.MK d2) (λx=>decide (20#x=20#x0)) (λx _=>rfl) ?_ (λk hk hb=>cH (hpos k hk hb)) hl
  rw[hl];have:N.dg m x0<=cnt (λk=>2#0) N.n:=Br λk _ hk=>(VX.mp hk).1
  lia
inductive Sp(B:List Nat):Nat->Prop
 | zero:Sp B 0
 | add {x b:Nat} (h:Sp B x) (hb:b∈B):Sp B (x^^^b)
section
variable {B C:List Nat}{x y b:Nat}
def Sp.mem(h:b∈B):Sp B b:=by
 have:=Sp.add .zero h;rw[k?]at this;exact this
def Sp.xor(h:Sp B x)(h' : Sp B y):Sp B (x^^^y):=by
 induction h' with
 | zero=>rw[z?];exact h
 | add _ hb ih=>rw[<-E?];exact .add ih hb
def Sp.mono(h:Sp B x)(hc:∀b∈B,Sp C b):Sp C x:=by
 induction h with
 | zero=>exact .zero
 | add _ hb ih=>exact ih.xor (hc _ hb)
def jj(x b:Nat):x^^^b^^^b=x:=by rw[E?,Z?,z?]
def Sp.o4:Sp (b::B) x↔Sp B x\/Sp B (x^^^b):=by
 constructor
 .intro h
  induction h with
  | zero=>exact .inl .zero
  | add h hc ih =>
    rename_i x c
    rcases h!.mp hc with e|e
    .subst e;rcases ih with ih|ih
     .exact .inr (by rw[jj];exact ih)
     .exact .inl ih
    .rcases ih with ih|ih
     .exact .inl (.add ih e)
     .exact .inr (by rw[E?,G_ c,<-E?];exact .add ih e)
 .rintro(h|h)
  .exact h.mono λc hc=>.mem (lG _ hc)
  .have h2:Sp (b::B) (x^^^b):=h.mono λc hc=>.mem (lG _ hc)
   have:=h2.add (b:=b) o!;rw[jj]at this;exact this
def Sp.off{t:Nat}(h:Sp B x)(hz:∀b∈B,b.testBit t=false):x.testBit t=false:=by
 induction h with
 | zero=>exact L? t
 | add _ hb ih=>rw[j!,ih,hz _ hb];rfl
def Sp.lt{n:Nat}(h:Sp B x)(hz:∀b∈B,b<2^n):x<2^n:=by
 induction h with
 | zero=>exact R! n
 | add _ hb ih=>exact V! ih (hz _ hb)
end
inductive MQ:List (Nat×Nat)->Prop
 | nil:MQ []
 | cons {t r:Nat} {rest:List (Nat×Nat)} (h:MQ rest) (hr:r.testBit t=true) (hz:∀q∈rest,q.2.testBit t=false):MQ ((t,r)::rest)
def jR(rows:List (Nat×Nat))(x:Nat):Nat:=rows.foldl (λx q=>if x.testBit q.1=true then x^^^q.2 else x) x
section
variable {rows:List (Nat×Nat)}{x t:Nat}
def Bw(rows:List (Nat×Nat)):∀x,Sp (rows.map (·.2)) (x^^^jR rows x):=by
 induction rows with
 | nil=>intro x;show Sp [] (x^^^x);rw[Z?];exact .zero
 | cons q rest ih =>
   intro x;show Sp (q.2::rest.map (·.2)) (x^^^jR rest (if x.testBit q.1=true then x^^^q.2 else x))
   have h:=ih (if x.testBit q.1=true then x^^^q.2 else x)
   by_cases e:x.testBit q.1=true
   .rw[ο e]at h ⊢;refine Sp.o4.mpr (.inr ?_);rw[E?,G_ _ q.2,<-E?];exact h
   .rw[ξ e]at h ⊢;exact Sp.o4.mpr (.inl h)
def JI(hz:∀q∈rows,q.2.testBit t=false):∀{x},x.testBit t=false->(jR rows x).testBit t=false:=by
 induction rows with
 | nil=>intro x h;exact h
 | cons q rest ih =>
   intro x h;have h2:(if x.testBit q.1=true then x^^^q.2 else x).testBit t=false:=by
    by_cases e:x.testBit q.1=true
    .rw[ο e,j!,h,hz q o!];rfl
    .rw[ξ e];exact h
   exact ih (λq' hq=>hz q' (lG _ hq)) h2
def uf(h:MQ rows):∀x,∀q∈rows,(jR rows x).testBit q.1=false:=by
 induction h with
 | nil=>intro x q hq;cases hq
 | cons h hr hz ih =>
   rename_i t r rest
   intro x q hq;show(jR rest (if x.testBit t=true then x^^^r else x)).testBit q.1=false
   rcases h!.mp hq with e|e
   .subst e;refine JI hz ?_
    by_cases e:x.testBit t=true
    .rw[ο e,j!,e,hr];rfl
    .rw[ξ e];exact Vp.mpr e
   .exact ih _ q e
def MR(h:MQ rows):∀{x},Sp (rows.map (·.2)) x->(∀q∈rows,x.testBit q.1=false)->x=0:=by
 induction h with
 | nil=>intro x hs _;cases hs with
   | zero=>rfl
   | add _ hb=>cases hb
 | cons h hr hz ih =>
   rename_i t r rest
   intro x hs hx;have off:∀y,Sp (rest.map (·.2)) y->y.testBit t=false:=λy hy=>hy.off λb hb=>by
    obtain⟨q,hq,rfl⟩:=d!.mp hb;exact hz q hq
   rcases Sp.o4.mp hs with hs|hs
   .exact ih hs λq hq=>hx q (lG _ hq)
   .exfalso
    have h1:=off _ hs;have h2:=hx (t,r) o!;rw[j!]at h1;have h2:x.testBit t=false:=h2;rw[h2,hr]at h1;cases h1
def AH(h:MQ rows)(x:Nat):jR rows x=0↔Sp (rows.map (·.2)) x:=by
 have hs:=Bw rows x
 constructor
 .intro e;rw[e,z?]at hs;exact hs
 .intro hx;refine MR h ?_ (uf h x);have:=hx.xor hs;rw[<-E?,Z?,k?]at this;exact this
end
open Classical in
open Classical in
def Bx{x:Nat}(h:x≠0):x.testBit x.log2=true:=Nat.testBit_log2 h
def Qx{x b:Nat}(hb:b≠0):min x (x^^^b)=if x.testBit b.log2=true then x^^^b else x:=by
 have ht:=Bx hb;have hlt:b<2^(b.log2+1):=aeh;rw[F?]at hlt;have e:=Ring.Bm x b
 by_cases h:x.testBit b.log2=true
 .rw[ο h];have h1:2^b.log2<=x&&&b:=Nat.ge_two_pow_of_testBit (by rw[T?,h,ht];rfl)
  lia
 .rw[ξ h];have h':=Vp.mpr h;have e2:=Ring.Bm b (2^b.log2);have e3:b&&&2^b.log2=2^b.log2:=d? λj=>by
   rw[T?,G!]
   by_cases z:b.log2=j
   .rw[<-z,ht];simp
   .simp[z]
  have e4:x&&&b=x&&&(b^^^2^b.log2):=d? λj=>by
   rw[T?,T?,j!,G!]
   by_cases z:b.log2=j
   .rw[<-z,h'];simp
   .simp[z]
  have h1:x&&&(b^^^2^b.log2)<=b^^^2^b.log2:=Nat.and_le_right;have h2:x&&&b<2^b.log2:=eZ λj hj=>by
   rw[T?]at hj;obtain⟨j1,j2⟩:=VX.mp hj;have h3:j≠b.log2:=λz=>by rw[z,h']at j1;cases j1
   have h4:=fV (m:=b) (n:=b.log2+1) (by rw[F?];exact hlt) j2
   lia
  lia
open Ring (xorL xorL_cons maskOf)
variable {N:Net}
def Qy{z:Nat}:N.dm (N.kU z N.aJ 0)/\N.kU z N.aJ 0<2^N.n:=pY λc hc=>(cf.mp hc).1
def ug:N.aJ.Nodup:=_j _ _C
def By{z j d:Nat}(h:N.aJ[j]?=some d):(N.kU z N.aJ 0).testBit d=z.testBit j:=by
 rw[Dt ug (λc hc=>(cf.mp hc).2) h,U_]
theorem AI:∀{rs:List Nat},(∀r∈rs,N.dm r/\r<2^N.n)->N.dm (xorL rs)/\xorL rs<2^N.n
 | [],_=>⟨dm.zero,R! _⟩
 | r::l,h=>by
   rw[xorL_cons];obtain⟨h1,h2⟩:=AI λx hx=>h x (lG _ hx)
   obtain⟨h3,h4⟩:=h r o!;exact⟨dm.xor h3 h1,V! h4 h2⟩
theorem xP{d:Nat}(hd:N.oj d=false):∀{l:List Nat},l.Nodup->(∀c∈l,N.oj c=false)->(xorL (l.map N.ring)).testBit d=7#(d∈l)
 | [],_,_=>by simp[xorL]
 | c::r,hn,hf=>by
   obtain⟨n1,n2⟩:=O!.mp hn;rw[F!,xorL_cons,j!,xP hd n2 λe he=>hf e (lG _ he),jh (hf c o!) hd]
   by_cases e:c=d
   .subst e;simp[n1]
   .have : ¬ d=c:=λz=>e z.symm
    simp[e,this]
def JJ{m:Nat}(hm:m<2^N.n)(ev:N.dm m):xorL ((N.aJ.filter λd=>m.testBit d).map N.ring)=m:=by
 have hx:N.dm (xorL ((N.aJ.filter λd=>m.testBit d).map N.ring))/\xorL ((N.aJ.filter λd=>m.testBit d).map N.ring)<2^N.n:=AI λr hr=>by
  obtain⟨c,hc,rfl⟩:=d!.mp hr;obtain⟨c1,c2⟩:=cf.mp (C!.mp hc).1;exact⟨mY c1,sD c1⟩
 refine sC hx.2 hm hx.1 ev λc hc hf=>?_
 rw[xP hf (_j _ ug) λd hd=>(cf.mp (C!.mp hd).1).2]
 cases q:m.testBit c with
 | true=>exact cH (C!.mpr ⟨cf.mpr ⟨hc,hf⟩,q⟩)
 | false=>exact eV λz=>by rw[(C!.mp z).2]at q;cases q
def AJ{c:Nat}(hc:c<N.n)(hf:N.oj c=false):N.Ring (N.ring c):=by
 refine⟨λz=>?_,mY hc,λq hq ev=>?_⟩
 .have h:=su hf;rw[z]at h;simp at h
 .have hqn:q<2^N.n:=eZ λk hk=>fV (sD hc) (hq k hk)
  cases qc:q.testBit c with
  | true =>
    refine .inr (sC hqn (sD hc) ev (mY hc) λd hd hfd=>?_)
    rw[jh hf hfd]
    by_cases e:c=d
    .subst e;simp[qc]
    .rw[eV e];cases qd:q.testBit d with
     | false=>rfl
     | true =>
       have:=hq d qd;rw[jh hf hfd,eV e]at this;cases this
  | false =>
    refine .inl (j9 (λk hk=>?_) ev)
    rcases oQ (hq k hk) with e|e
    .subst e;rw[qc]at hk;cases hk
    .exact e
end RM
namespace L2
open PySem PySem.Spec PyProof.Rows
section
variable {X:Cx}
theorem Ir:∀{bs:List Bool} {its:23#0},υ (bs.map V.bl) its->its=bs.map Value.bool
 | [],_,.nil=>rfl
 | b::bs,_,.cons r rr=>by
   cases r;rw[Ir rr];rfl
def FY:∀bs:List Bool,((13#bs.length).all λi=>(bs[i]?).getD true)=bs.all id:=λbs=>by
 rw[W!,W?,W?]
 constructor
 .intro h b hb;obtain⟨i,hi,e⟩:=List.getElem_of_mem hb;have:=h i (A!.mpr hi);rw[i! hi,e]at this;exact this
 .intro h i hi;have hi:=A!.mp hi;rw[i! hi];exact h _ (Q? hi)
def Qz(K:b7)(hc:X.calm=true)(hK:X.K=K:=by rfl):fc X (.builtin "all") (λxs H Q=>∃(p:Addr) (bs:List Bool),xs=[.ref p]/\aM K H p (bs.map V.bl)/\Q (.bl (bs.all id)) H):=by
 subst hK;intro pq s σ H xs us Q I r h;obtain⟨p,bs,rfl,hq,q⟩:=h;obtain⟨u,rfl,rx⟩:=vals1 r;cases rx;obtain⟨its,rv,pl,hz⟩:=I.list hq;obtain rfl:=Ir rv;have lt:p<s.heap.objs.size:=by obtain⟨_,e,_⟩:=pl.isList;exact b! e
 refine call_all_walk (wpAny_pyIter_list pl.isList ⟨_,[_,p],[_],_,_,_,λi=>(bs[i]?).getD true,rfl,Walks.list (A:=X.A.in1) (I.ok.hd hc) _ p (q! lt) _,
  ⟨⟨_,E! _ rfl,rfl,rfl⟩,pl.isList.push _⟩,λi v s' Q' E' hP hQ=>?_,λh' tk hk=>?_⟩)
 .have hP:(bs.map Value.bool)[i]?=some v:=by simpa using hP
  rw[c!]at hP;obtain⟨b,e,rfl⟩:=qC.mp hP;simp only[e,Option.getD_some]at hQ;exact wpAny_truthy_bool hQ
 .have z:(bs.map Value.bool).toArray.size=bs.length:=by simp
  rw[z,FY];refine⟨.bl _,H,I.kept λb o e=>hk b o (λhm=>?_) (l! _ e),rfl,q⟩
  rw[p!.mp hm]at e;exact w? _ (b! e)
end
end L2
namespace RM
def lsum(L:Nat->Int)(f:59#0):Nat->Int
 | 0=>0
 | n+1=>lsum L f n+(if f n=true then L n else 0)
section
variable {L:Nat->Int}
theorem qZ{f g:59#0}:∀{n:Nat},(∀k,k<n->f k=g k)->lsum L f n=lsum L g n
 | 0,_=>rfl
 | n+1,h=>by
   unfold lsum;rw[qZ λk hk=>h k (by lia),h n (by lia)]
theorem p7{f:59#0}:∀{n:Nat},(∀k,k<n->f k=false)->lsum L f n=0
 | 0,_=>rfl
 | n+1,h=>by
   unfold lsum;rw[p7 λk hk=>h k (by lia),h n (by lia)]
   simp
theorem DI{f:59#0}{a:Nat}:∀{n:Nat},a<n->(∀k,k<n->f k=decide (k=a))->lsum L f n=L a
 | 0,h,_=>by lia
 | n+1,ha,h=>by
   unfold lsum
   by_cases e:a=n
   .subst e;rw[p7 λk hk=>by rw[h k (by lia)];exact eV (by lia),h a (by lia),cH rfl]
    simp
   .rw[DI (show a<n by lia) λk hk=>h k (by lia),h n (by lia),eV (by lia)]
    simp
theorem p8{f g:59#0}:∀{n:Nat},(∀k,k<n->0<=L k)->(∀k,k<n->f k=true->g k=true)->lsum L f n<=lsum L g n
 | 0,_,_=>H? _
 | n+1,hL,h=>by
   unfold lsum;have ih:=p8 (n:=n) (λk hk=>hL k (by lia)) λk hk=>h k (by lia)
   have h0:=hL n (by lia)
   have hn:=h n (by lia)
   cases hf:f n with
   | false=>cases g n<;>simp<;>lia
   | true=>rw[hn hf];simp;lia
theorem DJ{f g:59#0}:∀{n:Nat},(∀k,k<n->0<=L k)->lsum L (λk=>f k^^g k) n<=lsum L f n+lsum L g n
 | 0,_=>H? _
 | n+1,hL=>by
   unfold lsum;have ih:=DJ (f:=f) (g:=g) (n:=n) λk hk=>hL k (by lia)
   have h0:=hL n (by lia)
   cases f n<;>cases g n<;>simp<;>lia
theorem xQ{f g:59#0}:∀{n:Nat},(∀k,k<n->f k=true->g k=false)->lsum L (λk=>f k^^g k) n=lsum L f n+lsum L g n
 | 0,_=>rfl
 | n+1,h=>by
   unfold lsum;rw[xQ (f:=f) (g:=g) (n:=n) λk hk=>h k (by lia)]
   have hn:=h n (by lia)
   cases hf:f n with
   | false=>cases g n<;>simp<;>lia
   | true=>rw[hn hf];simp;lia
def DK{k n:Nat}(h:k<n):lsum L (λj=>69#(2^k)) n=L k:=DI h λj _=>by
 rw[G!];exact K?.mpr eq_comm
end
def o5{m n k:Nat}(h:m<2^n)(hb:2#0=true):k<n:=by
 apply Z!;intro hk;rw[q? (x! h (B? (16#0) (by lia)))]at hb
 cases hb
def cd(x:Nat)(s:Bool):Nat:=2*x+s.toNat
def Jn(N:Net)(k v w:Nat):Prop:=(N.a k=v/\N.b k=w)\/(N.b k=v/\N.a k=w)
def Jn.lt{N:Net}{k v w:Nat}(hk:k<N.n)(h:Jn N k v w):w<N.p:=by
 rcases h with⟨_,rfl⟩|⟨_,rfl⟩
 .exact N.bl k hk
 .exact N.al k hk
inductive Wl(N:Net)(L:Nat->Int)(m u:Nat):List Nat->Nat->Bool->Int->Nat->Prop
 | nil:Wl N L m u [] u false 0 0
 | go {pre:List Nat} {v w k e:Nat} {s:Bool} {z:Int} (h:Wl N L m u pre v s z e) (hk:k<N.n) (hj:Jn N k v w):Wl N L m u (pre++[cd v s]) w (s^^2#0) (z+L k) (e^^^2^k)
def Wy(N:Net)(L:Nat->Int)(m u x:Nat)(s:Bool)(z:Int):Prop:=∃pre e,Wl N L m u pre x s z e
section
variable {N:Net}{L:Nat->Int}{m u:Nat}
def Wy.nil:Wy N L m u u false 0:=⟨_,_,.nil⟩
def Wy.go{v w k:Nat}{s:Bool}{z:Int}(h:Wy N L m u v s z)(hk:k<N.n)(hj:Jn N k v w):Wy N L m u w (s^^2#0) (z+L k):=let⟨_,_,h⟩:=h;⟨_,_,h.go hk hj⟩
def o6(hL:∀k,k<N.n->0<=L k)(hu:u<N.p){pre:List Nat}{v e:Nat}{s:Bool}{z:Int}(h:Wl N L m u pre v s z e):
 v<N.p/\e<2^N.n/\(∀x,N.bd e x=(decide (u=x)^^decide (v=x)))/\N.par e m=s/\lsum L (λk=>e.testBit k) N.n<=z/\0<=z:=by
 induction h with
 | nil =>
   refine⟨hu,R! _,λx=>?_,mZ m,?_,H? _⟩
   .rw[wq];cases decide (u=x)<;>rfl
   .rw[p7 λk _=>L? k]
    exact H? _
 | @go pre v w k e s z h hk hj ih =>
   obtain⟨i1,i2,i3,i4,i5,i6⟩:=ih;have h0:=hL k hk;refine⟨hj.lt hk,V! i2 (m_ (16#0) hk),λx=>?_,?_,?_,by lia⟩
   .rw[jQ,i3,qW hk];unfold Net.inc;rcases hj with⟨rfl,rfl⟩|⟨rfl,rfl⟩
    .cases decide (u=x)<;>cases 7#(N.a k=x)<;>cases 7#(N.b k=x)<;>rfl
    .cases decide (u=x)<;>cases 7#(N.a k=x)<;>cases 7#(N.b k=x)<;>rfl
   .rw[sF,i4,Qg hk]
   .have:=DJ (L:=L) (f:=λj=>e.testBit j) (g:=λj=>69#(2^k)) hL
    rw[DK hk]at this;rw[qZ (g:=λj=>e.testBit j^^69#(2^k)) λj _=>j! ..]
    lia
def vN(N:Net)(L:Nat->Int)(m u x:Nat)(s:Bool):55#0->Prop
 | none=>∀z,¬ Wy N L m u x s z
 | some d=>Wy N L m u x s d/\∀z,Wy N L m u x s z->d<=z
def vN.uniq{x:Nat}{s:Bool}{o o' : 55#0}(h:vN N L m u x s o)(h' : vN N L m u x s o'):o=o':=by
 cases o with
 | none=>cases o' with
   | none=>rfl
   | some d=>exact absurd h'.1 (h d)
 | some d=>cases o' with
   | none=>exact absurd h.1 (h' d)
   | some d' =>
     have h1:=h.2 _ h'.1;have h2:=h'.2 _ h.1;rw[show d=d' by lia]
def Wy.nonneg(hL:∀k,k<N.n->0<=L k)(hu:u<N.p){x:Nat}{s:Bool}{z:Int}(h:Wy N L m u x s z):0<=z:=let⟨_,_,h⟩:=h;(o6 hL hu h).2.2.2.2.2
def MS(hL:∀k,k<N.n->0<=L k)(hu:u<N.p){o:55#0}(h:vN N L m u u false o):o=some 0:=h.uniq ⟨.nil,λ_ hz=>hz.nonneg hL hu⟩
def JK(_hL:∀k,k<N.n->0<=L k){k:Nat}{s:Bool}{o o' : 55#0}(hk:k<N.n)(h:vN N L m u (N.a k) s o)(h' : vN N L m u (N.b k) (s^^2#0) o'):Ring.oY o o' (L k)=true:=by
 have W6:∀{z},Wy N L m u (N.a k) s z->Wy N L m u (N.b k) (s^^2#0) (z+L k):=λhz=>hz.go hk (.inl ⟨rfl,rfl⟩)
 have back:∀{z},Wy N L m u (N.b k) (s^^2#0) z->Wy N L m u (N.a k) s (z+L k):=λhz=>by
  have:=hz.go hk (.inr ⟨rfl,rfl⟩)
  rwa [_H,E_,T!]at this
 cases o with
 | none=>cases o' with
   | none=>rfl
   | some d=>exact absurd (back h'.1) (h _)
 | some d=>cases o' with
   | none=>exact absurd (W6 h.1) (h' _)
   | some d' =>
     have h1:=h'.2 _ (W6 h.1);have h2:=h.2 _ (back h'.1);unfold Ring.oY;rw[decide_eq_true_eq]
     split<;>lia
def T7{x k:Nat}(h:x.testBit k=true):x^^^2^k<x:=by
 have e1:=Nat.div_add_mod x (2^(k+1));have e2:=Nat.div_add_mod (x^^^2^k) (2^(k+1));have hq:(x^^^2^k)/2^(k+1)=x/2^(k+1):=d? λj=>by
  rw[Nat.testBit_div_two_pow,Nat.testBit_div_two_pow,j!,G!,eV (by lia),T!]
 have hx:(x^^^2^k)%2^(k+1)<2^k:=Nat.lt_pow_two_of_testBit _ λj hj=>by
  rw[Nat.testBit_mod_two_pow,j!,G!]
  by_cases e:k=j
  .rw[<-e,h,cH (rfl:k=k)];exact g_ _
  .rw[eV (show ¬ j<k+1 by lia),R_]
 have hy:2^k<=x%2^(k+1):=Nat.ge_two_pow_of_testBit (by rw[Nat.testBit_mod_two_pow,h,cH (C_ _)];rfl)
 rw[hq]at e2
 lia
def xR(hL:∀k,k<N.n->0<=L k)(m:Nat){r:Nat}(hr:N.Ring r)(hm:r<2^N.n):∃x,x<N.p/\Wy N L m x x (N.par r m) (lsum L (λk=>r.testBit k) N.n):=by
 obtain⟨t0,hb⟩:=J_ hr.1;have hu:=N.al t0 (o5 hm hb);have key:∀(c e v:Nat) (pre:List Nat) (s:Bool),r^^^e=c->Wl N L m (N.a t0) pre v s (lsum L (λk=>e.testBit k) N.n) e->(∀k,e.testBit k=true->r.testBit k=true)->∃pre v s,Wl N L m (N.a t0) pre v s (lsum L (λk=>r.testBit k) N.n) r:=by
  intro c
  induction c using Nat.strongRecOn with
  | _ c ih =>
    intro e v pre s hc w sub
    by_cases he:e=r
    .exact⟨pre,v,s,he▸w⟩
    have f:=o6 hL hu w;obtain⟨k,hk,y,hj⟩:∃k,(r^^^e).testBit k=true/\∃y,Jn N k v y:=by
     by_cases hv:N.a t0=v
     .refine⟨t0,?_,_,.inl ⟨hv,rfl⟩⟩;rcases hr.2.2 e sub (λx _=>by rw[f.2.2.1,hv,E_]) with z|z
      .rw[z,z?];exact hb
      .exact absurd z he
     .have hx:N.bd (r^^^e) v=true:=by rw[jQ,hr.2.1 v f.1,f.2.2.1,eV hv,cH rfl];rfl
      apply Z!;intro h;unfold Net.bd at hx;rw[fT λk _=>?_]at hx
      .cases hx
      cases q:(r^^^e).testBit k with
      | false=>rfl
      | true =>
        unfold Net.inc;rw[eV λz=>h ⟨k,q,_,.inl ⟨z,rfl⟩⟩,eV λz=>h ⟨k,q,_,.inr ⟨z,rfl⟩⟩]
        rfl
    have hkn:k<N.n:=o5 (V! hm f.2.1) hk;have ek:e.testBit k=false:=by
     rw[j!]at hk;cases q:e.testBit k with
     | false=>rfl
     | true=>rw[q,sub k q]at hk;cases hk
    have rk:r.testBit k=true:=by rwa [j!,ek,T!]at hk
    have hs:lsum L (λj=>69#(e^^^2^k)) N.n=lsum L (λj=>e.testBit j) N.n+L k:=by
     rw[qZ (g:=λj=>e.testBit j^^69#(2^k)) λj _=>j! ..,xQ,DK hkn]
     intro j _ hj;rw[G!];exact eV λz=>by rw[z,hj]at ek;cases ek
    have w':=w.go hkn hj;rw[<-hs]at w';refine ih (r^^^(e^^^2^k)) ?_ _ _ _ _ rfl w' λj hj=>?_
    .rw[<-hc,<-E?];exact T7 hk
    .rw[j!,G!]at hj
     by_cases z:k=j
     .rw[<-z];exact rk
     .rw[eV z,T!]at hj;exact sub j hj
 obtain⟨pre,v,s,w⟩:=key _ 0 _ [] false rfl (by rw[p7 λk _=>L? k];exact .nil) λk h=>by rw[L?]at h;cases h
 have f:=o6 hL hu w;have hv:N.a t0=v:=by
  have:=f.2.2.1 v;rw[hr.2.1 v f.1,cH (rfl:v=v)]at this;cases h:7#(N.a t0=v) with
  | true=>exact jz h
  | false=>rw[h]at this;cases this
 refine⟨N.a t0,hu,pre,r,?_⟩;rw[f.2.2.2.1];rw[<-hv]at w;exact w
def xS{m:Nat}:∀(c e:Nat),cnt (λk=>e.testBit k) N.n=c->e<2^N.n->N.dm e->N.par e m=true->∃r,N.Ring r/\(∀k,r.testBit k=true->e.testBit k=true)/\N.par r m=true:=by
 intro c
 induction c using Nat.strongRecOn with
 | _ c ih =>
   intro e hc he ev hp
   by_cases hr:N.Ring e
   .exact⟨e,hr,λ_ h=>h,hp⟩
   have h0:e≠0:=λz=>by rw[z,mZ]at hp;cases hp
   obtain⟨q,hq,VD,q0,qe⟩:∃q,(∀k,90#0=true->e.testBit k=true)/\N.dm q/\q≠0/\q≠e:=by
    apply Z!;intro h;refine hr ⟨h0,ev,λq hq VD=>?_⟩
    apply Z!;intro h2;exact h ⟨q,hq,VD,λz=>h2 (.inl z),λz=>h2 (.inr z)⟩
   have small:∀q,(∀k,90#0=true->e.testBit k=true)->q≠e->cnt (λk=>90#0) N.n<c:=by
    intro q hq qe;have h1:=Br (f:=λk=>90#0) (g:=λk=>e.testBit k) (n:=N.n) λk _ h=>hq k h
    have h2:cnt (λk=>90#0) N.n≠cnt (λk=>e.testBit k) N.n:=λh=>qe (d? λk=>by
     by_cases hk:k<N.n
     .have:=Dz (f:=λk=>90#0) (g:=λk=>e.testBit k) (λk _ h=>hq k h) h k hk
      cases h3:e.testBit k with
      | true=>exact this h3
      | false=>cases h4:90#0 with
        | false=>rfl
        | true=>rw[hq k h4]at h3;cases h3
     .cases h3:e.testBit k with
      | true=>exact absurd (o5 he h3) hk
      | false=>cases h4:90#0 with
        | false=>rfl
        | true=>rw[hq k h4]at h3;cases h3)
    lia
   have lt:∀q,(∀k,90#0=true->e.testBit k=true)->q<2^N.n:=λq hq=>eZ λk hk=>o5 he (hq k hk)
   have hq2:∀k,(e^^^q).testBit k=true->e.testBit k=true:=λk hk=>by
    rw[j!]at hk;cases h3:e.testBit k with
    | true=>rfl
    | false =>
      cases h4:90#0 with
      | false=>rw[h3,h4]at hk;cases hk
      | true=>rw[hq k h4]at h3;cases h3
   have fin:∀q,(∀k,90#0=true->e.testBit k=true)->q≠e->N.dm q->N.par q m=true->∃r,N.Ring r/\(∀k,r.testBit k=true->e.testBit k=true)/\N.par r m=true:=by
    intro q hq qe VD hpq;obtain⟨r,h1,h2,h3⟩:=ih _ (small q hq qe) q rfl (lt q hq) VD hpq;exact⟨r,h1,λk hk=>hq k (h2 k hk),h3⟩
   cases hpq:N.par q m with
   | true=>exact fin q hq qe VD hpq
   | false =>
     refine fin (e^^^q) hq2 (λz=>q0 ?_) (dm.xor ev VD) (by rw[sF,hp,hpq];rfl)
     have:e^^^(e^^^q)=e^^^e:=by rw[z]
     rwa [<-E?,Z?,k?]at this
def MT(hL:∀k,k<N.n->0<=L k)(hu:u<N.p){z:Int}(h:Wy N L m u u true z):∃r,N.Ring r/\r<2^N.n/\N.par r m=true/\lsum L (λk=>r.testBit k) N.n<=z:=by
 obtain⟨pre,e,h⟩:=h;obtain⟨_,h2,h3,h4,h5,_⟩:=o6 hL hu h;obtain⟨r,r1,r2,r3⟩:=xS _ e rfl h2 (λx _=>by rw[h3,E_]) h4
 refine⟨r,r1,eZ λk hk=>o5 h2 (r2 k hk),r3,?_⟩
 have:=p8 (L:=L) (f:=λk=>r.testBit k) (g:=λk=>e.testBit k) hL λk _ hk=>r2 k hk
 lia
end
end RM
namespace Ring
open PySem L2
def cL(ts:List eW)(k:Nat):Int:=(bG ts k).2.2
theorem AK(ts:List eW)(f:59#0):∀n,Ju ts f n=RM.lsum (cL ts) f n
 | 0=>rfl
 | n+1=>by
   show Ju ts f n+_=RM.lsum (cL ts) f n+_;rw[AK ts f n];rfl
def q9{ts:List eW}{m:Nat}(hm:m<17#0):Δ ts m=RM.lsum (cL ts) (λk=>2#0) ts.length:=by
 rw[Jv hm,AK]
def m3{p:Nat}{ts:List eW}(g:aE p ts):∀k,k<g.N.n->0<=cL ts k:=λk hk=>by
 have:=(g.Dl _ (ji hk)).l0;unfold cL
 lia
structure FZ(H0:Hp)(D:Addr)(es:70#0)(F:Nat->Bool->55#0)(H:Hp):Prop where
 same:ah H0 H
 nd:es.Nodup
 ne:D∉es
 fr:∀b∈es,H0 b=none
 Dn:H0 D=none
 lst:H D=1#(es.map V.ref)
 at_:∀i b,es[i]?=some b->H b=1#([oV (F i false),oV (F i true)])
def FZ.go{H0 H H' : Hp}{D:Addr}{es:70#0}{F:Nat->Bool->55#0}(h:FZ H0 D es F H)(s:ah H H'):FZ H0 D es F H' :=
 ⟨h.same.trans s,h.nd,h.ne,h.fr,h.Dn,s _ _ h.lst,λi b e=>s _ _ (h.at_ i b e)⟩
def FZ.off{H0 H:Hp}{D L:Addr}{es:70#0}{F:Nat->Bool->55#0}(h:FZ H0 D es F H)(hL:H L=none):L∉es:=λz=>by
 obtain⟨j,hj⟩:=N! z;have:=h.at_ j L hj;rw[hL]at this;cases this
def DL(H0:Hp)(D:Addr)(i:Nat)(acc:List V)(H:Hp):Prop:=∃es,acc=es.map V.ref/\es.length=i/\FZ H0 D es (λ_ _=>none) H
def DL.start{H0:Hp}{D:Addr}(hD:H0 D=none):DL H0 D 0 [] (η H0 D (.lst [])) :=
 ⟨[],rfl,rfl,ah.new hD,S_,R?,λ_ h=>(R? h).elim,hD,aa,λi b e=>by cases e⟩
def DL.len{H0 H:Hp}{D:Addr}{i:Nat}{acc:List V}(h:DL H0 D i acc H):H D=1#acc/\acc.length<=i:=by
 obtain⟨es,rfl,e,r⟩:=h;exact⟨r.lst,by rw[χ];lia⟩
def DL.next{H0 H:Hp}{D b:Addr}{i:Nat}{acc:List V}(h:DL H0 D i acc H)(hb:H b=none):η H b (.lst [.dZ,.dZ]) D=1#acc/\DL H0 D (i+1) (acc++[.ref b]) (η (η H b (.lst [.dZ,.dZ])) D 46#(acc++[.ref b])):=by
 obtain⟨es,rfl,e,r⟩:=h;have Ua:D≠b:=λz=>by
  have:=r.lst;rw[z,hb]at this;cases this
 have hbn:b∉es:=r.off hb;have hb0:H0 b=none:=r.same.free hb;refine⟨by rw[ao Ua];exact r.lst,es++[b],by simp,by simp[e],(r.same.put hb0).put r.Dn,?_,?_,λc hc=>?_,r.Dn,by rw[aa];simp,λj c hc=>?_⟩
 .exact aee.mpr ⟨r.nd,by simp,λx hx y hy=>by rw[p!.mp hy];exact λz=>hbn (z▸hx)⟩
 .intro hm;rcases t!.mp hm with z|z
  .exact r.ne z
  .exact Ua (p!.mp z)
 .rcases t!.mp hc with z|z
  .exact r.fr c z
  .rw[p!.mp z];exact hb0
 .have hcD:c≠D:=λz=>by
   subst z;rcases t!.mp (gB hc) with z|z
   .exact r.ne z
   .exact Ua (p!.mp z)
  rw[ao hcD]
  by_cases ec:c=b
  .rw[ec,aa];rfl
  .rw[ao ec]
   by_cases hj:j<es.length
   .rw[m? hj]at hc;exact r.at_ j c hc
   .rw[A? (by lia)]at hc
    have:=gB hc;exact absurd (p!.mp this) ec
def m4(F:Nat->Bool->55#0)(p:Nat):List Pr:=(13#p).map λi=>(F i false,F i true)
def MU{F:Nat->Bool->55#0}{p x:Nat}(h:x<p)(s:Bool):sel (dQ (m4 F p) x) s=F x s:=by
 unfold dQ m4;rw[w!,c!,o_ h];cases s<;>rfl
def MV(F:Nat->Bool->55#0)(i:Nat):m4 F (i+1)=m4 F i++[(F i false,F i true)]:=by
 unfold m4;rw[C?,g!];rfl
def BA(F:Nat->Bool->55#0)(i:Nat):58#(m4 F i)=i:=by
 unfold m4;rw[χ,y!]
def DM(R:List Pr)(t:eW)(u:Bool):uc R t u=true↔∀sb:Bool,oY (sel (dQ R t.1.toNat) sb) (sel (dQ R t.2.1.toNat) (sb^^u)) t.2.2=true:=by
 unfold uc;rw[L!]
 constructor
 .rintro⟨h1,h2⟩ sb;cases sb with
  | false=>rw[u?];exact h1
  | true=>rw[Bool.true_xor];exact h2
 .intro h;have h1:=h false;have h2:=h true;rw[u?]at h1;rw[Bool.true_xor]at h2;exact⟨h1,h2⟩
variable {p:Nat}{ts:List eW}{g:aE p ts}{m:Nat}{W:List (List Pr)}
def qJ(p:Nat)(ts:List eW)(g:aE p ts)(m:Nat)(W:List (List Pr)):Prop:=∀i,i<p->∀x s,x<p->RM.vN g.N (cL ts) m i x s (sel (dQ (W.getD i []) x) s)
def qJ.stands(h:qJ p ts g m W):mw p ts m W:=λi hi=>by
 refine⟨RM.MS (m3 g) (show i<g.N.p from hi) (h i hi i false hi),λk hk=>?_⟩
 rw[DM];exact λs=>RM.JK (m3 g) (show k<g.N.n from hk) (h i hi _ s (g.N.al k hk)) (h i hi _ _ (g.N.bl k hk))
def JL(h:qJ p ts g m W){l:Int}(hl:∀r,r<17#0->g.N.Ring r->g.N.par r m=true->l<=RM.lsum (cL ts) (λk=>r.testBit k) ts.length):∀i,i<p->∀d,(dQ (W.getD i []) i).2=some d->l<=d:=by
 intro i hi d hd;have b:=h i hi i true hi;have e:sel (dQ (W.getD i []) i) true=some d:=hd;rw[e]at b;obtain⟨r,r1,r2,r3,r4⟩:=RM.MT (m3 g) (show i<g.N.p from hi) b.1
 exact Int.le_trans (hl r r2 r1 r3) r4
def sH{r:Nat}(hm:m<17#0):58#(cz 6#(r&&&m))%2=1↔g.N.par r m=true:=by
 rw[<-Ij (g:=g) hm,j?]
end Ring
namespace RM
open Ring (maskOf mask_bit mask_lt)
def lU{a b:Nat}(h:a^^^b=0):a=b:=by
 have:=n! (λy=>y^^^b) h
 simp only[k?]at this
 rwa [E?,Z?,z?]at this
def U':List Nat->Nat->Nat
 | [],_=>0
 | b::B,z=>(if z.testBit 0=true then b else 0)^^^U' B (z/2)
def MW(a b c d:Nat):(a^^^b)^^^(c^^^d)=(a^^^c)^^^(b^^^d):=d? λi=>by
 simp only[j!];cases a.testBit i<;>cases b.testBit i<;>cases c.testBit i<;>cases d.testBit i<;>rfl
def MX(z y:Nat):(z^^^y)/2=z/2^^^y/2:=d? λi=>by
 rw[j!,<-X?,<-X?,<-X?,j!]
theorem kX:∀(B:List Nat) (z y:Nat),U' B (z^^^y)=U' B z^^^U' B y
 | [],_,_=>by simp[U']
 | b::B,z,y=>by
   unfold U';rw[MX,kX B,j!,MW]
   congr 1
   cases z.testBit 0<;>cases y.testBit 0<;>simp
theorem m5:∀(B:List Nat),U' B 0=0
 | []=>rfl
 | b::B=>by
   unfold U';rw[L?,show 0/2=0 from rfl,m5 B]
   simp
def MY(i:Nat):2^(i+1)/2=2^i:=by
 rw[F?,Nat.mul_div_cancel _ (16#0)]
theorem xT:∀{B:List Nat} {i b:Nat},B[i]?=some b->U' B (2^i)=b
 | [],i,b,h=>by simp at h
 | b'::B,0,b,h=>by
   have:b' = b:=by simpa using h
   subst this;unfold U';rw[show(2^0:Nat).testBit 0=true from rfl,ο rfl,show(2^0:Nat)/2=0 from rfl,m5,z?]
 | b'::B,i+1,b,h=>by
   unfold U';have h0:(2^(i+1)).testBit 0=false:=by rw[G!];simp
   rw[h0,ξ (16#0),k?,MY]
   exact xT (B:=B) h
theorem kG:∀(B:List Nat) (b z:Nat),U' (B++[b]) z=U' B z^^^(if z.testBit B.length=true then b else 0)
 | [],b,z=>by
   show(if z.testBit 0=true then b else 0)^^^0=0^^^_
   rw[z?,k?];rfl
 | b'::B,b,z=>by
   show(if z.testBit 0=true then b' else 0)^^^U' (B++[b]) (z/2)=((if z.testBit 0=true then b' else 0)^^^U' B (z/2))^^^_
   rw[kG B b (z/2),E?,<-X?];rfl
theorem uh:∀(B:List Nat) {z:Nat},(∀i,i<B.length->z.testBit i=false)->U' B z=0
 | [],_,_=>rfl
 | b::B,z,h=>by
   unfold U';rw[h 0 31#0,ξ (16#0),k?]
   exact uh B λi hi=>by rw[<-X?];exact h (i+1) (by simp;lia)
def sI(B:List Nat):∀z,Sp B (U' B z):=by
 induction B with
 | nil=>intro z;exact .zero
 | cons b B ih =>
   intro z;have h:Sp (b::B) (U' B (z/2)):=(ih (z/2)).mono λc hc=>.mem (lG _ hc)
   unfold U';rw[G_]
   by_cases e:z.testBit 0=true
   .rw[ο e];exact h.add o!
   .rw[ξ e,z?];exact h
def wG{B:List Nat}{x:Nat}(h:Sp B x):∃z,z<2^B.length/\U' B z=x:=by
 induction h with
 | zero=>exact⟨0,R! _,m5 B⟩
 | add h hb ih =>
   obtain⟨z,hz,e⟩:=ih;obtain⟨i,hi⟩:=N! hb;have xU:=(j7.mp hi).1;exact⟨z^^^2^i,V! hz (m_ (16#0) xU),by rw[kX,e,xT hi]⟩
def BB(B:List Nat):Prop:=∀z,z<2^B.length->U' B z=0->z=0
def MZ(B:List Nat):Prop:=∀i b,B[i]?=some b->¬ Sp (B.take i) b
def o7{B:List Nat}{b:Nat}:BB (B++[b])↔BB B/\¬ Sp B b:=by
 have hl:58#(B++[b])=B.length+1:=by simp
 constructor
 .intro h;refine⟨λz hz e=>h z ?_ ?_,λhs=>?_⟩
  .rw[hl,F?];lia
  .rw[kG,e,q? hz];simp
  .obtain⟨y,hy,e⟩:=wG hs;have hlt:2^B.length<2^(B.length+1):=m_ (16#0) (by lia)
   have:=h (y^^^2^B.length) (by rw[hl];exact V! (by lia) hlt) (by
    have h1:(y^^^2^B.length).testBit B.length=true:=by
     rw[j!,q? hy,_R];rfl
    have h2:U' B (2^B.length)=0:=uh B λi hi=>by
     rw[G!];exact eV (by lia)
    rw[kG,h1,ο rfl,kX,h2,e,z?,Z?])
   have h3:(y^^^2^B.length).testBit B.length=false:=by rw[this,L?]
   rw[j!,q? hy,_R]at h3;cases h3
 .rintro⟨h,hs⟩ z hz e;rw[kG]at e
  by_cases hb:z.testBit B.length=true
  .rw[ο hb]at e;have e2:U' B z=b:=by
    have:=n! (λy=>y^^^b) e
    simp only[jj,k?]at this;exact this
   exact absurd (e2▸sI B z) hs
  .rw[ξ hb,z?]at e;refine h z ?_ e;refine eZ λk hk=>?_
   have:=fV hz hk;rw[hl]at this;have:k≠B.length:=λe=>hb (e▸hk)
   lia
def um{B:List Nat}{b:Nat}:MZ (B++[b])↔MZ B/\¬ Sp B b:=by
 constructor
 .intro h;refine⟨λi c hc=>?_,?_⟩
  .have hi:=(j7.mp hc).1;have:=h i c (by rw[m? hi];exact hc)
   rwa [ad4 (B! hi)]at this
  .have:=h B.length b 31#0
   rwa [List.take_left' rfl]at this
 .rintro⟨h,hs⟩ i c hc
  by_cases hi:i<B.length
  .rw[m? hi]at hc;rw[ad4 (B! hi)];exact h i c hc
  .have hl:=(j7.mp hc).1;have e:i=B.length:=by simp at hl;lia
   subst e;rw[A? (Z' _),H_]at hc;have:b=c:=by simpa using hc
   subst this;rw[List.take_left' rfl];exact hs
def take_snoc{B:List Nat}{i b:Nat}(h:B[i]?=some b):B.take (i+1)=B.take i++[b]:=by
 rw[Q!,h];rfl
def BC(B:List Nat):BB B↔MZ B:=by
 have key:∀n,n<=B.length->(BB (B.take n)↔MZ (B.take n)):=by
  intro n
  induction n with
  | zero=>exact λ_=>⟨λ_ i b h=>by simp at h,λ_ z hz _=>by simp at hz;exact hz⟩
  | succ n ih =>
    intro hn;have hb:B[n]?=some B[n]:=i! hn;rw[take_snoc hb,o7,um,ih (by lia)]
 have:=key B.length (Z' _)
 rwa [H!]at this
def DN(B:List Nat)(h:BB B){z y:Nat}(hz:z<2^B.length)(hy:y<2^B.length)(e:U' B z=U' B y):z=y:=by
 have:=h (z^^^y) (V! hz hy) (by rw[kX,e,Z?])
 exact lU this
section
variable {N:Net}
def AL{B:List Nat}(h:∀b∈B,N.dm b/\b<2^N.n)(z:Nat):N.dm (U' B z)/\U' B z<2^N.n:=by
 have hs:=sI B z;refine⟨?_,hs.lt λb hb=>(h b hb).2⟩
 generalize U' B z=x at hs
 induction hs with
 | zero=>exact dm.zero
 | add _ hb ih=>exact dm.xor ih (h _ hb).1
def BD{f:Nat->Nat}{a b:Nat}(hf:∀z,z<2^a->f z<2^b)(inj:∀z y,z<2^a->y<2^a->f z=f y->z=y):a<=b:=by
 have nd:((13#(2^a)).map f).Nodup:=by
  refine P?.mpr ?_;refine i_ (λ{z y} hz hy hne e=>?_) _C
  exact hne (inj z y (A!.mp hz) (A!.mp hy) e)
 have:=xy nd λx hx=>by
  obtain⟨z,hz,rfl⟩:=d!.mp hx;exact hf z (A!.mp hz)
 rw[χ,y!]at this;exact(Nat.pow_le_pow_iff_right (16#0)).mp this
def meets(ks:List Nat)(m:Nat):Nat:=maskOf (λi=>m.testBit (ks.getD i 0)) ks.length
def DO(ks:List Nat)(m:Nat):meets ks m<2^ks.length:=mask_lt _ _
def AM{ks:List Nat}{m i k:Nat}(h:ks[i]?=some k):(meets ks m).testBit i=2#0:=by
 unfold meets;rw[mask_bit,w!,h,cH (j7.mp h).1];rfl
def M0{B:List Nat}(hi:BB B)(h:∀b∈B,N.dm b/\b<2^N.n):B.length<=N.aJ.length:=by
 refine BD (f:=λz=>meets N.aJ (U' B z)) (λz _=>DO _ _) λz y hz hy e=>DN B hi hz hy ?_
 have h1:=AL h z;have h2:=AL h y;refine lU (j9 (N:=N) (λk hk=>?_) (dm.xor h1.1 h2.1))
 have hkn:=fV (V! h1.2 h2.2) hk;refine⟨hkn,?_⟩;cases hf:N.oj k with
 | true=>rfl
 | false =>
   obtain⟨j,hj⟩:=N! (cf.mpr ⟨hkn,hf⟩);have e:meets N.aJ (U' B z)=meets N.aJ (U' B y):=e;have:=n! (λx=>x.testBit j) e
   simp only[AM hj]at this;rw[j!,this,E_]at hk;cases hk
def QA{ks:List Nat}(h:∀m,m<2^N.n->N.dm m->(∀k∈ks,2#0=false)->m=0):N.aJ.length<=ks.length:=by
 refine BD (f:=λz=>meets ks (N.kU z N.aJ 0)) (λz _=>DO _ _) λz y hz hy e=>?_
 have h1:=pY (N:=N) (number:=z) (l:=N.aJ) (i:=0) λc hc=>(cf.mp hc).1
 have h2:=pY (N:=N) (number:=y) (l:=N.aJ) (i:=0) λc hc=>(cf.mp hc).1
 have e0:N.kU z N.aJ 0=N.kU y N.aJ 0:=lU (h _ (V! h1.2 h2.2) (dm.xor h1.1 h2.1) λk hk=>by
  obtain⟨j,hj⟩:=N! hk;have e:meets ks (N.kU z N.aJ 0)=meets ks (N.kU y N.aJ 0):=e;have:=n! (λx=>x.testBit j) e
  simp only[AM hj]at this;rw[j!,this,E_])
 refine d? λj=>?_
 by_cases hj:j<N.aJ.length
 .have hc:N.aJ[j]?=some N.aJ[j]:=i! hj;rw[<-By hc,<-By hc,e0]
 .rw[q? (x! hz (B? (16#0) (by lia))),q? (x! hy (B? (16#0) (by lia)))]
structure Base(N:Net)(rs:List Nat):Prop where
 len:rs.length=N.aJ.length
 ring:∀r∈rs,N.Ring r/\r<2^N.n
 ind:BB rs
end
abbrev Row3:=Nat×Nat×Nat
def two(q:Row3):Nat×Nat:=(q.1,q.2.1)
def fj(rows:List Row3)(x u:Nat):Nat×Nat:=rows.foldl (λs q=>if s.1.testBit q.1=true then(s.1^^^q.2.1,s.2^^^q.2.2) else s) (x,u)
def uo(q:Row3)(rows:List Row3)(x u:Nat):fj (q::rows) x u=if x.testBit q.1=true then fj rows (x^^^q.2.1) (u^^^q.2.2) else fj rows x u:=by
 unfold fj;rw[t_]
 by_cases h:x.testBit q.1=true
 .rw[ο h,ο h]
 .rw[ξ h,ξ h]
theorem o8:∀(rows:List Row3) (x u:Nat),(fj rows x u).1=jR (rows.map two) x
 | [],_,_=>rfl
 | q::rows,x,u=>by
   rw[uo];show _=jR (rows.map two) (if x.testBit q.1=true then x^^^q.2.1 else x)
   by_cases h:x.testBit q.1=true
   .rw[ο h,ο h];exact o8 rows _ _
   .rw[ξ h,ξ h];exact o8 rows _ _
def DQ(rows:List Row3)(a:Row3):List Row3:=a::rows.map λq=>if q.2.1.testBit a.1=true then(q.1,q.2.1^^^a.2.1,q.2.2^^^a.2.2) else q
structure Rw(B:List Nat)(rows:List Row3):Prop where
 own:∀q∈rows,q.2.1.testBit q.1=true
 JM:rows.Pairwise λq q'=>q'.2.1.testBit q.1=false/\q.2.1.testBit q'.1=false
 RV:∀q∈rows,q.2.2<2^B.length/\U' B q.2.2=q.2.1
 span:∀b∈B,Sp (rows.map λq=>q.2.1) b
 le:rows.length<=B.length
 len:rows.length=B.length↔BB B
section
variable {B:List Nat}{rows:List Row3}
def Rw.start:Rw [] []:=⟨(λq hq=>nomatch hq),.nil,(λq hq=>nomatch hq),(λb hb=>nomatch hb),Z' _,⟨λ_ z hz _=>by simp at hz;exact hz,λ_=>rfl⟩⟩
def Ub(own:∀q∈rows,q.2.1.testBit q.1=true)(JM:rows.Pairwise λq q'=>q'.2.1.testBit q.1=false/\q.2.1.testBit q'.1=false):MQ (rows.map two):=by
 induction rows with
 | nil=>exact .nil
 | cons q rows ih =>
   obtain⟨h1,h2⟩:=aec.mp JM;refine .cons (ih (λq' hq=>own q' (lG _ hq)) h2) (own q o!) λx hx=>?_
   obtain⟨q',Uc,rfl⟩:=d!.mp hx;exact(h1 q' Uc).1
def Rw.M3(h:Rw B rows):MQ (rows.map two):=Ub h.own h.JM
def map_two(rows:List Row3):(rows.map two).map (λq=>q.2)=rows.map λq=>q.2.1:=by
 rw[X!];rfl
def Rw.uq(h:Rw B rows)(x u:Nat):(fj rows x u).1=0↔Sp B x:=by
 rw[o8,AH h.M3,map_two]
 constructor
 .intro hs;refine hs.mono λb hb=>?_
  obtain⟨q,hq,rfl⟩:=d!.mp hb;rw[<-(h.RV q hq).2];exact sI B _
 .exact λhs=>hs.mono h.span
def Rw.M4(h:Rw B rows)(x u:Nat):∀q∈rows,(fj rows x u).1.testBit q.1=false:=λq hq=>by
 rw[o8];exact uf h.M3 x (two q) (d!.mpr ⟨q,hq,rfl⟩)
def AN(hc:∀q∈rows,q.2.2<2^B.length/\U' B q.2.2=q.2.1):∀(x u:Nat),u<2^B.length->(fj rows x u).2<2^B.length/\U' B (fj rows x u).2=U' B u^^^(x^^^(fj rows x u).1):=by
 induction rows with
 | nil=>intro x u hu;exact⟨hu,by show _=_^^^(x^^^x);rw[Z?,z?];rfl⟩
 | cons q rows ih =>
   intro x u hu;have hq:=hc q o!;have ih:=ih λq' Uc=>hc q' (lG _ Uc)
   rw[uo]
   by_cases h:x.testBit q.1=true
   .rw[ο h];obtain⟨i1,i2⟩:=ih (x^^^q.2.1) (u^^^q.2.2) (V! hu hq.1);refine⟨i1,?_⟩;rw[i2,kX,hq.2];refine d? λi=>?_
    simp only[j!];generalize (fj rows (x^^^q.2.1) (u^^^q.2.2)).1.testBit i=y;cases(U' B u).testBit i<;>cases q.2.1.testBit i<;>cases x.testBit i<;>cases y<;>rfl
   .rw[ξ h];exact ih x u hu
def Ud(h:Rw B rows){x:Nat}(hx:∀b∈B,b<2^x):∀q∈rows,q.2.1<2^x:=λq hq=>by
 rw[<-(h.RV q hq).2];exact(sI B _).lt hx
def xV{z:Nat}(b:Nat)(hz:z<2^B.length):U' (B++[b]) z=U' B z:=by
 rw[kG,q? hz];simp
def Rw.skip{b:Nat}(h:Rw B rows)(hs:Sp B b):Rw (B++[b]) rows:=by
 have hl:58#(B++[b])=B.length+1:=by simp
 refine⟨h.own,h.JM,λq hq=>⟨?_,?_⟩,λc hc=>?_,?_,?_⟩
 .have:=(h.RV q hq).1;rw[hl,F?]
  lia
 .rw[xV b (h.RV q hq).1];exact(h.RV q hq).2
 .rcases t!.mp hc with hc|hc
  .exact h.span c hc
  .have e:c=b:=by simpa using hc
   rw[e];exact hs.mono h.span
 .have:=h.le
  lia
 .rw[o7];have:=h.le;exact⟨λe=>by lia,λz=>absurd hs z.2⟩
def Rw.put{b:Nat}(h:Rw B rows)(h0:(fj rows b 0).1≠0):Rw (B++[b]) (DQ rows ((fj rows b 0).1.log2,(fj rows b 0).1,(fj rows b 0).2^^^2^B.length)):=by
 have hl:58#(B++[b])=B.length+1:=by simp
 have hns : ¬ Sp B b:=λz=>h0 ((h.uq b 0).mpr z)
 have off:=h.M4 b 0;obtain⟨c1,c2⟩:=AN h.RV b 0 (R! _);rw[m5,k?]at c2;have vK:Sp (rows.map λq=>q.2.1) (b^^^(fj rows b 0).1):=by
  rw[o8];have:=Bw (rows.map two) b
  rwa [map_two]at this
 generalize fj rows b 0=lu at *;obtain⟨l,u⟩:=lu;have h0:l≠0:=h0;have top:=Bx h0;have c1:u<2^B.length:=c1;have c2:U' B u=b^^^l:=c2;have off:∀q∈rows,l.testBit q.1=false:=off;have vK:Sp (rows.map λq=>q.2.1) (b^^^l):=vK
 show Rw (B++[b]) (DQ rows (l.log2,l,u^^^2^B.length));generalize l.log2=t at top;have p2:2^B.length<2^58#(B++[b]):=by rw[hl];exact m_ (16#0) (by lia)
 have hc:U' (B++[b]) (u^^^2^B.length)=l:=by
  have h1:(u^^^2^B.length).testBit B.length=true:=by
   rw[j!,q? c1,_R];rfl
  have h2:U' B (2^B.length)=0:=uh B λi hi=>by
   rw[G!];exact eV (by lia)
  rw[kG,h1,ο rfl,kX,h2,c2,z?];refine d? λi=>?_
  simp only[j!];cases b.testBit i<;>cases l.testBit i<;>rfl
 unfold DQ;refine⟨λq hq=>?_,aec.mpr ⟨λq hq=>?_,?_⟩,λq hq=>?_,λc hc=>?_,?_,?_⟩
 .rcases h!.mp hq with e|hq
  .rw[e];exact top
  .obtain⟨q0,FL,rfl⟩:=d!.mp hq
   by_cases e:q0.2.1.testBit t=true
   .rw[ο e];show(q0.2.1^^^l).testBit q0.1=true;rw[j!,h.own q0 FL,off q0 FL];rfl
   .rw[ξ e];exact h.own q0 FL
 .obtain⟨q0,FL,rfl⟩:=d!.mp hq
  by_cases e:q0.2.1.testBit t=true
  .rw[ο e];refine⟨?_,off q0 FL⟩;show(q0.2.1^^^l).testBit t=false;rw[j!,e,top];rfl
  .rw[ξ e];exact⟨Vp.mpr e,off q0 FL⟩
 .refine P?.mpr (i_ (λ{q q'} hq Uc hz=>?_) h.JM)
  obtain⟨z1,z2⟩:=hz;have o1:=off q hq;have o2:=off q' Uc;have fst:∀q:Row3,(if q.2.1.testBit t=true then(q.1,q.2.1^^^l,q.2.2^^^(u^^^2^B.length)) else q).1=q.1:=λq=>by
   split<;>rfl
  have snd:∀(q:Row3) (k:Nat),l.testBit k=false->(if q.2.1.testBit t=true then(q.1,q.2.1^^^l,q.2.2^^^(u^^^2^B.length)) else q).2.1.testBit k=q.2.1.testBit k:=λq k hk=>by
   split
   .show(q.2.1^^^l).testBit k=_;rw[j!,hk,T!]
   .rfl
  refine⟨?_,?_⟩
  .rw[snd q' _ (by rw[fst];exact o1),fst]
   exact z1
  .rw[snd q _ (by rw[fst];exact o2),fst]
   exact z2
 .rcases h!.mp hq with e|hq
  .rw[e];exact⟨V! (by lia) p2,hc⟩
  .obtain⟨q0,FL,rfl⟩:=d!.mp hq;obtain⟨d1,d2⟩:=h.RV q0 FL
   by_cases e:q0.2.1.testBit t=true
   .rw[ο e];refine⟨V! (by lia) (V! (by lia) p2),?_⟩
    show U' (B++[b]) (q0.2.2^^^(u^^^2^B.length))=q0.2.1^^^l;rw[kX,hc,xV b d1,d2]
   .rw[ξ e];exact⟨by lia,by rw[xV b d1,d2]⟩
 .have inL:l∈(((t,l,u^^^2^B.length):Row3)::rows.map λq=>if q.2.1.testBit t=true then(q.1,q.2.1^^^l,q.2.2^^^(u^^^2^B.length)) else q).map λq=>q.2.1:=by
   rw[F!];exact o!
  have old:∀x∈rows.map (λq=>q.2.1),Sp ((((t,l,u^^^2^B.length):Row3)::rows.map λq=>if q.2.1.testBit t=true then(q.1,q.2.1^^^l,q.2.2^^^(u^^^2^B.length)) else q).map λq=>q.2.1) x:=λx hx=>by
   obtain⟨q0,FL,rfl⟩:=d!.mp hx;have hm:(if q0.2.1.testBit t=true then(q0.1,q0.2.1^^^l,q0.2.2^^^(u^^^2^B.length)) else q0).2.1∈(((t,l,u^^^2^B.length):Row3)::rows.map λq=>if q.2.1.testBit t=true then(q.1,q.2.1^^^l,q.2.2^^^(u^^^2^B.length)) else q).map λq=>q.2.1 :=
    d!.mpr ⟨_,lG _ (d!.mpr ⟨q0,FL,rfl⟩),rfl⟩
   by_cases e:q0.2.1.testBit t=true
   .rw[ο e]at hm;have:=(Sp.mem hm).xor (Sp.mem inL)
    rwa [jj]at this
   .rw[ξ e]at hm;exact .mem hm
  rcases t!.mp hc with hc|hc
  .exact(h.span c hc).mono old
  .have e:c=b:=by simpa using hc
   rw[e];have:=(vK.mono old).xor (Sp.mem inL)
   rwa [jj]at this
 .rw[P!,χ,hl];have:=h.le
  lia
 .rw[P!,χ,hl,o7];have:=h.len
  constructor
  .exact λe=>⟨this.mp (by lia),hns⟩
  .exact λe=>by have:=this.mpr e.1;lia
def rx(f:Row3->Bool):List Row3->Bool
 | []=>false
 | q::rows=>f q^^rx f rows
theorem DR{f g:Row3->Bool}:∀{rows:List Row3},(∀q∈rows,f q=g q)->rx f rows=rx g rows
 | [],_=>rfl
 | q::rows,h=>by
   unfold rx;rw[h q o!,DR λq' hq=>h q' (lG _ hq)]
theorem AO(i:Nat):∀{rows:List Row3},(rows.Pairwise λq q'=>q'.2.1.testBit q.1=false/\q.2.1.testBit q'.1=false)->∀(x u:Nat),(fj rows x u).2.testBit i=(u.testBit i^^rx (λq=>x.testBit q.1&&q.2.2.testBit i) rows)
 | [],_,x,u=>by show u.testBit i=(u.testBit i^^false);rw[T!]
 | q::rows,JM,x,u=>by
   obtain⟨h1,h2⟩:=aec.mp JM;have ih:=AO i h2;rw[uo];unfold rx
   by_cases h:x.testBit q.1=true
   .rw[ο h,ih,h,D?,j!,_H]
    congr 2
    exact DR λq' hq=>by rw[j!,(h1 q' hq).2,T!]
   .rw[ξ h,ih,Vp.mpr h,R_,u?]
def e7(rows:List Row3)(i:Nat):List Nat:=(rows.filter λq=>q.2.2.testBit i).map λq=>q.1
def DS(own:∀q∈rows,q.2.1.testBit q.1=true)(JM:rows.Pairwise λq q'=>q'.2.1.testBit q.1=false/\q.2.1.testBit q'.1=false)(i:Nat):(e7 rows i).Nodup:=by
 unfold e7;refine P?.mpr ((i_ (λ{q q'} hq Uc hz e=>?_) JM).filter _)
 have:=own q' Uc;rw[<-e,hz.1]at this;cases this
theorem AQ(f:59#0)(n:Nat):∀{l:List Nat},l.Nodup->(∀k∈l,k<n)->bI (λk=>f k&&7#(k∈l)) n=l.foldr (λk acc=>f k^^acc) false
 | [],_,_=>fT λk _=>by simp
 | a::l,nd,h=>by
   obtain⟨n1,n2⟩:=O!.mp nd;have ih:=AQ f n n2 λk hk=>h k (lG _ hk)
   have:bI (λk=>f k&&7#(k∈a::l)) n=bI (λk=>(f k&&decide (a=k))^^(f k&&7#(k∈l))) n:=bN λk _=>by
    by_cases e:a=k
    .subst e;rw[cH o!,cH rfl,eV n1,g_,T!]
    .have:(k∈a::l)↔k∈l:=⟨λz=>(h!.mp z).resolve_left λz=>e z.symm,lG _⟩
     rw[eV e,g_,u?,K?.mpr this]
   rw[this,jC,ia f (h a o!),ih];rfl
theorem DT(f:59#0)(i:Nat):∀rows:List Row3,(e7 rows i).foldr (λk acc=>f k^^acc) false=rx (λq=>f q.1&&q.2.2.testBit i) rows
 | []=>rfl
 | q::rows=>by
   have ih:=DT f i rows;unfold e7 at ih ⊢;unfold rx;cases h:q.2.2.testBit i with
   | true =>
     rw[M!,ο h,F!,List.foldr_cons,ih,u_]
   | false =>
     rw[M!,ξ (by rw[h];decide),ih,g_,u?]
def Rw.marks{N:Net}(h:Rw B rows)(hi:BB B)(hb:∀b∈B,b<2^N.n){i j b:Nat}(hj:B[j]?=some b):N.par b (Ring.orM (e7 rows i))=decide (i=j)/\∀k∈e7 rows i,k<N.n:=by
 have lt:∀k∈e7 rows i,k<N.n:=λk hk=>by
  obtain⟨q,hq,rfl⟩:=d!.mp hk;have hq:=(C!.mp hq).1;exact fV (Ud h hb q hq) (h.own q hq)
 refine⟨?_,lt⟩;have e1:N.par b (Ring.orM (e7 rows i))=rx (λq=>b.testBit q.1&&q.2.2.testBit i) rows:=by
  rw[<-DT (λk=>b.testBit k),<-AQ (λk=>b.testBit k) N.n (DS h.own h.JM i) lt]
  exact bN λk _=>by rw[Ring.Ii]
 have hz:(fj rows b 0).1=0:=(h.uq b 0).mpr (.mem (gB hj));obtain⟨c1,c2⟩:=AN h.RV b 0 (R! _);rw[m5,k?,hz,z?]at c2
 replace c2:=c2.trans (xT hj).symm
 have M5:=(j7.mp hj).1;have e2:=DN B hi c1 (m_ (16#0) M5) c2
 have e3:=AO i h.JM b 0;rw[e2,L?,u?,G!]at e3;rw[e1,<-e3];exact K?.mpr eq_comm
end
end RM
namespace Ring
open PySem L2
def vA(q:RM.Row3):List V:=[40#q.1,40#q.2.1,40#q.2.2]
def xW(H:Hp)(x:V)(q:RM.Row3):Prop:=∃b,x = .ref b/\H b=10#(vA q)
def xW.tups{H H' : Hp}(s:cV H H'){x:V}{q:RM.Row3}(h:xW H x q):xW H' x q:=let⟨b,e,z⟩:=h;⟨b,e,s _ _ z⟩
def kc(H:Hp)(l:Addr)(rows:List RM.Row3):Prop:=∃xs,H l=1#xs/\Paired (xW H) xs rows
def kc.same{H H' : Hp}(s:ah H H'){l:Addr}{rows:List RM.Row3}(h:kc H l rows):kc H' l rows:=let⟨xs,e,z⟩:=h;⟨xs,s _ _ e,Paired.imp' 74#s.tups z⟩
def JN(rows:List RM.Row3)(q:RM.Row3)(x u:Nat):RM.fj (rows++[q]) x u=if(RM.fj rows x u).1.testBit q.1=true then((RM.fj rows x u).1^^^q.2.1,(RM.fj rows x u).2^^^q.2.2) else RM.fj rows x u:=by
 unfold RM.fj;rw[B_];rfl
def take3{α:Type}{l:List α}{i:Nat}{q:α}(h:l[i]?=some q):l.take (i+1)=l.take i++[q]:=by
 rw[Q!,h];rfl
def M6{m:Nat}(h:m≠0):6#(35#(m:Int))-1=6#m.log2:=by
 rw[xh,ξ h]
 lia
end Ring
namespace L2
open PySem PySem.Spec PyProof.Rows
def xX{K:b7}{a:Addr}{xs:List V}{g:TG}{tt:TT}{te:TE}{n:Nat}{fr:St}{D:Addr}{Q:Hp->Prop}{H1:Hp}(Pv:Nat->List V->Hp->Prop)(h0:Pv 0 [] H1)(hl:∀i acc H,i<=xs.length->Pv i acc H->aM K H a xs/\H D=1#acc/\acc.length<=i)(hz:56#xs.length)
 (hs:∀i x T acc H,xs[i]?=some x->Pv i acc H->H T=none->g (.ref T) (List.replicate n none++fr) (η H T (.tup [.int (i:Int),x])) λσ2 H2=>σ2.drop n=fr/\tt σ2 H2 λb H3 =>
  if b=true then te σ2 H3 λv H4=>H4 D=1#acc/\Pv (i+1) (acc++[v]) (η H4 D 46#(acc++[v])) else Pv (i+1) acc H3)
 (hd:∀acc H,Pv xs.length acc H->Q H):kQ (VB K a) g tt te n fr D Q H1:=by
 refine⟨λi m acc H=>m=xs.length-i/\i<=xs.length/\Pv i acc H,⟨xs.length,by simp,v! _,h0⟩,?_⟩
 rintro i m acc H ⟨rfl,hi,p⟩;obtain⟨q,hD,ha⟩:=hl i acc H hi p;refine⟨hD,?_⟩
 by_cases hlt:i<xs.length
 .refine .inr ⟨⟨xs,xs[i],q,by simp[hlt]⟩,by lia,Pv (i+1),λacc' H' p'=>⟨xs.length-(i+1),by lia,rfl,hlt,p'⟩,λv H' y=>?_⟩
  obtain⟨T,x,rfl,hT,rfl,y⟩:=y;exact hs i x T acc _ (y xs q) p hT
 .have e:i=xs.length:=by lia
  subst e;exact .inl ⟨⟨xs,q,Z' _⟩,hd acc H p⟩
end L2
namespace RM
variable {N:Net}{S:59#0}
def xY(N:Net)(S:59#0)(L:Nat->Nat)(k:Nat):Prop:=∀x y,x<N.p->y<N.p->(L x=L y↔N.aO S k x=N.aO S k y)
def xY.start:xY N S (λx=>x) 0:=λ_ _ _ _=>Iff.rfl
def xY.skip{L:Nat->Nat}{k:Nat}(h:xY N S L k)(hs:S k=false):xY N S L (k+1):=by
 intro x y hx hy;rw[iB,ξ (by rw[hs];decide)]
 exact h x y hx hy
def xY.put{L:Nat->Nat}{k:Nat}(h:xY N S L k)(hk:k<N.n)(hs:S k=true):xY N S (TL L (N.a k) (N.b k)) (k+1):=by
 intro x y hx hy;have ha:=N.al k hk;have hb:=N.bl k hk;rw[iB,ο hs,Qc,Mu,h x y hx hy,h x _ hx ha,h y _ hy hb,h x _ hx hb,h y _ hy ha]
open Classical in
theorem Iu(val:Nat->Int):∀n,58#(PyProof.Rows.firstMet val n)=cnt (λi=>! 7#(∃j,j<i/\val j=val i)) n/\∀z,z∈PyProof.Rows.firstMet val n↔∃j,j<n/\val j=z
 | 0=>by
   rw[PyProof.Rows.firstMet_zero];exact 47#(λz=>⟨λh=>(nomatch h),λ⟨j,hj,_⟩=>absurd hj (l? _)⟩)
 | n+1=>by
   obtain⟨h1,h2⟩:=Iu val n;rw[PyProof.Rows.firstMet_succ];unfold PyProof.Rows.step_dedup;have hm:=h2 (val n);have ha:((PyProof.Rows.firstMet val n).any λx=>x==val n)=true↔val n∈PyProof.Rows.firstMet val n:=by simp
   have mem:∀z,(∃j,j<n+1/\val j=z)↔(∃j,j<n/\val j=z)\/val n=z:=λz=>by
    constructor
    .rintro⟨j,hj,e⟩
     by_cases ej:j=n
     .subst ej;exact .inr e
     .exact .inl ⟨j,by lia,e⟩
    .rintro(⟨j,hj,e⟩|e)
     .exact⟨j,by lia,e⟩
     .exact⟨n,by lia,e⟩
   by_cases hin:val n∈PyProof.Rows.firstMet val n
   .rw[ο (ha.mpr hin)];refine⟨?_,λz=>?_⟩
    .show _=cnt _ n+(if(! 7#(∃j,j<n/\val j=val n))=true then 1 else 0)
     rw[h1,cH (hm.mp hin)];rfl
    .rw[mem,h2];exact⟨.inl,λh=>h.elim id λe=>e▸hm.mp hin⟩
   .rw[ξ (λz=>hin (ha.mp z))]
    refine⟨?_,λz=>?_⟩
    .show _=cnt _ n+(if(! 7#(∃j,j<n/\val j=val n))=true then 1 else 0)
     rw[k!,h1,eV (λz=>hin (hm.mpr z))]
     rfl
    .rw[mem,t!,h2];exact⟨λh=>h.elim .inl λe=>.inr (p!.mp e).symm,λh=>h.elim .inl λe=>.inr (by simp[e])⟩
def QB{L:Nat->Nat}(h:xY N S L N.n):58#(PyProof.Rows.firstMet (λi=>6#(L i)) N.p)=cnt (N.root S N.n) N.p:=by
 rw[(Iu _ N.p).1];refine fU λx hx=>?_
 unfold Net.root;rw[W!,P_,decide_eq_false_iff_not,j?]
 constructor
 .intro hn;apply Z!;intro hne;have hle:=sr (N:=N) (S:=S) N.n x;have hlt:N.aO S N.n x<x:=by lia
  exact hn ⟨N.aO S N.n x,hlt,by
   have:=(h (N.aO S N.n x) x (by lia) hx).mpr (cQ N.n x)
   rw[this]⟩
 .rintro hr ⟨j,hj,e⟩;have e:L j=L x:=by lia
  have e2:=(h j x (by lia) hx).mp e
  have:=sr (N:=N) (S:=S) N.n j
  lia
def M7{m:Nat}(hm:m<2^N.n)(h0:m≠0)(d2:N.D2 m):N.Ring m↔cnt (N.root (λk=>2#0) N.n) N.p+cnt (λx=>7#(N.dg m x=2)) N.p=N.p+1:=by
 have hR:∀x,x<N.p->N.dg m x=0->N.root (λk=>2#0) N.n x=true:=λx hx hd=>by
  unfold Net.root;rw[j?];exact alone hd (cj _ _ _ (cQ N.n x).symm)
 have split:cnt (N.root (λk=>2#0) N.n) N.p=cnt (λx=>! 7#(N.dg m x=2)) N.p+cnt (λx=>7#(N.dg m x=2)&&N.root (λk=>2#0) N.n x) N.p:=by
  rw[<-xC (λx hx=>by cases 7#(N.dg m x=2)<;>simp)]
  refine fU λx hx=>?_
  rcases d2 x hx with h|h
  .rw[hR x hx h,eV (by lia)]
   rfl
  .rw[cH h];simp
 have cn:=lN (λx=>7#(N.dg m x=2)) N.p
 obtain⟨k0,hk0⟩:∃k,2#0=true:=by
  apply Z!;intro h;exact h0 (d? λi=>by
   rw[L?];cases e:m.testBit i with
   | false=>rfl
   | true=>exact absurd ⟨i,e⟩ h)
 have hkn:=fV hm hk0;have O4:=N.al k0 hkn;have hd0:N.dg m (N.a k0)=2:=by
  have:=xD hkn hk0 (.inl rfl:N.a k0=N.a k0\/N.b k0=N.a k0);rcases d2 _ O4 with h|h<;>lia
 rw[T6 hm d2 O4 hd0];generalize hx:N.a k0=x0 at O4 hd0;have up:∀x,x<N.p->N.dg m x=2->N.dg m (20#x)=2:=λx hx hd=>by
  have hl:=lO (N:=N) (S:=λk=>2#0) (k:=N.n) hx
  rcases d2 _ hl with h|h
  .have e:x=20#x:=alone h (cj _ _ _ (cQ N.n x))
   rw[<-e]at h
   lia
  .exact h
 have r0:20#x0<N.p:=lO O4
 constructor
 .intro h;have one:cnt (λx=>7#(N.dg m x=2)&&N.root (λk=>2#0) N.n x) N.p=1:=by
   have:cnt (λx=>7#(N.dg m x=2)&&N.root (λk=>2#0) N.n x) N.p=cnt (λx=>decide (20#x0=x)) N.p:=fU λx hx=>by
    rw[W!,L!,j?,j?];unfold Net.root;rw[j?]
    constructor
    .rintro⟨h1,h2⟩;rw[<-(h x hx).mpr h1];exact h2
    .rintro rfl;exact⟨up x0 O4 hd0,cQ N.n x0⟩
   rw[this,xB,ο r0]
  lia
 .intro h x hx;have one:cnt (λx=>7#(N.dg m x=2)&&N.root (λk=>2#0) N.n x) N.p=1:=by lia
  have je:(decide (N.dg m (20#x0)=2)&&N.root (λk=>2#0) N.n (20#x0))=true:=by
   rw[L!,j?];unfold Net.root;rw[j?];exact⟨up x0 O4 hd0,cQ N.n x0⟩
  constructor
  .intro e;rcases d2 x hx with h|h
   .have e2:x0=x:=alone h (cj _ _ _ e);rw[<-e2]at h
    lia
   .exact h
  .intro hd;have fB:(decide (N.dg m (20#x)=2)&&N.root (λk=>2#0) N.n (20#x))=true:=by
    rw[L!,j?];unfold Net.root;rw[j?];exact⟨up x hx hd,cQ N.n x⟩
   apply Z!;intro hne;have:=wu (f:=λx=>7#(N.dg m x=2)&&N.root (λk=>2#0) N.n x) fB je hne (lO hx) r0
   lia
end RM
namespace Ring
open PySem L2
def jZ(l:List Nat)(c:Nat->Nat):List (Key×V):=l.map λx=>((Sum.inl ((x:Nat):Int):Key),V.int 6#(c x))
def sJ(l:List Nat)(c:Nat->Nat)(x:Nat):fg (jZ l c) (Sum.inl ((x:Nat):Int))=if x∈l then 3#6#(c x) else none:=by
 induction l with
 | nil=>rfl
 | cons y l ih =>
   by_cases e:y=x
   .subst e;rw[ο o!];exact dw rfl
   .have ne : ¬(Sum.inl ((y:Nat):Int):Key)=Sum.inl ((x:Nat):Int):=λz=>e (by have:=Sum.inl.inj z;lia)
    show fg (((Sum.inl ((y:Nat):Int):Key),V.int 6#(c y))::jZ l c) _=_;rw[c6 ne,ih]
    by_cases hm:x∈l
    .rw[ο hm,ο (lG _ hm)]
    .rw[ξ hm,ξ (λz=>(h!.mp z).elim (λz=>e z.symm) hm)]
def M8{l:List Nat}{c:Nat->Nat}{x v:Nat}(h:x∉l):putK (jZ l c) (Sum.inl ((x:Nat):Int)) (40#(v:Nat))=jZ (l++[x]) (λy=>if y=x then v else c y):=by
 unfold putK;rw[iQ,sJ,ξ h,ξ (16#0)]
 unfold jZ;rw[g!]
 congr 1
 .refine L_ λy hy=>?_
  show _=((Sum.inl ((y:Nat):Int):Key),V.int 6#(if y=x then v else c y))
  rw[ξ (λe:y=x=>h (e▸hy))]
 .show _=[((Sum.inl ((x:Nat):Int):Key),V.int 6#(if x=x then v else c x))]
  rw[ο rfl]
end Ring
namespace RM
theorem M9(n:Nat):∀e,bI (λj=>n.testBit j) (e+1)=(7#(n%2=1)^^bI (λj=>69#(n/2)) e)
 | 0=>by
   show(false^^n.testBit 0)=(7#(n%2=1)^^false);rw[r_,u?,T!]
 | e+1=>by
   have ih:=M9 n e;show(bI (λj=>n.testBit j) (e+1)^^n.testBit (e+1))=(7#(n%2=1)^^(bI (λj=>69#(n/2)) e^^(n/2).testBit e))
   rw[ih,X?,_H]
def Na(a b:Nat):(a&&&b)/2=a/2&&&b/2:=d? λi=>by
 rw[T?,<-X?,<-X?,<-X?,T?]
def QC:∀(e n:Nat),n≠0->n<2^e->bI (λj=>69#(n&&&(n-1))) e = ! bI (λj=>n.testBit j) e:=by
 intro e
 induction e with
 | zero=>intro n h0 hn;simp at hn;exact absurd hn h0
 | succ e ih =>
   intro n h0 hn;have hb:(n&&&(n-1))%2=1↔False:=by
    have:=r_ (n&&&(n-1));rw[T?,r_,r_]at this
    constructor
    .intro z;rw[cH z,L!,j?,j?]at this
     lia
    .exact False.elim
   rw[M9,M9,Na,eV (λz=>hb.mp z),u?]
   by_cases h2:n%2=1
   .rw[cH h2,show(n-1)/2=n/2 by lia,Nat.and_self]
    cases bI (λj=>69#(n/2)) e<;>rfl
   .rw[eV h2,u?,show(n-1)/2=n/2-1 by lia]
    exact ih (n/2) (by lia) (by rw[F?]at hn;lia)
def m6{b:Nat}{B:List Nat}:BB (b::B)↔BB B/\¬ Sp B b:=by
 have dbl:∀z,(2*z).testBit 0=false:=λz=>by rw[r_];exact eV (by lia)
 have aav:∀z,(2*z+1).testBit 0=true:=λz=>by rw[r_];exact cH (by lia)
 constructor
 .intro h;refine⟨λz hz e=>?_,λhs=>?_⟩
  .have:=h (2*z) (by rw[P!,F?];lia) (by
    unfold U';rw[dbl,ξ (16#0),k?,show 2*z/2=z by lia]
    exact e)
   lia
  .obtain⟨y,hy,e⟩:=wG hs;have:=h (2*y+1) (by rw[P!,F?];lia) (by
    unfold U';rw[aav,ο rfl,show(2*y+1)/2=y by lia,e,Z?])
   lia
 .rintro⟨h,hs⟩ z hz e;unfold U' at e;rw[P!,F?]at hz
  by_cases hb:z.testBit 0=true
  .rw[ο hb]at e;have e2:=lU e;exact absurd (e2▸sI B (z/2)) hs
  .rw[ξ hb,k?]at e;have h0:=h (z/2) (by lia) e
   rw[r_,j?]at hb
   lia
def QD{B C:List Nat}(h:B.Perm C)(x:Nat):Sp B x↔Sp C x :=
 ⟨λz=>z.mono λb hb=>.mem (h.mem_iff.mp hb),λz=>z.mono λb hb=>.mem (h.mem_iff.mpr hb)⟩
def Nb{B C:List Nat}(h:B.Perm C):BB B↔BB C:=by
 induction h with
 | nil=>exact Iff.rfl
 | cons x h ih=>rw[m6,m6,ih,QD h]
 | swap x y l =>
   rw[m6,m6,m6,m6,Sp.o4,Sp.o4,G_ y x]
   constructor
   .rintro⟨⟨h1,h2⟩,h3⟩;exact⟨⟨h1,λz=>h3 (.inl z)⟩,λz=>z.elim h2 λz=>h3 (.inr z)⟩
   .rintro⟨⟨h1,h2⟩,h3⟩;exact⟨⟨h1,λz=>h3 (.inl z)⟩,λz=>z.elim h2 λz=>h3 (.inr z)⟩
 | trans _ _ i1 i2=>exact i1.trans i2
def Base.perm{N:Net}{rs rs' : List Nat}(b:Base N rs)(h:rs'.Perm rs):Base N rs' :=
 ⟨by rw[h.length_eq];exact b.len,λr hr=>b.ring r (h.mem_iff.mp hr),(Nb h).mpr b.ind⟩
end RM
namespace L2
open PySem PySem.Spec PyProof.Rows
theorem xZ{α β:Type}{F:α->β->Prop}{x:α}{y:β}(h:F x y):∀{l:List α} {r:List β},Paired F l r->Paired F (l++[x]) (r++[y])
 | _,_,.nil=>.cons h .nil
 | _,_,.cons h1 t=>.cons h1 (xZ h t)
theorem x6{α β:Type}{F:α->β->Prop}:∀{l:List α} {r:List β},Paired F l r->Paired F l.reverse r.reverse
 | _,_,.nil=>.nil
 | _,_,.cons h t=>by
   rw[_t,_t];exact xZ h (x6 t)
def fM(q:Str)(pos:Pos):42#0:=#[.str q 0,rawInt pos.line,rawInt pos.col]
def qy(pos:Pos)(c:Addr):42#0:=#[rawInt pos.line,rawInt pos.col,.ref c]
def ic(H:Hp)(P c:Addr)(oc:Obj)(q:Str)(pos:Pos):Hp:=η (η H c (.m9 oc (.own P))) P (.lF (fM q pos++qy pos c))
def given(H:Hp)(P c:Addr)(q:Str)(pos:Pos):Hp:=η (η H c (.own P)) P (.lF (fM q pos))
def CodeObj(oc:Obj)(q:Str):Prop:=∃vs t,oc.data = .fields vs/\vs[1]?=some (.str q t)
def CodeObj.rec{h:Heap}{c:Addr}{oc:Obj}{q:Str}(x:CodeObj oc q)(e:h.get? c=some oc):h.CodeRec (.ref c) q :=
 let⟨vs,t,e1,e2⟩:=x
 ⟨c,oc,vs,t,rfl,e,e1,e2⟩
def Ue{P:Program}{w:World}{H:Hp}{h:Heap}{a:Addr}{q:Str}{pos:Pos}(x:bL P w H h a (.lF (fM q pos))):
 h.get? a=some (PySem.W.tabObj #[])\/∃c oc,h.get? a=some (PySem.W.tabObj (qy pos c))/\H c=some (.own a)/\h.get? c=some oc/\CodeObj oc q:=by
 obtain⟨ps,e,f⟩:=x;rcases f with⟨_,f|⟨c,e1,e2,c',oc,vs,tq,hc,ho,hd,hv⟩⟩|⟨q',l,k,f,z⟩
 .subst f;exact .inl e
 .cases hc;subst e1;exact .inr ⟨c,oc,e,e2,ho,vs,tq,hd,hv⟩
 .have:=n! Array.size f;rw[Array.size_append,z]at this;exact absurd this (by simp[fM])
def Nc{P:Program}{w:World}{H:Hp}{h:Heap}{a c:Addr}{q:Str}{pos:Pos}(x:bL P w H h a (.lF (fM q pos++qy pos c))):h.get? a=some (PySem.W.tabObj (qy pos c)):=by
 obtain⟨ps,e,f⟩:=x;rcases f with⟨f,_⟩|⟨q',l,k,f,z⟩
 .rw[Array.size_append]at f;exact absurd f (by simp[fM,qy])
 .have e2:=n! (λa=>a.toList.drop 3) f
  simp only[Array.toList_append,fM,qy,List.cons_append,List.nil_append,List.drop_succ_cons,List.drop_zero]at e2;have e3:ps=qy pos c:=by
   apply Array.toList_inj.mp;exact e2.symm
  rw[<-e3];exact e
abbrev DU(X:Cx)(params:Arguments)(body:Expr)(scope:Scope)(c:Addr)(ctv:Value):FuncData :=
 PySem.W.kla_fn "<lambda>" (X.env.qual ++ "<lambda>") params body scope (89#0) ((X.mg "__name__").getD .none) (.ref c) ctv
abbrev fG(X:Cx)(params:Arguments)(body:Expr)(scope:Scope)(c:Addr)(ctv:Value):Obj :=
 { cls:=.type "function",data:=.func (48#DU)}
section
variable {X:Cx}{pq:aW}{σ:St}{H H2:Hp}{s:Shared}{params:Arguments}{body:Expr}{scope:Scope}{pos:Pos}{own fq:List Str}{js:List Nat}{c P:Addr}
def DV{Q:eG}{E:eG}
 (I:5#s) (T:ff X scope own fq js) (hcode:X.env.code = .ref c) (hK:PySem.W.codeHdIn X.K c P=true) (hP:H P=some (.lF (fM (X.env.qual ++ "<lambda>") pos)))
 (hdef:defaultsOf params X.env=([],[]))
 (h:∀f c' oc ctv s',(H c' = none\/H c' = some (.own P))->c'≠P->CodeObj oc (X.env.qual ++ "<lambda>")->θ X ((f,fG X params body scope c' ctv)::pq) σ (ic H P c' oc (X.env.qual ++ "<lambda>") pos) s'->Q (.ref f) s') :
 wpAny 9#0 X.A (eval (.Lambda params body scope pos) X.env) Q E s:=by
 have O4:=Ue (show bL X.prog X.w H s.heap P (.lF (fM (X.env.qual ++ "<lambda>") pos)) from I.hok P _ hP)
 have C:PySem.W.CodeHd s.heap c P:=PySem.W.codeHd_of_K I.CM hK;have hg:=I.mod.glob.keeps I.bk;have neP:∀b o,71#X.base.get?->b≠P:=λb o q z=>by
  have:=(I.bs b o q).2;rw[z,hP]at this;cases this
 have hgP:mainGlobals≠P:=by
  obtain⟨o,es,ep,q,_⟩:=I.mod.glob;exact neP _ o q
 have hb:s.heap.BuiltinsAt X.mg P:=by
  obtain⟨bm,ob,b1,b2,b3,b4,b5,b6⟩:=I.mod.bmain;refine⟨bm,ob,b1,b2,λz=>?_,neP _ _ b3,I.bk _ _ b3,b4,b5,b6⟩
  obtain⟨o,es,ep,q,hd,_⟩:=I.mod.glob;rw[z,q]at b3;cases b3;rw[hd]at b6;cases b6
 have hcl:=qS (jg I T);have fin:∀(f c' : Addr) (oc:Obj) (ctv:Value) (h2:Heap) (tk:Nat),(H c' = none\/H c' = some (.own P))->c'≠P->(H c' = none->s.heap.objs.size<=c')->CodeObj oc (X.env.qual ++ "<lambda>")->(∀b o,b≠P->22#o->71#h2.get?)->
  h2.get? P=some (PySem.W.tabObj (qy pos c'))->h2.get? c' = some oc->s.heap.objs.size<=f->f≠c'->h2.get? f=some (fG X params body scope c' ctv)->
  θ X ((f,fG X params body scope c' ctv)::pq) σ (ic H P c' oc (X.env.qual ++ "<lambda>") pos) { s with heap:=h2,toks:=tk}:=by
  intro f c' oc ctv h2 tk hc DW hnew hoc hx YS hct hf hfc hft;have nP:∀b,H b=none->b≠P:=λb n z=>by rw[z,hP]at n;cases n
  have QE:∀b u,H b=some u->(∀y,u≠.own y)->(∀qs,u≠.lF qs)->ic H P c' oc (X.env.qual ++ "<lambda>") pos b=some u:=λb u e n1 n2=>by
   unfold ic;rw[ao (λz=>by rw[z,hP]at e;exact n2 _ (18#e).symm),ao (λz=>by
    rw[z]at e;rcases hc with q|q
    .rw[q]at e;cases e
    .rw[q]at e;exact n1 _ (18#e).symm)]
   exact e
  have Ug:∀b,H b=none->(b<s.heap.objs.size\/b≠c')->ic H P c' oc (X.env.qual ++ "<lambda>") pos b=none:=λb n hb=>by
   unfold ic;rw[ao (nP b n),ao (λz=>by
    rcases hb with q|q
    .rw[z]at q n;exact absurd (hnew n) (Nat.not_le.mpr q)
    .exact q z)]
   exact n
  have un:Un X.fs [] H (ic H P c' oc (X.env.qual ++ "<lambda>") pos) s.heap h2:=by
   refine⟨λb o q n _ _=>hx b o (nP b n) q,λb o q n _ _=>⟨o.slots,hx b o (nP b n) q⟩,λb o q n _=>Ug b n (.inl (b! q)),λb o q _=>?_,λb xs q=>QE b _ q (by intro y z;cases z) (by intro y z;cases z),λb o u q=>QE b _ q (by intro y z;cases z) (by intro y z;cases z),λb ps q=>?_⟩
   .by_cases hb:b=P
    .exact⟨_,by rw[hb];exact YS⟩
    .exact⟨o,hx b o hb q⟩
   .by_cases hb:b=P
    .subst hb;rw[hP]at q;cases q;exact⟨qy pos c',aa⟩
    .refine⟨#[],?_⟩;unfold ic;rw[ao hb,ao (λz=>by
      rw[z]at q;rcases hc with r|r<;>(rw[r]at q;cases q)),q]
     simp
  have hok:oB X.prog X.w (ic H P c' oc (X.env.qual ++ "<lambda>") pos) h2:=λb u q=>by
   by_cases zf:b=P
   .subst zf;unfold ic at q;rw[aa]at q;cases q;exact⟨_,YS,.inr ⟨_,_,_,rfl,rfl⟩⟩
   .by_cases hbc:b=c'
    .subst hbc;unfold ic at q;rw[ao zf,aa]at q;cases q;exact⟨hct,oc,hct⟩
    .have q' : H b=some u:=by
      unfold ic at q;rw[ao zf,ao hbc]at q;exact q
     have ow:∀d,H d=some (.own b)->d≠P/\d≠c':=λd qd=>⟨bg qd hP 12#0,λz=>by
      rw[z]at qd;rcases hc with r|r
      .rw[r]at qd;cases qd
      .rw[r]at qd;cases qd;exact zf rfl⟩
     refine(I.hok b u q').stay (λd v hd qd=>hx d v ?_ qd) (λd qd=>?_) λd xs qd=>QE d _ qd (by intro y z;cases z) (by intro y z;cases z)
     .rcases hd with rfl|hd
      .exact zf
      .exact(ow d hd).1
     .unfold ic;rw[ao (ow d qd).1,ao (ow d qd).2];exact qd
  have J:=I.un (t':=tk) un hok;have hfH:H f=none:=I.hok.fresh hf;refine J.iJ λp hp=>?_
  show 26
  .exact⟨hft,Ug _ hfH (.inr hfc),U? (x! I.lt hf),I.V1 hf,λv z=>by cases z⟩
  .exact J.pin p (jL _ hp)
 refine PySem.W.kla_eval hdef ?_;rcases O4 with e|⟨c',oc,e,ho,hct,hoc⟩
 .refine PySem.W.kla_makeFunction (mg:=X.mg) hcl I.ok.glob hg hcode C e trivial rfl hgP hb λc' ctv h' tk hx hge hlt hrec htb=>?_
  obtain⟨c2,oc,vs,t,e2,hct,hd,hv⟩:=hrec;cases e2;have hf:s.heap.objs.size<=h'.objs.size:=D! hge (B! hlt);have DW:c'≠P:=U? (x! (b! e) hge);exact h _ c' oc ctv _ (.inl (I.hok.fresh hge)) DW ⟨vs,t,hd,hv⟩ (fin _ c' oc ctv _ tk (.inl (I.hok.fresh hge)) DW (λ_=>hge) ⟨vs,t,hd,hv⟩ (λb o hb q=>l! _ (hx b o hb q)) (l! _ htb) (l! _ hct) hf (U? hlt) (E! _ rfl))
 .have hf:codeAmong pos (qy pos c').toList=11#c':=codeAmong_snoc [] trivial rfl;have tr:TriplesOk (qy pos c').toList:=TriplesOk_snoc pos.line pos.col (.ref c') [] trivial;refine PySem.W.kla_makeFunctionHit (mg:=X.mg) hcl I.ok.glob hg hcode C e tr hf hb λctv h' tk hk hsz=>?_
  have DW:c'≠P:=bg ho hP 12#0
  have hk' : ∀b o,22#o->71#(h'.push (fG X params body scope c' ctv)).get?:=λb o q=>l! _ (hk b o q)
  exact h _ c' oc ctv _ (.inr ho) DW hoc (fin _ c' oc ctv _ tk (.inr ho) DW (λz=>by rw[ho]at z;cases z) hoc (λb o _ q=>hk' b o q) (hk' _ _ e) (hk' _ _ hct) hsz (U? (x! (b! hct) hsz)) (E! _ rfl))
def DX{x8:aW}{σ0:St}{s0:Shared}{q:Str}{oc:Obj}(I0:θ X x8 σ0 H s0)(hP:H P=some (.lF (fM q pos)))(hc:H c=none\/H c=some (.own P))(DW:c≠P)(hoc:CodeObj oc q)
 (I:θ X pq σ H2 s) (e1:H2 P=some (.lF (fM q pos++qy pos c))) (e2:H2 c=some (.m9 oc (.own P))):θ X pq σ (given H2 P c q pos) s:=by
 have YS:=Nc (show bL X.prog X.w H2 s.heap P (.lF (fM q pos++qy pos c)) from I.hok P _ e1)
 obtain⟨hct,_⟩:=(show bL X.prog X.w H2 s.heap c (.m9 oc (.own P)) from I.hok c _ e2)
 have Ug:∀b,H2 b=none->given H2 P c q pos b=none:=λb n=>by
  unfold given;rw[ao (λz=>by rw[z,e1]at n;cases n),ao (λz=>by rw[z,e2]at n;cases n)]
  exact n
 have QE:∀b u,b≠P->b≠c->H2 b=some u->given H2 P c q pos b=some u:=λb u n1 n2 e=>by
  unfold given;rw[ao n1,ao n2];exact e
 refine⟨I.ok,I.os,I.bare,⟨I.base.keep,I.base.slot,λb o z n hx=>Ug b (I.base.free b o z n hx),I.base.there,λb xs z=>?_,λb o u z=>?_,λb ps z=>?_⟩,I.loc,I.cell,Ug _ I.free,λx c' z=>Ug _ (I.gC x c' z),λp hp=>?_,λb u z=>?_,I.len⟩
 .have r:=I.base.tups b xs z;exact QE b _ (bg r e1 12#0) (bg r e2 12#0) r
 .have r:=I.base.nc b o u z;refine QE b _ (bg r e1 12#0) (λy=>?_) r
  have r0:=I0.base.nc b o u z;rw[y]at r0;rcases hc with hc|hc<;>(rw[hc]at r0;cases r0)
 .by_cases hb:b=P
  .subst hb;obtain⟨more,r0⟩:=I0.base.oE b ps z;rw[hP]at r0;exact⟨more,by unfold given;rw[aa];exact r0⟩
  .obtain⟨more,r⟩:=I.base.oE b ps z;exact⟨more,QE b _ hb (bg r e2 12#0) r⟩
 .obtain⟨a1,a2,a3⟩:=I.pin p hp;exact⟨a1,Ug _ a2,a3⟩
 .by_cases zf:b=P
  .subst zf;unfold given at z;rw[aa]at z;cases z;refine⟨_,YS,.inl 47#(.inr ⟨c,rfl,?_,hoc.rec hct⟩)⟩;unfold given;rw[ao DW,aa]
  .by_cases hbc:b=c
   .subst hbc;unfold given at z;rw[ao zf,aa]at z;cases z;exact⟨oc,hct⟩
   .have z' : H2 b=some u:=by
     unfold given at z;rw[ao zf,ao hbc]at z;exact z
    refine(I.hok b u z').stay (λ_ _ _ r=>r) (λd r=>QE d _ (bg r e1 12#0) (bg r e2 12#0) r) λd xs r=>QE d _ (bg r e1 12#0) (bg r e2 12#0) r
def DY{q:Str}{oc:Obj}(hP:H P=some (.lF (fM q pos)))(hc:H c=none\/H c=some (.own P))(DW:c≠P)(S:ah (ic H P c oc q pos) H2):ah H (given H2 P c q pos):=λb u e=>by
 unfold given
 by_cases zf:b=P
 .subst zf;rw[aa,<-hP];exact e
 .rw[ao zf]
  by_cases hbc:b=c
  .subst hbc;rw[aa];rcases hc with hc|hc
   .rw[hc]at e;cases e
   .rw[<-hc];exact e
  .rw[ao hbc];refine S b u ?_;unfold ic;rw[ao zf,ao hbc];exact e
def wH{q:Str}{oc:Obj}{b:Addr}{u:HO}(hP:H P=some (.lF (fM q pos)))(hc:H c=none\/H c=some (.own P))(e:H b=some u)(n1:∀y,u≠.own y)(n2:∀qs,u≠.lF qs):ic H P c oc q pos b=some u:=by
 unfold ic;rw[ao (λz=>by rw[z,hP]at e;exact n2 _ (18#e).symm),ao (λz=>by
  rw[z]at e;rcases hc with q|q
  .rw[q]at e;cases e
  .rw[q]at e;exact n1 _ (18#e).symm)]
 exact e
def x9(X:Cx)(N:List Str)(scope:Scope)(f c:Addr)(A:Around)(s:Shared)(H:Hp):Cx where
 prog:=X.prog
 w:=X.w
 K:=X.K
 mg:=X.mg
 base:=X.base
 A:=A.deeper (PySem.W.envX (X.env.qual ++ "<lambda>") scope s.heap.objs.size f (.ref c) (89#0))
 N:=N
 s₀:=s
 H₀:=H
 env:=PySem.W.envX (X.env.qual ++ "<lambda>") scope s.heap.objs.size f (.ref c) (89#0)
 outer:=X.stack
 stack:=PySem.W.envX (X.env.qual ++ "<lambda>") scope s.heap.objs.size f (.ref c) (89#0)::X.stack
 ex:=[]
 fn:=λ_=>false
 calm:=X.calm
 pn:=[]
 xe:=80#0
def QF{f:Addr}{A:Around}{x:Str}{v:V}{u:Value}{h1:Heap}{t1:Nat}(I:5#s)(T:ff X scope [x] fq js)(hx:67#x=some .local)
 (hfr:A.frames=some X.stack) (hh:A.handled=X.A.handled) (r:Θ v u) (old:∀b o,22#o->71#h1.get?) (hn:h1.Ns s.heap.objs.size (λy=>[(x,u)].reverse.lookup y)) :
 θ (x9 X ([x]++fq) scope f c A s H) [] (some v::gz σ js) H { s with heap:=h1,toks:=t1}:=by
 have cells:∀x c,(89#0).lookup x=some c->37#x:=λx c h=>by
  rcases lM h with q|⟨q1,q2⟩
  .cases q
  .obtain⟨c',hc'⟩:=jg I T x .free q1 rfl;rw[hc']at q2;rw[hc'];exact n! some q2
 refine⟨⟨I.ok.mod,T.kind,rfl,rfl,Z' _,λx y c a b=>I.ok.inj x y c (cells x c a) (cells y c b),λy hy=>?_,λx c z _=>(nomatch z),λhc=>hh.trans (I.ok.hd hc),Around.frames_deeper hfr,.inr ⟨rfl,rfl⟩,λb hb=>absurd (show b∈([]:70#0) from hb) 31#0,
  λb o e=>I.bs b o e,D! I.ok.Pg I.sz,λb o _ hb=>absurd (show b∈([]:70#0) from hb) 31#0,λb hb=>absurd (show b∈([]:70#0) from hb) 31#0,I.stack,I.A7⟩,
  rfl,I.bare,Un.kept old,⟨_,hn,λi y v' e1 e2 e3=>?_⟩,λy c e=>?_,I.hok.fresh (Z' _),λy c e=>I.gC y c (cells y c e),λp hp=>absurd (show p∈([]:aW) from hp) 31#0,I.hok.kept old,?_⟩
 .have hy:67#y=some .cell\/67#y=some .free:=hy;rcases hy with hy|hy
  .exact absurd rfl (T.Bj _ (O? hy))
  .exact kP (.inl (O? hy))
 .replace e1:([x]++fq)[i]?=some y:=e1
  cases i with
  | zero =>
    have e1:x=y:=by simpa using e1
    have e2:v=v':=by simpa using e2
    subst e1 e2;exact⟨u,r,.inl ⟨hx,by simp⟩⟩
  | succ i =>
    have e1:fq[i]?=some y:=by simpa using e1
    have e2:(gz σ js)[i]?=some (some v'):=by simpa using e2
    obtain⟨j,hj,hσ⟩:=w5 e2;have hN:X.N[j]?=some y:=by
     have q:=n! (λl=>l[i]?) T.at_
     simp only[c!,hj,e1,l_]at q;exact 18#q
    have hfx:=T.fr y (gB e1);have hm:=O? hfx;have hk:=T.free (y,.free) hm rfl;obtain⟨m0,hn0,HM⟩:=I.loc;obtain⟨u',r',l⟩:=HM j y v' hN hσ (by rcases hk with k|k;exact .inr (.inl k);exact .inr (.inr k))
    refine⟨u',r',.inr ⟨.inr hfx,?_⟩⟩;rcases l with⟨kD,_⟩|⟨_,c1,hc,hcell⟩
    .have kD:53#y=some .local:=kD;rcases hk with k|k<;>(rw[kD]at k;cases k)
    .obtain⟨c',hc'⟩:=kP (cells:=X.env.cells) (names:=scope.names) (cs:=[]) (x:=y) (.inl hm);have q:=cells y c' hc';rw[hc]at q;cases q;exact⟨c1,hc',hcell.keeps old⟩
 .obtain⟨v',q⟩:=I.cell y c (cells y c e);exact⟨v',q.keeps old⟩
 .show _=58#([x]++fq);have q:=n! List.length T.at_;rw[χ,χ]at q;simp only[P!,k!,s_];unfold gz;rw[χ]
  lia
def DZ{f:Addr}{ctv:Value}{A:Around}{te:TE}{x:Str}{v:V}{u:Value}{Q:VK}{E:eG}(I:5#s)(T:ff X scope [x] fq js)(hx:67#x=some .local)
 (hfr:A.frames=some X.stack) (hh:A.handled=X.A.handled) (hroom:A.depth<recursionLimit) (hp:(f,48#fG)∈pq) (hcd:s.heap.CodeRec (.ref c) (X.env.qual ++ "<lambda>"))
 (hb:bindArgs (48#DU) ⟨[u],[]⟩=pure [(x,u)]) (hco:scope.isCoroutine=false) (hgen:scope.isGenerator=false)
 (he:PE (x9 X ([x]++fq) scope f c A s H) body te) (r:Θ v u) (h:te (some v::gz σ js) H Q) :
 wpAny 9#0 A (call (.ref f) [u]) (λu' s'=>∃v' H',θ X pq σ H' s'/\Θ v' u'/\Q v' H') E s:=by
 have hf:=I.pin _ (jL _ hp);refine wpAny_call (PySem.W.kla_callFunE hroom hf.1 rfl hco hgen rfl hcd ?_);rw[hb];refine Ω (wpAny_newFunctionEnv (λy hy=>T.Bj y hy) (by intro y hy;have:=p!.mp hy;subst this;exact hx) (λh₁ hns W9=>⟨I.nolimit.fresh _ W9,?_⟩) T.kind)
 show codeAny _ _ (.expr body (PySem.W.envX (X.env.qual ++ "<lambda>") scope s.heap.objs.size f (.ref c) (89#0))) _ _;have old:∀b o,22#o->71#h₁.get?:=λb o e=>W9.extBut b o (q! (b! e)) (l! _ e)
 have J:=QF (f:=f) (c:=c) (A:=A) (t1:=s.toks+[(x,u)].length) I T hx hfr hh r old hns;refine PySem.W.kla_codeExpr (z! (he [] _ _ H Q J h) (λu' s' hq=>?_) λ_ _ z=>z.elim)
 obtain⟨v',H',J',r',q'⟩:=hq;exact⟨v',H',I.LA (ch:=[]) J'.os J'.base J'.hok J'.bare (λb z=>absurd z 31#0),r',q'⟩
end
end L2
namespace HT
theorem fX:∀a:List Int,lexLt a a=false
 | []=>rfl
 | x::xs=>by rw[di,ο rfl];exact fX xs
theorem lV:∀{a b c:List Int},lexLt a b=true->lexLt b c=true->lexLt a c=true
 | [],[],_,h,_=>by rw[qF]at h;cases h
 | [],_::_,[],_,h=>by rw[iM]at h;cases h
 | [],_::_,_::_,_,_=>rfl
 | _::_,[],_,h,_=>by rw[iM]at h;cases h
 | _::_,_::_,[],_,h=>by rw[iM]at h;cases h
 | x::xs,y::ys,z::zs,h1,h2=>by
   rw[di]at h1 h2 ⊢
   by_cases e1:x=y
   .rw[ο e1]at h1
    by_cases e2:y=z
    .rw[ο e2]at h2;rw[ο (e1.trans e2)];exact lV h1 h2
    .rw[ξ e2]at h2;rw[ξ (λq=>e2 (e1.symm.trans q)),e1]
     exact h2
   .rw[ξ e1]at h1;have h1:=jz h1
    by_cases e2:y=z
    .subst e2;rw[ξ e1];exact cH h1
    .rw[ξ e2]at h2;have h2:=jz h2;rw[ξ (by lia)]
     exact cH (by lia)
def yb{a b c:List Int}(h1:lexLt c b=false)(h2:lexLt a b=true):lexLt c a=false:=by
 cases q:lexLt c a with
 | false=>rfl
 | true=>rw[lV q h2]at h1;cases h1
end HT
namespace L2
open PySem PySem.Spec PyProof.Rows
def YT(h:Heap)(a:Addr)(es:Array DictEntry)(ep:Nat):Prop:=∃o,h.get? a=some o/\o.ExactDict/\o.data = .dict es ep
def YU(o:Obj)(a:Addr)(i n ep:Nat):Prop:=o.cls = .type "dict_keyiterator"/\o.data = .fields #[.ref a,.int i 0,.int n 0,.int ep 0]
section
variable {P:Program}{w:World}{A:Around}{E:eG}{s:Shared}{a it:Addr}{es:Array DictEntry}{ep i:Nat}{oi:Obj}
def Nd{Q:eG}(hs:(a==sysModules)=false)(g:YT s.heap a es ep)
 (q:Q (19#.ref) { s with heap:=33#{ cls:=.type "dict_keyiterator",data:=.fields #[.ref a,.int 0 0,.int es.size 0,.int ep 0]}}):wpAny (model P w) A (pyIter (.ref a)) Q E s:=by
 obtain⟨o,ho,hc,hd⟩:=g;have hT:s.TypeIs (.ref a) "dict":=⟨o,ho,hc.1⟩;refine wpAny_pyIter_slot hT PySem.F.slot_dict_iter (wpAny_call_entry PySem.F.slot_dict_iter hT PySem.F.entry_dict_iter ?_ (PySem.F.args_dict_iter_1 _));unfold Builtin.«dict.__iter__» Builtin.Dict.dictSlotNone;refine aR (aR (wpAny_notOrdered_dict hT ?_));show wpAny _ _ (pure (Value.ref a)) _ _ s;refine Ω ?_;show wpAny _ _ (Builtin.Dict.showsAll a >>= _) _ _ s;unfold Builtin.Dict.showsAll;rw[hs];refine aR (Ω (aR (wpAny_dictEntries ho hd (aR (wpAny_dictEpoch ho hd ?_)))));exact aR (wpAny_newObj_type (Ω ⟨_,rfl,"dict_keyiterator",_,⟨_,E! _ rfl,rfl⟩,_M.lookup,q⟩))
def yd{Q:64#(81#0)}(hi:s.heap.get? it=some oi)(g:YU oi a i es.size ep)(gd:YT s.heap a es ep)
 (q:match (es[i]?:Option DictEntry) with
  | some e=>∀h' oi',h'.get? it=some oi'->YU oi' a (i+1) es.size ep->Heap.SameBut it s.heap h'->Q (some e.key) { s with heap:=h'}
  | none=>A.handled=none/\∀h',Heap.ExtBut it s.heap h'->Q none { s with heap:=h'}):wpAny (model P w) A (pyNext (.ref it)) Q E s:=by
 obtain⟨hc,hd⟩:=g;obtain⟨o,ho,hx,hdd⟩:=gd;have hT:s.TypeIs (.ref it) "dict_keyiterator":=⟨oi,hi,hc⟩;unfold pyNext;refine aR (wpAny_attempt (wpAny_callSpecial?_slot (name:=Str.ofString "__next__") hT _M (wpAny_call_entry _M hT PySem.F.entry_dict_keyiterator_next ?_ (PySem.F.args_dict_keyiterator_next_1 _))));refine aR (Ω (aR (aR ?_)))
 first | refine aR (wpAny_typeNameOfWhole_keyiter hT (Ω ?_)) | refine aR (wpAny_typeNameOf_keyiter hT (Ω ?_))
 refine aR (wpAny_fieldsOf hi hd ?_);have hown:Builtin.Dict_items.ownsTuple "dict_keyiterator"=false:=16#0
 simp only[hown,V?,if_false];show wpAny _ _ (if(Value.ref a==Value.none)=true then _ else _) _ _ s
 rw[ξ (show ¬((Value.ref a==Value.none)=true) from e!)]
 refine aR (Ω (aR (wpAny_dictEntries ho hdd ?_)));rw[ξ 31#0]
 refine aR (Ω (aR (wpAny_dictEpoch ho hdd ?_)));rw[ξ 31#0]
 refine Ω ?_;simp only[show ¬((i:Int)<0) from by lia,if_false,a!]
 cases hei:(es[i]?:Option DictEntry) with
 | some e =>
   rw[hei]at q;refine aR ?_
   first | refine aR (wpAny_typeNameOfWhole_keyiter hT (Ω ?_)) | refine aR (wpAny_typeNameOf_keyiter hT (Ω ?_))
   refine aR (wpAny_isOneOf_keyiter hT ?_);show wpAny _ _ (setField (.ref it) 1 (rawInt ((i:Int)+1)) >>= _) _ _ s;refine aR (wpAny_setField hi hd 31#0 ?_)
   have d1:=N_ hd (·.setIfInBounds 1 (rawInt ((i:Int)+1)));have g1:=c_ (Obj.mapFields (·.setIfInBounds 1 (rawInt ((i:Int)+1)))) hi (_b d1);have c1:(Obj.mapFields (·.setIfInBounds 1 (rawInt ((i:Int)+1))) oi).cls = .type "dict_keyiterator":=(Obj.cls_mapFields ..).trans hc;refine aR (J! ?_);refine aR (wpAny_isOneOf_keyiter (s:={ s with heap:=s.heap.update it (Obj.mapFields (·.setIfInBounds 1 (rawInt ((i:Int)+1))))}) ⟨_,g1,c1⟩ ?_)
   show wpAny _ _ (pure e.key) _ _ _;exact Ω (Ω ⟨_,rfl,Ω (q _ _ g1 ⟨c1,by rw[d1];simp[rawInt]⟩ (i? ..))⟩)
 | none =>
   rw[hei]at q;obtain⟨hh,q⟩:=q;refine aR ?_
   first | refine aR (wpAny_typeNameOfWhole_keyiter hT (Ω ?_)) | refine aR (wpAny_typeNameOf_keyiter hT (Ω ?_))
   show wpAny _ _ (setField (.ref it) 0 .none >>= _) _ _ s;refine aR (wpAny_setField hi hd 31#0 ?_)
   show wpAny _ _ (newExc (.type "StopIteration") [] >>= _) _ _ _;refine aR ?_;simp only[newExc,newTuple];refine aR (wpAny_newObj_type (aR (m:=firstArgMember _ _) (wpAny_of_eq (a:=Value.none) (by first | rfl | (simp only[firstArgMember];rfl)) (wpAny_newObj_type ?_ (by size_fits)))) (by size_fits))
   simp only[raiseNew];refine aR (wpAny_handled ?_);rw[show A.in1.handled=none from hh]
   refine aR (Ω (wpAny_throw ?_));refine aR (wpAny_isInstance (T:="StopIteration") (b:=true) ⟨_,E! _ rfl,rfl⟩ isSubtype_stop (Ω ?_));exact q _ (((i? ..).extBut.push _).push _)
end
section
variable {X:Cx}{pq:aW}{σ:St}{H H2:Hp}{s:Shared}
def θ.QG{a:Addr}{kvs:50#V}{ob:Obj}(I:5#s)(e:H a=some (.dT kvs))(ho:s.heap.get? a=some ob):θ X pq σ (η H a (.m9 ob (.dT kvs))) s:=by
 have ne:∀b,H b=none->b≠a:=λb h z=>by rw[z,e]at h;cases h
 refine⟨I.ok,I.os,I.bare,⟨I.base.keep,I.base.slot,λb o q n hx=>?_,I.base.there,λb xs q=>?_,λb o u q=>?_,λb ps q=>?_⟩,I.loc,I.cell,?_,λx c q=>?_,λp hp=>?_,λb u q=>?_,I.len⟩
 .have z:=I.base.free b o q n hx;rw[ao (ne b z)];exact z
 .have z:=I.base.tups b xs q;rw[ao (bg z e 12#0)]
  exact z
 .have z:=I.base.nc b o u q;rw[ao (bg z e 12#0)]
  exact z
 .obtain⟨more,z⟩:=I.base.oE b ps q;exact⟨more,by rw[ao (bg z e 12#0)];exact z⟩
 .rw[ao (ne _ I.free)];exact I.free
 .rw[ao (ne _ (I.gC x c q))];exact I.gC x c q
 .obtain⟨a1,a2,a3⟩:=I.pin p hp;exact⟨a1,by rw[ao (ne _ a2)];exact a2,a3⟩
 .by_cases hb:b=a
  .subst hb;rw[aa]at q;cases q;exact⟨ho,(I.hok b _ e).stay (λ_ _ _ q=>q) (λc q=>66#(bg q e 12#0)) λc xs q=>66#(bg q e 12#0)⟩
  .rw[ao hb]at q;exact(I.hok b u q).stay (λ_ _ _ q=>q) (λc q=>66#(bg q e 12#0)) λc xs q=>66#(bg q e 12#0)
def θ.Xa{x8:aW}{σ0:St}{s0:Shared}{a:Addr}{kvs:50#V}{ob:Obj}(I0:θ X x8 σ0 H s0)(e0:H a=some (.dT kvs))(I:θ X pq σ H2 s)(e:H2 a=some (.m9 ob (.dT kvs))):
 θ X pq σ (η H2 a (.dT kvs)) s:=by
 have ne:∀b,H2 b=none->b≠a:=λb h z=>by rw[z,e]at h;cases h
 obtain⟨ho,hd⟩:=(show bL X.prog X.w H2 s.heap a (.m9 ob (.dT kvs)) from I.hok a _ e)
 refine⟨I.ok,I.os,I.bare,⟨I.base.keep,I.base.slot,λb o q n hx=>?_,I.base.there,λb xs q=>?_,λb o u q=>?_,λb ps q=>?_⟩,I.loc,I.cell,?_,λx c q=>?_,λp hp=>?_,λb u q=>?_,I.len⟩
 .have z:=I.base.free b o q n hx;rw[ao (ne b z)];exact z
 .have z:=I.base.tups b xs q;rw[ao (bg z e 12#0)]
  exact z
 .have z:=I.base.nc b o u q;rw[ao (λy=>by
   have z0:=I0.base.nc b o u q;rw[y,e0]at z0;cases z0)]
  exact z
 .obtain⟨more,z⟩:=I.base.oE b ps q;exact⟨more,by rw[ao (bg z e 12#0)];exact z⟩
 .rw[ao (ne _ I.free)];exact I.free
 .rw[ao (ne _ (I.gC x c q))];exact I.gC x c q
 .obtain⟨a1,a2,a3⟩:=I.pin p hp;exact⟨a1,by rw[ao (ne _ a2)];exact a2,a3⟩
 .by_cases hb:b=a
  .subst hb;rw[aa]at q;cases q;exact hd.stay (λ_ _ _ q=>q) (λc q=>66#(bg q e 12#0)) λc xs q=>66#(bg q e 12#0)
  .rw[ao hb]at q;exact(I.hok b u q).stay (λ_ _ _ q=>q) (λc q=>66#(bg q e 12#0)) λc xs q=>66#(bg q e 12#0)
def F0(X:Cx)(b:Addr):Prop:=X.s₀.heap.objs.size<=b/\76#b/\b∉X.fs/\(∀x c,37#x->c≠b)/\∀p∈X.pn,p.1≠b
def θ.Nf(I:5#s){b:Addr}(hb:s.heap.objs.size<=b):F0 X b :=
 let⟨_,f1,f2,_,f4,f5⟩:=I.Fl hb (I.hok.fresh hb)
 ⟨D! I.sz hb,f1,f2,f4,λp hp=>f5 p (Lf _ hp)⟩
def θ.lW{pa pb:aW}{b:Addr}{o:Obj}{h' : Heap}{t' : Nat}(I:θ X pa σ H s)(hb:F0 X b)(hin:(b,o)∈pa)(k:∀c u,c≠b->s.heap.get? c=some u->h'.get? c=some u)
 (hp:∀p∈pb,(p.1=b/\45#p.2/\∀v,p.2.data≠.cell v)\/(p∈pa/\p.1≠b)):θ X pb σ H { s with heap:=h',toks:=t'}:=by
 obtain⟨b1,b2,b3,b4,b5⟩:=hb;have n:=(I.pin (b,o) (jL _ hin)).2.1;have J:=(I.iJ (YG:=pa.filter λp=>7#(p.1≠b)) λp hp=>I.pin p (jL _ (C!.mp hp).1)).turned (t':=t') k n b2 (.inr b1) b4 (λp hp=>by
  rcases t!.mp hp with hp|hp
  .exact b5 p hp
  .exact jz (C!.mp hp).2)
 refine J.iJ λp h=>?_
 rcases hp p h with⟨e,g,d⟩|⟨m,ne⟩
 .refine⟨by rw[e];exact g,by rw[e];exact n,by rw[e];exact b2,by rw[e];exact b3,d⟩
 .exact J.pin p (jL _ (C!.mpr ⟨m,cH ne⟩))
end
section
variable {X:Cx}{pq:aW}{σ:St}{H2:Hp}{params:Arguments}{body:Expr}{scope:Scope}{fq:List Str}{js:List Nat}{x:Str}{te:TE}{f c a It S:Addr}{oc ob:Obj}{ctv:Value}{q:Str}{kvs:50#V}
 {es:Array DictEntry} {ep:Nat} {ka:Nat->Addr} {ks:Nat->List Int} {PZ:Addr} {R:64#Result}
structure F1(X:Cx)(σ:St)(H2:Hp)(params:Arguments)(body:Expr)(scope:Scope)(fq:List Str)(js:List Nat)(x:Str)(te:TE)(f c a It S:Addr)(oc ob:Obj)(ctv:Value)(kvs:50#V)(es:Array DictEntry)(ep:Nat)(ka:Nat->Addr)(ks:Nat->List Int)(PZ:Addr):Prop where
 T:ff X scope [x] fq js
 hx:67#x=some .local
 hh:X.A.handled=none
 dp:X.A.in1.depth<recursionLimit
 un:X.A.in1.units<cLine
 hb:∀u,bindArgs (48#DU) ⟨[u],[]⟩=pure [(x,u)]
 co:scope.isCoroutine=false
 gen:scope.isGenerator=false
 he:∀s H,PE (x9 X ([x]++fq) scope f c X.A.in1 s H) body te
 code:CodeObj oc (X.env.qual ++ "<lambda>")
 hc:H2 c=some (.m9 oc (.own PZ))
 ha:H2 a=some (.m9 ob (.dT kvs))
 hob:ob.ExactDict/\ob.data = .dict es ep
 key:∀(i:Nat) (e:DictEntry),(es[i]?:Option DictEntry)=some e->e.key = .ref (ka i)
 turn:∀i H3,i<es.size->ah H2 H3->te (11#(ka i)::gz σ js) H3 λv H4=>ah H3 H4/\∃d,v = .ref d/\aL X.K H4 d ((ks i).map V.int)
 oS:F0 X S
 oI:F0 X It
 SI:S≠It
 fS:f≠S
 fI:f≠It
def D0{pa:aW}{s:Shared}{H3:Hp}{i:Nat}{E:eG}(F:F1 X σ H2 params body scope fq js x te f c a It S oc ob ctv kvs es ep ka ks PZ)(hi:i<es.size)(hs:ah H2 H3)(I:θ X pa σ H3 s)
 (hf:(f,48#fG)∈pa) :
 wpAny 9#0 X.A.in1 (call (.ref f) [.ref (ka i)]) (λu s'=>∃d H4,u = .ref d/\θ X pa σ H4 s'/\ah H2 H4/\ah H3 H4/\aL X.K H4 d ((ks i).map V.int)) E s:=by
 obtain⟨hct,_⟩:=(show bL X.prog X.w H3 s.heap c (.m9 oc (.own PZ)) from I.hok c _ (hs _ _ F.hc))
 refine z! (DZ (v:=.ref (ka i)) I F.T F.hx I.ok.frames rfl F.dp hf (F.code.rec hct) (F.hb _) F.co F.gen (F.he s H3) rfl (F.turn i H3 hi hs)) (λu s' ⟨v,H4,J,r,q1,d,e,q2⟩=>?_) λ_ _ z=>z
 subst e;cases r;exact⟨d,H4,rfl,J,λb o z=>q1 _ _ (hs _ _ z),q1,q2⟩
def Nh{pa:aW}{s:Shared}{H3:Hp}{d d' : Addr}{ns ms:List Int}{A:Around}{E:eG}{Q:eG}(I:θ X pa σ H3 s)(h1:aL X.K H3 d (ns.map V.int))(h2:aL X.K H3 d' (ms.map V.int))(hu:A.units<cLine)
 (q:Q (.bool (HT.lexLt ns ms)) s):wpAny 9#0 A (richCompare .Lt (.ref d) (.ref d')) Q E s:=by
 obtain⟨its,r1,p1,_⟩:=I.tuple h1;obtain⟨its2,r2,p2,_⟩:=I.tuple h2;exact(HT.Fx p1 p2 (intsAre_of r1) (intsAre_of r2) hu q:wpAny 9#0 A (compareOp .Lt (.ref d) (.ref d')) Q E s)
abbrev p9(pq:aW)(S It f:Addr)(oS oI lo:Obj):aW:=(S,oS)::(It,oI)::(f,lo)::pq
def Ni(F:F1 X σ H2 params body scope fq js x te f c a It S oc ob ctv kvs es ep ka ks PZ)(pI:∀p∈pq,p.1≠It)(pS:∀p∈pq,p.1≠S)
 (hR:∀i s' H3,i<es.size->(∀j,j<es.size->HT.lexLt (ks j) (ks i)=false)->ah H2 H3->θ X pq σ H3 s'->R (.ok (.ret (.ref (ka i)))) s') :
 ∀(r j i:Nat) (s:Shared) (H3:Hp) (d:Addr) (n:Nat) (oI:Obj),es.size-j=r->j<=es.size->i<j->ah H2 H3->θ X (p9 pq S It f (seqObj "list" #[.ref (ka i),.ref d] n) oI (48#fG)) σ H3 s->YU oI a j es.size ep->
  aL X.K H3 d ((ks i).map V.int)->(∀j',j'<j->HT.lexLt (ks j') (ks i)=false)->codeAny 9#0 X.A (.builtin "min.loop" ⟨[.ref It,.ref f,.ref S],[]⟩) R s:=by
 have hname:(toString "min" ++ toString ".loop":String)="min.loop":=16#0
 intro r
 induction r with
 | zero =>
   intro j i s H3 d n oI hr hj hij hs I hk hd sL;have E8:j=es.size:=by lia
   have ye:=I.pin (S,_) (62#jL);have Nj:=I.pin (It,oI) (jL _ (62#.tail));obtain⟨hob,_⟩:=(show bL X.prog X.w H3 s.heap a (.m9 ob (.dT kvs)) from I.hok a _ (hs _ _ F.ha))
   refine codeAny_builtin x_ ?_;rw[Around.under_plainId r? _];show 63#(seqItems? (.ref S) >>= _);refine aR (wpAny_seqItems ye.1 rfl ?_);show 63#(tryCatch (pyNext (.ref It)) _ >>= _);refine aR (Y? (yd Nj.1 hk ⟨ob,hob,F.hob⟩ ?_));rw[E8,Array.getElem?_eq_none (Z' _)];refine⟨F.hh,λh' eb=>?_⟩
   have I1:=I.lW (t':=s.toks) (h':=h') (pb:=(S,seqObj "list" #[.ref (ka i),.ref d] n)::pq) F.oI (62#List.Mem.tail) (λb u hb e=>eb b u hb e) (λp hp=>by
    show 26
    .exact .inr ⟨.head _,F.SI⟩
    .exact .inr ⟨.tail _ (.tail _ (.tail _ hp)),pI p hp⟩)
   have Nk:=I1.pin (S,_) (62#jL);show 63#(updateSeq S (λ_=>#[]) >>= _)
   refine aR (wpAny_updateSeq Nk.1 rfl (aR (wpAny_letGo (Ω ?_))));have s1:=i? h' S 86#(λ_=>(#[]:42#0))
   exact hR i _ H3 (by lia) (λj' hj'=>sL j' (by lia)) hs (I1.lW (t':=s.toks) (pb:=pq) F.oS (.head _) (λb u hb e=>(s1.2 b hb).trans e) λp hp=>.inr ⟨.tail _ hp,pS p hp⟩)
 | succ r ih =>
   intro j i s H3 d n oI hr hj hij hs I hk hd sL;have E8:j<es.size:=by lia
   have ye:=I.pin (S,_) (62#jL);have Nj:=I.pin (It,oI) (jL _ (62#.tail));obtain⟨hob,_⟩:=(show bL X.prog X.w H3 s.heap a (.m9 ob (.dT kvs)) from I.hok a _ (hs _ _ F.ha))
   refine codeAny_builtin x_ ?_;rw[Around.under_plainId r? _];show 63#(seqItems? (.ref S) >>= _);refine aR (wpAny_seqItems ye.1 rfl ?_);show 63#(tryCatch (pyNext (.ref It)) _ >>= _);refine aR (Y? (yd Nj.1 hk ⟨ob,hob,F.hob⟩ ?_));have hget:(es[j]?:Option DictEntry)=some es[j]:=K_ E8;rw[hget];intro h' Ll hgi hk' sb;have I1:=I.lW (t':=s.toks) (h':=h') (pb:=p9 pq S It f (seqObj "list" #[.ref (ka i),.ref d] n) Ll (48#fG)) F.oI (62#List.Mem.tail) (λb u hb e=>(sb.2 b hb).trans e) (λp hp=>by
    show 26
    .exact .inr ⟨.head _,F.SI⟩
    .show 26
     .exact .inl ⟨rfl,hgi,λv z=>by rw[hk'.2]at z;cases z⟩
     .show 26
      .exact .inr ⟨.tail _ (62#.tail),F.fI⟩
      .exact .inr ⟨.tail _ (.tail _ (.tail _ hp)),pI p hp⟩)
   rw[F.key j _ hget];show 63#(tryCatch (holding [.ref (ka j)] (call (.ref f) [.ref (ka j)])) _ >>= _);refine aR (Y? (J! (z! (D0 F E8 hs I1 (List.Mem.tail _ (62#.tail))) (λu s2 hu=>?_) λ_ _ z=>z)))
   obtain⟨d2,H4,rfl,I2,Mf,h34,hd2⟩:=hu;have hdo:aL X.K H4 d ((ks i).map V.int):=h34.sqT hd;show 63#(tryCatch (holding [.ref (ka j),.ref d2] (richCompare .Lt (.ref d2) (.ref d) >>= _)) _ >>= _);refine aR (Y? (J! (aR (Nh I2 hd2 hdo F.un ?_))));refine aR (J! (wpAny_truthy_bool (aR (wpAny_letGo (Ω ?_)))));have o9:=I2.pin (S,_) (62#jL);cases hl:HT.lexLt (ks j) (ks i) with
   | true =>
     have s1:=i? s2.heap S 86#(λ_=>(#[.ref (ka j),.ref d2]:42#0))
     obtain⟨n2,hn2⟩:∃n2,(s2.heap.update S 86#(λ_=>(#[.ref (ka j),.ref d2]:42#0))).get? S=some (seqObj "list" #[.ref (ka j),.ref d2] n2):=⟨_,get?_update_seq o9.1 λ_=>#[.ref (ka j),.ref d2]⟩
     simp only[if_true];refine aR (wpAny_updateSeq o9.1 rfl (aR (wpAny_letGo ?_)));rw[hname];have I3:=I2.lW (t':=s2.toks) (pb:=p9 pq S It f (seqObj "list" #[.ref (ka j),.ref d2] n2) Ll (48#fG)) F.oS (.head _) (λb u hb e=>(s1.2 b hb).trans e) (λp hp=>by
      show 26
      .exact .inl ⟨rfl,hn2,λv z=>by cases z⟩
      .show 26
       .exact .inr ⟨62#.tail,F.SI.symm⟩
       .show 26
        .exact .inr ⟨.tail _ (62#.tail),F.fS⟩
        .exact .inr ⟨.tail _ (.tail _ (.tail _ hp)),pS p hp⟩)
     refine Ω ⟨plainId_quiet r? _,ih (j+1) j _ H4 d2 n2 Ll (by lia) (by lia) (by lia) Mf I3 hk' hd2 λj' hj'=>?_⟩
     by_cases e:j' = j
     .rw[e];exact HT.fX _
     .exact HT.yb (sL j' (by lia)) hl
   | false =>
     simp only[V?,if_false];refine aR (wpAny_letGo ?_);rw[hname];refine Ω ⟨plainId_quiet r? _,ih (j+1) i _ H4 d n Ll (by lia) (by lia) (by lia) Mf I2 hk' hdo λj' hj'=>?_⟩
     by_cases e:j' = j
     .rw[e];exact hl
     .exact sL j' (by lia)
end
def boot_min:bootBuiltins "min"=some (.builtin "min"):=by kernel_rfl
def Xb(K:b7)(P:Addr)(q:Str)(lp:Pos)(ta:TA)(te:TE)(js:List Nat):TE:=λσ H Q=>ta σ H λvs H1=>∃a kvs,∃ks:Nat->List Int,vs=[.ref a]/\H1 a=some (.dT kvs)/\0<kvs.length/\H1 P=some (.lF (fM q lp))/\
 (∀ob H3,(∀b u,H1 b=some u->b≠a->(∀y,u≠.own y)->(∀qs,u≠.lF qs)->H3 b=some u)->H3 a=some (.m9 ob (.dT kvs))->
  ∀(i:Nat) kv b,kvs[i]?=some kv->H3 b=10#(kv.1.map kV)->te (some (.ref b)::gz σ js) H3 λv H4=>ah H3 H4/\∃d,v = .ref d/\aL K H4 d ((ks i).map V.int))/\
 ∀(i:Nat) kv b H4,kvs[i]?=some kv->(∀j,j<kvs.length->HT.lexLt (ks j) (ks i)=false)->ah H1 H4->H4 b=10#(kv.1.map kV)->Q (.ref b) H4
theorem fW{α β:Type}{R:α->β->Prop}:∀{l₁:List α} {l₂:List β},Paired R l₁ l₂->∀{i:Nat} {a:α} {b:β},l₁[i]?=some a->l₂[i]?=some b->R a b
 | _,_,.nil,i,_,_,h,_=>by simp at h
 | _,_,.cons r t,0,_,_,h1,h2=>by
   simp at h1 h2;subst h1 h2;exact r
 | _,_,.cons r t,i+1,_,_,h1,h2=>fW t (by simpa using h1) (by simpa using h2)
section
variable {X:Cx}{params:Arguments}{body e:Expr}{scope:Scope}{lp p pos kp:Pos}{fq:List Str}{js:List Nat}{x:Str}{ta:TA}{te:TE}{c0 P:Addr}{k:Nat}
def QH(hr:gy (k+2) X.A)(T:ff X scope [x] fq js)(hx:67#x=some .local)(hg:Gl X "min")(hm:X.mg "min"=none)(hcode:X.env.code = .ref c0)(hK:PySem.W.codeHdIn X.K c0 P=true)(ha:PA X [e] ta)
 (he:∀f c s H,gy k (x9 X ([x]++fq) scope f c X.A.in1 s H).A->PE (x9 X ([x]++fq) scope f c X.A.in1 s H) body te)
 (hb:∀c ctv u,bindArgs (48#DU) ⟨[u],[]⟩=pure [(x,u)]:=by intro _ _ _;rfl) (hco:scope.isCoroutine=false:=by rfl) (hgen:scope.isGenerator=false:=by rfl)
 (hdef:defaultsOf params X.env=([],[]):=by rfl)
 (hs:backTo pos (21#([e]))=43#e::backTo pos (21#([])):=by rfl) (hs2:(backTo pos (21#([e]))).any (·.1)=false:=by rfl) :
 PE X (.Call (.Name "min" p) [e] [⟨some (Str.ofString "key"),.Lambda params body scope lp,kp⟩] pos) (Xb X.K P (X.env.qual ++ "<lambda>") lp ta te js):=by
 show 72;refine wpAny_Call_Name_kw (jN I hg hm boot_min (callWith_kw (dR (ha pos pq s σ H _ I h) λus s1 hq=>?_) hs hs2 rfl rfl))
 obtain⟨vs,H1,I1,r1,a,kvs,ks,rfl,hda,hne,hP,hturn,Uh⟩:=hq;obtain⟨u,rfl,rx⟩:=vals1 r1;cases rx;refine kws_cons (DV I1 T hcode hK hP hdef λf c oc ctv s2 hc DW hoc J=>kws_nil ?_)
 show wpAny _ X.A (call (.builtin "min") [.ref a] [(Str.ofString "key",.ref f)]) _ _ s2;have hname:(toString "min" ++ toString ".loop":String)="min.loop":=16#0
 have hla:=wH (oc:=oc) hP hc hda (by intro y z;cases z) (by intro y z;cases z)
 obtain⟨hz,hsys,xs,pr,ob,es,ep,hgo,hex,hdat,hes,hnd⟩:=(show bL X.prog X.w (ic H1 P c oc (X.env.qual ++ "<lambda>") lp) s2.heap a (.dT kvs) from J.hok a _ hla)
 have J2:=J.QG hla hgo;have hsz:es.size=kvs.length:=by
  have:=n! List.length hes;rw[χ,<-pr.length]at this
  simpa using this
 have hxs:xs.length=kvs.length:=pr.length.symm;have hka:∀i,i<kvs.length->∃kv y,kvs[i]?=some kv/\xs[i]?=some y/\ic H1 P c oc (X.env.qual ++ "<lambda>") lp y.2.1=10#(kv.1.map kV):=λi hi=>by
  have e1:kvs[i]?=some kvs[i]:=i! hi;have e2:xs[i]?=some (xs[i]'(by lia)):=i! _
  exact⟨_,_,e1,e2,(fW pr e1 e2).2.1⟩
 have Ui:ic H1 P c oc (X.env.qual ++ "<lambda>") lp P=some (.lF (fM (X.env.qual ++ "<lambda>") lp++qy lp c)):=aa;have QI:ic H1 P c oc (X.env.qual ++ "<lambda>") lp c=some (.m9 oc (.own P)):=by unfold ic;rw[ao DW,aa]
 have ca:c≠a:=bg QI hla 12#0
 have pa:P≠a:=bg Ui hla 12#0
 generalize PX:η (ic H1 P c oc (X.env.qual ++ "<lambda>") lp) a (.m9 ob (.dT kvs))=H2 at J2;have at2:∀b u,b≠a->ic H1 P c oc (X.env.qual ++ "<lambda>") lp b=some u->H2 b=some u:=λb u n e=>by rw[<-PX,ao n];exact e
 have a2:H2 a=some (.m9 ob (.dT kvs)):=by rw[<-PX,aa]
 let ka:Nat->Addr:=λi=>((xs[i]?).map (·.2.1)).getD 0
 have Uj:∀{i:Nat} {y:List Key×Addr×Value},xs[i]?=some y->ka i=y.2.1:=λ{i y} e=>by show((xs[i]?).map (·.2.1)).getD 0=_;rw[e];rfl
 refine kmk_tree PySem.F.kind_min PySem.F.plain_min PySem.F.entry_min (kmk_min_key _ _) ?_;show wpAny _ X.A.in1 (Builtin.Builtins.bindParams "min" ["key","default"] 0 ⟨[],[(Str.ofString "key",.ref f)]⟩ >>= _) _ _ s2;refine aR (wpAny_of_eq (show Builtin.Builtins.bindParams "min" ["key","default"] 0 ⟨[],[(Str.ofString "key",.ref f)]⟩=pure [some (.ref f),none] from rfl) ?_)
 refine aR (Ω (aR (Nd hsys ⟨ob,hgo,hex,hdat⟩ (aR (wpAny_newList ?_ (v! _))))));rw[hname];refine Ω ⟨plainId_quiet r? _,?_⟩;generalize Uk:({ cls:=.type "dict_keyiterator",data:=.fields #[.ref a,.int 0 0,.int es.size 0,.int ep 0]}:Obj)=oI;have hkI:YU oI a 0 es.size ep:=by rw[<-Uk];exact⟨rfl,rfl⟩
 have hS:49#(s2.heap.push oI)=s2.heap.objs.size+1:=size_push' ..;have hk2:∀b o,71#s2.heap.get?->71#((s2.heap.push oI).push (seqObj "list" #[] 0)).get?:=λb o e=>l! _ (l! _ e)
 have gI:((s2.heap.push oI).push (seqObj "list" #[] 0)).get? s2.heap.objs.size=some oI:=l! _ (E! _ (by rw[<-Uk];rfl))
 have gS:((s2.heap.push oI).push (seqObj "list" #[] 0)).get? 49#(s2.heap.push oI)=some (seqObj "list" #[] 0):=E! _ rfl;have QJ:∀p∈(f,48#fG)::pq,p.1<s2.heap.objs.size:=λp hp=>b! (J2.pin p (jL _ hp)).1
 have RW:=J2.Nf (Z' s2.heap.objs.size);have oS:=J2.Nf (b:=49#(s2.heap.push oI)) (by rw[hS];exact G? _)
 have F:F1 X σ H2 params body scope fq js x te f c a s2.heap.objs.size 49#(s2.heap.push oI) oc ob ctv kvs es ep ka ks P:=by
  refine⟨T,hx,hr.hd,(hr.in1).depth,(hr.in1).Fw,λu=>hb c ctv u,hco,hgen,λs H=>he f c s H ((hr.in1).deeper _),hoc,at2 c _ ca QI,a2,⟨hex,hdat⟩,λi e hi=>?_,λi H3 hi E9=>?_,oS,RW,by rw[hS];exact _v _,?_,q! (62#QJ)⟩
  .have hi' : i<kvs.length:=by rw[<-hsz];exact(w_.mp hi).1
   obtain⟨kv,y,e1,e2,_⟩:=hka i hi';have e3:=n! (λl=>l[i]?) hes
   simp only[c!,e2,l_,_c]at e3;rw[hi]at e3;have e4:=18#e3;rw[e4,Uj e2];rfl
  .obtain⟨kv,y,e1,e2,e3⟩:=hka i (by lia)
   refine hturn ob H3 (λb u eb nb n1 n2=>E9 _ _ (at2 b u nb (wH hP hc eb n1 n2))) (E9 _ _ a2) i kv (ka i) e1 ?_
   rw[Uj e2];exact E9 _ _ (at2 _ _ (bg e3 hla 12#0) e3)
  .rw[hS];exact q! (k_ (62#QJ))
 have pI:∀p∈pq,p.1≠s2.heap.objs.size:=λp hp=>q! (QJ p (.tail _ hp))
 have pS:∀p∈pq,p.1≠49#(s2.heap.push oI):=λp hp=>by rw[hS];exact q! (k_ (QJ p (.tail _ hp)))
 have J3:θ X (p9 pq 49#(s2.heap.push oI) s2.heap.objs.size f (seqObj "list" #[] 0) oI (48#fG)) σ H2 { s2 with heap:=(s2.heap.push oI).push (seqObj "list" #[] 0)}:=by
  have K:=J2.kept (t':=s2.toks) hk2;refine K.iJ λp hp=>?_
  show 26
  .exact⟨gS,J2.hok.fresh (by rw[hS];exact G? _),oS.2.1,oS.2.2.1,λv z=>by cases z⟩
  .show 26
   .exact⟨gI,J2.hok.fresh (Z' _),RW.2.1,RW.2.2.1,λv z=>by rw[hkI.2]at z;cases z⟩
   .exact K.pin p (jL _ hp)
 have h0:0<es.size:=by lia
 have hget:(es[0]?:Option DictEntry)=some es[0]:=K_ h0;have ye:=J3.pin (49#(s2.heap.push oI),seqObj "list" #[] 0) (62#jL);have Nj:=J3.pin (s2.heap.objs.size,oI) (jL _ (62#.tail));refine codeAny_builtin x_ ?_;rw[Around.under_plainId r? _];show 63#(seqItems? (.ref _) >>= _);refine aR (wpAny_seqItems ye.1 rfl ?_);show 63#(tryCatch (pyNext (.ref s2.heap.objs.size)) _ >>= _);refine aR (Y? (yd Nj.1 hkI ⟨ob,hk2 _ _ hgo,hex,hdat⟩ ?_));rw[hget];intro h' Ll hgi hk' sb;have I4:=J3.lW (t':=s2.toks) (h':=h') (pb:=p9 pq 49#(s2.heap.push oI) s2.heap.objs.size f (seqObj "list" #[] 0) Ll (48#fG)) F.oI (62#List.Mem.tail) (λb u hb e=>(sb.2 b hb).trans e) (λp hp=>by
  show 26
  .exact .inr ⟨.head _,F.SI⟩
  .show 26
   .exact .inl ⟨rfl,hgi,λv z=>by rw[hk'.2]at z;cases z⟩
   .show 26
    .exact .inr ⟨.tail _ (62#.tail),F.fI⟩
    .exact .inr ⟨.tail _ (.tail _ (.tail _ hp)),pI p hp⟩)
 rw[F.key 0 _ hget];show 63#(tryCatch (holding [.ref (ka 0)] (call (.ref f) [.ref (ka 0)])) _ >>= _);refine aR (Y? (J! (z! (D0 F h0 (ah.refl _) I4 (List.Mem.tail _ (62#.tail))) (λu s3 hu=>?_) λ_ _ z=>z)))
 obtain⟨d2,H4,rfl,I5,Mf,_,hd2⟩:=hu;have o9:=I5.pin (49#(s2.heap.push oI),_) (62#jL);have s1':=i? s3.heap 49#(s2.heap.push oI) 86#(λ_=>(#[.ref (ka 0),.ref d2]:42#0))
 obtain⟨n2,hn2⟩:∃n2,(s3.heap.update 49#(s2.heap.push oI) 86#(λ_=>(#[.ref (ka 0),.ref d2]:42#0))).get? 49#(s2.heap.push oI)=some (seqObj "list" #[.ref (ka 0),.ref d2] n2):=⟨_,get?_update_seq o9.1 λ_=>#[.ref (ka 0),.ref d2]⟩
 show 63#(updateSeq 49#(s2.heap.push oI) (λ_=>#[.ref (ka 0),.ref d2]) >>= _)
 refine aR (wpAny_updateSeq o9.1 rfl ?_);rw[hname];have I6:=I5.lW (t':=s3.toks) (pb:=p9 pq 49#(s2.heap.push oI) s2.heap.objs.size f (seqObj "list" #[.ref (ka 0),.ref d2] n2) Ll (48#fG)) F.oS (.head _) (λb u hb e=>(s1'.2 b hb).trans e) (λp hp=>by
  show 26
  .exact .inl ⟨rfl,hn2,λv z=>by cases z⟩
  .show 26
   .exact .inr ⟨62#.tail,F.SI.symm⟩
   .show 26
    .exact .inr ⟨.tail _ (62#.tail),F.fS⟩
    .exact .inr ⟨.tail _ (.tail _ (.tail _ hp)),pS p hp⟩)
 refine Ω ⟨plainId_quiet r? _,Ni F pI pS (λi s' H3 hi best E9 I7=>?_) _ 1 0 _ H4 d2 n2 Ll rfl h0 (C_ _) Mf I6 hk' hd2 λj hj=>?_⟩
 .obtain⟨kv,y,e1,e2,e3⟩:=hka i (by lia)
  have i3:=E9 _ _ a2;have I8:=θ.Xa J hla I7 i3;have p3:η H3 a (.dT kvs) P=some (.lF (fM (X.env.qual ++ "<lambda>") lp++qy lp c)):=by rw[ao pa];exact E9 _ _ (at2 _ _ pa Ui)
  have c3:η H3 a (.dT kvs) c=some (.m9 oc (.own P)):=by rw[ao ca];exact E9 _ _ (at2 _ _ ca QI)
  have I9:=DX I1 hP hc DW hoc I8 p3 c3;have ya:y.2.1≠a:=bg e3 hla 12#0
  have y3:η H3 a (.dT kvs) y.2.1=10#(kv.1.map kV):=by rw[ao ya];exact E9 _ _ (at2 _ _ ya e3)
  refine⟨.ref (ka i),_,I9,rfl,Uh i kv (ka i) _ e1 (λj hj=>best j (by lia)) (DY hP hc DW (oc:=oc) λb u eb=>?_) ?_⟩
  .by_cases hb:b=a
   .subst hb;rw[hla]at eb;rw[aa];exact eb
   .rw[ao hb];exact E9 _ _ (at2 _ _ hb eb)
  .rw[Uj e2];unfold given;rw[ao (bg y3 p3 12#0),ao (bg y3 c3 12#0)]
   exact y3
 .have e:j=0:=by lia
  rw[e];exact HT.fX _
end
section
variable {P:Program}{w:World}{A:Around}{E:eG}{s:Shared}{a:Addr}{es:Array DictEntry}{ep:Nat}
def Ul(hd:(a==sysModules)=false):MeetsIn P w (Builtin.«dict.__len__» ⟨[.ref a],[]⟩) (λ_ R s=>∃es ep,YT s.heap a es ep/\R (.ok (.ret (.int es.size s.toks))) { s with toks:=s.toks+1}) :=
 .of_wp λA R s ⟨es,ep,⟨o,ho,_,hdat⟩,h⟩=>by
  show wpAny _ _ (dictSize a >>= _) _ _ s;unfold dictSize;refine aR (aR (wpAny_dictEntries ho hdat (Ω ?_)));show wpAny _ _ (Builtin.Dict.pendingCount a >>= _) _ _ s;refine aR (wpAny_pendingCount_other hd (wpAny_ret_mkInt ?_));rw[Nat.add_zero];exact h
def JO{Q:eG}(hd:(a==sysModules)=false)(g:YT s.heap a es ep)(hfit:(es.size:Int)<2^63)(h:Q (.int es.size (s.toks+1)) { s with toks:=s.toks+1+1}):
 wpAny (model P w) A (call (.builtin "len") [.ref a]) Q E s:=by
 have hT:s.TypeIs (.ref a) "dict":=let⟨o,ho,hc,_⟩:=g;⟨o,ho,hc.1⟩;refine Calls.call_function_entry kind_len plain_len entry_len (args_len1 _) ?_;unfold Builtin.«len»;refine aR (m:=oneArg "len" _) (Ω ?_);refine aR (m:=callSpecial? (.ref a) (Str.ofString "__len__")) (wpAny_callSpecial?_slot (name:=Str.ofString "__len__") hT PySem.F.slot_dict_len
  (call_meetsIn PySem.F.slot_dict_len hT PySem.F.entry_dict_len (PySem.F.args_dict_len_1 _) (Ul hd) ⟨es,ep,g,?_⟩))
 show wpAny _ _ _ _ _ { s with toks:=s.toks+1}
 refine aR (J! (Ω (aR (wpAny_letGo ?_))));show wpAny _ _ (if 6#es.size<0 then _ else _) _ _ _
 rw[ξ (by lia)]
 show wpAny _ _ (if 6#es.size ≥ 2^63 then _ else _) _ _ _
 rw[ξ (by lia)]
 exact aR (wpAny_mkInt (Ω ⟨_,rfl,h⟩))
end
theorem erase_filter{K α:Type}[DecidableEq K]{k:K}{p:α}:∀{xs:List (K×α)} {j:Nat},(xs.map (·.1)).Nodup->xs[j]?=some (k,p)->xs.eraseIdx j=xs.filter λx=>7#(x.1≠k)
 | [],j,_,h=>by simp at h
 | x::r,0,nd,h=>by
   simp at h;subst h;rw[F!,O!]at nd;rw[List.eraseIdx_cons_zero,M!,ξ 31#0]
   refine(ad7.mpr λy hy=>?_).symm
   have z:y.1≠k:=λz=>nd.1 (d!.mpr ⟨y,hy,z⟩)
   simp[z]
 | x::r,j+1,nd,h=>by
   rw[F!,O!]at nd;have h:r[j]?=some (k,p):=by simpa using h
   have hx:x.1≠k:=λz=>nd.1 (by rw[z];exact M_ (f:=(·.1)) (gB h))
   rw[_W,M!,ο (cH hx),erase_filter nd.2 h]
theorem qK{α β:Type}(f:α->β):∀(l:List α) (i:Nat),(l.map f).eraseIdx i=(l.eraseIdx i).map f
 | [],_=>rfl
 | _::_,0=>rfl
 | x::r,i+1=>by rw[F!,_W,_W,F!,qK f r i]
def KT.drop{H:Hp}{kvs:50#V}{xs:50#(Addr×Value)}(r:KT H kvs xs)(k:List Key):KT H (fh kvs k) (xs.filter λx=>7#(x.1≠k)):=by
 unfold fh
 induction r with
 | nil=>exact .nil
 | @cons p q ps qs h t ih =>
   rw[M!,M!]
   by_cases e:p.1=k
   .rw[ξ (by simp[e]),ξ (by simp[h.1.symm.trans e])];exact ih
   .have e' : ¬ q.1=k:=λz=>e (h.1.trans z)
    rw[ο (by simp[e]),ο (by simp[e'])];exact .cons h ih
section
variable {P:Program}{w:World}{A:Around}{E:eG}{s:Shared}{K:Type}[DecidableEq K]{knd:HeapKind P w K}{d b:Addr}{xs:List (K×Addr×Value)}{k:K}{j:Nat}{p:Addr×Value}
def Um{Q:64#(Option DictEntry)}(hu:knd.room A)(hkey:knd.is s.heap k b)(hm:s.heap.DictOfH knd d xs)(hj:xs[j]?=some (k,p))(hsz:56#xs.length)
 (h:∀e h' o' es' Hj,e.val=p.2->h'.get? d=some o'->o'.ExactDict->o'.data = .dict es' Hj->es'.toList=(xs.eraseIdx j).map (entryOfKey knd)->Heap.SameBut d s.heap h'->Q (some e) { s with heap:=h',toks:=s.toks+knd.draws k}) :
 wpAny (model P w) A (Builtin.Dict.takeOut d (.ref b)) Q E s:=by
 obtain⟨o,es,ep,ho,hc,hd,he,his,hn⟩:=hm;unfold Builtin.Dict.takeOut
 try with_reducible refine J! ?_
 refine aR (knd.pyHash hu hkey (aR (wpAny_dictFind_heap (s:={ s with toks:=s.toks+knd.draws k}) hu hkey ho hd he his hn (λhno=>absurd hj (hno j p)) λj' p' hj'=>?_)))
 have hjj:j' = j:=idxH_unique hn hj' hj;subst hjj;refine aR (wpAny_dictEntries (s:={ s with toks:=s.toks+knd.draws k}) ho hd ?_)
 rw[entry_at he j',hj];refine aR (wpAny_updateDictKeys (hz:=by have e:=size_of_entries he;lia) (s:={ s with toks:=s.toks+knd.draws k}) ho hd (Ω (h _ _ _ _ (ep+1) rfl (c_ _ ho (Obj.isFreed_of_dict (Obj.data_mapDictKeys hd _))) (hc.mapDictKeys _) (Obj.data_mapDictKeys hd _) ?_ (i? ..))))
 rw[<-qK,<-he];obtain⟨l⟩:=es;simp
def Xc{Q:eG}(hu:knd.room A.in1)(hkey:knd.is s.heap k b)(hm:s.heap.DictOfH knd d xs)(hj:xs[j]?=some (k,p))(hsz:56#xs.length)
 (h:∀h' o' es' Hj,h'.get? d=some o'->o'.ExactDict->o'.data = .dict es' Hj->es'.toList=(xs.eraseIdx j).map (entryOfKey knd)->Heap.SameBut d s.heap h'->Q p.2 { s with heap:=h',toks:=s.toks+knd.draws k}) :
 wpAny (model P w) A (call (.builtin "dict.pop") [.ref d,.ref b]) Q E s:=by
 have hT:=hm.typeIs;refine wpAny_call_entry PySem.F.slot_dict_pop hT PySem.F.entry_dict_pop ?_ (PySem.F.args_dict_pop_2 _ _);unfold Builtin.«dict.pop» Builtin.Dict.keyAndDefault;refine aR (aR (wpAny_notOrdered_dict hT ?_));show wpAny _ _ (pure (d,Value.ref b,(none:81#0))) _ _ s;refine Ω ?_;obtain⟨o,es,ep,ho,hc,hd,he,his,hn⟩:=id hm;have hne:es.isEmpty=false:=by
  have e:=size_of_entries he;have hl:=(j7.mp hj).1;rw[Array.isEmpty_eq_false_iff_exists_mem];exact⟨es[j]'(by lia),Array.getElem_mem _⟩
 have hkp:(keyPart (Value.ref b)).isSome=false:=rfl;simp only[hkp,V?,if_false];refine aR (wpAny_dictEntries ho hd (aR (Ω ?_)));rw[hne];simp only[V?,if_false];refine aR (Um hu hkey hm hj hsz λe h' o' es' Hj e1 e2 e3 e4 e5 e6=>?_)
 simp only[Option.isNone_some,V?,if_false];refine aR (wpAny_letGo (Ω ⟨e.val,rfl,?_⟩));rw[e1];exact h h' o' es' Hj e2 e3 e4 e5 e6
end
section
variable {X:Cx}{pq:aW}{σ:St}{H:Hp}{s:Shared}
def aax:fc X (.builtin "len") (λxs H Q=>∃a kvs,xs=[.ref a]/\Rd H a (.dT kvs)/\Q (.int kvs.length) H):=by
 intro pq s σ H xs us Q I r h;obtain⟨a,kvs,rfl,e,q⟩:=h;obtain⟨u,rfl,rx⟩:=vals1 r;cases rx;obtain⟨z,hsys,ys,pr,ob,es,ep,hgo,hex,hdat,hes,hnd⟩:=(show bL X.prog X.w H s.heap a (.dT kvs) from e.ok I.hok)
 have hsz:es.size=kvs.length:=by
  have:=n! List.length hes;rw[χ,<-pr.length]at this
  simpa using this
 refine JO hsys ⟨ob,hgo,hex,hdat⟩ (by rw[hsz];rw[sizeLine_eq]at z;lia) ?_
 rw[hsz];exact⟨.int kvs.length,H,I.tok _,⟨_,rfl⟩,q⟩
def Uo(td ty:TE):TE:=λσ H Q=>td σ H λx H1=>∃a,x = .ref a/\YR H1 a/\ty σ H1 λy H2=>∃kvs k b v,H2 a=some (.dT kvs)/\y = .ref b/\H2 b=10#(k.map kV)/\fg kvs k=some v/\Q v (η H2 a (.dT (fh kvs k)))
def Uq{A:Around}{E:eG}{a b:Addr}{kvs:50#V}{k:List Key}{v:V}{Q:eG}(hu:A.units+1<cLine)(I:5#s)(e:H a=some (.dT kvs))(eb:H b=10#(k.map kV))(l:fg kvs k=some v)
 (h:∀w' s',θ X pq σ (η H a (.dT (fh kvs k))) s'->Θ v w'->Q w' s'):wpAny 9#0 A (call (.builtin "dict.pop") [.ref a,.ref b]) Q E s:=by
 obtain⟨z,hd,xs,rel,dd⟩:=MB I.hok e;have hv:=rel.val k;rw[l]at hv;obtain⟨w',hw,rw'⟩:=rP.some_of hv;obtain⟨p,VE,RH⟩:=qC.mp hw;obtain⟨j,hj⟩:∃j,xs[j]?=some (k,p):=by
  unfold atKey at VE;obtain⟨y,hy1,hy2⟩:=qC.mp VE;have hk:=List.find?_some hy1;have hm:=List.mem_of_find?_eq_some hy1;obtain⟨j,hj⟩:=N! hm;have hk' : y.1=k:=jz hk;exact⟨j,by rw[hj,<-hk',<-hy2]⟩
 have hnd:(xs.map (·.1)).Nodup:=let⟨_,_,_,_,_,_,_,_,hn⟩:=dd;hn;refine Xc (tupleKind_room_in1 hu) (oW I.hok eb) dd hj (by rw[<-rel.length];exact z) λh' o' es' Hj g1 g2 g3 g4 sb=>?_
 rw[RH];refine h w' _ ?_ rw';have hne:∀b ys,H b=10#ys->η H a (.dT (fh kvs k)) b=10#ys:=λb ys q=>66#(bg q e 12#0)
 rw[erase_filter hnd hj]at g4;refine sG I (by rw[e];exact True.intro) sb ⟨o',g1⟩ ⟨D! (MA kvs k) z,hd,_,(rel.drop k).keeps hne,o',es',Hj,g1,g2,g3,g4,?_⟩
 exact hnd.sublist (List.filter_sublist.map _)
variable {o e:Expr}{apos cpos:Pos}{td ty:TE}
def Nl(hu:X.A.units+1<cLine)(ho:PE X o td)(he:PE X e ty)(m:M1 X o "pop" apos e cpos):PE X (.Call (.Attribute o "pop" apos) [e] [] cpos) (Uo td ty):=by
 show 72;refine wpAny_Call_method m.base m.few m.line _V PySem.F.slot_dict_pop PySem.F.type_dict_pop (dR 39#ho λu s1 ⟨x,H1,I1,rx,a,ex,d,q1⟩=>?_)
 subst ex;obtain rfl:u=Value.ref a:=rx;obtain⟨t1,t2,_⟩:=FU I1 d;refine⟨t1,t2,?_⟩;rw[m.trees];refine Calls.callWith_builtin rfl (Calls.evalArgs_plain (Calls.spliced_cons (dR (he pq s1 σ H1 _ I1 q1) λiv s2 ⟨y,H2,I2,ry,kvs,k,b,v,ea,ey,eb,l,q2⟩=>Calls.spliced_nil ?_)))
 subst ey;obtain rfl:iv=Value.ref b:=ry;exact Uq hu I2 ea eb l λw' s3 I3 rw'=>⟨v,_,I3,rw',q2⟩
def Ur(tk tv:TE):TE:=λσ H Q=>∀p,H p=none->tk σ (η H p (.dT [])) λy H1=>tv σ H1 λv H2=>∃b k,y = .ref b/\H2 b=10#(k.map kV)/\H2 p=some (.dT [])/\Q (.ref p) (η H2 p (.dT [(k,v)]))
end
section
variable {X:Cx}{k v:Expr}{pos:Pos}{tk tv:TE}
def Nm(hu:X.A.units+1<cLine)(hk:PE X k tk)(hv:PE X v tv):PE X (.Dict [some k] [v] pos) (Ur tk tv):=by
 intro pq s σ H Q I q;have hn:=I.hok.fresh (19#Z');have I1:=I.laid (a:=s.heap.objs.size) (o:=.dT []) (h':=33#{ cls:=.type "dict",data:=.dict #[]}) (t':=s.toks) (λ_ _ q=>l! _ q) (Z' _) (ME s.heap I.big)
 rw[arm_eval_Dict,zip_pairTrees [some k] [v] X.env pos rfl rfl,dictDisplay_pairs (pairTrees [some k] [v] X.env pos) 12#0 (show 1<17 by decide)]
 refine aR (wpAny_standAt (aR ?_));unfold subDict;refine aR (wpAny_alloc (aR (J! ?_)));rw[ο (show 58#(pairTrees [some k] [v] X.env pos)<=15 from(show 1<=15 by decide))]
 refine aR (pairTrees_cons_walk (dR (hk pq _ σ _ _ I1 (q _ hn)) λu s1 ⟨y,H1,I2,ry,q1⟩=>dR (hv pq s1 σ H1 _ I2 q1) λu2 s2 ⟨vv,H2,I3,rv,b,ks,ey,eb,ep,q2⟩=>pairTrees_nil_walk ?_))
 subst ey;obtain rfl:u=Value.ref b:=ry;obtain⟨z,hd,xs,rel,dd⟩:=MB I3.hok ep;cases rel;refine J! (aR ?_);rw[List.forIn_cons];refine aR (aR (wpAny_dictSet_heap (hsz:=v! _) (show X.A.units<cLine from Nat.lt_of_succ_lt hu) (oW I3.hok eb) dd λh' Ql hs=>Ω ?_))
 show wpAny _ _ (forIn [] PUnit.unit _) _ _ _;rw[List.forIn_nil];refine Ω (Ω (Ω (Ω ?_)));obtain⟨o',es',Hj,g1,g2,g3,g4,g5,g6⟩:=Ql;have hb:η H2 s.heap.objs.size (.dT [(ks,vv)]) b=10#(ks.map kV):=by
  rw[ao (bg eb ep 12#0)]
  exact eb
 have new:bL X.prog X.w (η H2 s.heap.objs.size (.dT [(ks,vv)])) h' s.heap.objs.size (.dT [(ks,vv)]):=⟨(show 1<=sizeLine by decide),hd,[(ks,b,u2)],.cons ⟨rfl,hb,rv⟩ .nil,o',es',Hj,g1,g2,g3,g4,g6⟩
 exact⟨19#.ref,_,sG I3 (by rw[ep];exact True.intro) hs ⟨o',g1⟩ new,rfl,q2⟩
end
end L2
namespace HT
open PySem PyProof.Rows
def QK(a b c d:Int):Bool:=if a=c then(if b=d then true else decide (b<=d)) else decide (a<=c)
def BE(a b c d:Int):QK a b c d=true↔a<c\/(a=c/\b<=d):=by
 unfold QK
 by_cases h:a=c
 .rw[ο h]
  by_cases h2:b=d
  .rw[ο h2];simp[h,h2]
  .rw[ξ h2];simp only[decide_eq_true_eq];lia
 .rw[ξ h];simp only[decide_eq_true_eq];lia
def Nn(A:Around)(s:Shared)(a:Int)(t:Tok)(c:Int)(u:Tok)(prog:Program)(w:World)(E:eG)(Q:eG)(h:Q (.bool (decide (a<=c))) s):
 32#(richCompare .LtE (.int a t) (.int c u)) :=
 (PyProof.Rows.le_int h:32#(compareOp .LtE (.int a t) (.int c u)))
section
open PySem.SeqAt
open PySem.AutoSeq1 (wpAny_loadPart')
open PySem.MeetsSeq PySem.MeetsSeq2 PySem.MeetsSeq3
def JP(l b:Addr)(items items2:42#0)(n n2:Nat)(dd dd2:Option Addr)(sl sl2:Array (81#0))(x1 y1 x2 y2:Int)(t1 u1 t2 u2:Tok)(hi:items.toList=[.int x1 t1,.int y1 u1])(hj:items2.toList=[.int x2 t2,.int y2 u2]):
 Meets (Builtin.«tuple.__le__» ⟨[.ref l,.ref b],[]⟩)
  (λ_ R s=>s.heap.get? l=some { cls:=.type "tuple",dict:=dd,data:=.seq items n,slots:=sl}/\22#{ cls:=.type "tuple",dict:=dd2,data:=.seq items2 n2,slots:=sl2}/\
   R (.ok (.ret (.bool (QK x1 y1 x2 y2)))) s) :=
 .of_wp λprog w A R s h=>by
  obtain⟨hp,g,d,tk,os⟩:=s;obtain⟨hl,hb,h⟩:=h;have f2:=AutoSeq1.sub_tuple_tuple;have z1:items.size=2:=by rw[<-N?,hi];rfl
  have z2:items2.size=2:=by rw[<-N?,hj];rfl
  wp_walk using wpAny_loadPart' hl,wpAny_loadPart' hb,wpAny_forIn_list _ (λrest b s'=>b.1=none/\s' = ⟨hp,g,d,tk,os⟩/\
   ((rest=[((Value.int x1 t1:Value),(Value.int x2 t2:Value)),(.int y1 u1,.int y2 u2)]/\R (.ok (.ret (.bool (QK x1 y1 x2 y2)))) ⟨hp,g,d,tk,os⟩)\/
    (rest=[((Value.int y1 u1:Value),(Value.int y2 u2:Value))]/\R (.ok (.ret (.bool (if y1=y2 then true else 7#(y1<=y2))))) ⟨hp,g,d,tk,os⟩)\/(rest=[]/\R (.ok (.ret (.bool true))) ⟨hp,g,d,tk,os⟩))) _
  case turn =>
   rintro⟨y,x⟩ rest b s' ⟨hb',rfl,hh⟩;obtain⟨a,c,t,u,vv,hy,hx,hR,hN⟩:∃(a c:Int) (t u:Tok) (vv:Bool),y = .int a t/\x = .int c u/\R (.ok (.ret (.bool (if a=c then vv else decide (a<=c))))) ⟨hp,g,d,tk,os⟩/\
    (R (.ok (.ret (.bool vv))) ⟨hp,g,d,tk,os⟩->(rest=[((Value.int y1 u1:Value),(Value.int y2 u2:Value))]/\R (.ok (.ret (.bool (if y1=y2 then true else 7#(y1<=y2))))) ⟨hp,g,d,tk,os⟩)\/(rest=[]/\R (.ok (.ret (.bool true))) ⟨hp,g,d,tk,os⟩)):=by
    rcases hh with⟨hz,hR⟩|⟨hz,hR⟩|⟨hz,_⟩
    .injection hz with ha hr
     obtain⟨hy,hx⟩:=Prod.mk.inj ha;exact⟨x1,x2,t1,t2,_,hy,hx,hR,λXd=>.inl ⟨hr,Xd⟩⟩
    .injection hz with ha hr
     obtain⟨hy,hx⟩:=Prod.mk.inj ha;exact⟨y1,y2,u1,u2,true,hy,hx,hR,λXd=>.inr ⟨hr,Xd⟩⟩
    .cases hz
   subst hy hx;obtain⟨e,he,LM⟩:=C4 A.in1 ⟨hp,g,d,tk,os⟩ a t c u;refine 52#(he prog w _ _ ?_);cases e with
   | true =>
     rw[ο (LM.mp rfl)]at hR
     wp_walk
     exact⟨rfl,rfl,.inr (hN hR)⟩
   | false =>
     rw[ξ (λq=>absurd (LM.mpr q) e!)]at hR
     have qu:=Nn A.in1 ⟨hp,g,d,tk,os⟩ a t c u prog w
     wp_walk using qu
     exact⟨_,rfl,by simpa using hR⟩
  case fin =>
   rintro⟨b1,b2⟩ s' ⟨hb',rfl,hh⟩;simp only at hb';subst hb';rcases hh with⟨hz,_⟩|⟨hz,_⟩|⟨_,hR⟩
   .cases hz
   .cases hz
   .wp_walk
    refine⟨_,rfl,?_⟩
    simpa[Builtin.Tuple.tupleCompareSizes,z1,z2]using hR
  case h =>
   refine⟨rfl,rfl,.inl ⟨?_,h⟩⟩;rw[hi,hj];rfl
end
section
variable {prog:Program}{w:World}{A:Around}{E:eG}{s:Shared}
def Np{l b:Addr}{items items2:42#0}{x1 y1 x2 y2:Int}{Q:eG}(hl:IsTup s.heap l items)(hb:IsTup s.heap b items2)(hi:IntsAre items.toList [x1,y1])(hj:IntsAre items2.toList [x2,y2])
 (hu:A.units<cLine) (h:Q (.bool (QK x1 y1 x2 y2)) s):32#(compareOp .LtE (.ref l) (.ref b)):=by
 obtain⟨⟨cls,dd,data,sl⟩,ho,hc,n,hd⟩:=id hl;obtain⟨⟨S3,dd2,data2,sl2⟩,ho2,hc2,n2,hd2⟩:=id hb;simp only at hc hd hc2 hd2;subst hc hd hc2 hd2;have two:∀{vs:23#0} {a c:Int},IntsAre vs [a,c]->∃t u,vs=[.int a t,.int c u]:=λ{vs a c} q=>by
  cases q with
  | cons n t r=>cases r with
    | cons n' t' r'=>cases r';exact⟨t,t',rfl⟩
 obtain⟨t1,u1,e1⟩:=two hi;obtain⟨t2,u2,e2⟩:=two hj;exact richCompare_meets_room (op:=.LtE) ⟨_,ho,rfl⟩ ⟨_,ho2,rfl⟩ PySem.F.slot_tuple_le PySem.F.entry_tuple_le (PySem.F.args_tuple_le_2 _ _) (JP l b items items2 n n2 dd dd2 sl sl2 x1 y1 x2 y2 t1 u1 t2 u2 e1 e2)
  ⟨ho,ho2,show Value.bool (QK x1 y1 x2 y2)≠Value.notImplemented/\Q (.bool (QK x1 y1 x2 y2)) s from⟨(λx=>nomatch x),h⟩⟩ hu
end
end HT
namespace L2
open PySem PySem.Spec PyProof.Rows
section
variable {X:Cx}
def aay(K:b7):R2:=λx y H Q=>∃a b x1 y1 x2 y2,x = .ref a/\y = .ref b/\aL K H a [.int x1,.int y1]/\aL K H b [.int x2,.int y2]/\Q (.bl (HT.QK x1 y1 x2 y2)) H
def Us(hu:X.A.units<cLine):mh X (compareOp .LtE) (aay X.K):=by
 show 75;obtain⟨a,b,x1,y1,x2,y2,rfl,rfl,ha,hb,q⟩:=h;cases rx;cases ry;obtain⟨its,r1,p1,_⟩:=I.tuple ha;obtain⟨its2,r2,p2,_⟩:=I.tuple hb;exact HT.Np p1 p2 (intsAre_of (ns:=[x1,y1]) r1) (intsAre_of (ns:=[x2,y2]) r2) hu ⟨.bl (HT.QK x1 y1 x2 y2),H,I,rfl,q⟩
end
abbrev vO:=List (Addr×Str×Pos)
structure TabsOk(K:b7)(h:Heap)(tb:vO):Prop where
 nd:(tb.map (·.1)).Nodup
 mt:∀p∈tb,h.get? p.1=some (PySem.W.tabObj #[])
 code:∀p∈tb,∃c,PySem.W.CodeHd h c p.1
 out:∀p∈tb,K.lookup p.1=none
def TabsAt(tb:vO)(H:Hp):Prop:=∀p∈tb,H p.1=some (.lF (fM p.2.1 p.2.2))
def D6(tb:vO):Hp:=λb=>(tb.find? λp=>p.1==b).map λp=>.lF (fM p.2.1 p.2.2)
def qa{tb:vO}{b:Addr}{u:HO}(e:D6 tb b=some u):∃p∈tb,p.1=b/\u = .lF (fM p.2.1 p.2.2):=by
 unfold D6 at e;obtain⟨p,h1,h2⟩:=qC.mp e;have h3:(p.1==b)=true:=List.find?_some (p:=λp:Addr×Str×Pos=>p.1==b) h1
 exact⟨p,List.mem_of_find?_eq_some h1,eq_of_beq h3,h2.symm⟩
theorem BF:∀{tb:vO},(tb.map (·.1)).Nodup->TabsAt tb (D6 tb)
 | [],_=>λp hp=>nomatch hp
 | q::r,nd=>λp hp=>by
   rw[F!,O!]at nd;show 26
   .unfold D6;rw[List.find?_cons_of_pos 31#0];rfl
   .have ne:(q.1==p.1)=false:=beq_eq_false_iff_ne.mpr λz=>nd.1 (by rw[z];exact M_ hp)
    unfold D6;rw[List.find?_cons_of_neg (by rw[ne];exact e!)]
    exact BF nd.2 p hp
def JQ{P:Program}{w:World}{K:b7}{mg mb:oA}{CX:Lg}{k:Nat}{fa a:Addr}{fd:FuncData}{x:Str}{sp:Sp}{s₁:Shared}{vs:23#0}{ns:List Int}{tb:vO}
 (KX:K.In s₁.heap) (TB:TabsOk K s₁.heap tb) (hns:77#s₁.heap.Ns) (hb:s₁.heap.Ns builtinsNs mb) (YV:∀x:Str,x≠"__name__"->mb x=bootBuiltins x) (hlim:s₁.heap.NoLimit)
 (hbm:∃bm ob,mg "__builtins__"=11#bm/\bm≠builtinsNs/\s₁.heap.get? bm=some ob/\ob.cls = .type "module"/\ob.dict=some builtinsNs/\ob.data = .plain) (hg:s₁.gens = #[])
 (ha:s₁.heap.get? a=some { cls:=.type "list",data:=.seq vs.toArray}) (hi:IntsAre vs ns) (hl:56#ns.length) (hr:gy k callerA)
 (F:∀base:Heap,K.In base->77#base.Ns->oH P w K mg base CX k fa fd [x] sp) (hbind:∀(s:Shared) (u:Value),BindsTo s fd ⟨[u],[]⟩ [(x,u)])
 (vK:∀H:Hp,TabsAt tb H->aM K H a (ns.map V.int)->sp [.ref a] H (λv _=>v = .bl true) λ_ _ _=>False)
 (hCX:∀H e s',CX [] H s₁ (λ_ _ _=>False) e s'->False) :
 codeAny (model P w) callerA (.call (.ref fa) ⟨[.ref a],[]⟩) (λr s'=>r = .ok (.ret (.bool true))/\OldK s₁.heap s'.heap/\s'.os=s₁.os/\AllBare s'.gens) s₁:=by
 have rv:=Ai hi;have aaA:=hi.length;have aT:∀p∈tb,p.1≠a:=λp hp z=>by
  have:=TB.mt p hp;rw[z,ha]at this;cases this
 let fz:HO:=.m9 { cls:=.type "list",data:=.seq vs.toArray} 46#(ns.map V.int)
 have core:∀H:Hp,aM K H a (ns.map V.int)->TabsAt tb H->oB P w H s₁.heap->(∀b u,H b=some u->(b=a/\K.lookup a=none/\u=fz)\/∃p∈tb,p.1=b/\u = .lF (fM p.2.1 p.2.2))->
  codeAny (model P w) callerA (.call (.ref fa) ⟨[.ref a],[]⟩) (λr s'=>r = .ok (.ret (.bool true))/\OldK s₁.heap s'.heap/\s'.os=s₁.os/\AllBare s'.gens) s₁:=by
  intro H hS hT hok hA;have free:∀{b:Addr} {o:Obj},71#s₁.heap.get?->(∀xs n,o.data≠.seq xs n)->(∀xs,o.data≠.fields xs)->H b=none:=λ{b o} e n1 n2=>by
   cases q:H b with
   | none=>rfl
   | some u =>
     rcases hA b u q with⟨z,_⟩|⟨p,hp,z,_⟩
     .rw[z,ha]at e;cases e;exact absurd rfl (n1 _ _)
     .rw[<-z,TB.mt p hp]at e;cases e;exact absurd rfl (n2 _)
  have YW:∀{b:Addr} {m:oA},s₁.heap.Ns b m->(CS s₁.heap H).Ns b m:=λ{b m} ⟨o,es,ep,e,d,r⟩=>⟨o,es,ep,wN e (free e (by intro _ _ z;rw[d]at z;cases z) (by intro _ z;rw[d]at z;cases z)),d,r⟩
  have hKb:K.In (CS s₁.heap H):=λb o e=>wN (KX b o e) (by
   cases q:H b with
   | none=>rfl
   | some u =>
     rcases hA b u q with⟨z,n,_⟩|⟨p,hp,z,_⟩
     .rw[z,n]at e;cases e
     .rw[<-z,TB.out p hp]at e;cases e)
  have hM:Mod K mg (CS s₁.heap H):=⟨hKb,YW hns,⟨mb,YW hb,YV⟩,(let⟨mc,h1,h2⟩:=hlim;⟨mc,YW h1,h2⟩),
   let⟨bm,ob,b1,b2,b3,b4,b5,b6⟩:=hbm;⟨bm,ob,b1,b2,wN b3 (free b3 (by intro _ _ z;rw[b6]at z;cases z) (by intro _ z;rw[b6]at z;cases z)),b4,b5,b6⟩⟩
  have e0:Px P w K mg (CS s₁.heap H) callerA [] s₁ H:=⟨rfl,hM,λb o e=>Pe e,_K (IX _ _),trivial,λb hb=>absurd (show b∈([]:70#0) from hb) 31#0,hok,.of_eq hg⟩
  refine codeAny_mono ((F _ hKb (YW hns)).run callerA [] s₁ H ⟨[.ref a],[]⟩ [.ref a] [.ref a] _ _ hr e0 (hbind s₁ (.ref a)) (.cons rfl .nil) (vK H hT hS)) λr s' h=>?_
  cases r with
  | error e=>exact(hCX H e s' h).elim
  | ok fl =>
    cases fl with
    | next=>exact False.elim h
    | brk=>exact False.elim h
    | cont=>exact False.elim h
    | ret u =>
      obtain⟨v,H',os,bare,un,Xe,r',q⟩:=h;have q' : v = .bl true:=q;subst q';obtain rfl:u=Value.bool true:=r';have all:∀b o,71#s₁.heap.get?->71#s'.heap.get?\/∃p∈tb,p.1=b/\∃ps,s'.heap.get? b=some (PySem.W.tabObj ps):=λb o e=>by
       cases q:H b with
       | none=>exact .inl (un.keep b o e q (by intro z;exact absurd (show b∈([]:70#0) from z) 31#0) 31#0)
       | some u =>
         rcases hA b u q with⟨z,_,z2⟩|⟨p,hp,z,z2⟩
         .rw[z2]at q;obtain⟨e1,_⟩:=hok b _ q;obtain⟨e2,_⟩:=Xe b _ (un.nc b _ _ q);rw[e]at e1;cases e1;exact .inl e2
         .rw[z2]at q;obtain⟨more,q2⟩:=un.oE b _ q;obtain⟨ps,e2,_⟩:=Xe b _ q2;exact .inr ⟨p,hp,z,ps,e2⟩
      refine⟨rfl,⟨λb o e=>?_,λb o e=>?_⟩,os,bare⟩
      .rcases all b o e with z|⟨p,hp,z,ps,e2⟩
       .exact .inl z
       .obtain⟨c,hc⟩:=TB.code p hp;have e1:=TB.mt p hp;subst z;rw[e]at e1;cases e1;exact .inr (.inl ⟨(hc.tab e).isCodeTable,rfl,#[],ps,rfl,by rw[e2,Array.empty_append]⟩)
      .rcases all b o e with z|⟨p,hp,z,ps,e2⟩
       .exact⟨o,z⟩
       .exact⟨_,e2⟩
 have tok:∀{H:Hp} {b:Addr} {p},p∈tb->p.1=b->bL P w H s₁.heap b (.lF (fM p.2.1 p.2.2)):=λ{H b p} hp z=>⟨#[],by rw[<-z];exact TB.mt p hp,.inl 47#(.inl rfl)⟩
 cases hk:K.lookup a with
 | some o =>
   have e:=KX a o hk;rw[ha]at e;cases e;refine core (D6 tb) (.inr ⟨_,vs.toArray,_,hk,rfl,rfl,rfl,by rw[r!,aaA];exact hl,by simpa using rv⟩) (BF TB.nd) (λb u e=>?_) λb u e=>.inr (qa e)
   obtain⟨p,hp,z,rfl⟩:=qa e;exact tok hp z
 | none =>
   refine core (λb=>if b=a then some fz else D6 tb b) (.inl (.inr ⟨{ cls:=.type "list",data:=.seq vs.toArray},ο rfl⟩)) (λp hp=>?_) (λb u e=>?_) λb u e=>?_
   .show(if p.1=a then some fz else D6 tb p.1)=_
    rw[ξ (aT p hp)];exact BF TB.nd p hp
   .by_cases hb:b=a
    .have z:=(ο hb).symm.trans e;cases z;subst hb;exact⟨ha,by rw[χ];exact hl,vs,_,rv,ha⟩
    .have z:=(ξ hb).symm.trans e;obtain⟨p,hp,z2,rfl⟩:=qa z;exact tok hp z2
   .by_cases hb:b=a
    .have z:=(ο hb).symm.trans e;exact .inl ⟨hb,hk,(18#z).symm⟩
    .exact .inr (qa ((ξ hb).symm.trans e))
def Nq{l:PySem.W.OpenLaw}{n k:Nat}{q:Program}{loose:List Str}{XP:(Str->81#0)->Heap->Prop}{YP:World->Heap->Prop}{d:DefRec}{K:Params->b7}{CX:World->Lg}{sp:World->vO->Sp}{x:Str}{ts:70#0}
 (hn:l.most=some n) (hn2:n<=sizeLine) (Ws:d.params.defaults=[]) (hr:gy k callerA)
 (hY:∀(w:World) (h:Heap),YP w h->(K w.params).In h/\∀P∈ts,h.get? P=some (PySem.W.tabObj #[]))
 (F:∀(w:World) (mg:oA) (fa:Addr) (h:Heap),(K w.params).In h->77#h.Ns->mg d.name=11#fa->
  ∃(fd:FuncData) (tb:vO),((tb.map (·.1)).Nodup/\PySem.W.noTabs (K w.params)=true/\∀p∈tb,p.1∈ts/\∃c,PySem.W.codeHdIn (K w.params) c p.1=true)/\(∀(s:Shared) (u:Value),BindsTo s fd ⟨[u],[]⟩ [(x,u)])/\
   ∀base:Heap,(K w.params).In base->77#base.Ns->oH l.prog w (K w.params) mg base (CX w) k fa fd [x] (sp w tb))
 (vK:∀(w:World) (H:Hp) (a:Addr) (ns:List Int) (tb:vO),ns.length<=n->TabsAt tb H->aM (K w.params) H a (ns.map V.int)->sp w tb [.ref a] H (λv _=>v = .bl true) λ_ _ _=>False)
 (hCX:∀(w:World) (H:Hp) (s:Shared) (e:Value) (s' : Shared),CX w [] H s (λ_ _ _=>False) e s'->False) :
 PySem.W.WalkO q loose XP YP l.row.toRowW d [] (λf vs=>PySem.call f vs):=by
 refine Att.C6 hn Ws λw s₀ s₁ mg mb fa o pm cd doc a vs ns G Y ho hd hcd hmg hobj hints hlen hg=>?_
 obtain⟨KX,hts⟩:=hY w _ Y;obtain⟨fd,tb,⟨nd,nt,ht⟩,hb,hF⟩:=F w mg fa _ KX G.T.g hmg;have TB:TabsOk (K w.params) s₁.heap tb:=⟨nd,λp hp=>hts _ (ht p hp).1,λp hp=>let⟨_,c,e⟩:=ht p hp;⟨c,PySem.W.codeHd_of_K KX e⟩,λp hp=>by
  cases e:(K w.params).lookup p.1 with
  | none=>rfl
  | some ob =>
    have e1:=KX _ _ e;rw[hts _ (ht p hp).1]at e1;cases e1;have z:=W?.mp nt (p.1,PySem.W.tabObj #[]) (PySem.W.mem_of_lookupK e);exact absurd (show false=true from z) e!⟩
 exact JQ KX TB G.T.g G.T.b G.T.builtins G.T.nolimit G.T.bmain hg hobj hints (D! hlen hn2) hr hF hb (λH hT hS=>vK w H a ns tb hlen hT hS) λH e s'=>hCX w H s₁ e s'
def qz(f:Str):Str:=f ++ ".<locals>." ++ "<lambda>"
structure F3(K:b7)(x qual:Str)(st:Stmt)(f:Addr)(fd:FuncData)(c0 P:Addr):Prop where
 ex:∃(oc:Value) (od:Option Addr) (kV doc pm:Value) (an:Option Addr) (ct:Value) (osl:Array (81#0)),
  fd=PySem.W.fnOf x qual (fH st) (dh st) (ai st) .none kV doc pm an (.ref c0) ct/\K.lookup f=some ⟨oc,od,.func fd,osl⟩/\PySem.W.codeIn K (.ref c0) qual=true
 kp:PySem.W.keepIn K (.ref f)=true
 hd:PySem.W.codeHdIn K c0 P=true
section
variable {P:Program}{w:World}{K:b7}{mg:oA}{base:Heap}{x qual:Str}{st:Stmt}{f c0 p0:Addr}{fd:FuncData}
def F3.ok{N ps:List Str}{k:Nat}{sp:Sp}(F:F3 K x qual st f fd c0 p0)(S:aC N ps (ai st))(len:∀vs H Q E,sp vs H Q E->vs.length=ps.length)
 (hbody:∀(A:Around) (outer:List Env) (s:Shared) (H:Hp) (vs:List V) (Q:VK) (E:XK),gy k (A.deeper (envOfC qual (ai st) s.heap.objs.size f (.ref c0)))->sp vs H Q E->
  ∃t,z8 (vJ HK P w K mg base N qual (ai st) f (.ref c0) A outer s H E).E7 (dh st) t/\t { nx:=λ_ H'=>Q .dZ H',rt:=Q} (start N vs) H):oH P w K mg base HK (k+1) f fd ps sp:=by
 obtain⟨oc,od,kV,doc,pm,an,ct,osl,rfl,lk,hcd⟩:=F.ex;refine LK lk hcd S len λA outer s H vs Q E hr vK=>?_
 obtain⟨t,h,q⟩:=hbody A outer s H vs Q E hr vK;exact⟨t,h.E7,q⟩
def F3.binds{ps:List Str}(F:F3 K x qual st f fd c0 p0)
 (h:∀(kV doc pm:Value) (an:Option Addr) (cdv ct:Value) (us:23#0),us.length=ps.length->bindArgs (PySem.W.fnOf x qual (fH st) (dh st) (ai st) .none kV doc pm an cdv ct) ⟨us,[]⟩=pure (ps.zip us)):Binds K fd ps []:=by
 obtain⟨oc,od,kV,doc,pm,an,ct,osl,rfl,lk,hcd⟩:=F.ex;exact .all (h kV doc pm an (.ref c0) ct)
def QL{oc:Value}{od an:Option Addr}{osl:Array (81#0)}{kV doc pm ct:Value}(l:K.lookup f=some ⟨oc,od,.func (PySem.W.fnOf x qual (fH st) (dh st) (ai st) .none kV doc pm an (.ref c0) ct),osl⟩)
 (c:PySem.W.codeIn K (.ref c0) qual=true) (k:PySem.W.keepIn K (.ref f)=true) (hd:PySem.W.codeHdIn K c0 p0=true):F3 K x qual st f (PySem.W.fnOf x qual (fH st) (dh st) (ai st) .none kV doc pm an (.ref c0) ct) c0 p0 :=
 ⟨⟨oc,od,kV,doc,pm,an,ct,osl,rfl,l,c⟩,k,hd⟩
end
end L2
namespace RM
abbrev OW:=Nat->Bool->Option (Int×Nat)
def pe(F:OW)(x:Nat)(s:Bool)(d:Int×Nat):OW:=λy t=>if y=x/\t=s then some d else F y t
def F4(F:OW)(x:Nat)(s:Bool):OW:=λy t=>if y=x/\t=s then none else F y t
def e8(F:OW)(x:Nat)(s:Bool)(d:Int×Nat):pe F x s d x s=some d:=ο ⟨rfl,rfl⟩
def dG{F:OW}{x y:Nat}{s t:Bool}{d:Int×Nat}(h : ¬(y=x/\t=s)):pe F x s d y t=F y t:=ξ h
def BG(F:OW)(x:Nat)(s:Bool):F4 F x s x s=none:=ο ⟨rfl,rfl⟩
def wI{F:OW}{x y:Nat}{s t:Bool}(h : ¬(y=x/\t=s)):F4 F x s y t=F y t:=ξ h
def Wz(N:Net)(L:Nat->Int)(m u v:Nat)(s:Bool)(z:Int)(e:Nat):Prop:=∃pre,Wl N L m u pre v s z e
structure Dj(N:Net)(L:Nat->Int)(m u:Nat)(F W:OW)(now:Option (Nat×Bool))(done:Nat->Nat->Prop):Prop where
 fw:∀x s d,F x s=some d->Wz N L m u x s d.1 d.2
 ww:∀x s d,W x s=some d->Wz N L m u x s d.1 d.2
 dj:∀x s d,W x s=some d->F x s=none
 le:∀x s d y t d',F x s=some d->W y t=some d'->d.1<=d'.1
 mx:∀x s d y t d',now=some (x,s)->F x s=some d->F y t=some d'->d'.1<=d.1
 cl:∀x s d k y,F x s=some d->k<N.n->Jn N k x y->(now=some (x,s)->done k y)->∃d',(F y (s^^2#0)=some d'\/W y (s^^2#0)=some d')/\d'.1<=d.1+L k
 st:∃d,(F u false=some d\/W u false=some d)/\d.1<=0
section
variable {N:Net}{L:Nat->Int}{m u:Nat}{F W:OW}
def Dj.start:Dj N L m u (λ_ _=>none) (pe (λ_ _=>none) u false (0,0)) none (80#0):=by
 refine⟨λ_ _ _ h=>(nomatch h),λx s d h=>?_,λ_ _ _ _=>rfl,λ_ _ _ _ _ _ h=>(nomatch h),λ_ _ _ _ _ _ h=>(nomatch h),λ_ _ _ _ _ h=>(nomatch h),⟨(0,0),.inr (e8 _ _ _ _),H? _⟩⟩
 by_cases e:x=u/\s=false
 .obtain⟨rfl,rfl⟩:=e;rw[e8]at h;cases h;exact⟨[],.nil⟩
 .rw[dG e]at h;cases h
def Dj.pop(h:Dj N L m u F W none (80#0)){x:Nat}{s:Bool}{d:Int×Nat}(e:W x s=some d)(hmin:∀y t d',W y t=some d'->d.1<=d'.1):Dj N L m u (pe F x s d) (F4 W x s) (some (x,s)) (80#0):=by
 have hF:=h.dj x s d e;have of:∀y t d',pe F x s d y t=some d'->(y=x/\t=s/\d' = d)\/F y t=some d':=λy t d' q=>by
  by_cases z:y=x/\t=s
  .obtain⟨rfl,rfl⟩:=z;rw[e8]at q;exact .inl ⟨rfl,rfl,(18#q).symm⟩
  .rw[dG z]at q;exact .inr q
 have ow:∀y t d',F4 W x s y t=some d'->¬(y=x/\t=s)/\W y t=some d':=λy t d' q=>by
  by_cases z:y=x/\t=s
  .obtain⟨rfl,rfl⟩:=z;rw[BG]at q;cases q
  .rw[wI z]at q;exact⟨z,q⟩
 have moved:∀y t d',F y t=some d'\/W y t=some d'->pe F x s d y t=some d'\/F4 W x s y t=some d':=λy t d' q=>by
  by_cases z:y=x/\t=s
  .obtain⟨rfl,rfl⟩:=z;rcases q with q|q
   .rw[hF]at q;cases q
   .rw[e]at q;cases q;exact .inl (e8 _ _ _ _)
  .rw[dG z,wI z];exact q
 refine⟨λy t d' q=>?_,λy t d' q=>h.ww y t d' (ow y t d' q).2,λy t d' q=>?_,λy t d' y2 t2 d2 q q2=>?_,λy t d' y2 t2 d2 hn q q2=>?_,λy t d' k y2 q hk hj hd=>?_,?_⟩
 .rcases of y t d' q with⟨rfl,rfl,rfl⟩|q
  .exact h.ww _ _ _ e
  .exact h.fw y t d' q
 .obtain⟨z,q⟩:=ow y t d' q;rw[dG z];exact h.dj y t d' q
 .obtain⟨_,q2⟩:=ow y2 t2 d2 q2;rcases of y t d' q with⟨_,_,rfl⟩|q
  .exact hmin _ _ _ q2
  .exact h.le _ _ _ _ _ _ q q2
 .cases hn;rw[e8]at q;cases q;rcases of y2 t2 d2 q2 with⟨_,_,rfl⟩|q2
  .exact H? _
  .exact h.le _ _ _ _ _ _ q2 e
 .rcases of y t d' q with⟨rfl,rfl,rfl⟩|q
  .exact(hd rfl).elim
  .obtain⟨d2,q2,l2⟩:=h.cl y t d' k y2 q hk hj 60#0
   exact⟨d2,moved _ _ _ q2,l2⟩
 .obtain⟨d2,q2,l2⟩:=h.st;exact⟨d2,moved _ _ _ q2,l2⟩
def Dj.put{done:Nat->Nat->Prop}{x:Nat}{s:Bool}(h:Dj N L m u F W (some (x,s)) done){d:Int×Nat}{k y:Nat}(e:F x s=some d)(hk:k<N.n)(hL:0<=L k)(hj:Jn N k x y)(hF:F y (s^^2#0)=none)
 (hW:∀d',W y (s^^2#0)=some d'->d.1+L k<=d'.1):Dj N L m u F (pe W y (s^^2#0) (d.1+L k,d.2^^^2^k)) (some (x,s)) (λk' y'=>done k' y'\/(k' = k/\y' = y)):=by
 have ow:∀v t d',pe W y (s^^2#0) (d.1+L k,d.2^^^2^k) v t=some d'->(v=y/\t=(s^^2#0)/\d' = (d.1+L k,d.2^^^2^k))\/W v t=some d':=λv t d' q=>by
  by_cases z:v=y/\t=(s^^2#0)
  .obtain⟨rfl,rfl⟩:=z;rw[e8]at q;exact .inl ⟨rfl,rfl,(18#q).symm⟩
  .rw[dG z]at q;exact .inr q
 have moved:∀v t d',F v t=some d'\/W v t=some d'->∃d2,(F v t=some d2\/pe W y (s^^2#0) (d.1+L k,d.2^^^2^k) v t=some d2)/\d2.1<=d'.1:=λv t d' q=>by
  rcases q with q|q
  .exact⟨d',.inl q,H? _⟩
  .by_cases z:v=y/\t=(s^^2#0)
   .obtain⟨rfl,rfl⟩:=z;exact⟨_,.inr (e8 _ _ _ _),hW d' q⟩
   .exact⟨d',.inr (by rw[dG z];exact q),H? _⟩
 refine⟨h.fw,λv t d' q=>?_,λv t d' q=>?_,λv t d' v2 t2 d2 q q2=>?_,h.mx,λv t d' k2 y2 q hk2 Ut hd=>?_,?_⟩
 .rcases ow v t d' q with⟨rfl,rfl,rfl⟩|q
  .obtain⟨pre,w⟩:=h.fw x s d e;exact⟨_,w.go hk hj⟩
  .exact h.ww v t d' q
 .rcases ow v t d' q with⟨rfl,rfl,rfl⟩|q
  .exact hF
  .exact h.dj v t d' q
 .rcases ow v2 t2 d2 q2 with⟨rfl,rfl,rfl⟩|q2
  .have:=h.mx x s d v t d' rfl e q;show d'.1<=d.1+L k
   lia
  .exact h.le _ _ _ _ _ _ q q2
 .by_cases hd2:some (x,s)=some (v,t)->done k2 y2
  .obtain⟨d2,q2,l2⟩:=h.cl v t d' k2 y2 q hk2 Ut hd2;obtain⟨d3,q3,l3⟩:=moved _ _ _ q2;exact⟨d3,q3,Int.le_trans l3 l2⟩
  .have hn:some (x,s)=some (v,t):=Z! λz=>hd2 λz2=>absurd z2 z
   rcases hd hn with z|⟨rfl,rfl⟩
   .exact absurd (λ_=>z) hd2
   .cases hn;rw[e]at q;cases q;exact⟨_,.inr (e8 _ _ _ _),H? _⟩
 .obtain⟨d2,q2,l2⟩:=h.st;obtain⟨d3,q3,l3⟩:=moved _ _ _ q2;exact⟨d3,q3,Int.le_trans l3 l2⟩
def Dj.skip{done:Nat->Nat->Prop}{x:Nat}{s:Bool}(h:Dj N L m u F W (some (x,s)) done){d d2:Int×Nat}{k y:Nat}(e:F x s=some d)(hL:0<=L k)(q2:F y (s^^2#0)=some d2\/(W y (s^^2#0)=some d2/\d2.1<=d.1+L k)):
 Dj N L m u F W (some (x,s)) (λk' y'=>done k' y'\/(k' = k/\y' = y)):=by
 refine⟨h.fw,h.ww,h.dj,h.le,h.mx,λv t d' k2 y2 q hk2 Ut hd=>?_,h.st⟩
 by_cases hd2:some (x,s)=some (v,t)->done k2 y2
 .exact h.cl v t d' k2 y2 q hk2 Ut hd2
 .have hn:some (x,s)=some (v,t):=Z! λz=>hd2 λz2=>absurd z2 z
  rcases hd hn with z|⟨rfl,rfl⟩
  .exact absurd (λ_=>z) hd2
  .cases hn;rw[e]at q;cases q;rcases q2 with q2|⟨q2,l2⟩
   .have:=h.mx x s d _ _ d2 rfl e q2;exact⟨d2,.inl q2,by lia⟩
   .exact⟨d2,.inr q2,l2⟩
def Dj.all{done:Nat->Nat->Prop}{x:Nat}{s:Bool}(h:Dj N L m u F W (some (x,s)) done)(ha:∀k y,k<N.n->Jn N k x y->done k y):Dj N L m u F W none (80#0) :=
 ⟨h.fw,h.ww,h.dj,h.le,λ_ _ _ _ _ _ z=>(nomatch z),λv t d k y q hk hj _=>h.cl v t d k y q hk hj λz=>by cases z;exact ha k y hk hj,h.st⟩
def Dj.best(h:Dj N L m u F W none (80#0))(hW:∀x s,W x s=none)(x:Nat)(s:Bool):vN N L m u x s ((F x s).map (·.1)):=by
 have low:∀{pre:List Nat} {v e:Nat} {t:Bool} {z:Int},Wl N L m u pre v t z e->∃d,F v t=some d/\d.1<=z:=λ{pre v e t z} w=>by
  induction w with
  | nil =>
    obtain⟨d,q,l⟩:=h.st;rcases q with q|q
    .exact⟨d,q,l⟩
    .rw[hW]at q;cases q
  | @go pre v w k e s z _ hk hj ih =>
    obtain⟨d,q,l⟩:=ih;obtain⟨d2,q2,l2⟩:=h.cl _ _ d k _ q hk hj 60#0
    rcases q2 with q2|q2
    .exact⟨d2,q2,by lia⟩
    .rw[hW]at q2;cases q2
 cases q:F x s with
 | none =>
   intro z ⟨_,_,w⟩;obtain⟨d,q2,_⟩:=low w;rw[q]at q2;cases q2
 | some d =>
   obtain⟨pre,w⟩:=h.fw x s d q;refine⟨⟨_,_,w⟩,λz ⟨_,_,w2⟩=>?_⟩
   obtain⟨d2,q2,l2⟩:=low w2;rw[q]at q2;cases q2;exact l2
end
end RM
namespace L2
open PySem Ring
abbrev ky(x:Nat)(s:Bool):List Key:=[.inl (x:Int),.inl (s.toNat:Int)]
def F5{x y:Nat}{s t:Bool}(h:ky x s=ky y t):x=y/\s=t:=by
 injection h with h1 h2
 injection h2 with h2 _
 injection h1 with h1
 injection h2 with h2
 refine⟨by lia,?_⟩
 cases s<;>cases t<;>first | rfl | (simp at h2)
def wV(H:Hp):Option (Int×Nat)->V->Prop
 | none,v=>v = .dZ
 | some d,v=>∃c,v = .ref c/\H c=10#([.int d.1,40#d.2])
def wV.tups{H H' : Hp}{o:Option (Int×Nat)}{v:V}(h:wV H o v)(s:cV H H'):wV H' o v:=by
 cases o with
 | none=>exact h
 | some d=>obtain⟨c,e,q⟩:=h;exact⟨c,e,s _ _ q⟩
structure yf(p:Nat)(H0:Hp)(D wd:Addr)(es:70#0)(kvs:50#V)(F W:RM.OW)(H:Hp):Prop where
 same:ah H0 H
 nd:es.Nodup
 ne:D∉es
 fr:∀b∈es,H0 b=none
 Dn:H0 D=none
 wn:H0 wd=none
 wD:wd≠D
 wE:wd∉es
 lst:H D=1#(es.map V.ref)
 at_:∀i b,es[i]?=some b->∃v0 v1,H b=1#([v0,v1])/\wV H (F i false) v0/\wV H (F i true) v1
 dt:H wd=some (.dT kvs)
 kn:(kvs.map (·.1)).Nodup
 keys:∀kv∈kvs,∃x s,x<p/\kv.1=ky x s
 out:∀x s d,W x s=some d->x<p
 val:∀x s,(W x s=none/\fg kvs (ky x s)=none)\/∃d c,W x s=some d/\fg kvs (ky x s)=some (.ref c)/\H c=10#([.int d.1,40#d.2])
section
variable {p:Nat}{H0 H H' : Hp}{D wd:Addr}{es:70#0}{kvs:50#V}{F W:RM.OW}
def yf.go(h:yf p H0 D wd es kvs F W H)(s:ah H H'):yf p H0 D wd es kvs F W H' :=
 ⟨h.same.trans s,h.nd,h.ne,h.fr,h.Dn,h.wn,h.wD,h.wE,s _ _ h.lst,λi b e=>let⟨v0,v1,a,b1,c⟩:=h.at_ i b e;⟨v0,v1,s _ _ a,b1.tups s.tups,c.tups s.tups⟩,s _ _ h.dt,h.kn,h.keys,h.out,
  λx t=>(h.val x t).imp (λz=>z) λ⟨d,c,a,b,e⟩=>⟨d,c,a,b,s _ _ e⟩⟩
def yf.len(h:yf p H0 D wd es kvs F W H):kvs.length<=2*p:=by
 have hn:=h.kn;have hk:=h.keys
 let code:List Key->Nat:=λk=>match k with | [.inl x,.inl s]=>2*x.toNat+s.toNat | _=>0
 have inj:∀a∈kvs.map (·.1),∀b∈kvs.map (·.1),code a=code b->a=b:=λa ha b hb e=>by
  obtain⟨u,hu,rfl⟩:=d!.mp ha;obtain⟨v,hv,rfl⟩:=d!.mp hb;obtain⟨x,s,_,ex⟩:=hk u hu;obtain⟨y,t,_,ey⟩:=hk v hv;rw[ex,ey]at e ⊢;have e:2*((x:Int)).toNat+((s.toNat:Int)).toNat=2*((y:Int)).toNat+((t.toNat:Int)).toNat:=e;rw[a!,a!,a!,a!]at e;have hs:s.toNat<2:=by cases s<;>decide
  have ht:t.toNat<2:=by cases t<;>decide
  have e1:x=y:=by lia
  have e2:s.toNat=t.toNat:=by lia
  have e3:s=t:=by cases s<;>cases t<;>first | rfl | (simp at e2)
  rw[e1,e3]
 have nd:((kvs.map (·.1)).map code).Nodup:=by
  revert inj
  generalize kvs.map (·.1)=l at hn;intro inj
  induction hn with
  | nil=>exact S_
  | @cons a l h1 h2 ih =>
    rw[F!,O!];refine⟨λhm=>?_,ih λa ha b hb e=>inj a (lG _ ha) b (lG _ hb) e⟩
    obtain⟨b,hb,e⟩:=d!.mp hm;exact h1 b hb (inj a o! b (lG _ hb) e.symm)
 have sub:∀c∈(kvs.map (·.1)).map code,c∈List.range (2*p):=λc hc=>by
  obtain⟨a,ha,rfl⟩:=d!.mp hc;obtain⟨u,hu,rfl⟩:=d!.mp ha;obtain⟨x,s,hx,ex⟩:=hk u hu;rw[ex,A!];show 2*((x:Int)).toNat+((s.toNat:Int)).toNat<2*p;rw[a!,a!];have hs:s.toNat<2:=by cases s<;>decide
  lia
 have:=nd.length_le_of_subset sub
 simpa using this
def yf.row(h:yf p H0 D wd es kvs F W H){i:Nat}(hi:i<es.length):∃b v0 v1,(es.map V.ref)[i]?=some (.ref b)/\es[i]?=some b/\H b=1#([v0,v1])/\wV H (F i false) v0/\wV H (F i true) v1:=by
 have e:es[i]?=some es[i]:=i! hi;obtain⟨v0,v1,a,b,c⟩:=h.at_ i _ e;exact⟨es[i],v0,v1,by rw[c!,e];rfl,e,a,b,c⟩
theorem ur{κ:Type}[DecidableEq κ](k j:κ):∀kvs:List (κ×V),fg (fh kvs k) j=if j=k then none else fg kvs j
 | []=>by rw[show fh ([]:List (κ×V)) k=[] from rfl,xG];split<;>rfl
 | q::r=>by
   by_cases e:q.1=k
   .rw[AB e,ur k j r]
    by_cases e2:j=k
    .rw[ο e2,ο e2]
    .rw[ξ e2,ξ e2,c6 (λz=>e2 (z.symm.trans e))]
   .rw[AD e]
    by_cases e3:q.1=j
    .rw[dw e3,ξ (λz=>e (e3.trans z)),dw e3]
    .rw[c6 e3,ur k j r,c6 e3]
def yf.take(h:yf p H0 D wd es kvs F W H){x:Nat}{s:Bool}{d:Int×Nat}{b c:Addr}{v0 v1:V}(e:W x s=some d)(hc:H c=10#([.int d.1,40#d.2]))(hb:es[x]?=some b)(hv:H b=1#([v0,v1])):
 yf p H0 D wd es (fh kvs (ky x s)) (RM.pe F x s d) (RM.F4 W x s) (η (η H wd (.dT (fh kvs (ky x s)))) b 46#(([v0,v1]:List V).set s.toNat (.ref c))):=by
 have hm:=gB hb;have bw:b≠wd:=λz=>h.wE (z▸hm)
 have bD:D≠b:=λz=>h.ne (z▸hm)
 have tp:cV H (η (η H wd (.dT (fh kvs (ky x s)))) b 46#(([v0,v1]:List V).set s.toNat (.ref c))):=λa ys q=>by
  rw[ao (bg q hv 12#0),ao (bg q h.dt 12#0)]
  exact q
 refine⟨(h.same.put h.wn).put (h.fr b hm),h.nd,h.ne,h.fr,h.Dn,h.wn,h.wD,h.wE,by rw[ao bD,ao (u! h.wD)];exact h.lst,λi b' hb'=>?_,by rw[ao (u! bw),aa],xN h.kn,λkv hkv=>h.keys kv (AE hkv),λy t d' q=>?_,λy t=>?_⟩
 .by_cases ei:i=x
  .subst ei;rw[hb]at hb';cases hb';obtain⟨w0,w1,q1,q2,q3⟩:=h.at_ _ _ hb;rw[hv]at q1;cases q1;cases s with
   | false=>exact⟨.ref c,v1,aa,by rw[RM.e8];exact⟨c,rfl,tp _ _ hc⟩,by rw[RM.dG (λz=>by cases z.2)];exact q3.tups tp⟩
   | true=>exact⟨v0,.ref c,aa,by rw[RM.dG (λz=>by cases z.2)];exact q2.tups tp,by rw[RM.e8];exact⟨c,rfl,tp _ _ hc⟩⟩
  .have bb:b'≠b:=λz=>by
    subst z;obtain⟨h1,h2⟩:=j7.mp hb';obtain⟨h3,h4⟩:=j7.mp hb;exact ei ((_u h.nd).mp (h2.trans h4.symm))
   obtain⟨w0,w1,q1,q2,q3⟩:=h.at_ _ _ hb';exact⟨w0,w1,by rw[ao bb,ao (show b'≠wd from λz=>h.wE (z▸gB hb'))];exact q1,by rw[RM.dG (λz=>ei z.1)];exact q2.tups tp,by rw[RM.dG (λz=>ei z.1)];exact q3.tups tp⟩
 .by_cases z:y=x/\t=s
  .obtain⟨rfl,rfl⟩:=z;rw[RM.BG]at q;cases q
  .rw[RM.wI z]at q;exact h.out y t d' q
 .rw[ur]
  by_cases z:y=x/\t=s
  .obtain⟨rfl,rfl⟩:=z;exact .inl ⟨RM.BG _ _ _,ο rfl⟩
  .rw[RM.wI z,ξ (λq=>z (F5 q))]
   rcases h.val y t with q|⟨d',c',q1,q2,q3⟩
   .exact .inl q
   .exact .inr ⟨d',c',q1,q2,tp _ _ q3⟩
def yf.wait(h:yf p H0 D wd es kvs F W H){x:Nat}{s:Bool}{d:Int×Nat}{c:Addr}(hx:x<p)(hc:H c=10#([.int d.1,40#d.2])):
 yf p H0 D wd es (putK kvs (ky x s) (.ref c)) F (RM.pe W x s d) (η H wd (.dT (putK kvs (ky x s) (.ref c)))):=by
 have tp:cV H (η H wd (.dT (putK kvs (ky x s) (.ref c)))):=λa ys q=>by
  rw[ao (bg q h.dt 12#0)]
  exact q
 have RX:(∀kv∈putK kvs (ky x s) (.ref c),∃x s,x<p/\kv.1=ky x s)/\((putK kvs (ky x s) (.ref c)).map (·.1)).Nodup:=by
  cases q:fg kvs (ky x s) with
  | none =>
    refine⟨λkv hkv=>?_,Qt _ h.kn q⟩
    rw[DE _ q]at hkv;rcases t!.mp hkv with z|z
    .exact h.keys kv z
    .rw[p!.mp z];exact⟨x,s,hx,rfl⟩
  | some v =>
    have hany:(kvs.any λkv=>7#(kv.1=ky x s))=true:=by rw[iQ,q];rfl
    have e:putK kvs (ky x s) (.ref c)=kvs.map λkv=>if kv.1=ky x s then(kv.1,.ref c) else kv:=by unfold putK;rw[ο hany]
    have ek:(putK kvs (ky x s) (.ref c)).map (·.1)=kvs.map (·.1):=by
     rw[e,X!];refine L_ λkv _=>?_
     show(if kv.1=ky x s then(kv.1,V.ref c) else kv).1=kv.1
     split<;>rfl
    refine⟨λkv hkv=>?_,by rw[ek];exact h.kn⟩
    have hm:kv.1∈kvs.map (·.1):=by rw[<-ek];exact M_ hkv
    obtain⟨kv',h1,h2⟩:=d!.mp hm;rw[<-h2];exact h.keys kv' h1
 refine⟨h.same.put h.wn,h.nd,h.ne,h.fr,h.Dn,h.wn,h.wD,h.wE,by rw[ao (u! h.wD)];exact h.lst,λi b hb=>?_,aa,RX.2,RX.1,λy t d' q=>?_,λy t=>?_⟩
 .obtain⟨w0,w1,q1,q2,q3⟩:=h.at_ _ _ hb;exact⟨w0,w1,by rw[ao (show b≠wd from λz=>h.wE (z▸gB hb))];exact q1,q2.tups tp,q3.tups tp⟩
 .by_cases z:y=x/\t=s
  .rw[z.1];exact hx
  .rw[RM.dG z]at q;exact h.out y t d' q
 .rw[Mz]
  by_cases z:y=x/\t=s
  .obtain⟨rfl,rfl⟩:=z;exact .inr ⟨d,c,RM.e8 _ _ _ _,ο rfl,tp _ _ hc⟩
  .rw[RM.dG z,ξ (λq=>z (F5 q))]
   rcases h.val y t with q|⟨d',c',q1,q2,q3⟩
   .exact .inl q
   .exact .inr ⟨d',c',q1,q2,tp _ _ q3⟩
end
abbrev kY(m:Nat)(H:Hp)(c:Addr)(kw:Nat×Nat):Prop:=H c=10#([40#kw.1,40#kw.2,40#(m.testBit kw.1).toNat])
structure JR(m:Nat)(H0:Hp)(D:Addr)(es:70#0)(S:Nat->List (Nat×Nat))(H:Hp):Prop where
 same:ah H0 H
 nd:es.Nodup
 ne:D∉es
 fr:∀b∈es,H0 b=none
 Dn:H0 D=none
 lst:H D=1#(es.map V.ref)
 at_:∀i b,es[i]?=some b->∃cs,H b=1#(cs.map V.ref)/\Paired (kY m H) cs (S i)
section
variable {m:Nat}{H0 H H' : Hp}{D b:Addr}{es:70#0}{S:Nat->List (Nat×Nat)}{i:Nat}
def JR.go(h:JR m H0 D es S H)(s:ah H H'):JR m H0 D es S H' :=
 ⟨h.same.trans s,h.nd,h.ne,h.fr,h.Dn,s _ _ h.lst,λi b e=>let⟨cs,a,q⟩:=h.at_ i b e;⟨cs,s _ _ a,Paired.A6 q λ_ _ z=>s _ _ z⟩⟩
def yg(S:Nat->List (Nat×Nat))(x:Nat)(kw:Nat×Nat):Nat->List (Nat×Nat):=λi=>if i=x then S i++[kw] else S i
def JR.get(h:JR m H0 D es S H)(hi:i<es.length):∃b cs,(es.map V.ref)[i]?=some (.ref b)/\es[i]?=some b/\H b=1#(cs.map V.ref)/\Paired (kY m H) cs (S i):=by
 have e:es[i]?=some es[i]:=i! hi;obtain⟨cs,a,q⟩:=h.at_ i _ e;exact⟨es[i],cs,by rw[c!,e];rfl,e,a,q⟩
def JR.put(h:JR m H0 D es S H){cs:70#0}{c:Addr}{kw:Nat×Nat}(hb:es[i]?=some b)(hcs:H b=1#(cs.map V.ref))(q:Paired (kY m H) cs (S i))(hc:kY m H c kw):
 JR m H0 D es (yg S i kw) (η H b 46#(cs.map V.ref++[.ref c])):=by
 have hm:=gB hb;have hne:D≠b:=λz=>h.ne (z▸hm)
 have tp:∀c kw,kY m H c kw->kY m (η H b 46#(cs.map V.ref++[.ref c])) c kw:=λc kw z=>by
  show η H b _ c=_;rw[ao (bg z hcs 12#0)]
  exact z
 have tp' : ∀x kw,kY m H x kw->kY m (η H b 46#(cs.map V.ref++[.ref c])) x kw:=λx kw z=>by
  show η H b _ x=_;rw[ao (bg z hcs 12#0)]
  exact z
 refine⟨h.same.put (h.fr b hm),h.nd,h.ne,h.fr,h.Dn,by rw[ao hne];exact h.lst,λj b' hb'=>?_⟩
 by_cases e:j=i
 .subst e;rw[hb]at hb';cases hb';refine⟨cs++[c],by rw[aa];simp,?_⟩
  unfold yg;rw[ο rfl];exact Paired.snoc (Paired.A6 q λ_ _ z=>tp' _ _ z) (tp' _ _ hc)
 .have bb:b'≠b:=λz=>by
   subst z;obtain⟨h1,h2⟩:=j7.mp hb';obtain⟨h3,h4⟩:=j7.mp hb;exact e ((_u h.nd).mp (h2.trans h4.symm))
  obtain⟨cs',q1,q2⟩:=h.at_ j b' hb';refine⟨cs',by rw[ao bb];exact q1,?_⟩
  unfold yg;rw[ξ e];exact Paired.A6 q2 λ_ _ z=>tp' _ _ z
def JR.off(h:JR m H0 D es S H){L:Addr}(hL:H L=none):L∉es:=λz=>by
 obtain⟨j,hj⟩:=N! z;obtain⟨_,q,_⟩:=h.at_ j L hj;rw[hL]at q;cases q
def RY(m:Nat)(H0:Hp)(D:Addr)(i:Nat)(acc:List V)(H:Hp):Prop:=∃es,acc=es.map V.ref/\es.length=i/\JR m H0 D es (λ_=>[]) H
def RY.start(hD:H0 D=none):RY m H0 D 0 [] (η H0 D (.lst [])) :=
 ⟨[],rfl,rfl,ah.new hD,S_,R?,λ_ h=>(R? h).elim,hD,aa,λi b e=>by cases e⟩
def RY.len{acc:List V}(h:RY m H0 D i acc H):H D=1#acc/\acc.length<=i:=by
 obtain⟨es,rfl,e,r⟩:=h;exact⟨r.lst,by rw[χ];lia⟩
def RY.next{acc:List V}(h:RY m H0 D i acc H)(hb:H b=none):η H b (.lst []) D=1#acc/\RY m H0 D (i+1) (acc++[.ref b]) (η (η H b (.lst [])) D 46#(acc++[.ref b])):=by
 obtain⟨es,rfl,e,r⟩:=h;have Ua:D≠b:=λz=>by
  have:=r.lst;rw[z,hb]at this;cases this
 have hbn:b∉es:=r.off hb;have hb0:H0 b=none:=r.same.free hb;refine⟨by rw[ao Ua];exact r.lst,es++[b],by simp,by simp[e],(r.same.put hb0).put r.Dn,?_,?_,λc hc=>?_,r.Dn,by rw[aa];simp,λj c hc=>?_⟩
 .exact aee.mpr ⟨r.nd,by simp,λx hx y hy=>by rw[p!.mp hy];exact λz=>hbn (z▸hx)⟩
 .intro hm;rcases t!.mp hm with z|z
  .exact r.ne z
  .exact Ua (p!.mp z)
 .rcases t!.mp hc with z|z
  .exact r.fr c z
  .rw[p!.mp z];exact hb0
 .have hcD:c≠D:=λz=>by
   subst z;rcases t!.mp (gB hc) with z|z
   .exact r.ne z
   .exact Ua (p!.mp z)
  refine⟨[],?_,.nil⟩;rw[ao hcD]
  by_cases ec:c=b
  .rw[ec,aa];rfl
  .rw[ao ec]
   by_cases hj:j<es.length
   .rw[m? hj]at hc;obtain⟨cs,q1,q2⟩:=r.at_ j c hc;cases q2;exact q1
   .rw[A? (by lia)]at hc
    have:=gB hc;exact absurd (p!.mp this) ec
end
structure RZ(N:RM.Net)(k:Nat)(S:Nat->List (Nat×Nat)):Prop where
 mem:∀i kw,kw∈S i↔(kw.1<k/\RM.Jn N kw.1 i kw.2)
 len:∀i,(S i).length<=2*k
def RZ.start{N:RM.Net}:RZ N 0 (λ_=>[]):=⟨λi kw=>⟨λh=>(nomatch h),λh=>absurd h.1 (l? _)⟩,λ_=>v! _⟩
def RZ.next{N:RM.Net}{k:Nat}{S:Nat->List (Nat×Nat)}(h:RZ N k S):RZ N (k+1) (yg (yg S (N.a k) (k,N.b k)) (N.b k) (k,N.a k)):=by
 refine⟨λi kw=>?_,λi=>?_⟩
 .have one:∀(S:Nat->List (Nat×Nat)) (x:Nat) (q:Nat×Nat),kw∈yg S x q i↔kw∈S i\/(i=x/\kw=q):=λS x q=>by
   unfold yg
   by_cases e:i=x
   .rw[ο e,t!,p!];simp[e]
   .rw[ξ e];simp[e]
  rw[one,one,h.mem];obtain⟨k',w⟩:=kw
  constructor
  .rintro((⟨h1,h2⟩|⟨rfl,h2⟩) | ⟨rfl,h2⟩)
   .exact⟨k_ h1,h2⟩
   .cases h2;exact⟨C_ _,.inl ⟨rfl,rfl⟩⟩
   .cases h2;exact⟨C_ _,.inr ⟨rfl,rfl⟩⟩
  .rintro⟨h1,h2⟩
   by_cases e:k'<k
   .exact .inl (.inl ⟨e,h2⟩)
   .have e:k' = k:=by have:k'<k+1:=h1;lia
    subst e;rcases h2 with⟨h3,h4⟩|⟨h3,h4⟩
    .exact .inl (.inr ⟨h3.symm,by have h4:N.b k' = w:=h4;rw[h4]⟩)
    .exact .inr ⟨h3.symm,by have h4:N.a k' = w:=h4;rw[h4]⟩
 .have one:∀(S:Nat->List (Nat×Nat)) (x:Nat) (q:Nat×Nat),58#(yg S x q i)<=(S i).length+1:=λS x q=>by
   unfold yg
   split
   .simp
   .lia
  have h1:=one (yg S (N.a k) (k,N.b k)) (N.b k) (k,N.a k);have h2:=one S (N.a k) (k,N.b k);have h3:=h.len i
  lia
end L2
namespace RM
def left(F:OW):Nat->Nat
 | 0=>0
 | p+1=>left F p+(if(F p false).isNone then 1 else 0)+(if(F p true).isNone then 1 else 0)
theorem AR{F G:OW}:∀{p:Nat},(∀x,x<p->∀s,F x s=G x s)->left F p=left G p
 | 0,_=>rfl
 | p+1,h=>by
   unfold left;rw[AR λx hx=>h x (by lia),h p (by lia),h p (by lia)]
theorem D7{F:OW}{x:Nat}{s:Bool}{d:Int×Nat}(hn:F x s=none):∀{p:Nat},x<p->left (pe F x s d) p<left F p
 | 0,h=>absurd h (l? _)
 | p+1,h=>by
   unfold left
   by_cases e:x=p
   .subst e;rw[AR (F:=pe F x s d) (G:=F) λy hy t=>dG λz=>by lia]
    cases s with
    | false=>rw[e8,dG (λz=>by cases z.2),hn];simp
    | true=>rw[e8,dG (λz=>by cases z.2),hn];simp
   .have ih:=D7 (F:=F) (x:=x) (s:=s) (d:=d) hn (p:=p) (by lia)
    rw[dG (λz=>e z.1.symm),dG (λz=>e z.1.symm)]
    lia
end RM
namespace L2
open PySem Ring
def YX(W:RM.OW)(k:List Key):List Int:=match k with
 | [.inl x,.inl s]=>(match W x.toNat (decide (s=1)) with | some d=>[d.1,(d.2:Int)] | none=>[])
 | _=>[]
def Nr{W:RM.OW}{x:Nat}{s:Bool}{d:Int×Nat}(h:W x s=some d):YX W (ky x s)=[d.1,(d.2:Int)]:=by
 have e:(decide (6#s.toNat=1))=s:=by cases s<;>rfl
 show(match W ((x:Int)).toNat (decide (6#s.toNat=1)) with | some d=>[d.1,(d.2:Int)] | none=>[])=_
 rw[a!,e,h]
def Nt(W:RM.OW)(kvs:50#V)(i:Nat):List Int:=YX W ((kvs[i]?.map (·.1)).getD [])
def BH{a b c d:Int}(h:HT.lexLt [a,b] [c,d]=false):c<=a:=by
 rw[HT.di]at h
 by_cases e:a=c
 .lia
 .rw[ξ e]at h;have:=of_decide_eq_false h
  lia
theorem AS{κ:Type}[DecidableEq κ]:∀{kvs:List (κ×V)} {k:κ} {v:V},(kvs.map (·.1)).Nodup->(k,v)∈kvs->fg kvs k=some v
 | [],_,_,_,h=>nomatch h
 | q::r,k,v,nd,h=>by
   rw[F!,O!]at nd;rcases h!.mp h with e|h
   .subst e;exact dw rfl
   .have ne : ¬ q.1=k:=λz=>nd.1 (by rw[z];exact M_ (f:=(·.1)) h)
    rw[c6 ne];exact AS nd.2 h
def yf.entry{p:Nat}{H0 H:Hp}{D wd:Addr}{es:70#0}{kvs:50#V}{F W:RM.OW}(h:yf p H0 D wd es kvs F W H){i:Nat}{kv:List Key×V}(e:kvs[i]?=some kv):
 ∃x s d c,x<p/\kv.1=ky x s/\W x s=some d/\fg kvs (ky x s)=some (.ref c)/\kv.2 = .ref c/\H c=10#([.int d.1,40#d.2])/\Nt W kvs i=[d.1,(d.2:Int)]:=by
 have hm:=gB e;obtain⟨x,s,hx,ek⟩:=h.keys kv hm;have hv:fg kvs (ky x s)=some kv.2:=AS h.kn (by rw[<-ek];exact hm)
 rcases h.val x s with⟨_,z⟩|⟨d,c,h1,h2,h3⟩
 .rw[hv]at z;cases z
 .rw[hv]at h2;refine⟨x,s,d,c,hx,ek,h1,hv.trans h2,18#h2,h3,?_⟩;unfold Nt;rw[e];show YX W kv.1=_;rw[ek];exact Nr h1
def yf.find{p:Nat}{H0 H:Hp}{D wd:Addr}{es:70#0}{kvs:50#V}{F W:RM.OW}(h:yf p H0 D wd es kvs F W H){x:Nat}{s:Bool}{d:Int×Nat}(e:W x s=some d):∃(i:Nat) (kv:List Key×V),kvs[i]?=some kv/\kv.1=ky x s/\Nt W kvs i=[d.1,(d.2:Int)]:=by
 rcases h.val x s with⟨z,_⟩|⟨d',c,h1,h2,h3⟩
 .rw[e]at z;cases z
 .have hm:=Qs h2;obtain⟨kv,hkv,ek⟩:=d!.mp hm;obtain⟨i,hi⟩:=N! hkv;refine⟨i,kv,hi,ek,?_⟩;unfold Nt;rw[hi];show YX W kv.1=_;rw[ek];exact Nr e
def yf.start{p:Nat}{H0 H:Hp}{D wd c:Addr}{es:70#0}{u:Nat}(f:FZ H0 D es (λ_ _=>none) H)(hu:u<p)(hw:H wd=some (.dT []))(h0:H0 wd=none)(hc:H c=10#([.int 0,.int 0])):
 yf p H0 D wd es [(ky u false,.ref c)] (λ_ _=>none) (RM.pe (λ_ _=>none) u false (0,0)) (η H wd (.dT [(ky u false,.ref c)])):=by
 have wD:wd≠D:=λz=>by rw[z,f.lst]at hw;cases hw
 have wE:wd∉es:=λz=>by
  obtain⟨j,hj⟩:=N! z;have:=f.at_ j wd hj;rw[hw]at this;cases this
 refine⟨f.same.put h0,f.nd,f.ne,f.fr,f.Dn,h0,wD,wE,by rw[ao (u! wD)];exact f.lst,λi b hb=>?_,aa,by simp,λkv hkv=>?_,λx s d e=>?_,λx s=>?_⟩
 .have nb:b≠wd:=λz=>wE (z▸gB hb)
  exact⟨.dZ,.dZ,by rw[ao nb];exact f.at_ i b hb,rfl,rfl⟩
 .rw[p!.mp hkv];exact⟨u,false,hu,rfl⟩
 .by_cases z:x=u/\s=false
  .rw[z.1];exact hu
  .rw[RM.dG z]at e;cases e
 .by_cases z:x=u/\s=false
  .obtain⟨rfl,rfl⟩:=z;exact .inr ⟨(0,0),c,RM.e8 _ _ _ _,dw rfl,by rw[ao (bg hc hw 12#0)];exact hc⟩
  .refine .inl ⟨RM.dG z,?_⟩;rw[c6 (λq=>z ?_),xG]
   obtain⟨e1,e2⟩:=F5 q;exact⟨e1.symm,e2.symm⟩
open PySem PySem.Spec PyProof.Rows
section
variable {P:Program}{w:World}{A:Around}{E:eG}{s:Shared}
def Nu{l:Addr}{u0 u1:Value}{Q:64#23#0}(hh:A.handled=none)(hl:s.heap.IsList l #[u0,u1])
 (hQ:∀h' tk,(∀b o,22#o->45#o)->Q [u0,u1] { s with heap:=h',toks:=tk}):wpAny (model P w) A (unpackItems (.ref l) 2 none) Q E s:=by
 obtain⟨ol,VF,hcl,nl,hdl⟩:=id hl;have hT:s.TypeIs (.ref l) "list":=⟨ol,VF,hcl⟩;have hne:l≠s.heap.objs.size:=q! (b! VF);unfold unpackItems;refine aR ?_;unfold notIterableAtAll;refine aR (wpAny_specialOf hT PySem.F.slot_list_iter.lookup (Ω ?_));simp only[V?,if_false];refine aR (J! (wpAny_pyIter_list hl ?_));have W:=Walks.list (prog:=P) (w:=w) (A:=A) hh s.heap.objs.size l hne #[u0,u1];generalize hg:33#{ cls:=.type "list_iterator",data:=.fields #[.ref l,.int 0 0]}=g0;have g0k:∀b o,22#o->71#g0.get?:=λb o e=>by rw[<-hg];exact l! _ e
 have g0i:g0.IsListIter s.heap.objs.size l 0:=by rw[<-hg];exact⟨_,E! _ rfl,rfl,rfl⟩
 have g0l:g0.IsList l #[u0,u1]:=by rw[<-hg];exact⟨ol,l! _ VF,hcl,nl,hdl⟩
 have nI:∀b o,22#o->b∉[s.heap.objs.size]:=λb o e z=>q! (b! e) (p!.mp z)
 refine aR (J! ?_);show wpAny _ _ (pyNext (19#.ref) >>= _) _ _ _;refine aR (W.item 0 _ _ _ 31#0 ⟨g0i,g0l⟩ λv1 h1 tk1 hv1 st1 k1=>?_)
 obtain rfl:u0=v1:=by simpa using hv1
 refine aR (J! ?_);show wpAny _ _ (pyNext (19#.ref) >>= _) _ _ _;refine aR (W.item 1 _ _ _ 31#0 st1 λv2 h2 tk2 hv2 st2 k2=>?_)
 obtain rfl:u1=v2:=by simpa using hv2
 refine aR (J! ?_);show wpAny _ _ (pure []) _ _ _;refine Ω (Ω (Ω ?_));rw[ξ 31#0]
 refine aR (J! (W.done _ _ _ st2 λh3 tk3 k3=>?_))
 simp only[Option.isSome_none,V?,if_false];exact Ω (hQ h3 tk3 λb o e=>k3 b o (nI b o e) (k2 b o (nI b o e) (k1 b o (nI b o e) (g0k b o e))))
def Nv{env:Env}{elts:List Expr}{x1}{pos:Pos}{l:Addr}{u0 u1:Value}{Q:64#Unit}(hh:A.handled=none)(hl:s.heap.IsList l #[u0,u1])
 (hn:58#(assignEach elts env)=2) (hstar:(assignEach elts env).findIdx? (·.1)=none)
 (h:∀h' tk,(∀b o,22#o->45#o)->wpAny (model P w) A (assignInOrder ((assignEach elts env).map (·.2)) [u0,u1]) Q E { s with heap:=h',toks:=tk}) :
 wpAny (model P w) A (assign (.Tuple elts x1 pos) env (.ref l)) Q E s:=by
 rw[arm_assign_Tuple];refine aR (wpAny_standAt ?_);unfold unpack;rw[hn,hstar];exact aR (J! (Nu hh hl h))
end
section
variable {X:Cx}{es:List Expr}{pos:Pos}
def Xf(K:b7)(t:OY):TG:=λv σ H Q=>∃a x y,v = .ref a/\aM K H a [x,y]/\t [x,y] σ H Q
def aaB(K:b7){k:Nat}{t:OY}(hc:X.calm=true)(h:Vt X es t)
 (hn:58#(assignEach es X.env)=2:=by rfl) (hst:(assignEach es X.env).findIdx? (·.1)=none:=by rfl) (hK:X.K=K:=by rfl):PG X (.Tuple es k pos) (Xf K t):=by
 subst hK;intro pq s σ H v u Q I r hw;obtain⟨a,x,y,e1,hq,hw⟩:=hw;subst e1;cases r;obtain⟨its,rv,ht,hz⟩:=I.list hq;cases rv with
 | cons r1 rr=>cases rr with
   | cons r2 rr2 =>
     cases rr2;refine Nv (I.ok.hd hc) ht.isList hn hst λh' tk hx=>?_
     exact h pq _ σ H [x,y] _ Q (I.kept (t':=tk) hx) (.cons r1 (.cons r2 .nil)) hw
end
end L2
namespace RM
section
variable {N:Net}{L:Nat->Int}{m u:Nat}
theorem vB{f g:59#0}:∀{n:Nat},(∀k,k<n->0<L k)->(∀k,k<n->f k=true->g k=true)->∀k,k<n->f k=false->g k=true->lsum L f n<lsum L g n
 | 0,_,_,k,hk,_,_=>absurd hk (l? _)
 | n+1,hL,h,k,hk,hf,hg=>by
   unfold lsum;have hn:=h n (by lia)
   have h0:=hL n (by lia)
   by_cases e:k=n
   .subst e;have:=p8 (L:=L) (f:=f) (g:=g) (n:=k) (λj hj=>_L (hL j (by lia))) λj hj=>h j (by lia)
    rw[hf,hg];simp only[V?,if_false,if_true]
    lia
   .have ih:=vB (n:=n) (λj hj=>hL j (by lia)) (λj hj=>h j (by lia)) k (by lia) hf hg
    cases hfn:f n with
    | false=>cases g n<;>simp<;>lia
    | true=>rw[hn hfn];simp;lia
def F6(hL:∀k,k<N.n->0<L k)(hu:u<N.p){z:Int}{e:Nat}(h:Wz N L m u u true z e)(hmin:∀x z',x<N.p->Wy N L m x x true z'->z<=z'):
 N.Ring e/\e<2^N.n/\N.par e m=true/\lsum L (λk=>e.testBit k) N.n=z:=by
 have Xg:∀k,k<N.n->0<=L k:=λk hk=>_L (hL k hk)
 obtain⟨pre,h⟩:=h;obtain⟨_,h2,h3,h4,h5,_⟩:=o6 Xg hu h;obtain⟨r,r1,r2,r3⟩:=xS _ e rfl h2 (λx _=>by rw[h3,E_]) h4
 have Fb:r<2^N.n:=eZ λk hk=>o5 h2 (r2 k hk)
 obtain⟨x,hx,hw⟩:=xR Xg m r1 Fb;rw[r3]at hw;have hz:=hmin x _ hx hw;have hle:=p8 (L:=L) (f:=λk=>r.testBit k) (g:=λk=>e.testBit k) Xg λk _ hk=>r2 k hk
 have er:e=r:=d? λk=>by
  cases hr:r.testBit k with
  | true=>exact r2 k hr
  | false =>
    cases he:e.testBit k with
    | false=>rfl
    | true =>
      have:=vB (L:=L) (f:=λk=>r.testBit k) (g:=λk=>e.testBit k) hL (λk _ hk=>r2 k hk) k (o5 h2 he) hr he
      lia
 rw[er];exact⟨r1,Fb,r3,by lia⟩
end
end RM
namespace L2
open PySem PySem.Spec PyProof.Rows
section
variable {X:Cx}{pq:aW}{σ:St}{H:Hp}{l It S:Addr}{cs:70#0}{ks:Nat->List Int}{R:64#Result}
def nq{pa:aW}{s:Shared}(I:θ X pa σ H s)(hl:aM X.K H l (cs.map V.ref)):s.heap.IsList l (cs.map Value.ref).toArray:=by
 obtain⟨its,rv,p,hz⟩:=I.list hl;have e:its=cs.map Value.ref:=by
  clear hl p hz
  induction cs generalizing its with
  | nil=>cases rv;rfl
  | cons c r ih =>
    rw[F!]at rv;cases rv with
    | cons h t=>cases h;rw[ih _ t];rfl
 rw[e]at p;exact p.isList
def JS(hh:X.A.handled=none)(un:X.A.in1.units<cLine)(hl:aM X.K H l (cs.map V.ref))(hk:∀(i:Nat) c,cs[i]?=some c->aL X.K H c ((ks i).map V.int))(oS:F0 X S)(oI:F0 X It)(SI:S≠It)(lI:l≠It)
 (pI:∀p∈pq,p.1≠It) (pS:∀p∈pq,p.1≠S)
 (hR:∀(i:Nat) c s',cs[i]?=some c->(∀j,j<cs.length->HT.lexLt (ks j) (ks i)=false)->5#s'->R (.ok (.ret (.ref c))) s') :
 ∀(r j i:Nat) (c:Addr) (s:Shared) (n:Nat) (Ll:Obj),cs.length-j=r->j<=cs.length->i<j->cs[i]?=some c->θ X ((S,seqObj "list" #[.ref c,.ref c] n)::(It,Ll)::pq) σ H s->s.heap.IsListIter It l j->
  (∀j',j'<j->HT.lexLt (ks j') (ks i)=false)->codeAny 9#0 X.A (.builtin "min.loop" ⟨[.ref It,.none,.ref S],[]⟩) R s:=by
 have hname:(toString "min" ++ toString ".loop":String)="min.loop":=16#0
 have W:=Walks.list (prog:=X.prog) (w:=X.w) (A:=X.A.in1) hh It l lI (cs.map Value.ref).toArray;have hsz:(cs.map Value.ref).toArray.size=cs.length:=by simp
 intro r
 induction r with
 | zero =>
   intro j i c s n Ll hr hj hij hc I hit sL;have E8:j=cs.length:=by lia
   have ye:=I.pin (S,_) (62#jL);refine codeAny_builtin x_ ?_;rw[Around.under_plainId r? _];show 63#(seqItems? (.ref S) >>= _);refine aR (wpAny_seqItems ye.1 rfl ?_);show 63#(tryCatch (pyNext (.ref It)) _ >>= _);refine aR (Y? (W.done _ _ _ ⟨by rw[hsz,<-E8];exact hit,nq I hl⟩ λh' tk' hk'=>?_))
   have I1:=I.lW (t':=tk') (h':=h') (pb:=(S,seqObj "list" #[.ref c,.ref c] n)::pq) oI (62#List.Mem.tail) (λb u hb e=>hk' b u (by simpa using hb) e) (λp hp=>by
    show 26
    .exact .inr ⟨.head _,SI⟩
    .exact .inr ⟨.tail _ (.tail _ hp),pI p hp⟩)
   have Nk:=I1.pin (S,_) (62#jL);show 63#(updateSeq S (λ_=>#[]) >>= _)
   refine aR (wpAny_updateSeq Nk.1 rfl (aR (wpAny_letGo (Ω ?_))));have s1:=i? h' S 86#(λ_=>(#[]:42#0))
   exact hR i c _ hc (λj' hj'=>sL j' (by lia)) (I1.lW (t':=tk') (pb:=pq) oS (.head _) (λb u hb e=>(s1.2 b hb).trans e) λp hp=>.inr ⟨.tail _ hp,pS p hp⟩)
 | succ r ih =>
   intro j i c s n Ll hr hj hij hc I hit sL;have E8:j<cs.length:=by lia
   have ye:=I.pin (S,_) (62#jL);refine codeAny_builtin x_ ?_;rw[Around.under_plainId r? _];show 63#(seqItems? (.ref S) >>= _);refine aR (wpAny_seqItems ye.1 rfl ?_);show 63#(tryCatch (pyNext (.ref It)) _ >>= _);refine aR (Y? (W.item j _ _ _ (by rw[hsz];exact E8) ⟨hit,nq I hl⟩ λv h' tk' hv st' hk'=>?_))
   have VG:cs[j]?=some cs[j]:=i! E8;obtain rfl:v = .ref cs[j]:=by
    have:(cs.map Value.ref)[j]?=some v:=by simpa using hv
    rw[c!,VG]at this;exact(18#this).symm
   obtain⟨O5,Nx,hoc,hod⟩:=id st'.1;have I1:=I.lW (t':=tk') (h':=h') (pb:=(S,seqObj "list" #[.ref c,.ref c] n)::(It,O5)::pq) oI (62#List.Mem.tail) (λb u hb e=>hk' b u (by simpa using hb) e) (λp hp=>by
    show 26
    .exact .inr ⟨.head _,SI⟩
    .show 26
     .exact .inl ⟨rfl,Nx,λv z=>by rw[hod]at z;cases z⟩
     .exact .inr ⟨.tail _ (.tail _ hp),pI p hp⟩)
   have o9:=I1.pin (S,_) (62#jL);show 63#(tryCatch (holding [.ref cs[j],.ref cs[j]] (richCompare .Lt (.ref cs[j]) (.ref c) >>= _)) _ >>= _);refine aR (Y? (J! (aR (Nh I1 (hk j _ VG) (hk i c hc) un ?_))));refine aR (J! (wpAny_truthy_bool (aR (wpAny_letGo (Ω ?_)))));cases hlt:HT.lexLt (ks j) (ks i) with
   | true =>
     have s1:=i? h' S 86#(λ_=>(#[.ref cs[j],.ref cs[j]]:42#0))
     obtain⟨n2,hn2⟩:∃n2,(h'.update S 86#(λ_=>(#[.ref cs[j],.ref cs[j]]:42#0))).get? S=some (seqObj "list" #[.ref cs[j],.ref cs[j]] n2):=⟨_,get?_update_seq o9.1 λ_=>#[.ref cs[j],.ref cs[j]]⟩
     simp only[if_true];refine aR (wpAny_updateSeq o9.1 rfl (aR (wpAny_letGo ?_)));rw[hname];have I3:=I1.lW (t':=tk') (pb:=(S,seqObj "list" #[.ref cs[j],.ref cs[j]] n2)::(It,O5)::pq) oS (.head _) (λb u hb e=>(s1.2 b hb).trans e) (λp hp=>by
      show 26
      .exact .inl ⟨rfl,hn2,λv z=>by cases z⟩
      .show 26
       .exact .inr ⟨62#.tail,SI.symm⟩
       .exact .inr ⟨.tail _ (.tail _ hp),pS p hp⟩)
     refine Ω ⟨plainId_quiet r? _,ih (j+1) j cs[j] _ n2 O5 (by lia) (by lia) (by lia) VG I3 ⟨O5,(s1.2 It SI.symm).trans Nx,hoc,hod⟩ λj' hj'=>?_⟩
     by_cases e:j' = j
     .rw[e];exact HT.fX _
     .exact HT.yb (sL j' (by lia)) hlt
   | false =>
     simp only[V?,if_false];refine aR (wpAny_letGo ?_);rw[hname];refine Ω ⟨plainId_quiet r? _,ih (j+1) i c _ n O5 (by lia) (by lia) (by lia) hc I1 st'.1 λj' hj'=>?_⟩
     by_cases e:j' = j
     .rw[e];exact hlt
     .exact sL j' (by lia)
def aaC(hr:X.A.handled=none)(un:X.A.in1.units<cLine):fc X (.builtin "min") (λxs H Q=>∃(l:Addr) (cs:70#0) (ks:Nat->List Int),xs=[.ref l]/\aM X.K H l (cs.map V.ref)/\0<cs.length/\(∀(i:Nat) c,cs[i]?=some c->aL X.K H c ((ks i).map V.int))/\
 ∀(i:Nat) c,cs[i]?=some c->(∀j,j<cs.length->HT.lexLt (ks j) (ks i)=false)->Q (.ref c) H):=by
 intro pq s σ H xs us Q I r h;obtain⟨l,cs,ks,rfl,hl,hne,hk,q⟩:=h;obtain⟨u,rfl,rx⟩:=vals1 r;cases rx;have hname:(toString "min" ++ toString ".loop":String)="min.loop":=16#0
 have hls:=nq I hl;obtain⟨ol,VF,_⟩:=id hls;have hll:l<s.heap.objs.size:=b! VF;refine call_function_tree PySem.F.kind_min PySem.F.plain_min PySem.F.entry_min (PySem.F.args_min1 _) ?_;show wpAny _ X.A.in1 (Builtin.Builtins.bindParams "min" ["key","default"] 0 ⟨[],[]⟩ >>= _) _ _ s;refine aR (wpAny_of_eq (show Builtin.Builtins.bindParams "min" ["key","default"] 0 ⟨[],[]⟩=pure [none,none] from rfl) ?_)
 refine aR (Ω (aR (wpAny_pyIter_list hls (aR (wpAny_newList ?_ (v! _))))));rw[hname];refine Ω ⟨plainId_quiet r? _,?_⟩;generalize Uk:({ cls:=.type "list_iterator",data:=.fields #[.ref l,.int 0 0]}:Obj)=oI;have hS:49#(33#oI)=s.heap.objs.size+1:=size_push' ..;have hk2:∀b o,22#o->71#((33#oI).push (seqObj "list" #[] 0)).get?:=λb o e=>l! _ (l! _ e)
 have gI:19#((33#oI).push (seqObj "list" #[] 0)).get?=some oI:=l! _ (E! _ (by rw[<-Uk];rfl))
 have gS:((33#oI).push (seqObj "list" #[] 0)).get? 49#(33#oI)=some (seqObj "list" #[] 0):=E! _ rfl;have QJ:∀p∈pq,p.1<s.heap.objs.size:=λp hp=>b! (I.pin p (jL _ hp)).1
 have RW:=I.Nf (19#Z');have oS:=I.Nf (b:=49#(33#oI)) (by rw[hS];exact G? _)
 have SI:49#(33#oI)≠s.heap.objs.size:=by rw[hS];exact _v _
 have lI:l≠s.heap.objs.size:=q! hll;have pI:∀p∈pq,p.1≠s.heap.objs.size:=λp hp=>q! (QJ p hp)
 have pS:∀p∈pq,p.1≠49#(33#oI):=λp hp=>by rw[hS];exact q! (k_ (QJ p hp))
 have J:θ X ((49#(33#oI),seqObj "list" #[] 0)::(s.heap.objs.size,oI)::pq) σ H { s with heap:=(33#oI).push (seqObj "list" #[] 0)}:=by
  have K:=I.kept (t':=s.toks) hk2;refine K.iJ λp hp=>?_
  show 26
  .exact⟨gS,I.hok.fresh (by rw[hS];exact G? _),oS.2.1,oS.2.2.1,λv z=>by cases z⟩
  .show 26
   .exact⟨gI,I.hok.fresh (Z' _),RW.2.1,RW.2.2.1,λv z=>by rw[<-Uk]at z;cases z⟩
   .exact K.pin p (jL _ hp)
 have W:=Walks.list (prog:=X.prog) (w:=X.w) (A:=X.A.in1) hr s.heap.objs.size l lI (cs.map Value.ref).toArray;have ye:=J.pin (49#(33#oI),seqObj "list" #[] 0) (62#jL);refine codeAny_builtin x_ ?_;rw[Around.under_plainId r? _];show 63#(seqItems? (.ref _) >>= _);refine aR (wpAny_seqItems ye.1 rfl ?_);show 63#(tryCatch (pyNext (19#.ref)) _ >>= _);refine aR (Y? (W.item 0 _ _ _ (by simpa using hne) ⟨⟨oI,gI,by rw[<-Uk],by rw[<-Uk];rfl⟩,nq J hl⟩ λv h' tk' hv st' hk'=>?_))
 have VG:cs[0]?=some cs[0]:=i! hne;obtain rfl:v = .ref cs[0]:=by
  have:(cs.map Value.ref)[0]?=some v:=by simpa using hv
  rw[c!,VG]at this;exact(18#this).symm
 obtain⟨O5,Nx,hoc,hod⟩:=id st'.1;have I1:=J.lW (t':=tk') (h':=h') (pb:=(49#(33#oI),seqObj "list" #[] 0)::(s.heap.objs.size,O5)::pq) RW (62#List.Mem.tail) (λb u hb e=>hk' b u (by simpa using hb) e) (λp hp=>by
  show 26
  .exact .inr ⟨.head _,SI⟩
  .show 26
   .exact .inl ⟨rfl,Nx,λv z=>by rw[hod]at z;cases z⟩
   .exact .inr ⟨.tail _ (.tail _ hp),pI p hp⟩)
 have o9:=I1.pin (49#(33#oI),_) (62#jL);have s1:=i? h' 49#(33#oI) 86#(λ_=>(#[.ref cs[0],.ref cs[0]]:42#0))
 obtain⟨n2,hn2⟩:∃n2,(h'.update 49#(33#oI) 86#(λ_=>(#[.ref cs[0],.ref cs[0]]:42#0))).get? 49#(33#oI)=some (seqObj "list" #[.ref cs[0],.ref cs[0]] n2):=⟨_,get?_update_seq o9.1 λ_=>#[.ref cs[0],.ref cs[0]]⟩
 show 63#(updateSeq 49#(33#oI) (λ_=>#[.ref cs[0],.ref cs[0]]) >>= _)
 refine aR (wpAny_updateSeq o9.1 rfl ?_);rw[hname];have I3:=I1.lW (t':=tk') (pb:=(49#(33#oI),seqObj "list" #[.ref cs[0],.ref cs[0]] n2)::(s.heap.objs.size,O5)::pq) oS (.head _) (λb u hb e=>(s1.2 b hb).trans e) (λp hp=>by
  show 26
  .exact .inl ⟨rfl,hn2,λv z=>by cases z⟩
  .show 26
   .exact .inr ⟨62#.tail,SI.symm⟩
   .exact .inr ⟨.tail _ (.tail _ hp),pS p hp⟩)
 refine Ω ⟨plainId_quiet r? _,JS hr un hl hk oS RW SI lI pI pS (λi c s' hc best I7=>⟨.ref c,H,I7,rfl,q i c hc best⟩) _ 1 0 cs[0] _ n2 O5 rfl hne (C_ _) VG I3 ⟨O5,(s1.2 _ SI.symm).trans Nx,hoc,hod⟩ λj hj=>?_⟩
 have e:j=0:=by lia
 rw[e];exact HT.fX _
end
end L2
namespace RM
section
variable {N:Net}{L:Nat->Int}{m:Nat}
structure yh(N:Net)(L:Nat->Int)(m:Nat)(z:Int)(e:Nat):Prop where
 ring:N.Ring e
 lt:e<2^N.n
 par:N.par e m=true
 len:lsum L (λk=>e.testBit k) N.n=z
 way:∃x,x<N.p/\Wy N L m x x true z
 min:∀x z',x<N.p->Wy N L m x x true z'->z<=z'
def yh.least(hL:∀k,k<N.n->0<=L k){z:Int}{e r:Nat}(h:yh N L m z e)(hr:N.Ring r)(lr:r<2^N.n)(pr:N.par r m=true):z<=lsum L (λk=>r.testBit k) N.n:=by
 obtain⟨x,hx,hw⟩:=xR hL m hr lr;rw[pr]at hw;exact h.min x _ hx hw
end
end RM
namespace L2
open PySem PySem.Spec PyProof.Rows PySem.W
def Ξ(r:Nat->Int){α:Type}:KasT α->α
 | .ret a=>a
 | .ask i j k=>Ξ r (k (7#(r i<r j)))
section
variable {r:Nat->Int}
theorem kH{α β:Type}{f:α->KasT β}:∀(t:KasT α),Ξ r (t.bind f)=Ξ r (f (Ξ r t))
 | .ret a=>by rw[KasT.bind.eq_1];rfl
 | .ask i j k=>by
   rw[KasT.bind.eq_2];exact kH (k _)
theorem Iv{n:Nat}{α:Type}{R:α->Prop}{cmp:Nat->Nat->64#(Bool->Shared->Prop)}{Q:64#α}{s:Shared}(hc:∀i j C,i<n->j<n->C (7#(r i<r j)) s->cmp i j C s):∀{t:KasT α},zx n R t->(R (Ξ r t)->Q (Ξ r t) s)->KasT.kasWp cmp t Q s
 | .ret a,h,q=>q h
 | .ask i j k,h,q=>hc i j _ h.1 h.2.1 (Iv hc (h.2.2 _) q)
def Kr(r:Nat->Int)(p:Array Nat)(i:Nat):Int:=r (p.getD i 0)
def yi(p:Array Nat)(i:Nat):Kr r p i=r ((p[i]?).getD 0):=by
 unfold Kr;rw[Array.getD_eq_getD_getElem?]
def BI{p:Array Nat}{i j:Nat}(hj:j<=p.size)(k:Nat):Kr r (kas_rev p i j) k=if i<=k/\k<j then Kr r p (i+j-1-k) else Kr r p k:=by
 have e:=getElem?_mirror_all (i:=i) hj k;unfold kas_rev;rw[yi,e]
 split
 .rw[yi]
 .rw[yi]
def Ny{p:Array Nat}{src d:Nat}(hs:src<p.size)(hd:d<=src)(k:Nat):Kr r (bubble p src d) k=if k=src-d then Kr r p src else if src-d<k/\k<=src then Kr r p (k-1) else Kr r p k:=by
 have e:=getElem?_bubble hs d hd k;rw[yi,e]
 split
 .rw[yi]
 .split
  .rw[yi]
  .rw[yi]
def pB(p:Array Nat)(i j:Nat):(kas_rev p i j).size=p.size:=mirror_size _ _ _ _
def Up(r:Nat->Int)(p:Array Nat)(n:Nat):Prop:=∀i,1<=i->i<n->Kr r p (i-1)<=Kr r p i
def Up.le{p:Array Nat}{n:Nat}(h:Up r p n):∀{i j:Nat},i<=j->j<n->Kr r p i<=Kr r p j:=by
 intro i j hij;obtain⟨d,rfl⟩:=_U hij;clear hij
 induction d with
 | zero=>intro _;exact H? _
 | succ d ih =>
   intro hj;have h1:=ih (by lia)
   have h2:=h (i+(d+1)) (by lia) hj
   rw[show i+(d+1)-1=i+d by lia]at h2
   lia
theorem F8{p:Array Nat}:∀(f n:Nat),1<=n->Up r p n->n<=Ξ r (kas_asc p f n)/\Ξ r (kas_asc p f n)<=n+f/\Up r p (Ξ r (kas_asc p f n))/\(Ξ r (kas_asc p f n)<n+f->Kr r p (Ξ r (kas_asc p f n))<Kr r p (Ξ r (kas_asc p f n)-1))
 | 0,n,_,h=>by
   rw[kas_asc.eq_1];exact⟨Z' n,Z' n,h,λz=>absurd z (w? n)⟩
 | f+1,n,h1,h=>by
   rw[kas_asc.eq_2];show n<=Ξ r (78#7#(Kr r p n<Kr r p (n-1)))/\Ξ r (78#7#(Kr r p n<Kr r p (n-1)))<=_/\Up r p (Ξ r (78#7#(Kr r p n<Kr r p (n-1))))/\_
   by_cases c:Kr r p n<Kr r p (n-1)
   .show n<=Ξ r (78#7#(Kr r p n<Kr r p (n-1)))/\Ξ r (78#7#(Kr r p n<Kr r p (n-1)))<=_/\Up r p (Ξ r (78#7#(Kr r p n<Kr r p (n-1))))/\(Ξ r (78#7#(Kr r p n<Kr r p (n-1)))<_->Kr r p (Ξ r (78#7#(Kr r p n<Kr r p (n-1))))<Kr r p (Ξ r (78#7#(Kr r p n<Kr r p (n-1)))-1))
    rw[ο (cH c)];exact⟨Z' n,q_ _ _,h,λ_=>c⟩
   .show n<=Ξ r (78#7#(Kr r p n<Kr r p (n-1)))/\Ξ r (78#7#(Kr r p n<Kr r p (n-1)))<=_/\Up r p (Ξ r (78#7#(Kr r p n<Kr r p (n-1))))/\(Ξ r (78#7#(Kr r p n<Kr r p (n-1)))<_->Kr r p (Ξ r (78#7#(Kr r p n<Kr r p (n-1))))<Kr r p (Ξ r (78#7#(Kr r p n<Kr r p (n-1)))-1))
    rw[ξ (by simpa using c)]
    have ih:=F8 (p:=p) f (n+1) (by lia) (λi hi hn=>by
     by_cases e:i=n
     .rw[e];lia
     .exact h i hi (by lia))
    refine⟨by lia,by lia,ih.2.2.1,λz=>ih.2.2.2 (by lia)⟩
def Down(r:Nat->Int)(p:Array Nat)(n q:Nat):Prop:=(∀i,1<=i->i<n->Kr r p i<=Kr r p (i-1))/\q+1<=n/\∀i,n-(q+1)<=i->i<n->Kr r p i=Kr r p (n-1)
def Down.rev{p:Array Nat}{n q:Nat}(h:Down r p n q)(hn:n<=p.size)(k:Nat):Kr r (kas_rev p (n-(q+1)) n) k=Kr r p k:=by
 rw[BI hn]
 split
 .rename_i hk
  rw[h.2.2 _ (by lia) (by have:=h.2.1;lia),h.2.2 k hk.1 hk.2]
 .rfl
theorem qb:∀(f:Nat) {p:Array Nat} {n q:Nat},n+f<=p.size->Down r p n q->
 (Ξ r (kas_desc f p n q)).1.size=p.size/\n<=(Ξ r (kas_desc f p n q)).2.1/\(Ξ r (kas_desc f p n q)).2.1<=n+f/\Down r (Ξ r (kas_desc f p n q)).1 (Ξ r (kas_desc f p n q)).2.1 (Ξ r (kas_desc f p n q)).2.2
 | 0,p,n,q,_,h=>by
   rw[kas_desc.eq_1];exact⟨rfl,Z' n,Z' n,h⟩
 | f+1,p,n,q,hs,h=>by
   rw[kas_desc.eq_2];obtain⟨h1,h2,h3⟩:=id h
   by_cases c:Kr r p n<Kr r p (n-1)
   .have dn:∀p' : Array Nat,(∀k,Kr r p' k=Kr r p k)->Down r p' (n+1) 0:=λp' e=>by
     refine⟨λi hi hn=>?_,by lia,λi hi hn=>by rw[show i=n+1-1 by lia]⟩
     rw[e,e]
     by_cases z:i=n
     .rw[z];lia
     .exact h1 i hi (by lia)
    have e0:∀(T1 T2:KasT (Array Nat×Nat×Nat)),Ξ r (KasT.ask (p.getD n 0) (p.getD (n-1) 0) λc=>if c=true then T1 else T2)=Ξ r T1:=λT1 T2=>by
     show Ξ r (if 7#(Kr r p n<Kr r p (n-1))=true then T1 else T2)=_
     rw[ο (cH c)]
    rw[e0]
    by_cases hq:q > 0
    .rw[ο hq];have ih:=qb f (p:=kas_rev p (n-(q+1)) n) (n:=n+1) (q:=0) (by rw[pB];lia) (dn _ (h.rev (by lia)))
     rw[pB]at ih;exact⟨ih.1,by lia,by lia,ih.2.2.2⟩
    .rw[ξ hq];have ih:=qb f (p:=p) (n:=n+1) (q:=0) (by lia) (dn _ λ_=>rfl)
     exact⟨ih.1,by lia,by lia,ih.2.2.2⟩
   .have e0:∀(T1 T2:KasT (Array Nat×Nat×Nat)),Ξ r (KasT.ask (p.getD n 0) (p.getD (n-1) 0) λc=>if c=true then T1 else T2)=Ξ r T2:=λT1 T2=>by
     show Ξ r (if 7#(Kr r p n<Kr r p (n-1))=true then T1 else T2)=_
     rw[ξ (by simpa using c)]
    rw[e0]
    by_cases d:Kr r p (n-1)<Kr r p n
    .have e1:∀(T1 T2:KasT (Array Nat×Nat×Nat)),Ξ r (KasT.ask (p.getD (n-1) 0) (p.getD n 0) λc=>if c=true then T1 else T2)=Ξ r T1:=λT1 T2=>by
      show Ξ r (if 7#(Kr r p (n-1)<Kr r p n)=true then T1 else T2)=_
      rw[ο (cH d)]
     rw[e1];exact⟨rfl,Z' n,q_ _ _,h⟩
    .have e1:∀(T1 T2:KasT (Array Nat×Nat×Nat)),Ξ r (KasT.ask (p.getD (n-1) 0) (p.getD n 0) λc=>if c=true then T1 else T2)=Ξ r T2:=λT1 T2=>by
      show Ξ r (if 7#(Kr r p (n-1)<Kr r p n)=true then T1 else T2)=_
      rw[ξ (by simpa using d)]
     rw[e1];have ih:=qb f (p:=p) (n:=n+1) (q:=q+1) (by lia) ⟨λi hi hn=>by
      by_cases z:i=n
      .rw[z];lia
      .exact h1 i hi (by lia),by lia,λi hi hn=>by
      rw[show n+1-1=n by lia]
      by_cases z:i=n
      .rw[z]
      .have:=h3 i (by lia) (by lia)
       lia⟩
     exact⟨ih.1,by lia,by lia,ih.2.2.2⟩
def D9(r:Nat->Int)(n:Nat)(x:Nat×Array Nat):Prop:=x.2.size=n/\1<=x.1/\x.1<=n/\Up r x.2 x.1
def Ea{n nrem:Nat}{p:Array Nat}{q:Nat}(h:Down r p n q)(hn:1<=n)(hle:n<=nrem)(hs:p.size=nrem):D9 r nrem (Ξ r (kas_tail3 n nrem p)):=by
 have up:Up r (kas_rev p 0 n) n:=λi hi hi2=>by
  rw[BI (by lia),BI (by lia),ο (by lia),ο (by lia)]
  have:=h.1 (0+n-1-(i-1)) (by lia) (by lia)
  rw[show 0+n-1-(i-1)-1=0+n-1-i by lia]at this
  exact this
 have a:=F8 (nrem-n) n hn up;unfold kas_tail3;rw[kH];exact⟨by show(kas_rev p 0 n).size=nrem;rw[pB,hs],by show 1<=Ξ r _;lia,by show Ξ r _<=nrem;lia,a.2.2.1⟩
def Down.congr{p p' : Array Nat}{n q:Nat}(h:Down r p n q)(e:∀k,Kr r p' k=Kr r p k):Down r p' n q:=⟨λi h1 h2=>by rw[e,e];exact h.1 i h1 h2,h.2.1,λi h1 h2=>by rw[e,e];exact h.2.2 i h1 h2⟩
def Eb{n nrem:Nat}{p:Array Nat}(hn:1<=n)(hle:n+1<=nrem)(hs:p.size=nrem)(heq:∀i,i<n->Kr r p i=Kr r p (n-1))(hlt:Kr r p n<Kr r p (n-1)):D9 r nrem (Ξ r (kas_descPart n nrem p)):=by
 have d0:Down r p (n+1) 0:=⟨λi h1 h2=>by
  by_cases z:i=n
  .rw[z];lia
  .rw[heq i (by lia),heq (i-1) (by lia)]
   exact H? _,by lia,λi h1 h2=>by rw[show i=n+1-1 by lia]⟩
 have d:=qb (nrem-(n+1)) (p:=p) (n:=n+1) (q:=0) (by lia) d0
 unfold kas_descPart;rw[kH];generalize Ξ r (kas_desc (nrem-(n+1)) p (n+1) 0)=x at d;obtain⟨d1,d2,d3,d4⟩:=d
 by_cases hq:x.2.2 > 0
 .rw[ο hq];exact Ea (d4.congr (d4.rev (by lia))) (by lia) (by lia) (by rw[pB,d1,hs])
 .rw[ξ hq];exact Ea d4 (by lia) (by lia) (by rw[d1,hs])
def JT{nrem:Nat}{p:Array Nat}(h1:1<=nrem)(hs:p.size=nrem):D9 r nrem (Ξ r (kas_count nrem p)):=by
 have a:=F8 (r:=r) (p:=p) (nrem-1) 1 (Z' 1) (λi hi hn=>by lia)
 unfold kas_count;rw[kH];generalize Ξ r (kas_asc p (nrem-1) 1)=n at a;obtain⟨a1,a2,a3,a4⟩:=a
 by_cases e:(n==nrem)=true
 .rw[ο e];exact⟨hs,a1,by show n<=nrem;lia,a3⟩
 .rw[ξ e];have e:n≠nrem:=by simpa using e
  have hlt:=a4 (by lia)
  by_cases h2:n > 1
  .rw[ο h2]
   by_cases c:Kr r p 0<Kr r p (n-1)
   .show D9 r nrem (Ξ r (78#7#(Kr r p 0<Kr r p (n-1))))
    rw[ο (cH c)];exact⟨hs,a1,by show n<=nrem;lia,a3⟩
   .show D9 r nrem (Ξ r (78#7#(Kr r p 0<Kr r p (n-1))))
    rw[ξ (by simpa using c)]
    have all:∀i,i<n->Kr r p i=Kr r p (n-1):=λi hi=>by
     have l1:=a3.le (show 0<=i by lia) hi
     have l2:=a3.le (show i<=n-1 by lia) (by lia)
     lia
    have er:∀k,Kr r (kas_rev p 0 n) k=Kr r p k:=λk=>by
     rw[BI (by lia)]
     split
     .rw[all _ (by lia),all k (by lia)]
     .rfl
    exact Eb a1 (by lia) (by rw[pB,hs]) (λi hi=>by rw[er,er];exact all i hi) (by rw[er,er];exact hlt)
  .rw[ξ h2];have e1:n=1:=by lia
   subst e1;exact Eb a1 (by lia) hs (λi hi=>by rw[show i=1-1 by lia]) hlt
theorem yj{p:Array Nat}{k:Nat}(up:Up r p k):∀(f l u:Nat),u-l<=f->l<=u->u<=k->(∀i,i<l->Kr r p i<=Kr r p k)->(∀i,u<=i->i<k->Kr r p k<Kr r p i)->
 Ξ r (kas_place p k f l u)<=k/\(∀i,i<Ξ r (kas_place p k f l u)->Kr r p i<=Kr r p k)/\∀i,Ξ r (kas_place p k f l u)<=i->i<k->Kr r p k<Kr r p i
 | 0,l,u,hf,hlu,huk,h1,h2=>by
   rw[kas_place.eq_1];have e:l=u:=by lia
   subst e;exact⟨huk,h1,h2⟩
 | f+1,l,u,hf,hlu,huk,h1,h2=>by
   rw[kas_place.eq_2]
   by_cases hx:l ≥ u
   .rw[ο hx];have e:l=u:=by lia
    subst e;exact⟨huk,h1,h2⟩
   .rw[ξ hx]
    by_cases c:Kr r p k<Kr r p ((l+u)/2)
    .have e0:∀(T1 T2:KasT Nat),Ξ r (KasT.ask (p.getD k 0) (p.getD ((l+u)/2) 0) λc=>if c=true then T1 else T2)=Ξ r T1:=λT1 T2=>by
      show Ξ r (if 7#(Kr r p k<Kr r p ((l+u)/2))=true then T1 else T2)=_
      rw[ο (cH c)]
     rw[e0];exact yj up f l ((l+u)/2) (by lia) (by lia) (by lia) h1 λi hi hk=>by
      have:=up.le hi hk
      lia
    .have e0:∀(T1 T2:KasT Nat),Ξ r (KasT.ask (p.getD k 0) (p.getD ((l+u)/2) 0) λc=>if c=true then T1 else T2)=Ξ r T2:=λT1 T2=>by
      show Ξ r (if 7#(Kr r p k<Kr r p ((l+u)/2))=true then T1 else T2)=_
      rw[ξ (by simpa using c)]
     rw[e0];exact yj up f ((l+u)/2+1) u (by lia) (by lia) huk (λi hi=>by
      have:=up.le (show i<=(l+u)/2 by lia) (by lia)
      lia) h2
theorem Nz:∀(f:Nat) {p:Array Nat} {k:Nat},k+f<=p.size->Up r p k->Up r (Ξ r (kas_bin f p k)) (k+f)
 | 0,p,k,_,h=>by
   rw[kas_bin.eq_1];exact h
 | f+1,p,k,hs,h=>by
   rw[kas_bin.eq_2,kH];have pl:=yj h k 0 k (by lia) (by lia) (Z' k) (λi hi=>by lia) (λi h1 h2=>by lia)
   generalize Ξ r (kas_place p k k 0 k)=l at pl;obtain⟨p1,p2,p3⟩:=pl;have up:Up r (bubble p k (k-l)) (k+1):=λi hi hk=>by
    rw[Ny (by lia) (by lia),Ny (by lia) (by lia),show k-(k-l)=l by lia]
    by_cases c1:i=l
    .rw[ξ (by lia),ξ (by lia),ο c1]
     exact p2 (i-1) (by lia)
    .rw[ξ c1]
     by_cases c2:l<i/\i<=k
     .rw[ο c2]
      by_cases c3:i-1=l
      .rw[ο c3];exact _L (p3 (i-1) (by lia) (by lia))
      .rw[ξ c3,ο (by lia)]
       exact h (i-1) (by lia) (by lia)
     .rw[ξ c2,ξ (by lia),ξ (by lia)]
      exact h i hi (by lia)
   have:=Nz f (p:=bubble p k (k-l)) (k:=k+1) (by rw[bubble_size];lia) up
   rw[show k+(f+1)=k+1+f by lia]
   exact this
def QM{n:Nat}(hn:1<=n):Up r (Ξ r (kas_sort n)) n:=by
 unfold kas_sort;rw[kH];have c:=JT (r:=r) (p:=List.toArray 13#n) hn 31#0
 generalize Ξ r (kas_count n (List.toArray 13#n))=x at c;obtain⟨c1,c2,c3,c4⟩:=c
 by_cases hx:x.1<n
 .rw[ο hx];have:=Nz (n-max x.1 1) (p:=x.2) (k:=max x.1 1) (by lia) (by rw[show max x.1 1=x.1 by lia];exact c4)
  rw[show max x.1 1+(n-max x.1 1)=n by lia]at this
  exact this
 .rw[ξ hx];have e:x.1=n:=by lia
  rw[e]at c4;exact c4
end
def BJ:bootBuiltins "sorted"=some (.builtin "sorted"):=by kernel_rfl
def kx(z:Int×Int):Int:=z.1*1073741824+z.2
def O6(z:Int×Int):Prop:=0<=z.2/\z.2<1073741824
section
variable {X:Cx}{pq:aW}{σ:St}{H H2:Hp}{s:Shared}
def θ.QN{a:Addr}{xs:List V}{ob:Obj}(I:5#s)(e:H a=1#xs)(ho:s.heap.get? a=some ob):θ X pq σ (η H a (.m9 ob (.lst xs))) s:=by
 have ne:∀b,H b=none->b≠a:=λb h z=>by rw[z,e]at h;cases h
 refine⟨I.ok,I.os,I.bare,⟨I.base.keep,I.base.slot,λb o q n hx=>?_,I.base.there,λb xs q=>?_,λb o u q=>?_,λb ps q=>?_⟩,I.loc,I.cell,?_,λx c q=>?_,λp hp=>?_,λb u q=>?_,I.len⟩
 .have z:=I.base.free b o q n hx;rw[ao (ne b z)];exact z
 .have z:=I.base.tups b xs q;rw[ao (bg z e 12#0)]
  exact z
 .have z:=I.base.nc b o u q;rw[ao (bg z e 12#0)]
  exact z
 .obtain⟨more,z⟩:=I.base.oE b ps q;exact⟨more,by rw[ao (bg z e 12#0)];exact z⟩
 .rw[ao (ne _ I.free)];exact I.free
 .rw[ao (ne _ (I.gC x c q))];exact I.gC x c q
 .obtain⟨a1,a2,a3⟩:=I.pin p hp;exact⟨a1,by rw[ao (ne _ a2)];exact a2,a3⟩
 .by_cases hb:b=a
  .subst hb;rw[aa]at q;cases q;exact⟨ho,(I.hok b _ e).stay (λ_ _ _ q=>q) (λc q=>66#(bg q e 12#0)) λc xs q=>66#(bg q e 12#0)⟩
  .rw[ao hb]at q;exact(I.hok b u q).stay (λ_ _ _ q=>q) (λc q=>66#(bg q e 12#0)) λc xs q=>66#(bg q e 12#0)
def θ.Xh{x8:aW}{σ0:St}{s0:Shared}{a:Addr}{xs:List V}{ob:Obj}(I0:θ X x8 σ0 H s0)(e0:H a=1#xs)(I:θ X pq σ H2 s)(e:H2 a=some (.m9 ob (.lst xs))):
 θ X pq σ (η H2 a (.lst xs)) s:=by
 have ne:∀b,H2 b=none->b≠a:=λb h z=>by rw[z,e]at h;cases h
 obtain⟨ho,hd⟩:=(show bL X.prog X.w H2 s.heap a (.m9 ob (.lst xs)) from I.hok a _ e)
 refine⟨I.ok,I.os,I.bare,⟨I.base.keep,I.base.slot,λb o q n hx=>?_,I.base.there,λb xs q=>?_,λb o u q=>?_,λb ps q=>?_⟩,I.loc,I.cell,?_,λx c q=>?_,λp hp=>?_,λb u q=>?_,I.len⟩
 .have z:=I.base.free b o q n hx;rw[ao (ne b z)];exact z
 .have z:=I.base.tups b xs q;rw[ao (bg z e 12#0)]
  exact z
 .have z:=I.base.nc b o u q;rw[ao (λy=>by
   have z0:=I0.base.nc b o u q;rw[y,e0]at z0;cases z0)]
  exact z
 .obtain⟨more,z⟩:=I.base.oE b ps q;exact⟨more,by rw[ao (bg z e 12#0)];exact z⟩
 .rw[ao (ne _ I.free)];exact I.free
 .rw[ao (ne _ (I.gC x c q))];exact I.gC x c q
 .obtain⟨a1,a2,a3⟩:=I.pin p hp;exact⟨a1,by rw[ao (ne _ a2)];exact a2,a3⟩
 .by_cases hb:b=a
  .subst hb;rw[aa]at q;cases q;exact hd.stay (λ_ _ _ q=>q) (λc q=>66#(bg q e 12#0)) λc xs q=>66#(bg q e 12#0)
  .rw[ao hb]at q;exact(I.hok b u q).stay (λ_ _ _ q=>q) (λc q=>66#(bg q e 12#0)) λc xs q=>66#(bg q e 12#0)
end
def Uu(P:Addr)(q:Str)(lp:Pos)(ta:TA)(te:TE)(js:List Nat):TE:=λσ H Q=>ta σ H λvs H1=>∃(a:Addr) (ns:List Int) (kf:Int->Int×Int),vs=[.ref a]/\H1 a=1#(ns.map V.int)/\ns.length<64/\(∀n∈ns,O6 (kf n))/\H1 P=some (.lF (fM q lp))/\
 (∀H3,(∀b u,H1 b=some u->(∀y,u≠.own y)->(∀qs,u≠.lF qs)->H3 b=some u)->∀n∈ns,te (some (.int n)::gz σ js) H3 λv H4=>ah H3 H4/\∃d,v = .ref d/\H4 d=10#([.int (kf n).1,.int (kf n).2]))/\
 ∀(l:Addr) (ns' : List Int) H4,H1 l=none->ah H1 H4->H4 l=1#(ns'.map V.int)->ns'.Perm ns->ns'.Pairwise (λx y=>kx (kf x)<=kx (kf y))->Q (.ref l) H4
theorem Ec:∀{a b:List Int},HT.lexLt a b=false->HT.lexLt b a=false->a=b
 | [],[],_,_=>rfl
 | [],_::_,h,_=>by cases h
 | _::_,[],_,h=>by cases h
 | x::xs,y::ys,h,h'=>by
   rw[HT.di]at h h'
   by_cases e:x=y
   .subst e;rw[ο rfl]at h h';rw[Ec h h']
   .rw[ξ e]at h;rw[ξ (u! e)]at h';have:=of_decide_eq_false h;have:=of_decide_eq_false h'
    lia
theorem NB{α:Type}{p q:α->Bool}(h:∀a,p a=true->q a=true){x:α}(hq:q x=true)(hp:p x=false):∀{l:List α},x∈l->l.countP p<l.countP q
 | a::l,hm=>by
   have h2:l.countP p<=l.countP q:=List.countP_mono_left λa _=>h a
   rw[List.countP_cons,List.countP_cons];rcases h!.mp hm with rfl|hm
   .rw[hq,hp,ο rfl,ξ e!]
    lia
   .have ih:=NB h hq hp hm;have h1:=h a
    split
    .rw[ο (h1 ‹_›)]
     lia
    .split<;>lia
def Uv(l:List (List Int))(x:List Int):Int:=6#(l.countP λy=>HT.lexLt y x)
def F9{l:List (List Int)}{x y:List Int}(hx:x∈l):7#(Uv l x<Uv l y)=HT.lexLt x y:=by
 unfold Uv;cases e:HT.lexLt x y with
 | true =>
   have:=NB (p:=λz=>HT.lexLt z x) (q:=λz=>HT.lexLt z y) (λz hz=>HT.lV hz e) e (HT.fX x) hx
   exact cH (by lia)
 | false =>
   have:(l.countP λz=>HT.lexLt z y)<=l.countP λz=>HT.lexLt z x:=List.countP_mono_left λz _ hz=>by
    cases e' : HT.lexLt y x with
    | true=>exact HT.lV hz e'
    | false=>rw[Ec e e'];exact hz
   exact eV (by lia)
def Iw(h:Heap)(v:Value)(xs:List Int):Prop:=∃(a:Addr) (o:Obj) (ts:23#0) (k:Nat),v = .ref a/\h.get? a=some o/\o.cls = .type "tuple"/\o.data = .seq ts.toArray k/\υ (xs.map V.int) ts
section
variable {prog:Program}{w:World}{A:Around}{s:Shared}{vs:23#0}
theorem Ed{C:64#Bool}:∀{xs ys:List Int} {ts us:23#0} (i:Nat),υ (xs.map V.int) ts->υ (ys.map V.int) us->C (HT.lexLt xs ys) s->KatLex prog w A true (7#(ts.length<us.length)) C (ts.zip us) i s
 | [],[],_,_,i,.nil,.nil,h=>h
 | [],_::_,_,_,i,.nil,.cons _ _,h=>h
 | _::_,[],_,_,i,.cons _ _,.nil,h=>h
 | x::xs,y::ys,_,_,i,.cons (l₂:=ts) ⟨t,rfl⟩ r,.cons (l₂:=us) ⟨u,rfl⟩ r',h=>by
   rw[HT.di]at h;rw[show 7#(58#(Value.int x t::ts)<58#(Value.int y u::us))=7#(ts.length<us.length) from K?.mpr (by rw[P!,P!];lia)]
   refine kat_cons (wpAny_eqBool_int ?_)
   by_cases e:x=y
   .rw[ο e]at h;rw[show(x==y)=true by simpa using e]
    exact kat_yes (Ed (i+1) r r' h)
   .rw[ξ e]at h;rw[show(x==y)=false by simpa using e]
    show wpAny (model prog w) A (oneLt' (true&&i==0) _ _) C _ s;cases(true&&i==0) with
    | true=>exact oneLt_int h
    | false=>exact kat_one _ _ (lt_int h)
def Ef{n:Nat}{zs:Nat->List Int}{l:List (List Int)}(hz:∀i,i<n->zs i∈l)(hv:∀i,i<n->Iw s.heap (vs.getD i Value.none) (zs i)):
 ∀i j C,i<n->j<n->C (7#(Uv l (zs i)<Uv l (zs j))) s->kas_ask prog w A (tuples' true) vs i j C s:=by
 intro i j C hi hj hC;rw[F9 (hz i hi)]at hC;unfold kas_ask;obtain⟨a,o,ts,k,e,ho,_,hd,r⟩:=hv i hi;obtain⟨a',o',us,k',e',ho',_,hd',r'⟩:=hv j hj;rw[e,e'];exact kat_lt ho hd ho' hd' (Ed 0 r r' hC)
def AU{E:eG}{Q:64#SortKind}(hn:0<vs.length)(hv:∀v∈vs,∃xs,xs≠[]/\Iw s.heap v xs)(q:Q (tuples' true) s):32#(keyKind' vs.toArray):=by
 obtain⟨fs,hl,hf,hk⟩:∃fs:23#0,fs.length=vs.length/\(∀v∈fs,∃x t,v=Value.int x t)/\KatTups s.heap vs fs:=by
  clear q hn
  induction vs with
  | nil=>exact⟨[],rfl,nofun,.nil⟩
  | cons v vs ih =>
    obtain⟨fs,h1,h2,h3⟩:=ih λv NC=>hv v (lG _ NC)
    obtain⟨xs,hx,a,o,ts,k,rfl,ho,hc,hd,r⟩:=hv v o!;cases xs with
    | nil=>exact absurd rfl hx
    | cons x xs =>
      cases r with
      | cons z r =>
        obtain⟨t,rfl⟩:=z;refine⟨.int x t::fs,n! (· + 1) h1,λv' NC=>?_,.cons ho hc hd rfl h3⟩
        rcases h!.mp NC with rfl|NC
        .exact⟨x,t,rfl⟩
        .exact h2 v' NC
 refine kat_kind (T:=.type "int") hk (by lia) (λv hv=>?_) (16#0) q
 obtain⟨x,t,rfl⟩:=hf v hv;intro A Q E s _ q;exact Ω q
end
section
variable {β:Type}{ps:List β}{d:β}
def AV{r:β->Int}{cmp:Nat->Nat->64#(Bool->Shared->Prop)}{Q:64#(Array Nat)}{s:Shared}{n:Nat}(hl:n=ps.length)(hn:1<=n)(hc:∀i j C,i<n->j<n->C (7#(r (ps.getD i d)<r (ps.getD j d))) s->cmp i j C s)
 (q:∀p:Array Nat,eX n p->(∀i∈p.toList,i<n)->(p.toList.map λi=>ps.getD i d).Perm ps->(p.toList.map λi=>ps.getD i d).Pairwise (λx y=>r x<=r y)->Q p s):KasT.kasWp cmp (kas_sort n) Q s:=by
 refine Iv (r:=λi=>r (ps.getD i d)) hc (Qw hn) λhp=>?_
 have hu:=QM (r:=λi=>r (ps.getD i d)) hn
 generalize Ξ (λi=>r (ps.getD i d)) (kas_sort n)=p at hp hu ⊢
 have hpl:p.toList.length=n:=by have:=hp.length_eq;rw[y!]at this;exact this
 refine q p hp (λi hi=>A!.mp (hp.mem_iff.mp hi)) ?_ ?_
 .have h1:=List.Perm.map (λi=>ps.getD i d) hp
  rw[show(13#n).map (λi=>ps.getD i d)=ps from by
   rw[hl];refine List.ext_getElem 31#0 λi h1 h2=>?_
   simp[w!,i! h2]]at h1
  exact h1
 .rw[P?,_O];intro i j hi hj hij;have:=hu.le (B! hij) (by lia)
  have ga:∀i (hi:i<p.toList.length),p.getD i 0=p.toList[i]:=λi hi=>by
   rw[Array.getD_eq_getD_getElem?,<-_c,i! hi];rfl
  unfold Kr at this;rw[ga i hi,ga j hj]at this;exact this
def BK{f:β->V}{its:23#0}(rv:υ (ps.map f) its){i:Nat}(hi:i<ps.length):Θ (f (ps.getD i d)) (its.getD i Value.none)/\ps.getD i d∈ps:=by
 have e:ps[i]?=some ps[i]:=i! hi;rw[w!,e];obtain⟨u,hu,ru⟩:=rv.get (i:=i) (x:=f ps[i]) (by rw[c!,e];rfl)
 rw[w!,hu];exact⟨ru,Q? hi⟩
theorem pC{f:β->V}{its:23#0}(rv:υ (ps.map f) its):∀{l:List Nat},(∀i∈l,i<ps.length)->υ ((l.map λi=>ps.getD i d).map f) (l.map λi=>its.getD i Value.none)
 | [],_=>.nil
 | i::_,h=>.cons (BK rv (h i o!)).1 (pC rv λj hj=>h j (lG _ hj))
end
section
variable {X:Cx}{pq:aW}{σ:St}{H:Hp}{s:Shared}{β:Type}{g:β->List Int}(ne:∀b,g b≠[])
include ne
def ND{a:Addr}{ps:List (Addr×β)}{its:23#0}{E:eG}{P:64#PySem.Fin}{A:Around}(I:θ X pq σ (η H a 46#41#ps.map) s)(ha:H a=none)(ho:s.heap.get? a=some (seqObj "list" its.toArray 0))(rv:υ (41#ps.map) its)
 (hp:∀q∈ps,H q.1=10#((g q.2).map V.int)) (h2:2<=ps.length) (hn:ps.length<64)
 (k:∀(h' : Heap) (c:Nat) (ps' : List (Addr×β)) (out:23#0),ps'.Perm ps->ps'.Pairwise (λx y=>HT.lexLt (g y.2) (g x.2)=false)->υ (41#ps'.map) out->h'.get? a=some (listOf out.toArray c)->(∀m,s.heap.Ns X.env.locals m->h'.Ns X.env.locals m)->(∀b o,76#b->b≠a->22#o->45#o)->P (PySem.Fin.done (PySem.Flow.ret PySem.Value.none)) { s with heap:=h'}) :
 wpAny 9#0 A (PySem.Builtin.«list.sort» { pos:=[PySem.Value.ref a]}) P E s:=by
 have hl:=rv.length;rw[χ]at hl;obtain⟨m,F⟩:=I.fr;have hne:76#a:=λz=>by
  have:=I.free;rw[<-z,aa]at this;cases this
 have hb:X.base.get? a=none:=by
  cases e:X.base.get? a with
  | none=>rfl
  | some o =>
    have:=(I.bs a o e).2;rw[aa]at this;cases this
 have N:News X.base X.env.locals s.heap (rest X.base s.heap X.env.locals a):=λp hp=>Ly p (C!.mp hp).1
 obtain⟨d,hd⟩:∃d,d∈ps:=⟨_,Q? (show 0<ps.length by lia)⟩
 refine kat_list_sort F N ho hne hb Hi (by lia) (by lia) λe1 h' F' N'=>?_
 have kept:=rQ (d:=a) I.bk F' λp hp=>N' p (lG _ hp)
 have pv:∀i,i<its.length->Iw h' (its.getD i Value.none) (g (ps.getD i d).2):=λi hi=>by
  obtain⟨r,hq⟩:=BK (d:=d) rv (i:=i) (by lia)
  generalize ps.getD i d=q at r hq ⊢;generalize its.getD i Value.none=v at r;cases r;have hH:=hp q hq;have ne1:q.1≠a:=λz=>by
   rw[z,ha]at hH;cases hH
  have hH' : η H a 46#41#ps.map q.1=10#((g q.2).map V.int):=by rw[ao ne1];exact hH
  obtain⟨ts,rt,⟨o,e,hc,n,hd⟩,_⟩:=I.tuple (aL.of hH');exact⟨q.1,o,ts,n,rfl,kept _ _ (λz=>by
   have:=I.free;rw[<-z,hH']at this;cases this) ne1 e,hc,hd,rt⟩
 have mem:∀i,i<its.length->g (ps.getD i d).2∈ps.map λq=>g q.2:=λi hi=>d!.mpr ⟨_,(BK rv (by lia)).2,rfl⟩
 refine AU (by lia) (λv hv=>?_) (AV (d:=d) (r:=λq=>Uv (ps.map λq=>g q.2) (g q.2)) hl.symm (by lia) (Ef mem pv) λp' _ hlt Eg Uw=>?_)
 .obtain⟨i,hi,rfl⟩:=List.mem_iff_getElem.mp hv;have:=pv i hi;rw[w!,i! hi]at this;exact⟨_,ne _,this⟩
 refine KasFin.intro F' N' (UpdF.head Hi) λh'' c F'' N''=>?_
 refine k h'' c _ _ Eg (Uw.imp_of_mem λ{x y} _ hy h=>?_) (pC rv (hl▸hlt)) (N'' _ o!).1 (λm' hm'=>?_) (rQ (d:=a) I.bk F'' λp hp=>N'' p (lG _ hp))
 .rw[<-F9 (l:=ps.map λq=>g q.2) (d!.mpr ⟨y,Eg.mem_iff.mp hy,rfl⟩)]
  exact eV (Int.not_lt.mpr h)
 .rw[T5 hm' F.ns];exact F''.ns
def Iz(K:b7)(hK:X.K=K:=by rfl):fc X (.builtin "sorted") (λxs H Q=>∃(p:Addr) (ps:List (Addr×β)),xs=[.ref p]/\aM K H p (41#ps.map)/\(∀q∈ps,H q.1=10#((g q.2).map V.int))/\ps.length<64/\
 ∀(l:Addr) (ps' : List (Addr×β)),H l=none->ps'.Perm ps->ps'.Pairwise (λx y=>HT.lexLt (g y.2) (g x.2)=false)->Q (.ref l) (η H l 46#41#ps'.map)):=by
 subst hK;intro pq s σ H xs us Q I r h;obtain⟨p,ps,rfl,hq,hp,hn,q⟩:=h;obtain⟨u,rfl,rx⟩:=vals1 r;cases rx;obtain⟨its,rv,⟨o,n,ho,hc,hdt,hd⟩,hz⟩:=I.list hq;have hl:=rv.length;rw[χ]at hl;have hsl:56#its.length:=dl (S!.mpr (by lia))
 refine Calls.call_function_entry kind_sorted plain_sorted entry_sorted (args_sorted1 _) ?_;unfold Builtin.«sorted»;refine aR (m:=checkCount "sorted" 1 1 _) (Ω ?_);refine aR (wpAny_collect_seq p (T:="list") (.inl rfl) ho hc hd (λh1 hk=>?_) (by rw[r!];exact hsl))
 have I1:=I.kept (t':=s.toks) hk;have hfr:H h1.objs.size=none:=I1.hok.fresh (Z' _);refine aR (wpAny_newList ?_ (by simpa using hsl))
 have Fi:(h1.push (seqObj "list" its.toArray 0)).get? h1.objs.size=some (seqObj "list" its.toArray 0):=E! _ rfl;have kp:∀b u,h1.get? b=some u->(h1.push (seqObj "list" its.toArray 0)).get? b=some u:=λb u e=>by
  rw[_r _ _ _ (q! (b! e))];exact e
 have Ux:∀ps' : List (Addr×β),ps'.Perm ps->56#58#41#ps'.map:=λps' YY=>by
  rw[χ,YY.length_eq,hl];exact hsl
 have I2:θ X pq σ (η H h1.objs.size 46#41#ps.map) { s with heap:=h1.push (seqObj "list" its.toArray 0)}:=I1.laid (t':=s.toks) kp (Z' _) ⟨Ux _ (.refl _),its,0,rv,Fi⟩
 refine aR (J! (wpAny_call_entry slot_list_sort ⟨_,Fi,rfl⟩ entry_list_sort (?_) (args_list_sort _)))
 by_cases h2:2<=ps.length
 .refine ND ne I2 hfr Fi rv hp h2 hn λh' c ps' out Eg Uw rvo hget hns Xi=>⟨_,rfl,Ω ⟨_,rfl,?_⟩⟩
  refine⟨.ref h1.objs.size,_,I1.W5 (t':=s.toks) (o:=.lst (41#ps'.map)) (λb u hb e=>Xi b u hb (q! (b! e)) (kp b u e)) (λm hm=>hns m ?_) (Z' _) ⟨Ux _ Eg,out,c,rvo,hget⟩,rfl,q _ ps' hfr Eg Uw⟩
  obtain⟨o',es,ep,e,z⟩:=hm;exact⟨o',es,ep,kp _ _ e,z⟩
 .refine MP Fi (by lia) ⟨_,rfl,Ω ⟨_,rfl,?_⟩⟩
  obtain⟨e,he⟩:=sortedHeap_at (out:=its.toArray) Fi;refine⟨.ref h1.objs.size,_,I1.laid (t':=s.toks) (o:=.lst (41#ps.map)) (λb o hb=>?_) (Z' _) ⟨Ux ps (.refl _),its,e,rv,he⟩,rfl,q _ ps hfr (.refl _) ?_⟩
  .have hlt:=b! hb;show 71#(sortedHeap (h1.push (seqObj "list" its.toArray 0)) h1.objs.size its its.toArray).get?;rw[sortedHeap_old (q! hlt) (by rw[size_push'];exact k_ hlt)]
   exact kp b o hb
  .cases ps with
   | nil=>exact .nil
   | cons x ps =>
     cases ps with
     | nil=>exact List.pairwise_singleton _ _
     | cons=>exact absurd (by simp:2<=_) h2
end
def R0{x y:Int×Int}(hx:O6 x)(hy:O6 y)(h:HT.lexLt [y.1,y.2] [x.1,x.2]=false):kx x<=kx y:=by
 unfold O6 at hx hy;unfold kx;rw[HT.di,HT.di]at h
 split at h
 .split at h
  .lia
  .have:=of_decide_eq_false h
   lia
 .have:=of_decide_eq_false h
  lia
section
variable {X:Cx}
def yk(K:b7)(hK:X.K=K:=by rfl):fc X (.builtin "sorted") (λxs H Q=>∃(p:Addr) (ps:List (Addr×Int×Int)),xs=[.ref p]/\aM K H p (41#ps.map)/\(∀q∈ps,H q.1=10#([.int q.2.1,.int q.2.2]))/\(∀q∈ps,O6 q.2)/\ps.length<64/\
 ∀(l:Addr) (ps' : List (Addr×Int×Int)),H l=none->ps'.Perm ps->ps'.Pairwise (λx y=>kx x.2<=kx y.2)->Q (.ref l) (η H l 46#41#ps'.map)):=λ_ _ _ _ _ _ _ I r ⟨p,ps,e,hq,hp,hok,hn,q⟩=>Iz (g:=λz:Int×Int=>[z.1,z.2]) (λ_=>nofun) K hK _ _ _ _ _ _ _ I r ⟨p,ps,e,hq,hp,hn,λl ps' hl h1 h2=>q l ps' hl h1 (h2.imp_of_mem λhx hy h=>R0 (hok _ (h1.mem_iff.mp hx)) (hok _ (h1.mem_iff.mp hy)) h)⟩
end
section
variable {X:Cx}{pq:aW}{σ:St}{H2:Hp}
def JU{A:Around}{E:eG}{P:64#PySem.Fin}{s:Shared}{H3:Hp}{D kS:Addr}{e e1:Nat}{its:23#0}{ns:List Int}{ds:70#0}{kf:Int->Int×Int}
 (I:θ X ((kS,seqObj "list" (ds.map Value.ref).toArray e)::pq) σ H3 s) (oK:F0 X kS) (pK:∀p∈pq,p.1≠kS) (hD:H3 D=some (.m9 (seqObj "list" #[] e1) (.lst []))) (rv:υ (ns.map V.int) its) (hn:ns.length<64) (hdl:ds.length=ns.length)
 (hk:∀(j:Nat) d n,ds[j]?=some d->ns[j]?=some n->H3 d=10#([.int (kf n).1,.int (kf n).2])) (hok:∀n∈ns,O6 (kf n))
 {x8:aW} {σ0:St} {s0:Shared} {H0:Hp} (I0:θ X x8 σ0 H0 s0) (e0:H0 D=1#([]))
 (fin:∀(s' : Shared) (ns' : List Int),ns'.Perm ns->ns'.Pairwise (λx y=>kx (kf x)<=kx (kf y))->θ X pq σ (η (η H3 D (.lst [])) D 46#(ns'.map V.int)) s'->P (.done (.ret .none)) s') :
 wpAny 9#0 A (ksk_end D false its.toArray e1 (.ref kS) ((ds.map Value.ref).toArray)) P E s:=by
 have hl:its.length=ns.length:=by have:=rv.length;rw[χ]at this;lia
 obtain⟨hDo,_⟩:=(show bL X.prog X.w H3 s.heap D (.m9 (seqObj "list" #[] e1) (.lst [])) from I.hok D _ hD)
 have Ga:=I.pin (kS,seqObj "list" (ds.map Value.ref).toArray e) (62#jL);have YZ:D≠kS:=λz=>by
  have:=Ga.2.1;rw[<-z,hD]at this;cases this
 have tail:∀(st:SortSt) (ns' : List Int) (out:23#0),(arrOf st).map (·.2)=out.toArray->out.length<64->failedOf st=none->ns'.Perm ns->ns'.Pairwise (λx y=>kx (kf x)<=kx (kf y))->υ (ns'.map V.int) out->wpAny 9#0 A (ksk_tail D false e1 (.ref kS) st) P E s:=by
  intro st ns' out hout hz hf hp hs hv;have s1:=i? s.heap kS 86#(λ_=>(#[]:42#0))
  have rf:(s.heap.update kS 86#(λ_=>(#[]:42#0))).get? D=some (seqObj "list" #[] e1):=(s1.2 D YZ).trans hDo
  have s2:=i? (s.heap.update kS 86#(λ_=>(#[]:42#0))) D 86#(λ_=>out.toArray)
  obtain⟨c2,hc2⟩:∃c2,((s.heap.update kS 86#(λ_=>(#[]:42#0))).update D 86#(λ_=>out.toArray)).get? D=some (seqObj "list" out.toArray c2):=⟨_,get?_update_seq rf λ_=>out.toArray⟩
  unfold ksk_tail
  try dsimp only
  rw[hout];refine aR (listUpdate_at Ga.1 rfl ?_ (by rw[r!,χ,sizeLine_eq];lia) (v! _))
  refine aR (wpAny_letGo ?_);refine aR (seqEpoch_at rf rfl ?_);refine aR (listUpdate_at rf rfl ?_ (v! _) (by show out.toArray.size<=_;rw[r!,sizeLine_eq];lia))
  rw[hf];simp only[bne_self_eq_false,V?,if_false];have J1:=I.lW (t':=s.toks) (h':=s.heap.update kS 86#(λ_=>(#[]:42#0))) (pb:=pq) oK (.head _) (λc u ne e=>(s1.2 c ne).trans e) (λp hp=>.inr ⟨.tail _ hp,pK p hp⟩)
  have J2:=θ.Xh I0 e0 J1 hD;have J3:=J2.write (x:=D) (e:=D) (o:=.lst (ns'.map V.int)) (t':=s.toks) (h':=(s.heap.update kS 86#(λ_=>(#[]:42#0))).update D 86#(λ_=>out.toArray)) (by rw[aa];trivial) (.inl rfl) (λb u nb eb=>(s2.2 b nb).trans eb) ⟨_,hc2⟩
   ⟨by rw[χ,hp.length_eq,sizeLine_eq];lia,out,c2,hv,hc2⟩
  exact Ω (fin _ ns' hp hs J3)
 by_cases h2:2<=ns.length
 .have at_:∀i,i<its.length->∃d n,ds[i]?=some d/\ns[i]?=some n/\ns.getD i 0=n:=λi hi=>by
   have e:ns[i]?=some (ns[i]'(by lia)):=i! _
   exact⟨ds[i]'(by lia),_,i! _,e,by rw[w!,e];rfl⟩
  have kv:∀i,i<its.length->Iw s.heap ((ds.map Value.ref).getD i Value.none) [(kf (ns.getD i 0)).1,(kf (ns.getD i 0)).2]:=λi hi=>by
   obtain⟨d,n,e1,e2,e3⟩:=at_ i hi;obtain⟨ts,rt,⟨o,eo,hc,m,hdt⟩,_⟩:=I.tuple 36#(hk i _ _ e1 e2);rw[e3,w!,c!,e1];exact⟨d,o,ts,m,rfl,eo,hc,hdt,rt⟩
  have hlk:58#(ds.map Value.ref)=its.length:=by rw[χ];lia
  have hn2 : ¬ its.toArray.size<2:=by rw[r!];lia
  unfold ksk_end
  try dsimp only
  rw[ξ e!,ξ hn2,ξ hn2,ξ e!];refine aR (AU (by lia) (λv hv=>?_) ?_)
  .obtain⟨i,hi,rfl⟩:=List.mem_iff_getElem.mp hv;have:=kv i (by lia)
   rw[w!,i! hi]at this;exact⟨_::_,List.cons_ne_nil _ _,this⟩
  refine aR (z! (kat_run (Q:=λst' s'=>s' = s/\∃(p:Array Nat) (ns' : List Int),ns'.Perm ns/\ns'.Pairwise (λx y=>kx (kf x)<=kx (kf y))/\υ (ns'.map V.int) (p.toList.map λi=>its.getD i Value.none)/\(arrOf st').map (·.2)=(p.toList.map λi=>its.getD i Value.none).toArray/\failedOf st' = none)
   (G:=λp s'=>s' = s/\∃ns' : List Int,ns'.Perm ns/\ns'.Pairwise (λx y=>kx (kf x)<=kx (kf y))/\υ (ns'.map V.int) (p.toList.map λi=>its.getD i Value.none))
   hlk (by lia) (by lia) (λp st' s' a1 a2 a3 ⟨a4,ns',b1,b2,b3⟩=>⟨a4,p,ns',b1,b2,b3,kat_snds hlk a2,a3⟩) ?_) ?_ λ_ _ x=>x)
  .refine AV (d:=0) (r:=λn=>Uv (ns.map λn=>[(kf n).1,(kf n).2]) [(kf n).1,(kf n).2]) hl (by lia) (Ef (λi hi=>?_) kv) λp _ hlt h1 h2=>⟨rfl,_,h1,h2.imp_of_mem λ{x y} hx hy h=>?_,pC rv (hl▸hlt)⟩
   .obtain⟨d,n,e1,e2,e3⟩:=at_ i hi;rw[e3];exact d!.mpr ⟨n,gB e2,rfl⟩
   .have hy:=h1.mem_iff.mp hy;refine R0 (hok _ (h1.mem_iff.mp hx)) (hok _ hy) ?_;rw[<-F9 (l:=ns.map λn=>[(kf n).1,(kf n).2]) (d!.mpr ⟨y,hy,rfl⟩)]
    exact eV (Int.not_lt.mpr h)
  .rintro⟨⟨⟩,st'⟩ s' ⟨rfl,p,ns',h1,h2,h3,har,hf⟩
   try dsimp only
   refine tail st' ns' _ har ?_ hf h1 h2 h3;have:=h3.length;rw[χ,h1.length_eq]at this
   lia
 .have hn2:its.toArray.size<2:=by rw[r!];lia
  unfold ksk_end
  try dsimp only
  rw[ξ e!,ο hn2,ο hn2,ξ e!];refine aR (Ω ?_);refine aR (m:=pure ((),SortSt.mk' general' (((ds.map Value.ref).toArray).zip its.toArray) #[] 7 none)) (Ω ?_);refine tail _ ns its ?_ (by lia) rfl (List.Perm.refl _) ?_ rv
  .show Array.map (λx:Keyed=>x.snd) (((ds.map Value.ref).toArray).zip its.toArray)=its.toArray
   apply Array.toList_inj.mp;simp;exact aej (by rw[χ];lia)
  .cases ns with
   | nil=>exact .nil
   | cons x ns =>
     cases ns with
     | nil=>exact List.pairwise_singleton _ _
     | cons=>exact absurd (by simp:2<=_) h2
end
section
variable {X:Cx}{params:Arguments}{body e:Expr}{scope:Scope}{lp p pos kp:Pos}{fq:List Str}{js:List Nat}{x:Str}{ta:TA}{te:TE}{c0 P:Addr}{k:Nat}
def NF(hr:gy (k+3) X.A)(T:ff X scope [x] fq js)(hx:67#x=some .local)(hg:Gl X "sorted")(hm:X.mg "sorted"=none)(hcode:X.env.code = .ref c0)(hK:PySem.W.codeHdIn X.K c0 P=true)(ha:PA X [e] ta)
 (he:∀f c s H,gy k (x9 X ([x]++fq) scope f c X.A.in1.in1 s H).A->PE (x9 X ([x]++fq) scope f c X.A.in1.in1 s H) body te)
 (hb:∀c ctv u,bindArgs (48#DU) ⟨[u],[]⟩=pure [(x,u)]:=by intro _ _ _;rfl) (hco:scope.isCoroutine=false:=by rfl) (hgen:scope.isGenerator=false:=by rfl)
 (hdef:defaultsOf params X.env=([],[]):=by rfl)
 (hs:backTo pos (21#([e]))=43#e::backTo pos (21#([])):=by rfl) (hs2:(backTo pos (21#([e]))).any (·.1)=false:=by rfl) :
 PE X (.Call (.Name "sorted" p) [e] [⟨some (Str.ofString "key"),.Lambda params body scope lp,kp⟩] pos) (Uu P (X.env.qual ++ "<lambda>") lp ta te js):=by
 show 72;refine wpAny_Call_Name_kw (jN I hg hm BJ (callWith_kw (dR (ha pos pq s σ H _ I h) λus s1 hq=>?_) hs hs2 rfl rfl))
 obtain⟨vs,H1,I1,r1,a,ns,kf,rfl,hda,h64,hok,hP,hturn,Uh⟩:=hq;obtain⟨u,rfl,rx⟩:=vals1 r1;cases rx;refine kws_cons (DV I1 T hcode hK hP hdef λf c oc ctv s2 hc DW hoc J=>kws_nil ?_)
 show wpAny _ X.A (call (.builtin "sorted") [.ref a] [(Str.ofString "key",.ref f)]) _ _ s2;have hla:=wH (oc:=oc) hP hc hda (by intro y z;cases z) (by intro y z;cases z)
 have Ui:ic H1 P c oc (X.env.qual ++ "<lambda>") lp P=some (.lF (fM (X.env.qual ++ "<lambda>") lp++qy lp c)):=aa;have QI:ic H1 P c oc (X.env.qual ++ "<lambda>") lp c=some (.m9 oc (.own P)):=by unfold ic;rw[ao DW,aa]
 have R1:∀b,ic H1 P c oc (X.env.qual ++ "<lambda>") lp b=none->H1 b=none:=λb hb=>by
  have bP:b≠P:=λz=>by rw[z,Ui]at hb;cases hb
  have bc:b≠c:=λz=>by rw[z,QI]at hb;cases hb
  unfold ic at hb
  rwa [ao bP,ao bc]at hb
 have hHL:∀b u,H1 b=some u->(∀y,u≠.own y)->(∀qs,u≠.lF qs)->ic H1 P c oc (X.env.qual ++ "<lambda>") lp b=some u:=λb u eb n1 n2=>wH hP hc eb n1 n2
 generalize hLd:ic H1 P c oc (X.env.qual ++ "<lambda>") lp=HL at J hla Ui QI R1 hHL;obtain⟨its,rv,⟨o,n,ho,hcl,hdt,hd⟩,hz⟩:=J.list (aM.of hla);have hl:=rv.length;rw[χ]at hl;have hsl:56#its.length:=dl (S!.mpr (by lia))
 refine call_function_entry_kw kind_sorted plain_sorted entry_sorted (ksk_s1 _ _) ?_;unfold Builtin.«sorted»;refine aR (m:=checkCount "sorted" 1 1 _) (Ω ?_);refine aR (wpAny_collect_seq a (T:="list") (.inl rfl) ho hcl hd (λh1 hk=>?_) (by rw[r!];exact hsl))
 have J1:=J.kept (t':=s2.toks) hk;have hfr:HL h1.objs.size=none:=J1.hok.fresh (Z' _);refine aR (wpAny_newList ?_ (by simpa using hsl))
 have e0:its.toArray.toList=its:=by simp
 rw[e0];have Fi:(h1.push (seqObj "list" its.toArray 0)).get? h1.objs.size=some (seqObj "list" its.toArray 0):=E! _ rfl;have J2:θ X ((f,48#fG)::pq) σ (η HL h1.objs.size 46#(ns.map V.int)) { s2 with heap:=h1.push (seqObj "list" its.toArray 0)}:=by
  refine J1.laid (t':=s2.toks) (λb o hb=>?_) (Z' _) ⟨?_,its,0,rv,Fi⟩
  .rw[_r _ _ _ (q! (b! hb))];exact hb
  .rw[χ,hl];exact hsl
 generalize hDd:h1.objs.size=D at hfr Fi J2;refine aR (J! (wpAny_call_entry_kw slot_list_sort ⟨_,Fi,rfl⟩ entry_list_sort ?body (ksk_l1 _ _)));show wpAny 9#0 X.A.in1.in1 (Builtin.«list.sort» ⟨[.ref D],[(Str.ofString "key",.ref f)]⟩) _ _ _;rw[ksk_t1];generalize h1.push (seqObj "list" its.toArray 0)=h2 at Fi J2;have s1':=i? h2 D 86#(λ_=>(#[]:42#0))
 obtain⟨e1,OZ⟩:∃e1,(h2.update D 86#(λ_=>(#[]:42#0))).get? D=some (seqObj "list" #[] e1):=⟨_,get?_update_seq Fi λ_=>#[]⟩
 unfold ksk_tree;refine aR (listItems_at Fi rfl ?_);refine aR (listUpdate_at Fi rfl ?_ (by rw[r!];exact hsl) (v! _))
 refine aR (seqEpoch_at OZ rfl ?_);refine aR (wpAny_newTuple ?_ (by show its.toArray.toList.length<=_;rw[e0];exact hsl))
 refine aR (wpAny_newList ?_ (v! _));refine J! ?_;have J3:=J2.write (x:=D) (e:=D) (o:=.lst []) (t':=s2.toks) (h':=h2.update D 86#(λ_=>(#[]:42#0))) (by rw[aa];trivial) (.inl rfl) (λb u nb eb=>(s1'.2 b nb).trans eb) ⟨_,OZ⟩ ⟨v! _,[],e1,.nil,OZ⟩
 have J4:=J3.QN (a:=D) aa OZ;generalize PX:η (η (η HL D 46#(ns.map V.int)) D (.lst [])) D (.m9 (seqObj "list" #[] e1) (.lst []))=H2 at J4;have at2:∀b u,HL b=some u->H2 b=some u:=λb u eb=>by
  have nb:b≠D:=λz=>by rw[z,hfr]at eb;cases eb
  rw[<-PX,ao nb,ao nb,ao nb];exact eb
 have ie:H2 D=some (.m9 (seqObj "list" #[] e1) (.lst [])):=by rw[<-PX,aa]
 generalize h2.update D 86#(λ_=>(#[]:42#0))=h3 at J3 J4
 rw[e0];have hkk:∀b u,h3.get? b=some u->((h3.push (seqObj "tuple" its.toArray 0)).push (seqObj "list" #[] 0)).get? b=some u:=λb u eb=>l! _ (l! _ eb)
 have hS:49#(h3.push (seqObj "tuple" its.toArray 0))=h3.objs.size+1:=size_push' ..;have oK:=J4.Nf (b:=49#(h3.push (seqObj "tuple" its.toArray 0))) (by show h3.objs.size<=_;rw[hS];exact G? _)
 have gK:((h3.push (seqObj "tuple" its.toArray 0)).push (seqObj "list" #[] 0)).get? 49#(h3.push (seqObj "tuple" its.toArray 0))=some (seqObj "list" #[] 0):=E! _ rfl;have frK:H2 49#(h3.push (seqObj "tuple" its.toArray 0))=none:=J4.hok.fresh (by show h3.objs.size<=_;rw[hS];exact G? _)
 have QJ:∀q∈(f,48#fG)::pq,q.1<h3.objs.size:=λq hq=>b! (J4.pin q (jL _ hq)).1
 have J5:θ X ((49#(h3.push (seqObj "tuple" its.toArray 0)),seqObj "list" #[] 0)::(f,48#fG)::pq) σ H2 { s2 with heap:=(h3.push (seqObj "tuple" its.toArray 0)).push (seqObj "list" #[] 0)}:=by
  have K:=J4.kept (t':=s2.toks) hkk;refine K.iJ λq hq=>?_
  rcases h!.mp hq with rfl|hq
  .exact⟨gK,frK,oK.2.1,oK.2.2.1,λv z=>by cases z⟩
  .exact K.pin q (jL _ hq)
 have pK:∀q∈(f,48#fG)::pq,q.1≠49#(h3.push (seqObj "tuple" its.toArray 0)):=λq hq=>by
  have:=QJ q hq;rw[hS];exact q! (k_ this)
 have acB:its.toArray.size=its.length:=r! ..;show wpAny 9#0 X.A.in1.in1 (ksk_rest D (.ref f) false its.toArray e1 (.ref 49#(h3.push (seqObj "tuple" its.toArray 0)))) _ _ { s2 with heap:=(h3.push (seqObj "tuple" its.toArray 0)).push (seqObj "list" #[] 0)}
 generalize 49#(h3.push (seqObj "tuple" its.toArray 0))=kS at oK J5 pK;generalize (h3.push (seqObj "tuple" its.toArray 0)).push (seqObj "list" #[] 0)=h4 at J5;unfold ksk_rest;refine aR (wpAny_rule ?_);rw[List.forIn_toArray];refine aR (ksk_fold (λi s'=>∃H3 ds en,ah H2 H3/\θ X ((kS,seqObj "list" ((ds.map Value.ref).toArray) en)::(f,48#fG)::pq) σ H3 s'/\ds.length=i/\∀(j:Nat) d n,ds[j]?=some d->ns[j]?=some n->H3 d=10#([.int (kf n).1,.int (kf n).2]))
  its 0 _ ⟨H2,[],0,ah.refl _,J5,rfl,λj d n z=>by cases z⟩ ?_ ?_)
 .rintro j y s' hy ⟨H3,ds,en,E9,I3,hdl,hkeys⟩;rw[U_]at hdl ⊢;have hj:j<its.length:=(j7.mp hy).1;have hnj:ns[j]?=some (ns[j]'(by lia)):=i! _
  obtain⟨uu,hu,ru⟩:=rv.get (show(ns.map V.int)[j]?=3#(ns[j]'(by lia)) by rw[c!,hnj];rfl)
  rw[hy]at hu;cases hu;obtain⟨hct,_⟩:=(show bL X.prog X.w H3 s'.heap c (.m9 oc (.own P)) from I3.hok c _ (E9 _ _ (at2 _ _ QI)))
  have hroom:X.A.in1.in1.depth<recursionLimit:=((hr.in1).in1).depth;refine aR (wpAny_attempt (z! (DZ (v:=.int (ns[j]'(by lia))) I3 T hx I3.ok.frames rfl hroom (62#List.Mem.tail) (hoc.rec hct) (hb c ctv _) hco hgen (he f c s' H3 (((hr.in1).in1).deeper _)) ru
   (hturn H3 (λb u eb n1 n2=>E9 _ _ (at2 _ _ (hHL b u eb n1 n2))) _ (Q? _))) (λv s3 hv=>?_) λ_ _ z=>z))
  obtain⟨w',H4,I4,rw',s34,d,rfl,hd4⟩:=hv;cases rw';have Ga:=I4.pin (kS,_) (62#jL);have sb:=i? s3.heap kS (Obj.mapSeq (·.push (.ref d)));have ea:((ds.map Value.ref).toArray).push (.ref d)=((ds++[d]).map Value.ref).toArray:=by simp
  obtain⟨c2,hc2⟩:∃c2,(s3.heap.update kS (Obj.mapSeq (·.push (.ref d)))).get? kS=some (seqObj "list" (((ds++[d]).map Value.ref).toArray) c2):=⟨_,by rw[<-ea];exact get?_update_seq Ga.1 (·.push (.ref d))⟩
  try dsimp only
  refine aR (listUpdate_at Ga.1 rfl ?_ (by rw[r!,χ,sizeLine_eq];lia) (D! (_K (Array.size_push ..)) (by rw[r!,χ,sizeLine_eq];lia)))
  refine Ω ⟨rfl,H4,ds++[d],c2,λb u z=>s34 _ _ (E9 _ _ z),?_,by rw[k!,U!,hdl],λi d' n' e1 e2=>?_⟩
  .exact I4.lW (t':=s3.toks) oK (.head _) (λb u nb eb=>(sb.2 b nb).trans eb) λq hq=>by
    rcases h!.mp hq with rfl|hq
    .exact .inl ⟨rfl,hc2,λv z=>by cases z⟩
    .exact .inr ⟨.tail _ hq,pK q hq⟩
  .by_cases hi:i<ds.length
   .rw[m? hi]at e1;exact s34 _ _ (hkeys i d' n' e1 e2)
   .rw[A? (by lia)]at e1
    have hi2:i=j:=by
     have:=(j7.mp e1).1;rw[U!]at this
     lia
    subst hi2;rw[hdl,H_]at e1;have e1:d=d':=by simpa using e1
    rw[hnj]at e2;cases e2;rw[<-e1];exact hd4
 .rintro s' ⟨H3,ds,en,E9,I3,hdl,hkeys⟩;rw[U_]at hdl;have Ga:=I3.pin (kS,_) (62#jL)
  try dsimp only
  refine aR (listItems_at Ga.1 rfl ?_);refine JU I3 oK pK (E9 _ _ ie) rv h64 (by lia) hkeys hok J3 aa λs5 ns' hp aaE I5=>⟨_,rfl,Ω ⟨_,rfl,?_⟩⟩
  have I6:θ X pq σ (η (η H3 D (.lst [])) D 46#(ns'.map V.int)) s5:=I5.iJ λq hq=>I5.pin q (jL _ (.tail _ hq))
  have nD:∀b u,HL b=some u->b≠D:=λb u eb z=>by rw[z,hfr]at eb;cases eb
  have at5:∀b u,HL b=some u->η (η H3 D (.lst [])) D 46#(ns'.map V.int) b=some u:=λb u eb=>by
   rw[ao (nD b u eb),ao (nD b u eb)];exact E9 _ _ (at2 _ _ eb)
  have I7:=DX I1 hP hc DW hoc I6 (at5 _ _ Ui) (at5 _ _ QI);refine⟨.ref D,_,I7,rfl,Uh D ns' _ (R1 D hfr) (DY hP hc DW (oc:=oc) λb u eb=>at5 b u (by rw[<-hLd];exact eb)) ?_ hp aaE⟩
  unfold given;rw[ao (λz=>nD _ _ Ui z.symm),ao (λz=>nD _ _ QI z.symm),aa]
end
def Gb(x y:Int×Int×Int):Prop:=x.1<y.1\/(x.1=y.1/\(x.2.1<y.2.1\/(x.2.1=y.2.1/\x.2.2<y.2.2)))
instance (x y:Int×Int×Int):Decidable (Gb x y):=by unfold Gb;infer_instance
def Xj{x y:Int×Int×Int}(h:HT.lexLt [x.1,x.2.1,x.2.2] [y.1,y.2.1,y.2.2]=false): ¬ Gb x y:=by
 unfold Gb;rw[HT.di,HT.di,HT.di]at h
 split at h
 .split at h
  .split at h
   .lia
   .have:=of_decide_eq_false h
    lia
  .have:=of_decide_eq_false h
   lia
 .have:=of_decide_eq_false h
  lia
section
variable {X:Cx}
def NG(K:b7)(hK:X.K=K:=by rfl):fc X (.builtin "sorted") (λxs H Q=>∃(p:Addr) (ps:List (Addr×Int×Int×Int)),xs=[.ref p]/\aM K H p (41#ps.map)/\(∀q∈ps,H q.1=10#([.int q.2.1,.int q.2.2.1,.int q.2.2.2]))/\ps.length<64/\
 ∀(l:Addr) (ps' : List (Addr×Int×Int×Int)),H l=none->ps'.Perm ps->ps'.Pairwise (λx y=>¬ Gb y.2 x.2)->Q (.ref l) (η H l 46#41#ps'.map)):=λ_ _ _ _ _ _ _ I r ⟨p,ps,e,hq,hp,hn,q⟩=>Iz (g:=λz:Int×Int×Int=>[z.1,z.2.1,z.2.2]) (λ_=>nofun) K hK _ _ _ _ _ _ _ I r ⟨p,ps,e,hq,hp,hn,λl ps' hl h1 h2=>q l ps' hl h1 (h2.imp λh=>Xj h)⟩
end
end L2
namespace RM
section
variable {N:Net}{L:Nat->Int}
def ym(q m m' : Nat):N.par q (m^^^m')=(N.par q m^^N.par q m'):=by
 have e:∀a b:Nat,N.par a b=N.par b a:=λa b=>bN λk _=>Bool.and_comm _ _
 rw[e,sF,e m,e m']
theorem wJ{f:59#0}:∀{n i:Nat},i<n->(∀k,k<n->k≠i->f k=false)->bI f n=f i
 | 0,i,h,_=>absurd h (l? _)
 | n+1,i,h,hz=>by
   show(bI f n^^f n)=f i
   by_cases e:i=n
   .subst e;rw[fT λk hk=>hz k (by lia) (by lia),u?]
   .rw[wJ (show i<n by lia) λk hk ne=>hz k (by lia) ne,hz n (by lia) (λz=>e z.symm),T!]
theorem AW{f:59#0}:∀{n:Nat},bI f n=true->∃i,i<n/\f i=true
 | 0,h=>by cases h
 | n+1,h=>by
   have h:(bI f n^^f n)=true:=h;cases hf:f n with
   | true=>exact⟨n,by lia,hf⟩
   | false =>
     rw[hf,T!]at h;obtain⟨i,h1,h2⟩:=AW h;exact⟨i,by lia,h2⟩
theorem yn(f:59#0):∀n,bI f (n+1)=(f 0^^bI (λi=>f (i+1)) n)
 | 0=>by
   show(false^^f 0)=(f 0^^false);rw[u?,T!]
 | n+1=>by
   show(bI f (n+1)^^f (n+1))=(f 0^^(bI (λi=>f (i+1)) n^^f (n+1)))
   rw[yn f n,_H]
theorem sM(m:Nat):∀(B:List Nat) (z:Nat),N.par (U' B z) m=bI (λi=>z.testBit i&&N.par (B.getD i 0) m) B.length
 | [],z=>mZ m
 | b::B,z=>by
   show N.par ((if z.testBit 0=true then b else 0)^^^U' B (z/2)) m=bI _ (B.length+1)
   rw[sF,sM m B (z/2),yn];have e1:N.par (if z.testBit 0=true then b else 0) m=(z.testBit 0&&N.par b m):=by
    cases z.testBit 0 with
    | true=>simp
    | false=>simp[mZ]
   rw[e1];have e2:bI (λi=>(z/2).testBit i&&N.par (B.getD i 0) m) B.length=bI (λi=>z.testBit (i+1)&&N.par ((b::B).getD (i+1) 0) m) B.length:=bN λi _=>by
    rw[X?];rfl
   rw[e2];rfl
def len(N:Net)(L:Nat->Int)(r:Nat):Int:=lsum L (λk=>r.testBit k) N.n
structure DP(N:Net)(L:Nat->Int)(bs us:List Nat):Prop where
 lens:bs.length=us.length
 ring:∀b∈bs,N.Ring b/\b<2^N.n
 own:∀(i b w:Nat),bs[i]?=some b->us[i]?=some w->N.par b w=true/\∀r,N.Ring r->r<2^N.n->N.par r w=true->len N L b<=len N L r
 M3:∀(i j b w:Nat),i<j->bs[i]?=some b->us[j]?=some w->N.par b w=false
def DP.start:DP N L [] []:=⟨rfl,λb h=>(R? h).elim,λi b w h=>(by simp at h),λi j b w _ h=>(by simp at h)⟩
def DP.snoc{bs us:List Nat}{b w:Nat}(h:DP N L bs us)(hr:N.Ring b)(hl:b<2^N.n)(ho:N.par b w=true)(hm:∀r,N.Ring r->r<2^N.n->N.par r w=true->len N L b<=len N L r)(he:∀b'∈bs,N.par b' w=false):DP N L (bs++[b]) (us++[w]):=by
 have at_:∀{l:List Nat} {x i y:Nat},(l++[x])[i]?=some y->(i<l.length/\l[i]?=some y)\/(i=l.length/\y=x):=λ{l x i y} e=>by
  by_cases hi:i<l.length
  .rw[m? hi]at e;exact .inl ⟨hi,e⟩
  .have h2:=(j7.mp e).1;rw[k!,U!]at h2;have h3:i=l.length:=by lia
   rw[A? (by lia),h3,H_]at e
   exact .inr ⟨h3,(18#e).symm⟩
 refine⟨by rw[k!,k!,h.lens];rfl,λb' hb=>?_,λi b' w' h1 h2=>?_,λi j b' w' hij h1 h2=>?_⟩
 .rcases t!.mp hb with z|z
  .exact h.ring b' z
  .rw[p!.mp z];exact⟨hr,hl⟩
 .have hl:=h.lens;rcases at_ h1 with⟨l1,e1⟩|⟨l1,e1⟩<;>rcases at_ h2 with⟨l2,e2⟩|⟨l2,e2⟩
  .exact h.own i b' w' e1 e2
  .lia
  .lia
  .rw[e1,e2];exact⟨ho,hm⟩
 .have hl:=h.lens;rcases at_ h1 with⟨l1,e1⟩|⟨l1,e1⟩<;>rcases at_ h2 with⟨l2,e2⟩|⟨l2,e2⟩
  .exact h.M3 i j b' w' hij e1 e2
  .rw[e2];exact he b' (gB e1)
  .lia
  .lia
section
variable {bs us:List Nat}
def DP.at(h:DP N L bs us){i:Nat}(hi:i<bs.length):∃w,us[i]?=some w/\bs[i]?=some (bs.getD i 0):=by
 have h1:i<us.length:=by rw[<-h.lens];exact hi
 exact⟨us[i],i! h1,by rw[w!,i! hi];rfl⟩
theorem BL{f:Nat->Prop}:∀{n i:Nat},i<n->f i->∃l,l<n/\f l/\∀j,l<j->j<n->¬ f j
 | 0,i,h,_=>absurd h (l? _)
 | n+1,i,h,hf=>by
   by_cases hn:f n
   .exact⟨n,by lia,hn,λj h1 h2=>by lia⟩
   .have hi:i<n:=by
     rcases Nat.lt_or_ge i n with z|z
     .exact z
     .have e:i=n:=by lia
      rw[e]at hf;exact absurd hf hn
    obtain⟨l,h1,h2,h3⟩:=BL hi hf;refine⟨l,by lia,h2,λj h4 h5=>?_⟩
    by_cases e:j=n
    .rw[e];exact hn
    .exact h3 j h4 (by lia)
def DP.parts(h:DP N L bs us){z:Nat}(hr:N.Ring (U' bs z))(hl:U' bs z<2^N.n):∀i,i<bs.length->z.testBit i=true->len N L (bs.getD i 0)<=len N L (U' bs z):=by
 intro i hi hz;apply Z!;intro hc;obtain⟨l,h1,⟨h2,h3⟩,h4⟩:=BL (f:=λi=>z.testBit i=true/\¬ len N L (bs.getD i 0)<=len N L (U' bs z)) hi ⟨hz,hc⟩
 obtain⟨w,hw,hb⟩:=h.at h1;obtain⟨o1,o2⟩:=h.own l _ w hb hw;have hp:=sM (N:=N) w bs z
 by_cases hx:∃j,l<j/\j<bs.length/\z.testBit j=true/\N.par (bs.getD j 0) w=true
 .obtain⟨j,j1,j2,j3,j4⟩:=hx;obtain⟨_,_,Xk⟩:=h.at j2;obtain⟨rj,lj⟩:=h.ring _ (gB Xk);have k1:=o2 _ rj lj j4;have k2:len N L (bs.getD j 0)<=len N L (U' bs z):=Z! λhn=>h4 j j1 j2 ⟨j3,hn⟩
  lia
 .rw[wJ (i:=l) h1 (λj hj ne=>?_),h2,o1]at hp
  .exact h3 (o2 _ hr hl hp)
  .cases hzj:z.testBit j with
   | false=>rfl
   | true =>
     rcases Nat.lt_or_ge j l with hlt|hge
     .obtain⟨_,_,Xk⟩:=h.at hj;rw[h.M3 j l _ w hlt Xk hw];rfl
     .cases hpj:N.par (bs.getD j 0) w with
      | false=>rfl
      | true=>exact absurd ⟨j,by lia,hj,hzj,hpj⟩ hx
def DP.ind(h:DP N L bs us):BB bs:=by
 intro z hz hc;apply Z!;intro hne;obtain⟨i,hi⟩:=J_ hne;have hib:=o5 hz hi;obtain⟨l,h1,h2,h4⟩:=BL (f:=λi=>z.testBit i=true) hib hi
 obtain⟨w,hw,hb⟩:=h.at h1;obtain⟨o1,_⟩:=h.own l _ w hb hw;have hp:=sM (N:=N) w bs z;rw[hc,mZ,wJ (i:=l) h1 (λj hj ne=>?_),h2,o1]at hp
 .cases hp
 .cases hzj:z.testBit j with
  | false=>rfl
  | true =>
    have hlt:j<l:=by
     rcases Nat.lt_or_ge j l with z|z
     .exact z
     .exact absurd hzj (h4 j (by lia) hj)
    obtain⟨_,_,Xk⟩:=h.at hj;rw[h.M3 j l _ w hlt Xk hw];rfl
end
def Base.span{rs:List Nat}(h:Base N rs){e:Nat}(he:N.dm e)(hl:e<2^N.n):∃z,z<2^rs.length/\U' rs z=e:=by
 apply wG;apply Z!;intro hn;have h1:BB (rs++[e]):=o7.mpr ⟨h.ind,hn⟩;have h2:=M0 (N:=N) h1 (λb hb=>by
  rcases t!.mp hb with z|z
  .exact⟨(h.ring b z).1.2.1,(h.ring b z).2⟩
  .rw[p!.mp z];exact⟨he,hl⟩)
 rw[k!,U!,h.len]at h2
 lia
def LB(N:Net)(L:Nat->Int)(rs:List Nat):Prop:=Base N rs/\∀r m,N.Ring r->r<2^N.n->N.par r m=true->∃b∈rs,N.par b m=true/\len N L b<=len N L r
def LB.perm{rs rs' : List Nat}(h:LB N L rs)(p:rs'.Perm rs):LB N L rs':=⟨h.1.perm p,λr m h1 h2 h3=>let⟨b,hb,q⟩:=h.2 r m h1 h2 h3;⟨b,p.mem_iff.mpr hb,q⟩⟩
def DP.least{bs us:List Nat}(h:DP N L bs us)(hl:bs.length=N.aJ.length):LB N L bs:=by
 have bb:Base N bs:=⟨hl,h.ring,h.ind⟩;refine⟨bb,λr m hr hlt ho=>?_⟩
 obtain⟨z,hz,rfl⟩:=bb.span hr.2.1 hlt;rw[sM]at ho;obtain⟨i,hi,h1⟩:=AW ho;have h1:=VX.mp h1;obtain⟨_,_,hb⟩:=h.at hi;exact⟨_,gB hb,h1.2,h.parts hr hlt i hi h1.1⟩
structure Wt(N:Net)(bs ws cs:List Nat):Prop where
 lens:ws.length=cs.length
 sum:bs.length+ws.length=N.aJ.length
 ch:∀c∈cs,c<N.n/\N.oj c=false
 lt:∀w∈ws,w<2^N.n
 bits:∀w∈ws,∀k,w.testBit k=true->N.oj k=false
 own:∀(i j w c:Nat),ws[i]?=some w->cs[j]?=some c->w.testBit c=decide (i=j)
 MK:∀w∈ws,∀b∈bs,N.par b w=false
def Wt.odd{bs ws cs:List Nat}{w:Nat}(h:Wt N bs (w::ws) cs):∃r,N.Ring r/\r<2^N.n/\N.par r w=true:=by
 have hl:=h.lens
 match cs,hl,h with
 | c::cs,hl,h =>
   obtain⟨c1,c2⟩:=h.ch c o!;refine⟨N.ring c,AJ c1 c2,sD c1,?_⟩;have e:N.par (N.ring c) w=((N.ring c).testBit c&&w.testBit c):=wJ (f:=λk=>(N.ring c).testBit k&&w.testBit k) c1 λk hk ne=>by
    cases hw:w.testBit k with
    | false=>exact g_ _
    | true =>
      have:=jh c2 (h.bits w o! k hw);rw[this,eV (λz=>ne z.symm)]
      rfl
   rw[e,su c2,h.own 0 0 w c rfl rfl];rfl
def Wt.next{bs ws cs:List Nat}{w b:Nat}(h:Wt N bs (w::ws) cs)(ho:N.par b w=true):∃c cs',cs=c::cs'/\Wt N (bs++[b]) (ws.map λv=>if N.par b v=true then v^^^w else v) cs':=by
 have hl:=h.lens
 match cs,hl,h with
 | c::cs,hl,h =>
   refine⟨c,cs,rfl,?_⟩;have hw:=h.lt w o!;have hv:∀v∈ws,v∈w::ws:=λv z=>lG _ z
   refine⟨by rw[χ];simpa using hl,?_,λd hd=>h.ch d (lG _ hd),λv' NC=>?_,λv' NC k hk=>?_,λi j v' d h1 h2=>?_,λv' NC b' hb'=>?_⟩
   .have:=h.sum;rw[P!]at this;rw[k!,U!,χ]
    lia
   .obtain⟨v,m,rfl⟩:=d!.mp NC
    split
    .exact V! (h.lt v (hv v m)) hw
    .exact h.lt v (hv v m)
   .obtain⟨v,m,rfl⟩:=d!.mp NC
    split at hk
    .rw[j!]at hk;cases h1:v.testBit k with
     | true=>exact h.bits v (hv v m) k h1
     | false =>
       rw[h1,u?]at hk;exact h.bits w o! k hk
    .exact h.bits v (hv v m) k hk
   .rw[c!]at h1;obtain⟨v,RC,rfl⟩:=qC.mp h1;have e1:=h.own (i+1) (j+1) v d (by simpa using RC) (by simpa using h2)
    have e2:=h.own 0 (j+1) w d rfl (by simpa using h2)
    have e3:7#(i+1=j+1)=decide (i=j):=K?.mpr (by lia)
    rw[e3]at e1
    split
    .rw[j!,e1,e2];simp
    .exact e1
   .obtain⟨v,m,rfl⟩:=d!.mp NC;rcases t!.mp hb' with z|z
    .have z1:=h.MK v (hv v m) b' z;have z2:=h.MK w o! b' z
     split
     .rw[ym,z1,z2];rfl
     .exact z1
    .rw[p!.mp z]
     split
     .rename_i hp
      rw[ym,hp,ho];rfl
     .rename_i hp
      cases hq:N.par b v with
      | false=>rfl
      | true=>exact absurd hq hp
def Wt.start(nd:N.aJ.Nodup):Wt N [] (N.aJ.map λc=>2^c) N.aJ:=by
 refine⟨χ ..,by rw[χ];simp,λc hc=>cf.mp hc,λw hw=>?_,λw hw k hk=>?_,λi j w c h1 h2=>?_,λw _ b hb=>by cases hb⟩
 .obtain⟨c,hc,rfl⟩:=d!.mp hw;exact m_ (16#0) (cf.mp hc).1
 .obtain⟨c,hc,rfl⟩:=d!.mp hw;rw[G!]at hk;rw[<-jz hk];exact(cf.mp hc).2
 .rw[c!]at h1;obtain⟨d,hd,rfl⟩:=qC.mp h1;rw[G!];refine K?.mpr ⟨λz=>?_,λz=>?_⟩
  .subst z;obtain⟨a1,a2⟩:=j7.mp hd;obtain⟨b1,b2⟩:=j7.mp h2;exact(_u nd).mp (a2.trans b2.symm)
  .subst z;rw[hd]at h2;exact 18#h2
end
section
variable {N:Net}
def QO(m t:Nat):∀{n:Nat},t<n->m.testBit t=true->cnt (λk=>2#0 && ! decide (k=t)) n+1=cnt (λk=>2#0) n:=by
 intro n
 induction n with
 | zero=>exact λh=>absurd h (l? _)
 | succ n ih =>
   intro h hb;show cnt _ n+(if(m.testBit n && ! decide (n=t))=true then 1 else 0)+1=cnt _ n+(27#(m.testBit n))
   by_cases e:n=t
   .subst e;rw[hb,cH rfl];have:cnt (λk=>2#0 && ! decide (k=n)) n=cnt (λk=>2#0) n:=fU λk hk=>by rw[eV (by lia),Bool.not_false,u_]
    rw[this];rfl
   .have:=ih (by lia) hb
    rw[eV e,Bool.not_false,u_]
    lia
def Gd{m:Nat}(hm:m<2^N.n)(r:N.Ring m):cnt (λk=>2#0) N.n+N.aJ.length<=N.n+1:=by
 obtain⟨t,ht⟩:∃t,m.testBit t=true:=by
  apply Z!;intro hn;exact r.1 (d? λk=>by
   rw[L?];cases h:2#0 with
   | false=>rfl
   | true=>exact absurd ⟨k,h⟩ hn)
 have Xl:=fV hm ht;have h:=QA (N:=N) (ks:=(13#N.n).filter λk=>!(2#0 && ! decide (k=t))) λq hq ev hz=>by
  have sub:∀k,90#0=true->2#0=true/\k≠t:=λk hk=>by
   have hkn:=fV hq hk;apply Z!;intro hn;have:=hz k (C!.mpr ⟨A!.mpr hkn,by
    cases h1:2#0 with
    | false=>rfl
    | true =>
      by_cases e:k=t
      .rw[cH e];rfl
      .exact absurd ⟨h1,e⟩ hn⟩)
   rw[this]at hk;cases hk
  rcases r.2.2 q (λk hk=>(sub k hk).1) ev with e|e
  .exact e
  .exact absurd rfl (sub t (by rw[e];exact ht)).2
 rw[iA]at h;have h1:=lN (λk=>2#0 && ! decide (k=t)) N.n
 have h2:=QO m t Xl ht
 lia
def Eh:Nat->Nat->Nat
 | 0,_=>0
 | n+1,z=>z%2+Eh n (z/2)
theorem yo{m:Nat}:∀cs:List Nat,Eh cs.length (code m cs)=58#(cs.filter λc=>m.testBit c)
 | []=>rfl
 | c::cs=>by
   have ih:=yo (m:=m) cs;unfold code;show((27#(m.testBit c))+2*code m cs)%2+Eh cs.length (((27#(m.testBit c))+2*code m cs)/2)=_
   cases h:m.testBit c with
   | true =>
     rw[ο rfl,M!,ο h,P!,<-ih];have e1:(1+2*code m cs)%2=1:=by lia
     have e2:(1+2*code m cs)/2=code m cs:=by lia
     rw[e1,e2,Nat.add_comm]
   | false =>
     rw[ξ e!,M!,ξ (by rw[h];decide),<-ih]
     have e1:(0+2*code m cs)%2=0:=by lia
     have e2:(0+2*code m cs)/2=code m cs:=by lia
     rw[e1,e2,U_]
def JV{r f:Nat}(h:r+f<=9)(hr:7<=r):58#((13#(2^r)).filter λz=>7#(Eh r z<=f+1)&&7#(z≠0))<64:=by
 have h1:r=7\/r=8\/r=9:=by lia
 rcases h1 with rfl|rfl|rfl
 .have hf:f=0\/f=1\/f=2:=by lia
  rcases hf with rfl|rfl|rfl<;>decide +kernel
 .have hf:f=0\/f=1:=by lia
  rcases hf with rfl|rfl<;>decide +kernel
 .have hf:f=0:=by lia
  rcases hf with rfl
  decide +kernel
def NH(hn:N.n<=9){l:List Nat}(nd:l.Nodup)(h:∀m∈l,m<2^N.n/\N.Ring m):l.length<64:=by
 by_cases h6:N.aJ.length<=6
 .exact x! (JH nd h) (B? (n:=2) (16#0) h6)
 have cl:N.aJ.length<=N.n:=by
  have h1:N.aJ.length<=58#13#N.n:=b? ..
  rwa [y!]at h1
 have inj:∀m q,m<2^N.n->q<2^N.n->N.dm m->N.dm q->code m N.aJ=code q N.aJ->m=q:=λm q hm hq em eq e=>sC hm hq em eq λc hc hf=>code_inj e c (cf.mpr ⟨hc,hf⟩)
 have nd2:(l.map λm=>code m N.aJ).Nodup:=by
  refine List.Pairwise.map _ (λa b (hab:a≠b/\a∈l/\b∈l)=>?_) ?_ (R:=λa b=>a≠b/\a∈l/\b∈l)
  .obtain⟨h1,h2⟩:=h a hab.2.1;obtain⟨h3,h4⟩:=h b hab.2.2;exact λe=>hab.1 (inj a b h1 h3 h2.2.1 h4.2.1 e)
  .exact i_ (λ{a b} ha hb hne=>⟨hne,ha,hb⟩) nd
 have z0:∀cs,code 0 cs=0:=λcs=>by
  induction cs with
  | nil=>rfl
  | cons c cs ih =>
    unfold code;rw[L?,ih,ξ e!]
 have:=ue (L:=(13#(2^N.aJ.length)).filter λz=>7#(Eh N.aJ.length z<=(N.n-N.aJ.length)+1)&&7#(z≠0)) nd2 λx hx=>by
  obtain⟨m,hm,rfl⟩:=d!.mp hx;obtain⟨h1,h2⟩:=h m hm;refine C!.mpr ⟨A!.mpr (Bv _ _),VX.mpr ⟨cH ?_,cH λe=>h2.1 (inj m 0 h1 (R! _) h2.2.1 dm.zero (by rw[e,z0]))⟩⟩
  rw[yo];have h3:=Gd h1 h2;have h4:58#(N.aJ.filter λc=>m.testBit c)<=cnt (λk=>2#0) N.n:=by
   unfold Net.aJ;rw[List.filter_filter,iA];exact Br λk _ h=>(VX.mp h).1
  lia
 rw[χ]at this;exact j_ this (JV (by lia) (by lia))
end
inductive yp:List Nat->List Nat->Prop
 | nil:yp [] []
 | skip {B C:List Nat} {b:Nat} (h:yp B C) (hs:Sp B b):yp (B++[b]) C
 | put {B C:List Nat} {b:Nat} (h:yp B C) (hs : ¬ Sp B b):yp (B++[b]) (C++[b])
def sN{B B' : List Nat}{b b' : Nat}(h:B++[b]=B'++[b']):B=B'/\b=b':=by
 have:=List.append_inj' h rfl;exact⟨this.1,by simpa using this.2⟩
def yp.uniq{B C:List Nat}(h:yp B C):∀{B' C' : List Nat},yp B' C'->B=B'->C=C':=by
 induction h with
 | nil =>
   intro B' C' h' e;cases h' with
   | nil=>rfl
   | skip _ _=>exact absurd e 31#0
   | put _ _=>exact absurd e 31#0
 | skip h hs ih =>
   intro B' C' h' e;cases h' with
   | nil=>exact absurd e 31#0
   | skip h' hs'=>obtain⟨e1,e2⟩:=sN e;exact ih h' e1
   | put h' hs'=>obtain⟨e1,e2⟩:=sN e;subst e1;subst e2;exact absurd hs hs'
 | put h hs ih =>
   intro B' C' h' e;cases h' with
   | nil=>exact absurd e 31#0
   | skip h' hs'=>obtain⟨e1,e2⟩:=sN e;subst e1;subst e2;exact absurd hs' hs
   | put h' hs'=>obtain⟨e1,e2⟩:=sN e;subst e2;rw[ih h' e1]
def yp.sub{B C:List Nat}(h:yp B C):C.Sublist B:=by
 induction h with
 | nil=>exact .slnil
 | skip h hs ih=>exact ih.trans (List.sublist_append_left _ _)
 | put h hs ih=>exact List.Sublist.append ih (List.Sublist.refl _)
def yp.sp{B C:List Nat}(h:yp B C):∀x,Sp C x↔Sp B x:=by
 induction h with
 | nil=>exact λ_=>Iff.rfl
 | skip h hs ih =>
   intro x;rw[ih];refine⟨λz=>z.mono λc hc=>.mem (Lf _ hc),λz=>z.mono λc hc=>?_⟩
   rcases t!.mp hc with hc|hc
   .exact .mem hc
   .rw[p!.mp hc];exact hs
 | put h hs ih =>
   intro x;refine⟨λz=>z.mono λc hc=>?_,λz=>z.mono λc hc=>?_⟩
   .rcases t!.mp hc with hc|hc
    .exact((ih c).mp (.mem hc)).mono λd hd=>.mem (Lf _ hd)
    .exact .mem (jL _ hc)
   .rcases t!.mp hc with hc|hc
    .exact((ih c).mpr (.mem hc)).mono λd hd=>.mem (Lf _ hd)
    .exact .mem (jL _ hc)
def yp.ind{B C:List Nat}(h:yp B C):BB C:=by
 induction h with
 | nil=>exact(BC _).mpr λi b hb=>by simp at hb
 | skip h hs ih=>exact ih
 | put h hs ih=>exact o7.mpr ⟨ih,λz=>hs ((h.sp _).mp z)⟩
def yp.parts{f:Nat->Int}{B C:List Nat}(h:yp B C):B.Pairwise (λx y=>f x<=f y)->∀b∈B,Sp (C.filter λc=>7#(f c<=f b)) b:=by
 have all:∀{B C:List Nat} {b:Nat},yp B C->(∀c∈B,f c<=f b)->C.filter (λc=>7#(f c<=f b))=C:=λ{B C b} h hb=>by
  refine ad7.mpr λc hc=>cH (hb c (h.sub.mem hc))
 induction h with
 | nil=>exact λ_ b hb=>by cases hb
 | @skip B C b h hs ih =>
   intro pw x hx;obtain⟨p1,_,p2⟩:=List.pairwise_append.mp pw;rcases t!.mp hx with hx|hx
   .exact ih p1 x hx
   .rw[p!.mp hx,all h λc hc=>p2 c hc b 31#0]
    exact(h.sp _).mpr hs
 | @put B C b h hs ih =>
   intro pw x hx;obtain⟨p1,_,p2⟩:=List.pairwise_append.mp pw;rcases t!.mp hx with hx|hx
   .refine(ih p1 x hx).mono λc hc=>.mem ?_
    rw[d_];exact Lf _ hc
   .rw[p!.mp hx];refine .mem (C!.mpr ⟨jL _ 31#0,cH (H? _)⟩)
section
variable {N:Net}
def Uy{z y:Nat}(hz:z<2^N.aJ.length)(hy:y<2^N.aJ.length)(e:N.kU z N.aJ 0=N.kU y N.aJ 0):z=y:=d? λk=>by
 by_cases hk:k<N.aJ.length
 .rw[<-By (i! hk),<-By (i! hk),e]
 .have hp:=B? (n:=2) (16#0) (aeg hk)
  rw[q? (x! hz hp),q? (x! hy hp)]
def yp.base{l C:List Nat}(h:yp l C)(hl:∀r,r∈l↔r<2^N.n/\N.Ring r):Base N C:=by
 have hc:∀c∈C,N.Ring c/\c<2^N.n:=λc hc=>((hl c).mp (h.sub.mem hc)).symm
 refine⟨Nat.le_antisymm (M0 h.ind λb hb=>⟨(hc b hb).1.2.1,(hc b hb).2⟩) ?_,hc,h.ind⟩
 have hs:∀z,∃y,y<2^C.length/\U' C y=N.kU z N.aJ 0:=λz=>by
  refine wG ((h.sp _).mpr ?_);have ev:=Qy (N:=N) (z:=z);rw[<-JJ ev.2 ev.1];have go:∀ks:List Nat,(∀k∈ks,k<N.n/\N.oj k=false)->Sp l (Ring.xorL (ks.map N.ring)):=λks=>by
   induction ks with
   | nil=>exact λ_=>.zero
   | cons k ks ih =>
     intro hk;rw[F!,Ring.xorL_cons,G_];have h1:=hk k o!;refine(ih λj hj=>hk j (lG _ hj)).xor (.mem ((hl _).mpr ⟨?_,AJ h1.1 h1.2⟩))
     exact eZ λj hj=>by
      rcases oQ hj with z|z
      .rw[z];exact h1.1
      .exact z.1
  exact go _ λk hk=>cf.mp (C!.mp hk).1
 refine BD (f:=λz=>Classical.choose (hs z)) (λz _=>(adX (hs z)).1) λz y hz hy e=>?_
 have e:Classical.choose (hs z)=Classical.choose (hs y):=e;have e2:N.kU z N.aJ 0=N.kU y N.aJ 0:=by rw[<-(adX (hs z)).2,<-(adX (hs y)).2,e]
 exact Uy hz hy e2
end
end RM
namespace L2
open PySem
def cF{lo:Int}{n:Nat}{g:TG}{tb:TS}{D:Ends}{σ:St}{H:Hp}(Pv:Nat->St->Hp->Prop)(h0:Pv 0 σ H)
 (hs:∀i,let D' : Ends:={ D with nx:=Pv (i+1),ct:=Pv (i+1),bk:=D.nx};∀σ H,i<n->Pv i σ H->g (.int (lo+i)) σ H λσ2 H2=>tb D' σ2 H2) (hd:∀σ H,Pv n σ H->D.nx σ H) :
 ∃W:Nat->Nat->St->Hp->Prop,(∃m,W 0 m σ H)/\∀i m σ H,W i m σ H->
   ((LG lo n).stop i H/\D.nx σ H)\/((LG lo n).go i H/\∃N:St->Hp->Prop,(∀σ' H',N σ' H'->∃m',m'<m/\W (i+1) m' σ' H')/\∀x H',(LG lo n).LD i H x H'->g x σ H' λσ2 H2=>tb { D with nx:=N,ct:=N,bk:=D.nx} σ2 H2) :=
 Aa Pv h0 (λi σ H hi p=>hs i σ H hi p) hd
def fC{K:b7}{a:Addr}{xs:List V}{g:TG}{tb:TS}{D:Ends}{σ:St}{H:Hp}(Pv:Nat->St->Hp->Prop)(h0:Pv 0 σ H)(hl:∀i σ H,i<=xs.length->Pv i σ H->aM K H a xs)
 (hs:∀i x,let D' : Ends:={ D with nx:=Pv (i+1),ct:=Pv (i+1),bk:=D.nx};∀σ H,xs[i]?=some x->Pv i σ H->g x σ H λσ2 H2=>tb D' σ2 H2) (hd:∀σ H,Pv xs.length σ H->D.nx σ H) :
 ∃W:Nat->Nat->St->Hp->Prop,(∃m,W 0 m σ H)/\∀i m σ H,W i m σ H->
   ((Po K a).stop i H/\D.nx σ H)\/((Po K a).go i H/\∃N:St->Hp->Prop,(∀σ' H',N σ' H'->∃m',m'<m/\W (i+1) m' σ' H')/\∀x H',(Po K a).LD i H x H'->g x σ H' λσ2 H2=>tb { D with nx:=N,ct:=N,bk:=D.nx} σ2 H2) :=
 CW Pv h0 hl (λi x σ H hi p=>hs i x σ H hi p) hd
def Fc{X:Cx}{e:Expr}{T:String}{r:V->List V->Hp->VK->Prop}{to:TE}{t:TA}(K:b7)(p:PE X e (ZW X.K T r to t))(h:X.K=K:=by rfl):PE X e (ZW K T r to t):=by subst h;exact p
def bC{K:b7}{H:Hp}{a:Addr}{xs:List V}{k:Int}{v:V}{R:V->Prop}(hs:aL K H a xs)(ha:Ah xs k=some v)(q:R v):∃p ys k' w,V.ref a = .ref p/\V.int k = .int k'/\aL K H p ys/\Ah ys k' = some w/\R w:=⟨a,xs,k,v,rfl,rfl,hs,ha,q⟩
def jM{K:b7}{H:Hp}{a:Addr}{xs:List V}{k:Int}{v:V}{R:V->Prop}(hs:aM K H a xs)(ha:Ah xs k=some v)(q:R v):∃p ys k' w,V.ref a = .ref p/\V.int k = .int k'/\aM K H p ys/\Ah ys k' = some w/\R w:=⟨a,xs,k,v,rfl,rfl,hs,ha,q⟩
def br{i j:Int}{R:Int->Int->Prop}(h:R i j):∃i' j',V.int i = .int i'/\V.int j = .int j'/\R i' j':=⟨i,j,rfl,rfl,h⟩
def kZ{K:b7}{H:Hp}{a:Addr}{xs:List V}{E:Addr->Prop}{R:List V->Prop}(e:E a)(h:aM K H a xs\/aL K H a xs)(q:R xs):∃p ys,E p/\(aM K H p ys\/aL K H p ys)/\R ys:=⟨a,xs,e,h,q⟩
def af{α:Type}{A R:α->Prop}{x:α}(h:A x)(r:R x):∃x,A x/\R x:=⟨x,h,r⟩
open PySem PySem.Spec PyProof.Rows
section
variable {K:b7}{mg:oA}{x:Str}{st:Stmt}{f c0 p0:Addr}{fd:FuncData}{ps:List Str}{h:Heap}
structure Dc(K:b7)(mg:oA)(x:Str)(f:Addr)(fd:FuncData)(ps:List Str):Prop where
 m:mg x=some (.ref f)
 k:PySem.W.keepIn K (.ref f)=true
 b:Binds K fd ps []
structure Dk(K:b7)(x:Str)(st:Stmt)(f:Addr)(fd:FuncData):Prop where
 F:PU K x x st f fd
 n:PySem.W.nsIn K mainGlobals x=some (some (.ref f))
structure Uz(K:b7)(x:Str)(st:Stmt)(f:Addr)(fd:FuncData)(c0 p0:Addr):Prop where
 F:F3 K x x st f fd c0 p0
 n:PySem.W.nsIn K mainGlobals x=some (some (.ref f))
structure Dn(K:b7)(mg:oA)(x:Str)(st:Stmt)(f:Addr)(fd:FuncData)(ps:List Str):Prop where
 F:PU K x x st f fd
 c:Dc K mg x f fd ps
structure R3(K:b7)(mg:oA)(x:Str)(st:Stmt)(f:Addr)(fd:FuncData)(ps:List Str)(c0 p0:Addr):Prop where
 F:F3 K x x st f fd c0 p0
 c:Dc K mg x f fd ps
def dk{oc:Value}{od an:Option Addr}{osl:Array (81#0)}{kV doc pm cdv ct:Value}(a:PySem.W.nsIn K mainGlobals x=some (some (.ref f)))
 (l:K.lookup f=some ⟨oc,od,.func (PySem.W.fnOf x x (fH st) (dh st) (ai st) .none kV doc pm an cdv ct),osl⟩) (c:PySem.W.codeIn K cdv x=true) (k:PySem.W.keepIn K (.ref f)=true) :
 Dk K x st f (PySem.W.fnOf x x (fH st) (dh st) (ai st) .none kV doc pm an cdv ct):=⟨Tf l c k,a⟩
def dkL{oc:Value}{od an:Option Addr}{osl:Array (81#0)}{kV doc pm ct:Value}(a:PySem.W.nsIn K mainGlobals x=some (some (.ref f)))
 (l:K.lookup f=some ⟨oc,od,.func (PySem.W.fnOf x x (fH st) (dh st) (ai st) .none kV doc pm an (.ref c0) ct),osl⟩) (c:PySem.W.codeIn K (.ref c0) x=true) (k:PySem.W.keepIn K (.ref f)=true) (d:PySem.W.codeHdIn K c0 p0=true) :
 Uz K x st f (PySem.W.fnOf x x (fH st) (dh st) (ai st) .none kV doc pm an (.ref c0) ct) c0 p0:=⟨QL l c k d,a⟩
structure Ng(K:b7)(x:Str):Prop where
 n:PySem.W.nsIn K mainGlobals x=some none
def Bn(x:Str)(st:Stmt)(ps:List Str)(us:23#0):Prop:=∀(kV doc pm:Value) (an:Option Addr) (cdv ct:Value),bindArgs (PySem.W.fnOf x x (fH st) (dh st) (ai st) .none kV doc pm an cdv ct) ⟨us,[]⟩=pure (ps.zip us)
def R4(h:∀us:23#0,us.length=ps.length->Bn x st ps us)(kV doc pm:Value)(an:Option Addr)(cdv ct:Value)(us:23#0)(hl:us.length=ps.length):
 bindArgs (PySem.W.fnOf x x (fH st) (dh st) (ai st) .none kV doc pm an cdv ct) ⟨us,[]⟩=pure (ps.zip us):=h us hl kV doc pm an cdv ct
def Dk.dn(X:K.In h)(G:77#h.Ns)(D:Dk K x st f fd)(hb:∀us:23#0,us.length=ps.length->Bn x st ps us):Dn K mg x st f fd ps:=⟨D.F,PySem.W.mg_of X G D.n,D.F.kp,D.F.binds (R4 hb)⟩
def Uz.dn(X:K.In h)(G:77#h.Ns)(D:Uz K x st f fd c0 p0)(hb:∀us:23#0,us.length=ps.length->Bn x st ps us):R3 K mg x st f fd ps c0 p0:=⟨D.F,PySem.W.mg_of X G D.n,D.F.kp,D.F.binds (R4 hb)⟩
def bn1{y:Str}(h:∀a,Bn x st [y] [a])(us:23#0)(hl:us.length=[y].length):Bn x st [y] us:=by obtain⟨_,rfl⟩:=aad us hl;exact h _
def bn2{y z:Str}(h:∀a b,Bn x st [y,z] [a,b])(us:23#0)(hl:us.length=[y,z].length):Bn x st [y,z] us:=by obtain⟨_,_,rfl⟩:=aae us hl;exact h _ _
def bn3{y z u:Str}(h:∀a b c,Bn x st [y,z,u] [a,b,c])(us:23#0)(hl:us.length=[y,z,u].length):Bn x st [y,z,u] us:=by obtain⟨_,_,_,rfl⟩:=aaf us hl;exact h _ _ _
def bn4{y z u v:Str}(h:∀a b c d,Bn x st [y,z,u,v] [a,b,c,d])(us:23#0)(hl:us.length=[y,z,u,v].length):Bn x st [y,z,u,v] us:=by obtain⟨_,_,_,_,rfl⟩:=aag us hl;exact h _ _ _ _
def Ge{y:Str}(X:K.In h)(G:77#h.Ns)(D:Dk K x st f fd)(e:∀a,Bn x st [y] [a]:=by intros;exact λ_ _ _ _ _ _=>rfl):Dn K mg x st f fd [y]:=D.dn X G (bn1 e)
def lX{y z:Str}(X:K.In h)(G:77#h.Ns)(D:Dk K x st f fd)(e:∀a b,Bn x st [y,z] [a,b]:=by intros;exact λ_ _ _ _ _ _=>rfl):Dn K mg x st f fd [y,z]:=D.dn X G (bn2 e)
def NI{y z u:Str}(X:K.In h)(G:77#h.Ns)(D:Dk K x st f fd)(e:∀a b c,Bn x st [y,z,u] [a,b,c]:=by intros;exact λ_ _ _ _ _ _=>rfl):Dn K mg x st f fd [y,z,u]:=D.dn X G (bn3 e)
def dn4{y z u v:Str}(X:K.In h)(G:77#h.Ns)(D:Dk K x st f fd)(e:∀a b c d,Bn x st [y,z,u,v] [a,b,c,d]:=by intros;exact λ_ _ _ _ _ _=>rfl):Dn K mg x st f fd [y,z,u,v]:=D.dn X G (bn4 e)
def dl2{y z:Str}(X:K.In h)(G:77#h.Ns)(D:Uz K x st f fd c0 p0)(e:∀a b,Bn x st [y,z] [a,b]:=by intros;exact λ_ _ _ _ _ _=>rfl):R3 K mg x st f fd [y,z] c0 p0:=D.dn X G (bn2 e)
def dl3{y z u:Str}(X:K.In h)(G:77#h.Ns)(D:Uz K x st f fd c0 p0)(e:∀a b c,Bn x st [y,z,u] [a,b,c]:=by intros;exact λ_ _ _ _ _ _=>rfl):R3 K mg x st f fd [y,z,u] c0 p0:=D.dn X G (bn3 e)
def Dn.ok{P:Program}{w:World}{base:Heap}{N:List Str}{k:Nat}{sp:Sp}(D:Dn K mg x st f fd ps)(S:aC N ps (ai st))
 (hbody:∀(cdv:Value) (A:Around) (outer:List Env) (s:Shared) (H:Hp) (vs:List V) (Q:VK) (E:XK),gy k (A.deeper (envOfC x (ai st) s.heap.objs.size f cdv))->sp vs H Q E->
  ∃t,z8 (vJ HK P w K mg base N x (ai st) f cdv A outer s H E).E7 (dh st) t/\t { nx:=λ_ H'=>Q .dZ H',rt:=Q} (start N vs) H)
 (len:∀vs H Q E,sp vs H Q E->vs.length=ps.length:=by intro vs H Q E h;repeat first | (obtain⟨rfl,_⟩:=h;exact rfl) | obtain⟨_,h⟩:=h):oH P w K mg base HK (k+1) f fd ps sp:=D.F.ok S len hbody
def R3.ok{P:Program}{w:World}{base:Heap}{N:List Str}{k:Nat}{sp:Sp}(D:R3 K mg x st f fd ps c0 p0)(S:aC N ps (ai st))
 (hbody:∀(A:Around) (outer:List Env) (s:Shared) (H:Hp) (vs:List V) (Q:VK) (E:XK),gy k (A.deeper (envOfC x (ai st) s.heap.objs.size f (.ref c0)))->sp vs H Q E->
  ∃t,z8 (vJ HK P w K mg base N x (ai st) f (.ref c0) A outer s H E).E7 (dh st) t/\t { nx:=λ_ H'=>Q .dZ H',rt:=Q} (start N vs) H)
 (len:∀vs H Q E,sp vs H Q E->vs.length=ps.length:=by intro vs H Q E h;repeat first | (obtain⟨rfl,_⟩:=h;exact rfl) | obtain⟨_,h⟩:=h):oH P w K mg base HK (k+1) f fd ps sp:=D.F.ok S len hbody
def Dn.Jl{P:Program}{w:World}{base:Heap}{N:List Str}{k:Nat}{sp:Sp}(D:Dn K mg x st f fd ps)(S:aC N ps (ai st))
 (hbody:∀(cdv:Value) (A:Around) (outer:List Env) (s:Shared) (H:Hp) (vs:List V) (Q:VK) (E:XK),gy k (A.deeper (envOfC x (ai st) s.heap.objs.size f cdv))->sp vs H Q E->
  ∃t,z8 (vJ (Ma P w) P w K mg base N x (ai st) f cdv A outer s H E) (dh st) t/\t { nx:=λ_ H'=>Q .dZ H',rt:=Q} (start N vs) H)
 (len:∀vs H Q E,sp vs H Q E->vs.length=ps.length:=by intro vs H Q E h;repeat first | (obtain⟨rfl,_⟩:=h;exact rfl) | obtain⟨_,h⟩:=h):oH P w K mg base (Ma P w) (k+1) f fd ps sp:=D.F.Jl S len hbody
def UA{y:Str}(D:Dk K x st f fd)(e:∀a,Bn x st [y] [a]:=by intros;exact λ_ _ _ _ _ _=>rfl)(s:Shared)(v:Value):BindsTo s fd ⟨[v],[]⟩ [(y,v)]:=by
 obtain⟨oc,od,kV,doc,pm,an,cdv,ct,osl,rfl,lk,hcd⟩:=D.F.ex;exact .of_eq (e v kV doc pm an cdv ct)
end
section
variable {X:Cx}
def aD{CX:Lg}{k r:Nat}{f:Addr}{fd:FuncData}{ps:List Str}{sp:Sp}{x:Str}{E:XK}{e:Expr}{es:List Expr}{t:TA}{p pos:Pos}
 (F:oH X.prog X.w X.K X.mg X.base CX k f fd ps sp) (hr:gy r X.A) (D:Dc X.K X.mg x f fd ps) (hx:Passes CX X E) (ha:PA X (e::es) t) (hk:k<=r:=by decide) (hg:Gl X x:=by rfl)
 (hdb:(x==("__debug__":Str))=false:=by decide) (he:21#(e::es)=43#e::21#es:=by rfl) (hpl:(backTo pos (21#es)).any (·.1)=false:=by rfl) :
 PE X (.Call (.Name x p) (e::es) [] pos) (RA sp [] E t):=Py F (hr.mono hk) hg D.m D.k D.b .nil hx ha hdb he hpl
def ig(l:List Str)(h:l.Nodup:=by decide +kernel):l.Nodup:=h
def bq{p pos:Pos}{e:Expr}{es:List Expr}{t:TA}(K:b7)(hm:X.mg "len"=none)(ha:PA X (e::es) t)(hK:X.K=K:=by rfl)(hg:Gl X "len":=by rfl)
 (he:21#(e::es)=43#e::21#es:=by rfl) (hpl:(backTo pos (21#es)).any (·.1)=false:=by rfl):PE X (.Call (.Name "len" p) (e::es) [] pos) (ZR (WI K) t) :=
 bY (Z4 K hK) hg hm PySem.boot_len ha (16#0) (16#0) he hpl
def aZ{a b:Expr}{ta tb:TE}{pos:Pos}{r:R2}(hr:Vx X r)(ha:PE X a ta)(hb:PE X b tb)(hs:HJ b:=by exact λ_ _=>rfl):PE X (.Subscript a b pos) (Rz r ta tb):=Wo hr ha hb hs
def aQ{x:Str}{pos:Pos}(i:Nat)(hN:X.N.Nodup)(hi:X.N[i]?=some x:=by exact rfl)(hx:Loc X.env.scope x:=by exact Or.inl rfl)(hf:X.fn x=true\/53#x=some .local:=by first | exact .inl rfl | exact .inr rfl | assumption):PG X (.Name x pos) (Ho i):=ng hN hi hx hf
end
def Gf(l:Addr)(items:42#0)(n:Nat)(dd:Option Addr)(sl:Array (81#0))(u:Tok):
 Meets (Builtin.«tuple.__mul__» { pos:=[Value.ref l,Value.int 1 u]}) λ_ R s=>s.heap.get? l=some { cls:=Value.type "tuple",dict:=dd,data:=Data.seq items n,slots:=sl}/\
  R (Except.ok (Flow.ret (Value.ref l))) s:=by
 intro prog w A R s ⟨hg,hR⟩;refine aR ?_;have ea:asIndex (Value.int 1 u)=pure 1:=83#0
 show wpAny _ _ (asIndex (Value.int 1 u)) _ _ _;rw[ea];refine Ω ?_;dsimp only;rw[ξ (16#0)]
 refine aR (wpAny_tupleItemsOf hg rfl ?_);rw[ο 31#0]
 refine aR (aR (wpAny_typeOf (T:="tuple") ⟨_,hg,rfl⟩ (Ω ?_)));rw[ο (16#0)]
 refine aR (wpAny_rule ?_)
 first | exact Ω hR | exact aR (Ω hR)
def Gg(l:Addr)(items:42#0)(n:Nat)(dd:Option Addr)(sl:Array (81#0))(u:Tok)(hne:items.isEmpty=false):
 Meets (Builtin.«tuple.__mul__» { pos:=[Value.ref l,Value.int 0 u]}) λ_ R s=>s.heap.get? l=some { cls:=Value.type "tuple",dict:=dd,data:=Data.seq items n,slots:=sl}/\
  R (Except.ok (Flow.ret (19#Value.ref))) { s with heap:=33#{ cls:=Value.type "tuple",data:=Data.seq #[]}}:=by
 intro prog w A R s ⟨hg,hR⟩;refine aR ?_;have ea:asIndex (Value.int 0 u)=pure 0:=83#0
 show wpAny _ _ (asIndex (Value.int 0 u)) _ _ _;rw[ea];refine Ω ?_;dsimp only;rw[ξ (16#0)]
 refine aR (wpAny_tupleItemsOf hg rfl ?_);rw[ξ (by rw[hne];decide),ο 31#0]
 refine aR (wpAny_newObj_type ?_ (by size_fits))
 first | exact Ω hR | exact aR (Ω hR)
section
variable {X:Cx}
def aaI:R2:=λx y H Q=>∃a b xs,x = .ref a/\y = .ref b/\H a=10#xs/\H b=10#([])/\Q (.bl (7#(xs=[]))) H
def UB(hu:X.A.units+64<cLine):mh X (compareOp .Eq) aaI:=by
 show 75;obtain⟨a,b,xs,rfl,rfl,ha,hb,q⟩:=h;cases rx;cases ry;obtain⟨is,r,hi,_⟩:=I.tuple (aL.of ha);obtain⟨js,r',hj,_⟩:=I.tuple (aL.of hb);cases r';refine SeqAt.eq_tupleAt (e:=λ_=>true) hi hj (j_ (q_ _ _) hu) (λj _ h2=>absurd h2 (l? _)) ⟨_,_,I,?_,q⟩
 cases r<;>rfl
def UC:R2:=λx y H Q=>∃l k xs,x = .ref l/\y = .int k/\H l=10#xs/\xs≠[]/\(k=0\/k=1)/\∀p H',ah H H'->H' p=10#(if k=1 then xs else[])->Q (.ref p) H'
def NJ:mh X (binaryOp .Mult) UC:=by
 show 75;obtain⟨l,k,xs,rfl,rfl,hH,hne,h1,q⟩:=h;cases rx;obtain⟨t,rfl⟩:=ry;obtain⟨its,r,⟨⟨cls,dd,data,sl⟩,ho,hc,n,hd⟩,_⟩:=I.tuple (aL.of hH);simp only at hc hd;subst hc hd;have hem:its.toArray.isEmpty=false:=by
  cases its with
  | nil=>cases r;exact absurd rfl hne
  | cons a b=>rfl
 refine wpAny_binaryOp_repeat_ref (T:="tuple") (U:="int") (16#0) ⟨_,ho,rfl⟩ (λs'=>typeIs_int s' k t) (83#0) F.fills_int_mul F.slot_int_rmul (83#0:seqRepeat? (Value.type "tuple")=pure (some (Value.builtin "tuple.__mul__"))) F.slot_int_index.lookup
  (call_meets F.slot_int_rmul (typeIs_int s k t) F.entry_int_rmul (F.args_int_rmul_2 _ _) (Bt k t l its.toArray n dd sl)
   ⟨ho,rfl,⟨_,ho,rfl⟩,?_⟩)
 rcases h1 with rfl|rfl
 .refine call_meets F.slot_tuple_mul ⟨_,ho,rfl⟩ F.entry_tuple_mul (F.args_tuple_mul_2 _ _) (Gg l its.toArray n dd sl t hem) ⟨ho,?_⟩;refine⟨19#.ref,_,I.laid (t':=s.toks) (o:=.tup []) (λb ob q=>l! _ q) (Z' _) ?_,rfl,q _ _ (ah.new I.fresh) aa⟩
  exact⟨v! _,[],.nil,IsTup.new _ _⟩
 .exact call_meets F.slot_tuple_mul ⟨_,ho,rfl⟩ F.entry_tuple_mul (F.args_tuple_mul_2 _ _) (Gf l its.toArray n dd sl t) ⟨ho,.ref l,H,I,rfl,q l H (ah.refl _) hH⟩
end
end L2
namespace L2.Rv
open PySem PySem.Spec PyProof.Rows
def ob(t:Addr)(i:Int):Obj:={ cls:=.type "reversed",data:=.fields #[.ref t,rawInt i]}
def Ei:Slot "reversed" "__next__" "reversed.__next__":=by
 refine Slot.of (owner:="reversed") (n:="__next__") ?_ ?_ ?_ ?_ ?_ ?_
 case refine_1=>rw[typeLookup_type,builtinLookup_eq_fast];kernel_rfl
 case refine_6=>rw[isSubtype_type];kernel_rfl
 case refine_5=>exact .inl (by decide +kernel)
 all_goals decide +kernel
def R5:Slot "reversed" "__iter__" "reversed.__iter__":=by
 refine Slot.of (owner:="reversed") (n:="__iter__") ?_ ?_ ?_ ?_ ?_ ?_
 case refine_1=>rw[typeLookup_type,builtinLookup_eq_fast];kernel_rfl
 case refine_6=>rw[isSubtype_type];kernel_rfl
 case refine_5=>exact .inl (by decide +kernel)
 all_goals decide +kernel
def NK:Slot "reversed" "__length_hint__" "reversed.__length_hint__":=by
 refine Slot.of (owner:="reversed") (n:="__length_hint__") ?_ ?_ ?_ ?_ ?_ ?_
 case refine_1=>rw[typeLookup_type,builtinLookup_eq_fast];kernel_rfl
 case refine_6=>rw[isSubtype_type];kernel_rfl
 case refine_5=>exact .inr (by decide +kernel)
 all_goals decide +kernel
def R6:entryFor table "reversed.__next__"=some Builtin.«reversed.__next__»:=entryFor_of_tree (by kernel_rfl)
def Xm:entryFor table "reversed.__length_hint__"=some Builtin.«reversed.__length_hint__»:=entryFor_of_tree (by kernel_rfl)
def Xn:entryFor table "reversed.__iter__"=some Builtin.«dict_keyiterator.__iter__»:=by
 refine entryFor_alias (id':="dict_keyiterator.__iter__") (by kernel_rfl) ?_ (by decide +kernel) (by kernel_rfl)
 first | rfl | decide +kernel | (unfold String.splitOn;simp +decide [String.splitOnAux])
def own:Manifest.owners.lookup (String.ofList "desrever".toList.reverse)=some Manifest.sig_reversed:=by kernel_rfl
def R7(a:Value):argsOk "reversed.__next__" ⟨[a],[]⟩:=by
 unfold argsOk;rw[signature?_of (n:="__txen__".toList) (o:="desrever".toList) (by kernel_rfl) own]
 kernel_rfl
def Xo(a:Value):argsOk "reversed.__iter__" ⟨[a],[]⟩:=by
 unfold argsOk;rw[signature?_of (n:="__reti__".toList) (o:="desrever".toList) (by kernel_rfl) own]
 kernel_rfl
def Xp(a:Value):argsOk "reversed.__length_hint__" ⟨[a],[]⟩:=by
 unfold argsOk;rw[signature?_of (n:="__tnih_htgnel__".toList) (o:="desrever".toList) (by kernel_rfl) own]
 kernel_rfl
section
variable {prog:Program}{w:World}{A:Around}{E:eG}{s:Shared}{I t:Addr}{its:42#0}{i:Nat}
def AX{j:Int}{Q:eG}(h:s.heap.get? I=some (ob t j))(q:Q (.ref I) s):32#(pyIter (.ref I)) :=
 have ty:s.TypeIs (.ref I) "reversed":=⟨_,h,rfl⟩
 wpAny_pyIter_slot ty R5 (wpAny_call_entry R5 ty Xn (Ω ⟨_,rfl,_,_,ty,Ei.lookup,q⟩) (Xo _))
def next_item{x:Value}{Q:64#(81#0)}(h:s.heap.get? I=some (ob t (i:Int)))(ht:IsTup s.heap t its)(hi:its[i]?=some x)(hs:i<1000)(q:∀h' tk,h'.get? I=some (ob t ((i:Int)-1))->Heap.SameBut I s.heap h'->Q (some x) { s with heap:=h',toks:=tk}):
 32#(pyNext (.ref I)):=by
 have ty:s.TypeIs (.ref I) "reversed":=⟨_,h,rfl⟩;unfold pyNext;refine 52#(wpAny_attempt (wpAny_callSpecial?_slot ty Ei (wpAny_call_entry Ei ty R6 ?_ (R7 _))));unfold Builtin.«reversed.__next__»;obtain⟨ot,gt,ct,nt,dt⟩:=id ht
 show 88
 rw[ct,slot_tuple_getitem.lookup];have xU:i<its.size:=(w_.mp hi).1;have hsi:seqIndex? (i:Int) its.size=some i:=by
  show(if(7#(0<=if(i:Int)<0 then(i:Int)+its.size else i)&&7#((if(i:Int)<0 then(i:Int)+its.size else i)<its.size))=true then some (if(i:Int)<0 then(i:Int)+its.size else i).toNat else none)=some i
  rw[ξ (show ¬(i:Int)<0 by lia),cH (by lia),cH (by lia),a!]
  rfl
 repeat (any_goals (first | assumption | refine getItem_tuple (k:=(i:Int)) ht (j:=i) (by lia) (by lia) hsi hi ?_ | wp_step))
 exact⟨x,rfl,Ω (q _ _ (c_ _ h rfl) (i? ..))⟩
def next_end{Q:64#(81#0)}(hh:A.handled=none)(h:s.heap.get? I=some (ob t (-1)))(q:∀h' tk,Heap.ExtBut I s.heap h'->Q none { s with heap:=h',toks:=tk}):32#(pyNext (.ref I)):=by
 have ty:s.TypeIs (.ref I) "reversed":=⟨_,h,rfl⟩;unfold pyNext;refine 52#(wpAny_attempt (wpAny_callSpecial?_slot ty Ei (wpAny_call_entry Ei ty R6 ?_ (R7 _))));unfold Builtin.«reversed.__next__»;have hh1:A.in1.handled=none:=hh
 show 88
 unfold raiseNew;refine 52#(wpAny_handled ?_);rw[hh1]
 show 88
 refine wpAny_of_eq (a:=true) isSubtype_stop (Ω (q _ _ λb o hb e=>?_))
 exact l! _ (l! _ ((M? _ _ (u! hb)).trans ((M? _ _ (u! hb)).trans e)))
end
def goes{prog:Program}{w:World}{A:Around}{I t:Addr}{its:42#0}(hh:A.handled=none)(ne:t≠I)(hs:its.size<=1000):
 Walks prog w A I [I,t] [I] its.size (λk v=>its[its.size-1-k]?=some v) (λk h=>k<=its.size/\h.get? I=some (ob t ((its.size:Int)-1-k))/\IsTup h t its):=by
 refine⟨λb hb=>?_,λk h h' st f=>⟨st.1,f I (.head _) _ st.2.1,?_⟩,λk s Q E hk st q=>?_,λs Q E st q=>?_,λk s Q E st q=>AX st.2.1 q⟩
 .rw[p!.mp hb];exact .head _
 .obtain⟨o,g,r⟩:=st.2.2;exact⟨o,f t (62#.tail) _ g,r⟩
 .obtain⟨_,g,ht⟩:=st;have hx:=K_ (xs:=its) (i:=its.size-1-k) (by lia)
  rw[show(its.size:Int)-1-k=6#(its.size-1-k) by lia]at g
  refine next_item g ht hx (by lia) λh' tk g' sb=>q _ h' tk hx ⟨hk,?_,ht.extBut sb.extBut ne⟩ λb o hb e=>sb.extBut b o (λz=>hb (z▸List.mem_singleton_self _)) e
  rw[g',show 6#(its.size-1-k)-1=(its.size:Int)-1-6#(k+1) by lia]
 .obtain⟨_,g,ht⟩:=st;rw[show(its.size:Int)-1-(its.size:Nat) = -1 by lia]at g
  exact next_end hh g λh' tk eb=>q h' tk λb o hb e=>eb b o (λz=>hb (z▸List.mem_singleton_self _)) e
def Xq:typeLookup (.type "reversed") (Str.ofString "__len__")=pure none:=by rw[typeLookup_type,builtinLookup_eq_fast];kernel_rfl
def parts:splitId "reversed.__length_hint__"=some ("reversed","__length_hint__"):=by kernel_rfl
def UD:isSubtype (.type "reversed") (.type "reversed")=pure true:=by rw[isSubtype_type];kernel_rfl
section
variable {prog:Program}{w:World}{A:Around}{E:eG}{s:Shared}{I t:Addr}{its:42#0}
def hint{Q:64#Bool}(h:s.heap.get? I=some (ob t ((its.size:Int)-1)))(ht:IsTup s.heap t its)(h0:0<its.size)(hs:its.size<=1000)(q:∀tk,Q true { s with toks:=tk}):32#(Builtin.List.listLengthHint (.ref I)):=by
 have ty:s.TypeIs (.ref I) "reversed":=⟨_,h,rfl⟩;unfold Builtin.List.listLengthHint;refine 52#(wpAny_specialOf ty Xq ?_);refine 52#(wpAny_specialOf ty NK.lookup ?_);dsimp only;rw[parts];refine 52#(wpAny_isInstance ty UD ?_)
 show 88
 refine wpAny_of_eq (NK.bind _) ?_;refine 52#(wpAny_attempt (wpAny_call_entry NK ty Xm ?_ (Xp _)));unfold Builtin.«reversed.__length_hint__»
 repeat (any_goals (first | assumption | refine len_tuple ht (by lia) ?_ | wp_step))
 refine⟨.int (its.size:Int) _,by rw[show(its.size:Int)-1+1=its.size by lia],?_⟩
 have f1:Builtin.List.listFitsIndex (its.size:Int)=true:=by
  unfold Builtin.List.listFitsIndex;rw[cH (by lia),cH (by lia)]
  rfl
 have f2:Builtin.List.listTooLong (its.size:Int).toNat=false:=eV (Nat.not_lt.mpr (B! (cO (by lia))))
 have f3:((its.size:Int) != 0)=true:=bne_iff_ne.mpr (by lia)
 refine wpAny_bind ?_;have g0 : ¬(its.size:Int)<0:=by lia
 generalize (its.size:Int)=n at f1 f2 f3 g0;refine wpAny_of_eq (a:=some n) rfl ?_;dsimp only;rw[f1,ξ (16#0),ξ g0,f2,ξ (16#0),f3]
 exact Ω (q _)
def coll{Q:64#23#0}(hh:A.handled=none)(h:s.heap.get? I=some (ob t ((its.size:Int)-1)))(ht:IsTup s.heap t its)(ne:t≠I)(h0:0<its.size)(hs:its.size<=1000)
 (q:∀(h' : Heap) (tk:Nat),s.heap.objs.size<h'.objs.size->(∀b o,b≠I->22#o->45#o)->Q its.toList.reverse { s with heap:=h',toks:=tk}):32#(collect (.ref I)):=by
 unfold collect;refine 52#(wpAny_runValue (codeAny_builtin F.entry_proto_collect ?_));rw[Around.under_plainId F.plain_proto_collect _];unfold Builtin.«proto.collect»
 show 88
 refine⟨plainId_quiet F.plain_list_iadd _,codeAny_builtin F.entry_list_iadd ?_⟩;rw[Around.under_plainId F.plain_list_iadd _];have lI:=b! h;have Xr:(33#{ cls:=.type "list",data:=.seq #[]}).get? I=some (ob t ((its.size:Int)-1)):=l! _ h;have IA:IsTup (33#{ cls:=.type "list",data:=.seq #[]}) t its:=ht.keeps λb o e=>l! _ e
 have hS:19#(33#{ cls:=.type "list",data:=.seq #[]}).get?=some { cls:=.type "list",data:=.seq #[]}:=E! _ rfl;have old:∀b o,22#o->71#(33#{ cls:=.type "list",data:=.seq #[]}).get?:=λb o e=>l! _ e
 generalize 33#{ cls:=.type "list",data:=.seq #[]}=h1 at Xr IA hS old ⊢;have ne1:(s.heap.objs.size==I)=false:=by simpa using U? lI
 show wpAny _ _ (Builtin.List.listExtendWith (19#.ref) (.ref I) (19#.ref)) _ _ _;unfold Builtin.List.listExtendWith;refine 52#(wpAny_typeOf (T:="reversed") ⟨_,Xr,rfl⟩ ?_);rw[ξ (by unfold Builtin.List.listSameRef;dsimp only;rw[ne1];decide)]
 refine 52#(AX Xr (wpAny_bind (J! (hint Xr IA h0 hs λtk=>?_))))
 show 88
 have lt:=ht.choose_spec.1;have lS:∀b,b∈[I,t]->b≠s.heap.objs.size:=λb hb z=>by
  rcases h!.mp hb with rfl|hb
  .exact q! lI z
  .rw[p!.mp hb]at z;exact q! (b! lt) z
 have hS2:=c_ 86#(λx=>x.pop) (c_ 86#(λx=>x.push Value.none) hS rfl) rfl
 have kp:∀b o,b≠s.heap.objs.size->71#h1.get?->71#((h1.update s.heap.objs.size 86#(λx=>x.push Value.none)).update s.heap.objs.size 86#(λx=>x.pop)).get?:=λb o hb e=>(M? _ _ (u! hb)).trans ((M? _ _ (u! hb)).trans e)
 have hI2:=kp I _ (lS I (.head _)) Xr;obtain⟨ot,gt,rt⟩:=id IA;have NL:IsTup _ t its:=⟨ot,kp t _ (lS t (62#.tail)) gt,rt⟩;refine⟨plainId_quiet F.plain_extend_loop _,codeAny_extend_loopS (goes (prog:=prog) (w:=w) (A:=A.in1) hh ne hs).toS (B! (cO hs)) s.heap.objs.size (λz=>lS _ z rfl) _ its.size 0 _ _ _ rfl (v! _) ⟨v! _,by rw[Int.ofNat_zero,Int.sub_zero];exact hI2,NL⟩ hS2 (ItemsOf.nil _) λs' acc c mv gS it=>?_⟩
 show wpAny _ _ (19#load >>= _) _ _ _;refine 52#(wpAny_load gS (Ω ?_));have e:acc.toList=its.toList.reverse:=List.ext_getElem? λj=>by
  have sz:=it.1
  by_cases hj:j<its.size
  .have hj' : j<acc.size:=by lia
   have:=it.2 j acc[j] (K_ hj');rw[_c,K_ hj',List.getElem?_reverse (by rw[N?];exact hj),N?,_c,this]
  .rw[_d (by rw[N?];lia),_d (by rw[_l,N?];lia)]
 rw[e,mv.eq_with];refine q _ _ (b! gS) λb o hb g=>mv.heap b o (λz=>?_) (kp b o (q! (b! g)) (old b o g))
 rcases h!.mp z with rfl|z
 .exact absurd (b! g) (w? _)
 .exact hb (p!.mp z)
def made:TypeCalled "reversed" "reversed.__new__" "object.__init__":=by
 refine⟨by decide +kernel,F.create_reversed,⟨_,_,F.mro_reversed⟩,F.made_reversed,F.plain_reversed_new,F.sub_reversed_self,?_⟩
 refine Slot.of (owner:="object") (n:="__init__") ?_ ?_ ?_ ?_ ?_ ?_
 case refine_1=>rw[typeLookup_type,builtinLookup_eq_fast];kernel_rfl
 case refine_6=>rw[isSubtype_type];kernel_rfl
 case refine_5=>first | exact .inl (by decide +kernel) | exact .inr (by decide +kernel)
 all_goals decide +kernel
def Xs:typeLookup (.type "tuple") (Str.ofString "__reversed__")=pure none:=by rw[typeLookup_type,builtinLookup_eq_fast];kernel_rfl
def noDict:isSubtype (.type "tuple") (.type "dict")=pure false:=by rw[isSubtype_type];kernel_rfl
def NO{Q:eG}(ht:IsTup s.heap t its)(hs:its.size<=1000)(q:∀tk,Q (19#.ref) { s with heap:=33#(ob t ((its.size:Int)-1)),toks:=tk}):32#(call (.type "reversed") [.ref t]):=by
 have ty:s.TypeIs (.ref t) "tuple":=ht.typeIs;refine callType_newIn made (16#0) (F.typeCall_reversed_1 _) (F.newCall_reversed_1 _) (λobj=>F.args_object_init_2 obj _) F.entry_reversed_new (S:=λA R s=>IsTup s.heap t its/\∀tk,R (.ok (.ret (19#.ref))) { s with heap:=33#(ob t ((its.size:Int)-1)),toks:=tk}) (.of_wp λA R s h=>?_) ⟨ht,λtk=>⟨⟨_,E! _ rfl,rfl⟩,q tk⟩⟩
 obtain⟨ht,h⟩:=h;obtain⟨ot,gt,ct,nt,dt⟩:=id ht;have ty:s.TypeIs (.ref t) "tuple":=ht.typeIs;have self:=F.sub_reversed_self;unfold Builtin.«reversed.__new__»;refine 52#(wpAny_of_eq (newClass_reversed _) ?_)
 show 88
 rw[Xs]
 show 88
 rw[noDict]
 show 88
 rw[slot_tuple_getitem.lookup];have hin:(["tuple.__getitem__","str.__getitem__","bytes.__getitem__","bytearray.__getitem__","memoryview.__getitem__","numpy.ndarray.__getitem__","sqlite3.Row.__getitem__"]:List String).contains "tuple.__getitem__"=true:=16#0
 repeat (any_goals (first | assumption | refine len_tuple ht (by lia) ?_ | wp_step))
 exact⟨_,rfl,h _⟩
def NP{Q:eG}(hh:A.handled=none)(h:s.heap.get? I=some (ob t ((its.size:Int)-1)))(ht:IsTup s.heap t its)(ne:t≠I)(h0:0<its.size)(hs:its.size<=1000)
 (q:∀(h' : Heap) (tk:Nat),s.heap.objs.size<h'.objs.size->(∀b o,b≠I->22#o->45#o)->Q (.ref h'.objs.size) { s with heap:=h'.push { cls:=.type "tuple",data:=.seq its.toList.reverse.toArray},toks:=tk}):32#(call (.type "tuple") [.ref I]):=by
 refine callType_newIn F.called_tuple (16#0) (F.typeCall_tuple_1 _) (F.newCall_tuple_1 _) (λobj=>F.args_object_init_2 obj _) F.entry_tuple_new (S:=λA R s=>A.handled=none/\s.heap.get? I=some (ob t ((its.size:Int)-1))/\IsTup s.heap t its/\∀(h' : Heap) (tk:Nat),s.heap.objs.size<h'.objs.size->(∀b o,b≠I->22#o->45#o)->R (.ok (.ret (.ref h'.objs.size))) { s with heap:=h'.push { cls:=.type "tuple",data:=.seq its.toList.reverse.toArray},toks:=tk}) (.of_wp λA R s h=>?_) ⟨hh,h,ht,λh' tk z k=>⟨⟨_,E! _ rfl,rfl⟩,q h' tk z k⟩⟩
 obtain⟨hh,h,ht,q⟩:=h;have ty:s.TypeIs (.ref I) "reversed":=⟨_,h,rfl⟩;have c1:=sub_tuple_self;have c2:=init_tuple_lookup;have c3:=madeHere_tuple;unfold Builtin.«tuple.__new__»
 repeat (any_goals (first | assumption | refine coll (its:=its) hh h ht ne h0 hs λh' tk z k=>?_ | wp_step))
 rw[ξ (Nat.not_lt.mpr (B! (cO (by rw[r!,_l,N?];exact hs))))]
 show 88
 exact⟨_,rfl,q _ _ z k⟩
end
end L2.Rv
namespace L2
open PySem PySem.Spec PyProof.Rows
def QS(K:b7)(te:TE):TE:=λσ H Q=>te σ H λx H1=>∃l vs,x = .ref l/\aL K H1 l vs/\0<vs.length/\vs.length<=900/\∀D,H1 D=none->Q (.ref D) (η H1 D (.tup vs.reverse))
section
variable {X:Cx}
def JW{vs:List V}{us:23#0}(h:υ vs us):υ vs.reverse us.reverse:=by
 have:∀{l:List V} {r:23#0} {x:V} {y:Value},υ l r->Θ x y->υ (l++[x]) (r++[y]):=λ{l r x y} h hr=>by
  induction h with
  | nil=>exact .cons hr .nil
  | cons a _ ih=>exact .cons a ih
 induction h with
 | nil=>exact .nil
 | cons a _ ih =>
   rw[_t,_t];exact this ih a
def JX(K:b7){e:Expr}{te:TE}{p1 p2 pos1 pos2:Pos}(hcm:X.calm=true)(hg1:Gl X "tuple")(hm1:X.mg "tuple"=none)(hg2:Gl X "reversed")(hm2:X.mg "reversed"=none)(he:PE X e te)
 (hs1:21#([.Call (.Name "reversed" p2) [e] [] pos2])=[43#(.Call (.Name "reversed" p2) [e] [] pos2)]:=by rfl) (hs2:21#([e])=[43#e]:=by rfl) (hK:X.K=K:=by rfl) :
 PE X (.Call (.Name "tuple" p1) [.Call (.Name "reversed" p2) [e] [] pos2] [] pos1) (QS K te):=by
 subst hK;show 72;refine wpAny_Call_Name_kw (jN I hg1 hm1 I? (h_ ?_ hs1 rfl));rw[hs1];refine Calls.spliced_cons (wpAny_Call_Name_kw (jN I hg2 hm2 PyProof.Rows.boot_reversed (h_ ?_ hs2 rfl)));rw[hs2];refine Calls.spliced_cons (dR 39#he λu s1 ⟨x,H1,I1,r1,l,vs,ex,hq,h0,hv,q1⟩=>Calls.spliced_nil ?_)
 subst ex;cases r1;obtain⟨its,rv,p,hz⟩:=I1.tuple hq;have hlen:vs.length=its.length:=rv.length;have p:IsTup s1.heap l its.toArray:=p;have hl:=b! p.choose_spec.1;have h9:its.toArray.size<=1000:=by rw[r!];lia
 refine Rv.NO p h9 λtk=>Calls.spliced_nil ?_
 refine Rv.NP (its:=its.toArray) (I1.ok.hd hcm) (E! _ rfl) (p.keeps λb o e=>l! _ e) (q! hl) (by rw[r!];lia) h9 λh' tk' z k=>?_
 have kp:∀b o,71#s1.heap.get?->45#o:=λb o e=>k b o (q! (b! e)) (l! _ e)
 have hsz:s1.heap.objs.size<=h'.objs.size:=by
  rw[size_push']at z;exact B! (Nat.lt_of_succ_lt z)
 refine⟨.ref h'.objs.size,_,I1.laid (t':=tk') (o:=.tup vs.reverse) (λb o e=>l! _ (kp b o e)) hsz ?_,rfl,q1 _ (I1.hok.fresh hsz)⟩
 exact⟨by rw[_l,hlen];exact B! (cO (by lia)),its.reverse,JW rv,_,E! _ rfl,rfl,0,by simp⟩
end
section
variable {X:Cx}{e e' : Expr}{te te' : TE}
def bE(ha:PE X e te)(hs:21#([e])=43#e::21#([]):=by rfl):PA X [e] (HD te SX):=aP ha fO hs
def bS(ha:PE X e te)(hb:PE X e' te')(hs:21#([e,e'])=43#e::21#([e']):=by rfl)(ht:21#([e'])=43#e'::21#([]):=by rfl):PA X [e,e'] (HD te (HD te' SX)):=aP ha (aP hb fO ht) hs
def cA{i j pos q}(K:b7)(ha:PE X e te)(h:X.K=K:=by rfl):PE X (.Subscript e (.Constant (.int i) j q) pos) (Rz (S7 K) te (tC (.int i))):=aZ (mj K h) ha aq
def Y0{i j pos q}(K:b7)(ha:PE X e te)(h:X.K=K:=by rfl):PE X (.Subscript e (.Constant (.int i) j q) pos) (Rz (S6 K) te (tC (.int i))):=aZ (kE K h) ha aq
def bu{x:Str}{pos pos' : Pos}(i:Nat)(hN:X.N.Nodup)(he:PE X e te)(hi:X.N[i]?=some x:=by exact rfl)(hx:Loc X.env.scope x:=by exact Or.inl rfl)(hs:swapsWith e (some (.Name x pos')) pos.line X.env=pure false:=by rfl)(hf:X.fn x=true\/53#x=some .local:=by first | exact .inl rfl | exact .inr rfl | assumption):
 PS X (.Assign [.Name x pos'] e pos) (SO te (Ho i)):=dD hN hi hx he hs hf
end
def je{α:Type}{a:α}{l:List α}:Ah (a::l) 0=some a:=ay (j:=0) rfl
def fB{α:Type}{a b:α}{l:List α}:Ah (a::b::l) 1=some b:=ay (j:=1) rfl
end L2
set_option maxHeartbeats 4000000
namespace K30
open PySem L2 Ring
local macro_rules | `(tactic| trivial)=>`(tactic| exact⟨rfl,rfl,rfl,by decide +kernel,rfl,by decide +kernel,by decide +kernel⟩)
def top(i:Nat):Stmt:=PySem.Challenge.pw_ringbase_k30_bases_judged.main.body.getD i (.Pass ⟨0,0,0,0⟩)
section
variable {nu om oz sO BN Lm NQ QT R8 Y3 Xu Xv Xw Xx Xy aaJ:TS}{qA Ln VA sc3 sc4 sc5 sc6:TT}{wK Xz si2:TI}{wL XA sg2:TG}{D:Ends}{σ:St}{H:Hp}
abbrev uv:Stmt:=top 7
def Gh:aC ["tie_set","tie"] ["tie_set","tie"] (ai uv):=34#0
abbrev qf:Stmt:=top 8
def Gi:aC ["tie_set"] ["tie_set"] (ai qf):=34#0
abbrev yq:Stmt:=top 9
def qg:aC ["web","ties","found","tie"] ["web","ties"] (ai yq):=34#0
def JY(h:57#(let c9:=oz;let dU:=(aH (dc qA c9 bM) cB);let eI:=(aH (gD wK wL dU) b8);(aH sO eI) D σ H)):=h
abbrev rh:Stmt:=top 10
def Ej:aC ["web"] ["web"] (ai rh):=34#0
abbrev yr:Stmt:=top 11
def JZ:aC ["web","number"] ["web","number"] (ai yr):=34#0
abbrev pD:Stmt:=top 12
def BO:aC ["web","tie_set"] ["web","tie_set"] (ai pD):=34#0
def BP(h:let b8:=nu;(dc qA b8 bM) D σ H):=h
abbrev kg:Stmt:=top 13
def zy:aC ["web","tie_set"] ["web","tie_set"] (ai kg):=34#0
def my(h:let b8:=nu;(aH om b8) D σ H):=h
abbrev lY:Stmt:=top 14
def BQ:aC ["web","tie_set"] ["web","tie_set"] (ai lY):=34#0
abbrev kh:Stmt:=top 15
def gF:aC ["web","tie_set","ends","one","other","length"] ["web","tie_set"] (ai kh):=34#0
def zz(h:57#(let c9:=(aH oz cB);let dU:=(aH (gD wK wL c9) b8);(aH sO dU) D σ H)):=h
abbrev fY:Stmt:=top 16
def iS:aC ["leasts","one","other","low","high"] ["leasts","one","other"] (ai fY):=34#0
def fL(h:let b8:=nu;let cB:=(aH om b8);(aH oz cB) D σ H):=h
abbrev sP:Stmt:=top 17
def iC:aC ["web","tie_set","leasts","one","other","length","found","start"] ["web","tie_set"] (ai sP):=34#0
def J0(h:57#(let c9:=(dc qA cB bM);let dU:=(aH (gD wK wL c9) b8);let eI:=(aH oz dU);let j6:=sO;let mS:=(aH (gD Xz XA j6) eI);(aH BN mS) D σ H)):=h
abbrev Gj:Stmt:=top 18
def QU:aC ["web"] ["web"] (ai Gj):=34#0
abbrev uw:Stmt:=top 20
def Gk:aC ["web","tie_set"] ["web","tie_set"] (ai uw):=34#0
abbrev gV:Stmt:=top 21
def bJ:aC ["web","leasts","trails","tie","one","other","bridge","moved"] ["web"] (ai gV):=34#0
def ux(h:57#(let c9:=(aH oz cB);let dU:=(aH sO c9);let eI:=(aH BN dU);let j6:=(dc qA eI bM);let mS:=(aH Lm j6);let sQ:=(aH NQ mS);let vC:=(aH (gD wK wL sQ) b8);let vD:=(aH QT vC);(aH R8 vD) D σ H)):=h
abbrev yt:Stmt:=top 22
def qh:aC ["web","found","trail"] ["web"] (ai yt):=34#0
def AY(h:57#(let c9:=(aH (gD wK wL cB) b8);(aH oz c9) D σ H)):=h
abbrev yu:Stmt:=top 23
def J7:aC ["web"] ["web"] (ai yu):=34#0
abbrev qL:Stmt:=top 24
abbrev sR:Stmt:=top 25
def gG(h:57#((aH (dc qA cB bM) b8) D σ H)):=h
abbrev qi:Stmt:=top 27
def yv:aC ["web","tie_set","touched"] ["web","tie_set"] (ai qi):=34#0
def Gm(h:let b8:=nu;let cB:=(aH om b8);let c9:=oz;(aH (dc qA c9 bM) cB) D σ H):=h
abbrev jk:Stmt:=top 28
def sS:aC ["web","number"] ["web","number"] (ai jk):=34#0
abbrev lZ:Stmt:=top 29
def BR:aC ["web","rings"] ["web","rings"] (ai lZ):=34#0
def fZ:Pos:=⟨95,29,95,70⟩
abbrev yw:Stmt:=top 31
def J8:aC ["one","other"] ["one","other"] (ai yw):=34#0
abbrev mz:Stmt:=top 32
def yx:aC ["tie_set","marks"] ["tie_set","marks"] (ai mz):=34#0
abbrev AZ:Stmt:=top 33
abbrev Ek:Stmt:=top 34
abbrev uy:Stmt:=top 35
def Gn:aC ["web","tie_set","trails","side","amiss"] ["web","tie_set"] (ai uy):=34#0
abbrev gb:Stmt:=top 37
def eg:aC ["web","marks","steps","tie","ends","turn"] ["web","marks"] (ai gb):=34#0
def sU(h:57#(let c9:=(aH oz cB);let dU:=(aH sO c9);let eI:=(aH (gD wK wL dU) b8);(aH BN eI) D σ H)):=h
abbrev iT:Stmt:=top 38
def bZ:aC ["web","marks","start","steps","found","waiting","nearest","way","tie","point","turn","part","further"] ["web","marks","start"] (ai iT):=34#0
def zA(h:57#(let c9:=(dc Ln cB bM);let dU:=(aH oz c9);let eI:=(aH sO dU);let j6:=(gD wK wL eI);let mS:=(aH BN j6);let sQ:=(aH Lm mS);let vC:=(aH NQ sQ);let vD:=(aH (wW qA vC) b8);let k6:=(aH QT vD);let mC:=(aH R8 k6);(aH Y3 mC) D σ H)):=h
def cC:Pos:=⟨133,35,133,63⟩
abbrev jS:Stmt:=top 39
def uz:aC ["way"] ["way"] (ai jS):=34#0
abbrev gf:Stmt:=top 40
def sV:aC ["ways"] ["ways"] (ai gf):=34#0
abbrev gh:Stmt:=top 42
def sW:aC ["web","marks"] ["web","marks"] (ai gh):=34#0
abbrev gW:Stmt:=top 43
def uA:aC ["ways"] ["ways"] (ai gW):=34#0
abbrev nv:Stmt:=top 44
def zB:aC ["web","marks"] ["web","marks"] (ai nv):=34#0
abbrev l7:Stmt:=top 45
def ny:aC ["web","marks","ways","rounds"] ["web","marks"] (ai l7):=34#0
def BS(h:57#(let c9:=(aH (dc qA cB bM) b8);let dU:=(aH oz c9);let eI:=(aH sO dU);(aH BN eI) D σ H)):=h
abbrev mD:Stmt:=top 46
def yy:aC ["one","other","length"] ["one","other","length"] (ai mD):=34#0
abbrev nA:Stmt:=top 47
def mE:aC ["tie","turn","worths","here","there"] ["tie","turn","worths"] (ai nA):=34#0
abbrev k7:Stmt:=top 48
def gX:aC ["web","marks","worths","point","place","tie"] ["web","marks","worths"] (ai k7):=34#0
def vP(h:57#(let c9:=(dc qA cB bM);let dU:=(gD Xz XA c9);let eI:=oz;let j6:=(aH (dc Ln eI bM) dU);let mS:=(aH (gD wK wL j6) b8);(aH sO mS) D σ H)):=h
abbrev fP:Stmt:=top 49
def oq:aC ["worths","length","rounds"] ["worths","length"] (ai fP):=34#0
abbrev mF:Stmt:=top 50
def yz:aC ["web","marks","ring","worths"] ["web","marks","ring","worths"] (ai mF):=34#0
abbrev uB:Stmt:=top 52
def fQ:aC ["rows","tie_set","left","used","lead","row","places"] ["rows","tie_set"] (ai uB):=34#0
def Gp(h:57#(let c9:=(aH oz cB);let dU:=(dc qA c9 bM);let eI:=(aH (gD wK wL dU) b8);let j6:=(aH sO eI);(aH BN j6) D σ H)):=h
abbrev rm:Stmt:=top 53
def pF:aC ["rows","added","found","old"] ["rows","added"] (ai rm):=34#0
def El(h:57#(let c9:=oz;let dU:=(dc qA cB c9);let eI:=(aH (gD wK wL dU) b8);(aH sO eI) D σ H)):=h
abbrev uC:Stmt:=top 54
def jm:aC ["sets","rows","place","tie_set","rest"] ["sets"] (ai uC):=34#0
def Gq(h:57#(let c9:=(dc qA cB bM);let dU:=(aH oz c9);let eI:=(aH (gD wK wL dU) b8);(aH sO eI) D σ H)):=h
abbrev qj:Stmt:=top 55
def Gr:aC ["web","rings"] ["web","rings"] (ai qj):=34#0
abbrev l8:Stmt:=top 56
def ki:aC ["web","rings","rows","found","place"] ["web","rings"] (ai l8):=34#0
def BU(h:57#(let c9:=(aH (gD wK wL cB) b8);let dU:=(aH oz c9);let eI:=(aH sO dU);let j6:=BN;(aH (dc qA j6 bM) eI) D σ H)):=h
abbrev gH:Stmt:=top 57
def eU:aC ["web","waiting","found","marks","ring"] ["web"] (ai gH):=34#0
def yC(h:57#(let c9:=(aH oz cB);let dU:=(aH sO c9);let eI:=(aH BN dU);let j6:=(aH (wW qA eI) b8);let mS:=(aH Lm j6);(aH NQ mS) D σ H)):=h
abbrev kj:Stmt:=top 58
def mG:aC ["web","rings","marks"] ["web"] (ai kj):=34#0
abbrev jE:Stmt:=top 60
def nB:aC ["web","rings","marks","place","ring"] ["web","rings","marks"] (ai jE):=34#0
def BV(h:57#(let c9:=(dc qA cB bM);let dU:=(aH (gD wK wL c9) b8);let eI:=oz;(aH (dc Ln eI bM) dU) D σ H)):=h
abbrev fD:Stmt:=top 61
def pG:aC ["web","base","rings"] ["web","base"] (ai fD):=34#0
def yD(h:57#(let c9:=(aH (dc qA cB bM) b8);let dU:=oz;let eI:=(aH (dc Ln dU bM) c9);(aH sO eI) D σ H)):=h
abbrev mH:Stmt:=top 63
def yE:aC ["script","k"] ["script","k"] (ai mH):=34#0
abbrev pH:Stmt:=top 64
def nC:aC ["cell","k","near","stir"] ["cell","k"] (ai pH):=34#0
abbrev nE:Stmt:=top 65
def zC:aC ["cell","way"] ["cell","way"] (ai nE):=34#0
def zD(h:57#(let c9:=(aH (dc qA cB bM) b8);let dU:=oz;(aH (dc Ln dU bM) c9) D σ H)):=h
abbrev uD:Stmt:=top 66
def nF:aC ["cell","points","way","one","other"] ["cell","points","way"] (ai uD):=34#0
def Gs(h:let b8:=nu;let cB:=(aH om b8);let c9:=(aH oz cB);(aH sO c9) D σ H):=h
abbrev jn:Stmt:=top 67
def cg:aC ["script","most","ranked","head","points","way","cells","ties","marks","free","cell","tie","joined","old"] ["script","most","ranked"] (ai jn):=34#0
def Gu(h:57#(let c9:=(aH oz cB);let dU:=(aH sO c9);let eI:=(aH BN dU);let j6:=(dc qA eI bM);let mS:=(aH Lm j6);let sQ:=(aH NQ mS);let vC:=(aH (gD wK wL sQ) b8);let vD:=(aH QT vC);let k6:=(aH R8 vD);let mC:=(aH Y3 k6);let BW:=Xu;let Em:=(aH Xv BW);let En:=(aH (dc Ln Em bM) mC);let J9:=(aH Xw En);let NR:=(aH Xx J9);let NS:=(aH Xy NR);(aH aaJ NS) D σ H)):=h
abbrev nG:Stmt:=top 69
def mJ:aC ["web","some","counts","k"] ["web","some"] (ai nG):=34#0
def qM(h:57#(let c9:=(aH oz cB);let dU:=(dc qA c9 bM);let eI:=(aH (gD wK wL dU) b8);(aH sO eI) D σ H)):=h
abbrev iU:Stmt:=top 70
def gJ:aC ["web","some","marks","k","old"] ["web","some"] (ai iU):=34#0
abbrev rq:Stmt:=top 71
def Eo:aC ["web"] ["web"] (ai rq):=34#0
abbrev nH:Stmt:=top 72
def Ep:aC ["web","some"] ["web","some"] (ai nH):=34#0
abbrev k8:Stmt:=top 73
def vE:aC ["web","some","counts"] ["web","some"] (ai k8):=34#0
def Er(h:57#(let c9:=(aH (dc qA cB bM) b8);(aH oz c9) D σ H)):=h
abbrev nJ:Stmt:=top 74
def Es:aC ["web","some"] ["web","some"] (ai nJ):=34#0
abbrev uE:Stmt:=top 75
def k9:aC ["one","other","both","odd"] ["one","other"] (ai uE):=34#0
def Gv(h:57#(let c9:=(aH oz cB);let dU:=(aH (wW qA c9) b8);let eI:=(aH sO dU);(aH BN eI) D σ H)):=h
abbrev pJ:Stmt:=top 76
def nK:aC ["kept","some","one"] ["kept","some"] (ai pJ):=34#0
def BX(h:let b8:=nu;let cB:=(aH om b8);let c9:=oz;let dU:=(aH (dc qA c9 bM) cB);let eI:=sO;(aH (gD wK wL eI) dU) D σ H):=h
abbrev ko:Stmt:=top 77
def qN:aC ["sets","kept"] ["sets"] (ai ko):=34#0
abbrev uF:Stmt:=top 78
def fR:aC ["web","some","one","other","came","line","at","here","k","there"] ["web","some","one","other"] (ai uF):=34#0
def Gw(h:57#(let c9:=(aH oz cB);let dU:=(dc VA c9 bM);let eI:=(aH sO dU);let j6:=(dc Ln eI bM);let mS:=(gD wK wL j6);let sQ:=(aH BN mS);let vC:=(aH Lm sQ);let vD:=(aH (wW qA vC) b8);let k6:=(aH NQ vD);let mC:=(aH QT k6);(aH R8 mC) D σ H)):=h
abbrev iV:Stmt:=top 79
def cR:aC ["web","order","some","rings","k","way"] ["web","order"] (ai iV):=34#0
def rA(h:57#(let c9:=oz;let dU:=(dc qA cB c9);let eI:=(aH sO dU);let j6:=(aH (gD wK wL eI) b8);let mS:=(aH BN j6);(aH Lm mS) D σ H)):=h
abbrev pL:Stmt:=top 80
def nL:aC ["cell","many","row","k"] ["cell","many"] (ai pL):=34#0
abbrev jT:Stmt:=top 81
def uG:aC ["first","second","length"] ["first","second","length"] (ai jT):=34#0
abbrev ik:Stmt:=top 82
def bz:aC ["web","marks","worths","point","k","one","other","length","turn","part","first"] ["web","marks","worths"] (ai ik):=34#0
def qB(h:57#(let c9:=(dc qA cB bM);let dU:=(aH oz c9);let eI:=(gD si2 sg2 dU);let j6:=(aH sO eI);let mS:=(aH BN j6);let sQ:=(gD Xz XA mS);let vC:=Lm;let vD:=(aH (dc Ln vC bM) sQ);let k6:=(aH (gD wK wL vD) b8);let mC:=NQ;(aH (dc VA mC bM) k6) D σ H)):=h
abbrev iW:Stmt:=top 83
def iq:aC ["web","ring","marks","worths","point","own"] ["web","ring","marks","worths"] (ai iW):=34#0
def rB(h:57#(let c9:=(dc qA cB bM);let dU:=(aH oz c9);let eI:=(aH (gD wK wL dU) b8);let j6:=sO;(aH (dc Ln j6 bM) eI) D σ H)):=h
abbrev kI:Stmt:=top 84
def eJ:aC ["web","base","rings","far","ring","marks","worths","pairs"] ["web","base"] (ai kI):=34#0
def Gx(h:57#(let c9:=(dc qA cB bM);let dU:=oz;let eI:=(aH (dc Ln dU bM) c9);let j6:=(aH (gD wK wL eI) b8);let mS:=sO;let sQ:=(aH (dc VA mS bM) j6);let vC:=(aH BN sQ);let vD:=Lm;let k6:=(dc sc3 vD bM);let mC:=(aH (gD Xz XA k6) vC);let BW:=NQ;let Em:=(aH (dc sc4 BW bM) mC);let En:=(aH QT Em);(aH R8 En) D σ H)):=h
abbrev cG:Stmt:=top 85
def cS:aC ["worths","cell","rows","row","pair","part","old"] ["worths","cell"] (ai cG):=34#0
def rC(h:57#(let c9:=(aH (dc qA cB bM) b8);let dU:=(aH oz c9);let eI:=(aH sO dU);let j6:=(aH BN eI);let mS:=(aH Lm j6);let sQ:=(aH NQ mS);(aH QT sQ) D σ H)):=h
abbrev nM:Stmt:=top 86
def bK:aC ["web","base","cell","way","rest","blank","at","ring","marks","worths","far"] ["web","base","cell"] (ai nM):=34#0
def zE(h:let b8:=nu;let cB:=om;let c9:=(aH (dc qA cB bM) b8);let dU:=oz;let eI:=(aH (dc Ln dU bM) c9);let j6:=sO;let mS:=(aH (dc VA j6 bM) eI);let sQ:=BN;let vC:=(aH (dc sc3 sQ bM) mS);let vD:=Lm;let k6:=(aH (dc sc4 vD bM) vC);let mC:=NQ;let BW:=(aH (dc sc5 mC bM) k6);let Em:=(aH QT BW);let En:=(aH R8 Em);let J9:=(aH Y3 En);let NR:=(aH Xu J9);let NS:=Xv;let XC:=(aH Xw NS);let XD:=(aH (dc sc6 XC bM) NR);let XE:=(aH Xx XD);(aH Xy XE) D σ H):=h
abbrev dJ:Stmt:=top 87
def bO:aC ["web","cell","pairs","some","rings","marks","told","k"] ["web","cell"] (ai dJ):=34#0
def sX(h:57#(let c9:=(aH oz cB);let dU:=(aH (gD wK wL c9) b8);let eI:=(aH sO dU);let j6:=(aH BN eI);let mS:=(aH Lm j6);let sQ:=(aH NQ mS);let vC:=QT;let vD:=(dc qA vC bM);let k6:=(aH (gD Xz XA vD) sQ);(aH R8 k6) D σ H)):=h
abbrev lg:Stmt:=top 88
def gY:aC ["web","cell","some","k"] ["web","cell"] (ai lg):=34#0
def vQ(h:57#(let c9:=(dc qA cB bM);let dU:=(aH (gD wK wL c9) b8);(aH oz dU) D σ H)):=h
abbrev kJ:Stmt:=top 89
def nN:aC ["web","cell","rings","marks"] ["web","cell"] (ai kJ):=34#0
def Gy(h:let b8:=nu;let cB:=(aH om b8);let c9:=oz;let dU:=(aH (dc qA c9 bM) cB);let eI:=(aH sO dU);(aH BN eI) D σ H):=h
abbrev NT:Stmt:=top 90
def pM:aC ["script","web","head","base","right","others","other","found"] ["script"] (ai NT):=34#0
def UE(h:57#(let c9:=(dc qA cB bM);let dU:=(aH oz c9);let eI:=(aH (gD wK wL dU) b8);let j6:=(aH sO eI);let mS:=(aH BN j6);let sQ:=(aH Lm mS);let vC:=NQ;let vD:=(aH (dc Ln vC bM) sQ);let k6:=(aH QT vD);let mC:=(aH R8 k6);(aH Y3 mC) D σ H)):=h
end
set_option genInjectivity false
set_option genSizeOf false
structure Adr where
 Ka:Addr
 Kc:FuncData
 Kd:Addr
 Ke:FuncData
 NU:Addr
 NV:FuncData
 Gz:Addr
 GA:FuncData
 NW:Addr
 NX:FuncData
 Et:Addr
 Eu:FuncData
 BY:Addr
 BZ:FuncData
 Ew:Addr
 Ex:FuncData
 B3:Addr
 B4:FuncData
 uH:Addr
 uI:FuncData
 NY:Addr
 NZ:FuncData
 UG:Addr
 UH:FuncData
 Kf:Addr
 Kg:FuncData
 vR:Addr
 vS:FuncData
 N1:Addr
 N2:FuncData
 N3:Addr
 N4:FuncData
 zF:Addr
 zG:FuncData
 B5:Addr
 B6:FuncData
 Kh:Addr
 Kl:FuncData
 uJ:Addr
 uK:FuncData
 Ey:Addr
 Ez:FuncData
 N5:Addr
 N6:FuncData
 zH:Addr
 zI:FuncData
 Km:Addr
 Kn:FuncData
 N7:Addr
 N8:FuncData
 Ko:Addr
 Kq:FuncData
 uL:Addr
 uM:FuncData
 B7:Addr
 B8:FuncData
 vU:Addr
 vV:FuncData
 uN:Addr
 uO:FuncData
 uP:Addr
 uQ:FuncData
 vW:Addr
 vX:FuncData
 B9:Addr
 Ca:FuncData
 EA:Addr
 EB:FuncData
 zJ:Addr
 zK:FuncData
 Cb:Addr
 Cc:FuncData
 yF:Addr
 yG:FuncData
 yH:Addr
 yI:FuncData
 zL:Addr
 zM:FuncData
 Ks:Addr
 Ku:FuncData
 GB:Addr
 GC:FuncData
 Kv:Addr
 Kw:FuncData
 Kx:Addr
 Ky:FuncData
 EC:Addr
 ED:FuncData
 zN:Addr
 zO:FuncData
 Cd:Addr
 Ce:FuncData
 EF:Addr
 EG:FuncData
 zP:Addr
 zQ:FuncData
 zR:Addr
 zS:FuncData
 EH:Addr
 EI:FuncData
 Cf:Addr
 Cg:FuncData
 Kz:Addr
 KA:FuncData
 KC:Addr
 KD:FuncData
 Ci:Addr
 Cj:FuncData
 Ck:Addr
 Cn:FuncData
 GD:Addr
 GF:FuncData
 GG:Addr
 GH:FuncData
 GI:Addr
 GJ:FuncData
 GK:Addr
 GL:FuncData
 KG:Addr
 KH:FuncData
 EJ:Addr
 EK:FuncData
 Co:Addr
 Cp:FuncData
 KI:Addr
 KJ:FuncData
 sY:Addr
 sZ:FuncData
 EL:Addr
 EM:FuncData
 vY:Addr
 vZ:FuncData
 rD:Addr
 rE:FuncData
 tu:Addr
 tD:FuncData
 KL:Addr
 KN:FuncData
 tE:Addr
 tF:FuncData
 Cq:Addr
 Cr:FuncData
 uR:Addr
 uS:FuncData
 yJ:Addr
 yK:FuncData
 KO:Addr
 KP:FuncData
 XF:Addr
 XG:FuncData
 gM:Addr
 GN:Addr
 A1:Addr
 yL:Addr
 EN:Addr
 iD:Addr
 Cs:Addr
 cW:Addr
structure Txt(P:Program)(w:World)(base:Heap)(K:b7)(mg:oA)(a:Adr):Prop where
 iE:Dn K mg "has_tie" uv a.Ka a.Kc ["tie_set","tie"]
 kK:Dn K mg "ties_in" qf a.Kd a.Ke ["tie_set"]
 yM:Dn K mg "set_of" yq a.NU a.NV ["web","ties"]
 lq:Dn K mg "all_ties" rh a.Gz a.GA ["web"]
 pN:Dn K mg "is_set" yr a.NW a.NX ["web","number"]
 jF:Dn K mg "check_set" pD a.Et a.Eu ["web","tie_set"]
 iX:Dn K mg "triples_in" kg a.BY a.BZ ["web","tie_set"]
 l9:Dn K mg "length_of" lY a.Ew a.Ex ["web","tie_set"]
 nO:Dn K mg "odd_points" kh a.B3 a.B4 ["web","tie_set"]
 gi:Dn K mg "drawn_together" fY a.uH a.uI ["leasts","one","other"]
 tG:Dn K mg "pieces" sP a.NY a.NZ ["web","tie_set"]
 GO:Dn K mg "rank" Gj a.UG a.UH ["web"]
 uT:Dn K mg "is_even" uw a.Kf a.Kg ["web","tie_set"]
 jU:Dn K mg "forest_trails" gV a.vR a.vS ["web"]
 yN:Dn K mg "forest" yt a.N1 a.N2 ["web"]
 yO:Dn K mg "chords" yu a.N3 a.N4 ["web"]
 O7:Dn K mg "ring_closed" qL a.zF a.zG ["web","trails","chord"]
 QV:Dn K mg "chord_ring" sR a.B5 a.B6 ["web","tie"]
 uU:Dn K mg "is_ring" qi a.Kh a.Kl ["web","tie_set"]
 gj:Dn K mg "is_ring_number" jk a.uJ a.uK ["web","number"]
 jG:R3 K mg "by_length" lZ a.Ey a.Ez ["web","rings"] a.EN a.iD
 yP:Dn K mg "common" yw a.N5 a.N6 ["one","other"]
 gO:Dn K mg "bears_oddly" mz a.zH a.zI ["tie_set","marks"]
 VH:Dn K mg "is_side" AZ a.Km a.Kn ["web","side"]
 XH:Dn K mg "cut_of" Ek a.N7 a.N8 ["web","side"]
 uV:Dn K mg "side_of" uy a.Ko a.Kq ["web","tie_set"]
 jo:Dn K mg "steps_by_point" gb a.uL a.uM ["web","marks"]
 kq:R3 K mg "least_ways" iT a.B7 a.B8 ["web","marks","start"] a.Cs a.cW
 gZ:Dn K mg "length_of_way" jS a.vU a.vV ["way"]
 jq:Dn K mg "worths_of_ways" gf a.uN a.uO ["ways"]
 gm:Dn K mg "all_least_ways" gh a.uP a.uQ ["web","marks"]
 g7:Dn K mg "worths_of_all" gW a.vW a.vX ["ways"]
 nQ:Dn K mg "worths_for" nv a.B9 a.Ca ["web","marks"]
 jH:Dn K mg "least_odd" l7 a.EA a.EB ["web","marks"]
 jw:Dn K mg "near_enough" mD a.zJ a.zK ["one","other","length"]
 nR:Dn K mg "tie_stands" nA a.Cb a.Cc ["tie","turn","worths"]
 ly:Dn K mg "worths_stand" k7 a.yF a.yG ["web","marks","worths"]
 lz:Dn K mg "none_shorter" fP a.yH a.yI ["worths","length"]
 mK:Dn K mg "ring_stands" mF a.zL a.zM ["web","marks","ring","worths"]
 uW:Dn K mg "reduced" uB a.Ks a.Ku ["rows","tie_set"]
 rF:Dn K mg "with_row" rm a.GB a.GC ["rows","added"]
 qm:Dn K mg "rows_of" uC a.Kv a.Kw ["sets"]
 m7:Dn K mg "is_base" qj a.Kx a.Ky ["web","rings"]
 jI:Dn K mg "marks_for" l8 a.EC a.ED ["web","rings"]
 mL:Dn K mg "least_rings" gH a.zN a.zO ["web"]
 nS:Dn K mg "least_base" kj a.Cd a.Ce ["web"]
 pO:Dn K mg "marks_fit" jE a.EF a.EG ["web","rings","marks"]
 gP:Dn K mg "base_judged" fD a.zP a.zQ ["web","base"]
 jx:Dn K mg "_law_cell_at" mH a.zR a.zS ["script","k"]
 eY:Dn K mg "_law_mixed" pH a.EH a.EI ["cell","k"]
 nU:Dn K mg "_law_length" nE a.Cf a.Cg ["cell","way"]
 uX:Dn K mg "_law_tie" uD a.Kz a.KA ["cell","points","way"]
 uY:Dn K mg "_law_web" jn a.KC a.KD ["script","most","ranked"]
 kr:Dn K mg "_law_counts" nG a.Ci a.Cj ["web","some"]
 ku:Dn K mg "_law_pieces" iU a.Ck a.Cn ["web","some"]
 rG:Dn K mg "_law_rank" rq a.GD a.GF ["web"]
 rH:Dn K mg "_law_even" nH a.GG a.GH ["web","some"]
 nV:Dn K mg "_law_ring" k8 a.GI a.GJ ["web","some"]
 ir:Dn K mg "_law_long" nJ a.GK a.GL ["web","some"]
 qo:Dn K mg "_law_odd" uE a.KG a.KH ["one","other"]
 pP:Dn K mg "_law_added" pJ a.EJ a.EK ["kept","some"]
 kA:Dn K mg "_law_chosen" ko a.Co a.Cp ["sets"]
 uZ:Dn K mg "_law_way" uF a.KI a.KJ ["web","some","one","other"]
 iY:Dn K mg "_law_chord_rings" iV a.sY a.sZ ["web","order"]
 pQ:Dn K mg "_law_order" pL a.EL a.EM ["cell","many"]
 jV:Dn K mg "_law_pair_fits" jT a.vY a.vZ ["first","second","length"]
 iw:Dn K mg "_law_worths_stand" ik a.rD a.rE ["web","marks","worths"]
 iZ:Dn K mg "_law_least_shown" iW a.tu a.tD ["web","ring","marks","worths"]
 u4:Dn K mg "_law_due" kI a.KL a.KN ["web","base"]
 i0:Dn K mg "_law_other_worth" cG a.tE a.tF ["worths","cell"]
 kB:Dn K mg "_law_spoilt" nM a.Cq a.Cr ["web","base","cell"]
 gn:Dn K mg "_law_other_base" dJ a.uR a.uS ["web","cell"]
 lA:Dn K mg "_law_side_cut" lg a.yJ a.yK ["web","cell"]
 u6:Dn K mg "_law_own" kJ a.KO a.KP ["web","cell"]
 R9:Dn K mg "law" NT a.XF a.XG ["script"]
 QW:mg "ValueError"=none
 Sa:mg "abs"=none
 IB:mg "all"=none
 UI:mg "bool"=none
 iF:mg "enumerate"=none
 N9:mg "int"=none
 Ct:mg "isinstance"=none
 bT:mg "len"=none
 GP:mg "list"=none
 Sb:mg "max"=none
 IC:mg "min"=none
 bH:mg "range"=none
 GQ:mg "reversed"=none
 XI:mg "set"=none
 pR:mg "sorted"=none
 Sd:mg "sum"=none
 g8:mg "tuple"=none
 Se:mg "zip"=none
 XJ:mg "BadSet"=11#a.gM
 UJ:mg "BadPoint"=11#a.GN
 VI:mg "NoChord"=11#a.A1
 XM:mg "NoBase"=11#a.yL
 Oa:∀h:Heap,K.In h->77#h.Ns->PyProof.Rows.OwnCls "BadSet" a.gM [.type "ValueError",.type "Exception",.type "BaseException",.type "object"] "ValueError.__new__" mg h
 VJ:∀h:Heap,K.In h->77#h.Ns->PyProof.Rows.OwnCls "NoChord" a.A1 [.type "ValueError",.type "Exception",.type "BaseException",.type "object"] "ValueError.__new__" mg h
 Ob:∀h:Heap,K.In h->77#h.Ns->PyProof.Rows.OwnCls "NoBase" a.yL [.type "ValueError",.type "Exception",.type "BaseException",.type "object"] "ValueError.__new__" mg h
section
variable {P:Program}{w:World}{K:b7}{mg:oA}{base:Heap}{a:Adr}{x:Str}{st:Stmt}{f c0 p0:Addr}{fd:FuncData}{ps:List Str}
abbrev Ok(_:Txt P w base K mg a)(_:Dn K mg x st f fd ps)(k:Nat)(sp:Sp):=oH P w K mg base HK k f fd ps sp
abbrev Oc(_:Txt P w base K mg a)(_:Dn K mg x st f fd ps)(k:Nat)(sp:Sp):=oH P w K mg base (Ma P w) k f fd ps sp
abbrev OkL(_:Txt P w base K mg a)(_:R3 K mg x st f fd ps c0 p0)(k:Nat)(sp:Sp):=oH P w K mg base HK k f fd ps sp
end
def GR:Sp:=λvs H Q _=>∃(S:Int) (k:Nat),vs=[.int S,.int (k:Int)]/\Q (.bl (bit S k)) H
def GS:Sp:=λvs H Q _=>∃m:Nat,vs=[.int (m:Int)]/\35#(m:Int)<=1000/\∀D H',H D=none->ah H H'->H' D=1#(aA (cz (m:Int)))->Q (.ref D) H'
def EO:Sp:=λvs H Q _=>∃w p ts,vs=[.ref w]/\73#0/\O1 p ts/\Q (.int (17#0-1)) H
def KQ:Sp:=λvs H Q _=>∃w p ts S,vs=[.ref w,.int S]/\73#0/\O1 p ts/\Q (.bl (7#(0<=S/\S<17#0))) H
def vF(ts:List eW)(S:Int)(bad:Prop)(R:Nat->Prop):Prop:=(∃m:Nat,S=(m:Int)/\m<17#0/\R m)\/((S<0\/17#0<=S)/\bad)
def Cu(C:Addr):Sp:=λvs H Q E=>∃w p ts S,vs=[.ref w,.int S]/\73#0/\O1 p ts/\vF ts S (E (.ref C) none H) λ_=>Q .dZ H
def zT(C:Addr):Sp:=λvs H Q E=>∃w p ts S,vs=[.ref w,.int S]/\73#0/\O1 p ts/\vF ts S (E (.ref C) none H) λm =>
 ∀D ys H',H D=none->ah H H'->H' D=1#ys->Paired (TupAt H') ys ((cz (m:Int)).map (bG ts))->Q (.ref D) H'
def zU(C:Addr):Sp:=λvs H Q E=>∃w p ts S,vs=[.ref w,.int S]/\73#0/\O1 p ts/\vF ts S (∀H',ah H H'->E (.ref C) none H') λm =>
 ∀D H',ah H H'->H' D=1#(aA (xg p ts (m:Int)))->Q (.ref D) H'
def GU(C:Addr):Sp:=λvs H Q E=>∃w p ts S,vs=[.ref w,.int S]/\73#0/\O1 p ts/\vF ts S (∀H',ah H H'->E (.ref C) none H') λm=>∀H',ah H H'->Q (.bl (7#(xg p ts (m:Int)=[]))) H'
section
variable {P:Program}{w:World}{K:b7}{mg:oA}{base:Heap}{a:Adr}(T:Txt P w base K mg a)
def bW:Ok T T.iE 1 GR:=by
 refine T.iE.ok Gh 4#0
 .obtain⟨S,k,rfl,q⟩:=h;refine⟨_,(ak (aB (cK eK (au Ba (au oG (pv 0) (pv 1)) aq) aq (aF _)))),?_⟩;refine(0#(br ⟨(by lia),br ⟨rfl,?_⟩⟩))
  rw[a!,Tw];exact q
def dW:Ok T T.kK 2 GS:=by
 have bW:=bW T;refine T.kK.ok Gi 4#0
 .obtain⟨m,rfl,hm,k⟩:=h;refine⟨_,(ak (aB (aY (own:=["tie"]) (fq:=["tie_set"]) (js:=[0]) (az (ai qf) ["tie_set"]) rfl (44#(LR PySem.F.plainAttrs_int adT adU HP (pv 0))) 8#(aQ 0 (ig ["tie","tie_set"])) 8#(gR (cu (aD bW hr T.iE.c aK (bS (pv 1) (pv 0))))) 8#(pv 0)))),?_⟩
  refine 14#15#47#(af rfl ⟨(by lia),(by lia),λD hD=>cP (lo:=0) (m:=35#(m:Int)) (qT (bit (m:Int)) H D) (.start hD) (λi acc H2 _ p=>p.len) (dl (S!.mpr hm)) ?_ ?_⟩)
  .intro i acc H2 hi p;rw[K!];refine 47#0#⟨(m:Int),i,rfl,af rfl (?_)⟩;cases hb:bit (m:Int) i with
   | true=>exact 14#(p.yes hD (ah.refl _) hb)
   | false=>exact p.no (ah.refl _) hb
  .intro acc H2 p;exact k D H2 hD p.1 (by rw[p.2.1,p.2.2];rfl)
def fb:Ok T T.lq 1 EO:=by
 refine T.lq.ok Ej 4#0
 .obtain⟨wb,p,ts,rfl,hw,W,q⟩:=h;refine⟨_,(ak (aB (au gx (au h7 aq (30#25#0)) aq))),?_⟩;obtain⟨b,xs,h1,h2,h3⟩:=hw.ex;have hl:=h3.length;have wl:=W.len;refine 14#(bC (aL.of h1) fB (kZ rfl (.inr (aL.of h2)) (br ⟨⟨by lia,by lia,16#0⟩,br (?_)⟩)))
  rw[a!,hl,Int.one_mul];exact q
def i7:Ok T T.pN 2 KQ:=by
 have fb:=fb T;refine T.pN.ok JZ 4#0
 .obtain⟨wb,p,ts,S,rfl,hw,W,q⟩:=h;refine⟨_,(ak (aB (qP (cK CZ (pv 1) aq (aF _)) (oF (cK HC (pv 1) (aD fb hr T.lq.c aK (bE (pv 0))) (aF _)))))),?_⟩;refine 14#(br 28#(iI (λhlt=>?_) (λhlt=>?_)))
  .have hlt:0<=S:=jz hlt;refine(0#⟨wb,p,ts,rfl,hw,W,_,_,rfl,rfl,?_⟩);have e:7#(S<=17#0-1)=7#(0<=S/\S<17#0):=K?.mpr ⟨λz=>⟨hlt,by lia⟩,λz=>by lia⟩
   rw[<-e]at q;exact q
  .have hlt : ¬ 0<=S:=λz=>hlt (cH z)
   rw[eV (λz=>hlt z.1)]at q
   exact q
def ez:Oc T T.jF 3 (Cu a.gM):=by
 have i7:=i7 T;refine T.jF.Jl BO 4#0
 .obtain⟨wb,p,ts,S,rfl,hw,W,q⟩:=h;refine⟨_,(ak (bx (fN (cu (aD i7 hr T.pN.c aK 51#(pv 1)))) (ak (C8 jP.thr rfl (by rfl) T.Oa PySem.F.excBase_ValueError (bE Fj))) aN)),?_⟩
  refine BP ?_;intro b8;refine(0#⟨wb,p,ts,S,rfl,hw,W,?_⟩);have h2:((2:Int)^ts.length)=6#(17#0):=by simp
  rcases q with⟨m,rfl,hm,q⟩|⟨hS,q⟩
  .rw[cH ⟨by lia,by lia⟩]
   exact 14#(cJ q)
  .rw[eV (by lia)]
   exact 14#(cY 29#q)
def dH:Oc T T.iX 4 (zT a.gM):=by
 have ez:=ez T;have dW:=dW T;refine T.iX.Jl zy 4#0
 .obtain⟨wb,p,ts,S,rfl,hw,W,q⟩:=h;refine⟨_,(ae (dB (aD ez hr T.jF.c jP.passes 51#(pv 1)))
   (ak (aB (aY (own:=["tie"]) (fq:=["web"]) (js:=[0]) (az (ai kg) ["web","tie_set"]) rfl (oh K (aD dW hr T.kK.c aK (bE (pv 1)))) 8#(aQ 0 (ig ["tie","web"])) 65#0 8#(aZ (mj K) (cA K (pv 1)) (pv 0)))))),?_⟩
  refine my ?_;intro b8;refine(0#⟨wb,p,ts,S,rfl,hw,W,?_⟩);rcases q with⟨m,rfl,hm,q⟩|⟨hS,q⟩
  .refine .inl ⟨m,rfl,hm,?_⟩;have wl:=W.len;have hb:35#(m:Int)<=ts.length:=bits_le hm;refine 14#⟨m,rfl,by lia,λL H1 _ s1 hL=>⟨L,rfl,24#hL,λD hD=>?_⟩⟩
   obtain⟨b,xs,h1,h2,h3⟩:=(hw.same s1).ex;have qt:=h3.length;refine aU (xs:=aA (cz (m:Int))) (λi acc H2=>ah H1 H2/\H2 D=1#acc/\Paired (TupAt H2) acc (((cz (m:Int)).take i).map (bG ts))/\acc.length=i) ⟨ah.new hD,aa,.nil,rfl⟩ ?_ ?_ ?_ ?_
   .rintro i acc H2 _ ⟨s2,hd,pr,hac⟩;exact⟨aM.of (s2 _ _ hL),hd,_K hac⟩
   .rw[av];refine dl (S!.mpr (D! (b? _ _) ?_));rw[y!]
    lia
   .rintro i x acc H2 hx ⟨s2,hd,pr,hac⟩;obtain⟨k,hk,rfl⟩:=eT hx;have kD:k<ts.length:=wm hm (gB hk);have hkx:k<xs.length:=by lia
    obtain⟨t,ht,c,hc,hct⟩:=Paired.j8 h3 (i:=k) (x:=xs[k]) (by simp[hkx])
    have O3:bG ts k=t:=by
     unfold bG;rw[w!,ht];rfl
    refine 47#(af rfl (bC 36#(s2 _ _ h1) fB 14#(bC (v:=xs[k]) 36#(s2 _ _ h2) (ay (j:=k) (by simp[hkx])) (?_))))
    rw[hc];refine⟨hd,s2.put hD,aa,?_,by rw[k!,U!,hac]⟩
    rw[Q!,hk,g!];refine Paired.snoc (85#74#(cV.put hd)) ?_
    rw[O3];exact⟨c,rfl,cV.put hd _ _ (s2 _ _ hct)⟩
   .rintro acc H2 ⟨s2,hd,pr,hac⟩;rw[av,H!]at pr;exact q D acc H2 (s1.free hD) (s1.trans s2) hd pr
  .exact .inr ⟨hS,q⟩
def nW:Oc T T.nO 5 (zU a.gM):=by
 have dH:=dH T;refine T.nO.Jl gF 4#0
 .obtain⟨wb,p,ts,S,rfl,hw,W,q⟩:=h;refine⟨_,(ae (dD (i:=2) gF.nd rfl (Or.inr rfl) (au wZ (cy (bE aq)) 25#0))
   (ae (r9 rfl (oh K (aD dH hr T.iX.c jP.passes 51#(pv 1))) (Ak K (n:=3) rfl (aI (aQ 3 gF.nd) (aI (aQ 4 gF.nd) (aI (aQ 5 gF.nd) cU))))
   (ae (Hq (pv 2) (pv 3) (getL K) aq Hv set_list)
   (ak (Hq (pv 2) (pv 4) (getL K) aq Hv set_list))))
   (ak (aB (aY (own:=["point"]) (fq:=["ends"]) (js:=[2]) (az (ai kh) ["web","tie_set","ends","one","other","length"]) rfl (44#25#0) 8#(aQ 0 (ig ["point","ends"])) 8#(gR (aG eK (au bh (aZ (kE K) (pv 1) (pv 0)) aq) aq (aF _))) 8#(pv 0)))))),?_⟩
  refine zz ?_;intro b8 cB c9 dU;obtain⟨b,xs,h1,h2,h3⟩:=id hw.ex;have wp:=W.WY;refine 29#(λl0 HM=>?_)
  have s0:ah H (η H l0 (.lst [.int 0])):=ah.new HM;refine 14#(bC 36#(s0 _ _ h1) je ⟨l0,(p:Int),af rfl ⟨rfl,aa,by lia,by lia,(by rw[a!];show 1*p<=sizeLine;exact dl (S!.mpr (by lia))),λe he=>?_⟩⟩)
  have s1:=s0.trans (ah.new (o:=.lst (List.replicate (p:Int).toNat [V.int 0]).flatten) he);have Y4:η (η H l0 (.lst [.int 0])) e (.lst (List.replicate (p:Int).toNat [V.int 0]).flatten) e=1#(oO (List.replicate p 0)):=by
   rw[aa,a!,Mm]
  generalize η (η H l0 (.lst [.int 0])) e (.lst (List.replicate (p:Int).toNat [V.int 0]).flatten)=H1 at s1 Y4;have XN:H e=none:=s0.free he;refine(0#⟨wb,p,ts,S,rfl,hw.same s1,W,?_⟩);rcases q with⟨m,rfl,hm,q⟩|⟨hS,q⟩
  .refine .inl ⟨m,rfl,hm,λL ys H2 Y5 s2 hL pr=>⟨L,rfl,24#hL,?_⟩⟩
   have s12:=s1.trans s2;have heL:e≠L:=aX Y4 Y5;have XO:ys.length<=24:=by
    rw[pr.length,χ];have hb:35#(m:Int)<=ts.length:=bits_le hm;have wl:=W.len;have:=b? (bit (m:Int)) 13#(35#(m:Int));rw[y!]at this;exact D! this (by lia)
   refine fC (K:=K) (a:=L) (xs:=ys) (λi σ H3=>∃v1 v2 v3,σ=[11#wb,3#(m:Int),some (.ref e),v1,v2,v3]/\(∀x o,H2 x=some o->x≠e->H3 x=some o)/\H3 e=1#(oO ((((cz (m:Int)).map (bG ts)).take i).foldl stepT (List.replicate p 0))))
    ⟨none,none,none,rfl,λ_ _ z _=>z,s2 _ _ Y4⟩ (λi σ H3 _ ⟨_,_,_,_,z,_⟩=>aM.of (z _ _ hL (u! heL))) ?_ ?_
   .rintro i y D' σ H3 hi ⟨v1,v2,v3,rfl,z3,KR⟩;obtain⟨t,ht,c,rfl,hc⟩:=Paired.j8 pr hi;have hce:c≠e:=bg hc (s2 _ _ Y4) 12#0
    have hc3:=z3 _ _ hc hce;have htm:t∈ts:=by
     obtain⟨k,hk,rfl⟩:=d!.mp (gB ht);unfold bG;have kD:=wm hm hk;rw[w!];simp[kD]
    obtain⟨a0,a1,b0,b1⟩:=W.inw.ends t htm;obtain⟨t1,t2,t3⟩:=t;dsimp only at a0 a1 b0 b1;obtain⟨j1,rfl⟩:=a_ a0;obtain⟨j2,rfl⟩:=a_ b0;generalize hE:(((cz (m:Int)).map (bG ts)).take i).foldl stepT (List.replicate p 0)=EE at KR;have hEl:EE.length=p:=by rw[<-hE,tT,b_]
    have hj1:j1<EE.length:=by lia
    have Ut:j2<58#(bump EE (j1:Int)):=by rw[mW];lia
    refine⟨c,_,rfl,aL.of hc3,rfl,_,_,rfl,_,_,rfl,_,_,rfl,rfl,?_⟩;refine(0#⟨e,_,j1,_,rfl,rfl,aM.of KR,tU hj1,_,_,rfl,rfl,e,_,_,j1,rfl,rfl,KR,nj (by rw[oO,χ];exact hj1),?_⟩)
    rw[xj];refine(0#⟨e,_,j2,_,rfl,rfl,aM.of aa,tU Ut,_,_,rfl,rfl,e,_,_,j2,rfl,rfl,aa,nj (by rw[oO,χ];exact Ut),?_⟩)
    rw[xj];refine⟨_,_,_,rfl,λx o z hx=>by rw[ao hx,ao hx];exact z3 x o z hx,?_⟩
    rw[aa,Q!,ht,B_,hE];rfl
   .rintro σ H3 ⟨v1,v2,v3,rfl,z3,KR⟩;have hwe:wb≠e:=aX h1 XN;have mO:ah H H3:=λx o z=>z3 x o (s12 x o z) (aX z XN)
    have hE:H3 e=1#(oO (mq p ts (m:Int))):=by
     rw[KR,Y_ (by rw[<-pr.length];exact Z' _),Am hm]
    have hEl:58#(mq p ts (m:Int))=p:=by rw[Am hm,tT,b_]
    refine 14#(bC 36#(mO _ _ h1) je 28#⟨(by lia),(by lia),λD hD=>cP (lo:=0) (m:=p) (qT (λi=>7#((mq p ts (m:Int)).getD i 0%2=1)) H3 D) (.start hD) (λi acc H4 _ p=>p.len) (dl (S!.mpr (by lia))) ?_ ?_⟩)
    .intro i acc H4 hi pk;rw[K!];refine 47#0#(jM (aM.of (pk.1 _ _ hE)) (ay (j:=i) (tU (by rw[hEl];exact hi))) (br ⟨(h8 rfl),rfl,af rfl (?_)⟩))
     rw[P7];cases hb:7#((mq p ts (m:Int)).getD i 0%2=1) with
     | true=>exact 14#(pk.yes hD (ah.refl _) hb)
     | false=>exact pk.no (ah.refl _) hb
    .intro acc H4 pk;exact q D H4 (mO.trans pk.1) (by rw[pk.2.1,pk.2.2];rfl)
  .exact .inr ⟨hS,q _ s1⟩
def u9:Oc T T.uT 6 (GU a.gM):=by
 have nW:=nW T;refine T.uT.Jl Gk 4#0
 .obtain⟨wb,p,ts,S,rfl,hw,W,q⟩:=h;refine⟨_,(ak (aB (cK (LZ K hr.units) (aD nW hr T.nO.c jP.passes 51#(pv 1)) (cy fO) (aF _)))),?_⟩;refine(0#⟨wb,p,ts,S,rfl,hw,W,?_⟩);rcases q with⟨m,rfl,hm,q⟩|⟨hS,q⟩
  .refine .inl ⟨m,rfl,hm,λD H1 s1 hD=>29#(λl hl=>?_)⟩
   have s2:ah H1 (η H1 l (.lst [])):=ah.new hl;refine⟨_,_,.lst (aM.of (s2 _ _ hD)) (gE _),.lst (aM.of aa) .nil,ee _,rfl,?_⟩;rw[P6];exact q _ (s1.trans s2)
  .exact .inr ⟨hS,q⟩
def Od:Sp:=λvs H Q _=>∃(l:Addr) (L:Nat->Nat) (p u v:Nat),vs=[.ref l,.int (u:Int),.int (v:Int)]/\H l=1#(dF L p)/\p<=10/\u<p/\v<p/\
 ∀D H',H D=none->ah H H'->H' D=1#(dF (RM.join L u v) p)->Q (.ref D) H'
def KS(C:Addr):Sp:=λvs H Q E=>∃w p ts,∃g:aE p ts,∃S,vs=[.ref w,.int S]/\73#0/\vF ts S (∀H',ah H H'->E (.ref C) none H') λm =>
 ∀D ys H',H D=none->ah H H'->H' D=1#ys->Paired (RP D H H') ys ((fK (ck p ts g m) p).map (pieceOf (ck p ts g m) p))->Q (.ref D) H'
def QX:Sp:=84#(vs=[.ref w]/\73#0/\∀H',ah H H'->Q (40#g.N.aJ.length) H')
def dM:Ok T T.gi 1 Od:=by
 refine T.gi.ok iS 4#0
 .obtain⟨l,L,p,u,v,rfl,hl,hp,hu,hv,q⟩:=h;refine⟨_,(ae (dD (i:=3) iS.nd rfl (Or.inr rfl) (bY (Ac rfl) (by rfl) T.IC adY (bS (aZ (kE K) (pv 0) (pv 1)) (aZ (kE K) (pv 0) (pv 2)))))
   (ae (dD (i:=4) iS.nd rfl (Or.inr rfl) (bY (Ab rfl) (by rfl) T.Sb PyProof.Rows.boot_max (bS (aZ (kE K) (pv 0) (pv 1)) (aZ (kE K) (pv 0) (pv 2)))))
   (ak (aB (aY (own:=["least"]) (fq:=["low","high"]) (js:=[3,4]) (az (ai fY) ["leasts","one","other","low","high"]) rfl (oh K (pv 0)) 8#(aQ 0 (ig ["least","low","high"])) 65#0 8#(mT (aG eK (pv 0) (pv 2) (aF _)) (pv 1) (pv 0))))))),?_⟩
  refine fL ?_;intro b8 cB;refine(0#(jM (aM.of hl) (ay (j:=u) (c5 hu)) 14#28#(jM (aM.of hl) (ay (j:=v) (c5 hv)) ⟨_,_,rfl,?_⟩)));refine(0#(jM (aM.of hl) (ay (j:=u) (c5 hu)) 14#28#(jM (aM.of hl) (ay (j:=v) (c5 hv)) ⟨_,_,rfl,?_⟩)));refine 14#⟨l,rfl,24#hl,λD hD=>aU (xs:=dF L p) (xr (RM.join L u v) H D) (.start hD) (λi acc H2 _ pd=>⟨aM.of (pd.1 _ _ hl),pd.len⟩) (by rw[cE];exact dl (S!.mpr (by lia))) ?_ ?_⟩
  .intro i x acc H2 hx pd;obtain⟨hi,rfl⟩:=lP hx;refine 47#0#15#(?_);rw[HZ,lQ]
   by_cases hm:L i=max (L u) (L v)
   .rw[cH hm];refine cY 14#(pd.next hD (ah.refl _) ?_);rw[HY];unfold RM.join;rw[ο hm]
   .rw[eV hm];refine cJ 14#(pd.next hD (ah.refl _) ?_);unfold RM.join;rw[ξ hm]
  .intro acc H2 pd;rw[cE]at pd;exact q D H2 hD pd.1 (by rw[pd.2.1,pd.2.2])
def m8:Oc T T.tG 5 (KS a.gM):=by
 have dH:=dH T;have dM:=dM T;refine T.tG.Jl iC 4#0
 .obtain⟨wb,p,ts,g,S,rfl,hw,q⟩:=h;refine⟨_,(ae (dD (i:=2) iC.nd rfl (Or.inr rfl) (bQ (RN rfl) (by rfl) T.GP adK (bE (bQ Df (by rfl) T.bH PyProof.Rows.boot_range (bE 25#0)))))
   (ae (r9 rfl (oh K (aD dH hr T.iX.c jP.passes 51#(pv 1))) (Ak K (n:=3) rfl (aI (aQ 3 iC.nd) (aI (aQ 4 iC.nd) (aI (aQ 5 iC.nd) cU))))
   (ak (dD (i:=2) iC.nd rfl (Or.inr rfl) (aD dM hr T.gi.c aK (aP (pv 2) (bS (pv 3) (pv 4)))))))
   (ae (bu 6 iC.nd (cy fO))
   (ae (r9 rfl (44#25#0) (ng (i:=7) iC.nd rfl (Or.inr rfl))
   (ak (bx (aG eK (aZ (kE K) (pv 2) (pv 7)) (pv 7) (aF _)) (ak (dB (Fc K (jY g? n? o? cN (pv 6) (bE (aY (own:=["point"]) (fq:=["leasts","start"]) (js:=[2,7]) (az (ai sP) ["web","tie_set","leasts","one","other","length","found","start"]) rfl (44#25#0) 8#(aQ 0 (ig ["point","leasts","start"])) 8#(gR (aG eK (aZ (kE K) (pv 1) (pv 0)) (pv 2) (aF _))) 8#(pv 0))))))) aN)))
   (ak (aB (pv 6))))))),?_⟩
  refine J0 ?_;intro b8 cB c9 dU eI j6 mS;obtain⟨b,xs,h1,h2,h3⟩:=id hw.ex;have W:=g.Lj;have wp:=W.WY;have wl:=W.len;refine 14#(bC (aL.of h1) je 28#(λr hr=>⟨r,p,rfl,aa,by lia,λl hl=>?_⟩))
  have s1:ah H (η (η H r (.IW 0 (p:Int))) l (.lst (zu p))):=(ah.new hr).trans (ah.new hl);have hl1:η (η H r (.IW 0 (p:Int))) l (.lst (zu p)) l=1#(dF (λx=>x) p):=aa
  generalize η (η H r (.IW 0 (p:Int))) l (.lst (zu p))=H1 at s1 hl1;refine(0#⟨wb,p,ts,S,rfl,hw.same s1,W,?_⟩);rcases q with⟨m,rfl,hm,q⟩|⟨hS,q⟩
  .refine .inl ⟨m,rfl,hm,λT0 ys H2 hTn s2 hT pr=>⟨T0,rfl,24#hT,?_⟩⟩
   have XO:ys.length<=24:=by
    rw[pr.length,χ];have hb:35#(m:Int)<=ts.length:=bits_le hm;have:=b? (bit (m:Int)) 13#(35#(m:Int));rw[y!]at this;exact D! this (by lia)
   refine fC (K:=K) (a:=T0) (xs:=ys) (λi σ H3=>∃la v3 v4 v5,σ=[11#wb,3#(m:Int),11#la,v3,v4,v5,none,none]/\ah H2 H3/\H3 la=1#(dF (vq p ts g ((cz (m:Int)).take i)) p))
    ⟨l,none,none,none,rfl,ah.refl _,s2 _ _ hl1⟩ (λi σ H3 _ ⟨_,_,_,_,_,z,_⟩=>aM.of (z _ _ hT)) ?_ ?_
   .rintro i y D' σ H3 hi ⟨la,v3,v4,v5,rfl,s3,hla⟩;obtain⟨t,ht,c,rfl,hc⟩:=Paired.j8 pr hi;have hc3:=s3 _ _ hc;rw[c!]at ht;obtain⟨k,hk,hkt⟩:=qC.mp ht;have kD:=wm hm (gB hk);have ea:=HU (g:=g) kD;have eb:=HV (g:=g) kD;rw[hkt]at ea eb;have la':=g.N.al k kD;have lb':=g.N.bl k kD;refine⟨c,_,rfl,aL.of hc3,rfl,_,_,rfl,_,_,rfl,_,_,rfl,rfl,?_⟩;refine(0#14#⟨la,vq p ts g ((cz (m:Int)).take i),p,g.N.a k,g.N.b k,?_,hla,wp,la',lb',λD H4 O8 s4 hD=>?_⟩)
    .rw[<-ea,<-eb];rfl
    .refine⟨D,_,_,_,rfl,s3.trans s4,?_⟩;rw[hD,Q!,hk];show _=some (HO.lst (dF (vq p ts g ((cz (m:Int)).take i++[k])) p));rw[FG]
   .rintro σ H3 ⟨la,v3,v4,v5,rfl,s3,hla⟩;have hys:ys.length=58#(cz (m:Int)):=by rw[pr.length,χ]
    rw[hys,H!,FH hm]at hla;have mO:ah H H3:=(s1.trans s2).trans s3;refine 29#(λD hD=>?_)
    have t0:xw (ck p ts g m) p H3 D 0 (η H3 D (.lst [])):=xw.start hD;generalize η H3 D (.lst [])=H4 at t0;refine 14#(bC 36#(t0.1 _ _ (mO _ _ h1)) je 28#⟨(by lia),(by lia),?_⟩)
    refine cF (lo:=0) (n:=(p:Int).toNat) (λi σ H5=>∃v7,σ=[11#wb,3#(m:Int),11#la,v3,v4,v5,some (.ref D),v7]/\xw (ck p ts g m) p H3 D i H5) ⟨none,rfl,t0⟩ ?_ ?_
    .rintro i D' σ H5 hi ⟨v7,rfl,t5⟩;rw[a!]at hi;rw[K!];have XQ:=t5.1 _ _ hla;refine(0#(jM (aM.of XQ) (ay (j:=i) (c5 hi)) 14#15#(?_)));rw[lQ]
     by_cases hr:ck p ts g m i=i
     .rw[cH hr];obtain⟨ys0,ER⟩:∃ys,H5 D=1#ys:=let⟨_,ys,z,_⟩:=t5;⟨ys,z⟩;refine cY 14#⟨91#ER,af rfl (bC 36#(t5.1 _ _ (mO _ _ h1)) je 28#⟨(by lia),(by lia),λB hB=>cP (lo:=0) (m:=(p:Int).toNat) (qT (λx=>7#(ck p ts g m x=i)) H5 B) (.start hB) (λi acc H6 _ pk=>pk.len) (dl (S!.mpr (by lia))) ?_ ?_⟩)⟩
      .intro x acc H6 hx pk;rw[a!]at hx;rw[K!];refine 47#0#(jM (aM.of (pk.1 _ _ XQ)) (ay (j:=x) (c5 hx)) 14#15#(?_));rw[lQ];cases hb:7#(ck p ts g m x=i) with
       | true=>exact 14#(pk.yes hB (ah.refl _) hb)
       | false=>exact pk.no (ah.refl _) hb
      .intro acc H6 pk;have hB6:H6 B=1#(aA (pieceOf (ck p ts g m) p i)):=by rw[pk.2.1,pk.2.2,a!];rfl
       obtain⟨ys1,hD6,hl1,t7⟩:=t5.push hD hr pk.1 hB hB6;exact⟨D,ys1,_,rfl,rfl,hD6,cZ (by lia),af rfl (t7)⟩
     .rw[eV hr];exact cJ 14#(t5.skip hr)
    .rintro σ H5 ⟨v7,rfl,t5⟩;rw[a!]at t5;obtain⟨s5,ys5,ER,pr5,hl5⟩:=t5;exact 14#(q D ys5 H5 (mO.free hD) (mO.trans s5) ER (Paired.imp' (λ_ _ ⟨e,he,hn,h0,z⟩=>⟨e,he,hn,mO.free h0,z⟩) pr5))
  .exact .inr ⟨hS,q _ s1⟩
def GV:Ok T T.GO 6 QX:=by
 have m8:=m8 T;have fb:=fb T;refine T.GO.ok QU 4#0
 .obtain⟨wb,p,ts,g,rfl,hw,q⟩:=h;refine⟨_,(ak (aB (au cI (au gx (30#25#0) 25#0) (30#(aD m8 hr T.tG.c oN 51#(aD fb hr T.lq.c aK (bE (pv 0)))))))),?_⟩;obtain⟨b,xs,h1,h2,h3⟩:=id hw.ex;have qt:=h3.length;have e2:((2:Int)^ts.length-1)=6#(17#0-1):=by
   have h:((2:Int)^ts.length)=6#(17#0):=by simp
   have:=R! ts.length
   lia
  have hlt:17#0-1<17#0:=by have:=R! ts.length;lia
  refine 14#(bC (aL.of h1) fB (kZ rfl (.inr (aL.of h2)) 28#(bC (aL.of h1) je (br (?_)))));refine(0#⟨wb,p,ts,rfl,hw,g.Lj,wb,p,ts,g,_,rfl,hw,.inl ⟨17#0-1,e2,hlt,λD ys H' O8 s' hD pr=>(kZ rfl (.inl (aM.of hD)) (br (?_)))⟩⟩)
  have hv:=HX (g:=g);have hy:ys.length=58#(fK (ck p ts g (17#0-1)) p):=by rw[pr.length,χ]
  show Q (.int ((xs.length:Int)-(p:Int)+(ys.length:Int))) H';rw[qt,hy,hv];exact q H' s'
def GW(C:Addr):Sp:=λvs H Q E=>∃w p ts,∃g:aE p ts,∃S,vs=[.ref w,.int S]/\73#0/\vF ts S (∀H',ah H H'->E (.ref C) none H') λm=>∀H',ah H H'->Q (.bl (vy p ts g m)) H'
def vc:Oc T T.uU 7 (GW a.gM):=by
 have u9:=u9 T;have m8:=m8 T;have dW:=dW T;refine T.uU.Jl yv 4#0
 .obtain⟨wb,p,ts,g,S,rfl,hw,q⟩:=h;refine⟨_,(ae (bx (fN (cu (aD u9 hr T.uT.c jP.passes 51#(pv 1)))) (ak (aB dI)) aN)
   (ae (fJ (i:=2) yv.nd rfl rfl (own:=["piece"]) (fq:=[]) (js:=[]) (az (ai qi) ["web","tie_set","touched"]) rfl (oh K (aD m8 hr T.tG.c jP.passes 51#(pv 1))) 8#(aQ 0 (ig ["piece"])) 8#(gR (aG vp (30#(pv 0)) aq (aF _))) 8#(pv 0))
   (ak (aB (qP (cK eK (30#(pv 2)) aq (aF _)) (oF (cK eK (30#(Y0 K (pv 2))) (30#(aD dW hr T.kK.c aK (bE (pv 1)))) (aF _)))))))),?_⟩
  refine Gm ?_;intro b8 cB c9;have W:=g.Lj;have wp:=g.p2;have wl:=g.len;refine(0#⟨wb,p,ts,S,rfl,hw,W,?_⟩);rcases q with⟨m,rfl,hm,q⟩|⟨hS,q⟩
  .refine .inl ⟨m,rfl,hm,λH1 s1=>(af rfl (?_))⟩
   by_cases ev:xg p ts (m:Int)=[]
   .rw[cH ev];rw[FN ev]at q;refine cJ (0#⟨wb,p,ts,g,_,rfl,hw.same s1,.inl ⟨m,rfl,hm,λD ys H2 O8 s2 hD pr=>⟨D,rfl,24#hD,λC hC=>?_⟩⟩⟩)
    have XO:ys.length<=10:=by
     rw[pr.length,χ];unfold fK;have:=b? (λx=>7#(ck p ts g m x=x)) 13#p
     rw[y!]at this;exact D! this wp
    refine aU (xs:=ys) (xF (λl=>7#(1<l.length)) ((fK (ck p ts g m) p).map (pieceOf (ck p ts g m) p)) H2 C) (.start hC) (λi acc H3 _ sf=>⟨aM.of (sf.1 _ _ hD),sf.len⟩) (cD (by lia)) ?_ ?_
    .intro i x acc H3 hx sf;obtain⟨l,hl,b,rfl,hbn,hb0,hb⟩:=Paired.j8 pr hx;refine 15#(kZ rfl (.inl (aM.of (sf.1 _ _ hb))) (br (af rfl (?_))));cases GX:7#(1<l.length) with
     | true =>
       have e:7#((1:Int)<((aA l).length:Int))=true:=cH (by have:=jz GX;rw[av];lia)
       show 78#7#((1:Int)<((aA l).length:Int))
       rw[e];exact cY 14#(sf.yes hC hl GX ⟨b,rfl,hb⟩)
     | false =>
       have e:7#((1:Int)<((aA l).length:Int))=false:=eV (by have:=of_decide_eq_false GX;rw[av];lia)
       show 78#7#((1:Int)<((aA l).length:Int))
       rw[e];exact cJ (sf.no hl GX)
    .intro acc H3 sf;have pa:Paired (TN H2) acc ((fu (ck p ts g m) p).map (pieceOf (ck p ts g m) p)):=by
      have h:=sf.2.2;rw[pr.length,H!,List.filter_map]at h;exact h
     have hal:=pa.length;rw[χ]at hal;refine 14#(kZ rfl (.inl (aM.of sf.2.1)) 15#(?_));have mO:=(s1.trans s2).trans sf.1;have afU:35#(m:Int)<=ts.length:=bits_le hm;generalize fu (ck p ts g m) p=tl at q pa hal;cases tl with
     | nil =>
       have hal:acc.length=0:=hal;rw[hal];exact cJ (q H3 mO)
     | cons s r =>
       cases r with
       | nil =>
         cases pa with
         | cons hy pn =>
           cases pn;obtain⟨b,rfl,hb⟩:=hy;refine cY 14#(jM (aM.of sf.2.1) je (kZ rfl (.inl (aM.of (sf.1 _ _ hb))) 28#⟨m,rfl,by lia,λD4 H4 hn4 s4 zg=>(kZ rfl (.inl (aM.of zg)) ⟨rfl,?_⟩)⟩))
           rw[av,av,lQ];exact q H4 (mO.trans s4)
       | cons t r =>
         have hal:acc.length=r.length+2:=hal;have e:decide (V.int 6#acc.length=V.int 1)=false:=eV λz=>by
          have:=V.int.inj z
          lia
         rw[e];exact cJ (q H3 mO)
   .rw[eV ev];have er:vy p ts g m=false:=by
     unfold vy;rw[eV ev,R_]
    rw[er]at q;exact cY (q H1 s1)
  .exact .inr ⟨hS,q⟩
def tH:Sp:=84#(∃S:Int,vs=[.ref w,.int S]/\73#0/\∀H' (d:Bool),ah H H'->(d=true↔∃m:Nat,S=(m:Int)/\m<17#0/\g.N.Ring m)->Q (.bl d) H')
def dN:Ok T T.gj 8 tH:=by
 have i7:=i7 T;have vc:=vc T;refine T.gj.ok sS 4#0
 .obtain⟨wb,p,ts,g,S,rfl,hw,q⟩:=h;refine⟨_,(ak (aB (qP (aD i7 hr T.pN.c aK 51#(pv 1)) (oF (aD vc hr T.uU.c oN 51#(pv 1)))))),?_⟩;have h2n:((2:Int)^ts.length)=6#(17#0):=by simp
  refine(0#⟨wb,p,ts,S,rfl,hw,g.Lj,_,rfl,?_⟩)
  by_cases hs:0<=S/\S<17#0
  .rw[cH hs];obtain⟨m,rfl⟩:=a_ hs.1;have hm:m<17#0:=by lia
   refine cY (0#⟨wb,p,ts,g,_,rfl,hw,.inl ⟨m,rfl,hm,λH1 s1=>q H1 _ s1 ?_⟩⟩)
   rw[JA g hm];exact⟨λr=>⟨m,rfl,hm,r⟩,λ⟨m',e,_,r⟩=>by
    have:m=m':=by lia
    rw[this];exact r⟩
  .rw[eV hs];refine cJ (q H false (ah.refl _) ⟨λz=>(e! z).elim,λ⟨m',e,hm,_⟩=>absurd ⟨by lia,by lia⟩ hs⟩)
def KU:Sp:=84#(vs=[.ref w]/\73#0/\∀D H',H D=none->ah H H'->H' D=1#(dF (g.N.trail ts.length) p)->Q (.ref D) H')
def KW:Sp:=84#(vs=[.ref w]/\73#0/\∀H',ah H H'->Q (.int 6#(lR p ts g)) H')
def KY:Sp:=84#(vs=[.ref w]/\73#0/\∀D H',H D=none->ah H H'->H' D=1#(aA g.N.aJ)->Q (.ref D) H')
def UK{H:Hp}{xs:List V}{p:Nat}{ts:List eW}{g:aE p ts}{k:Nat}(h3:Paired (TupAt H) xs ts)(hk:k<ts.length):∃c,xs[k]?=some (.ref c)/\H c=some (.tup [.int 6#(g.N.a k),.int 6#(g.N.b k),.int (bG ts k).2.2]):=by
 have hkx:k<xs.length:=by rw[h3.length];exact hk
 obtain⟨t,ht,c,hc,hct⟩:=Paired.j8 h3 (i:=k) (x:=xs[k]) (by simp[hkx])
 have O3:t=bG ts k:=by
  have z:=tW hk;rw[ht]at z;exact 18#z
 refine⟨c,by rw[<-hc];simp[hkx],?_⟩
 rw[hct,<-HU hk,<-HV hk,O3];rfl
def jW:Ok T T.jU 2 KU:=by
 have dM:=dM T;refine T.jU.ok bJ 4#0
 .obtain⟨wb,p,ts,g,rfl,hw,q⟩:=h;refine⟨_,(ae (bu 1 bJ.nd (bQ (RN rfl) (by rfl) T.GP adK (bE (bQ Df (by rfl) T.bH PyProof.Rows.boot_range (bE 25#0)))))
   (ae (bu 2 bJ.nd (au wZ (cy (bE aq)) 25#0))
   (ae (cM PassesOwn.never rfl (44#(30#25#0)) (aQ 3 bJ.nd)
   (ae (bu 4 bJ.nd (cA K (aZ (mj K) 25#0 (pv 3))))
   (ae (bu 5 bJ.nd (cA K (aZ (mj K) 25#0 (pv 3))))
   (ak (bx (aG qD (aZ (kE K) (pv 1) (pv 4)) (aZ (kE K) (pv 1) (pv 5)) (aF _)) (ae (dD (i:=6) bJ.nd rfl (Or.inr rfl) (au iL (au iL (aZ (kE K) (pv 2) (pv 4)) (aZ (kE K) (pv 2) (pv 5))) (au h7 aq (pv 3))))
   (ae (dD (i:=7) bJ.nd rfl (Or.inr rfl) (bY (Ab rfl) (by rfl) T.Sb PyProof.Rows.boot_max (bS (aZ (kE K) (pv 1) (pv 4)) (aZ (kE K) (pv 1) (pv 5)))))
   (ae (fJ (i:=2) bJ.nd rfl rfl (own:=["trail","least"]) (fq:=["bridge","moved"]) (js:=[6,7]) (az (ai gV) ["web","leasts","trails","tie","one","other","bridge","moved"]) rfl (Mg K (by rfl) T.Se (bS (pv 2) (pv 1))) 8#(Ak K (n:=2) rfl (aI (aQ 0 (ig ["trail","least","bridge","moved"])) (aI (aQ 1 (ig ["trail","least","bridge","moved"])) cU))) 65#0 8#(mT (aG eK (pv 1) (pv 3) (aF _)) (au iL (pv 0) (pv 2)) (pv 0)))
   (ak (bu 1 bJ.nd (aD dM hr T.gi.c aK (aP (pv 1) (bS (pv 4) (pv 5))))))))) aN)))))
   (ak (aB (pv 2)))))),?_⟩
  refine ux ?_;intro b8 cB c9 dU eI j6 mS sQ vC vD;show 38;have wp:=g.p2;have wl:=g.len;have qt:=h3.length;refine 14#(bC (aL.of h1) je 28#(λr hr=>⟨r,p,rfl,aa,by lia,λl hl=>?_⟩))
  have s1:ah H (η (η H r (.IW 0 (p:Int))) l (.lst (zu p))):=(ah.new hr).trans (ah.new hl);have hl1:η (η H r (.IW 0 (p:Int))) l (.lst (zu p)) l=1#(dF (g.N.gA 0) p):=aa;generalize η (η H r (.IW 0 (p:Int))) l (.lst (zu p))=H1 at s1 hl1;refine 29#(λl0 HM=>?_)
  have s0:ah H1 (η H1 l0 (.lst [.int 0])):=ah.new HM;refine 14#(bC 36#(s0 _ _ (s1 _ _ h1)) je ⟨l0,(p:Int),af rfl ⟨rfl,aa,by lia,by lia,(by rw[a!];show 1*p<=sizeLine;exact dl (S!.mpr (by lia))),λe he=>?_⟩⟩)
  have s2:=s0.trans (ah.new (o:=.lst (List.replicate (p:Int).toNat [V.int 0]).flatten) he);have P4:η (η H1 l0 (.lst [.int 0])) e (.lst (List.replicate (p:Int).toNat [V.int 0]).flatten) e=1#(dF (g.N.trail 0) p):=by
   rw[aa,a!,Dv];rfl
  generalize η (η H1 l0 (.lst [.int 0])) e (.lst (List.replicate (p:Int).toNat [V.int 0]).flatten)=H2 at s2 P4;refine 14#(bC 36#((s1.trans s2) _ _ h1) fB (kZ rfl (.inr 36#((s1.trans s2) _ _ h2)) 28#⟨(by lia),(by lia),?_⟩))
  refine cF (lo:=0) (n:=(xs.length:Int).toNat) (λk σ H3=>∃la ta v3 v4 v5 v6 v7,σ=[11#wb,11#la,11#ta,v3,v4,v5,v6,v7]/\ah H H3/\H3 la=1#(dF (g.N.gA k) p)/\H3 ta=1#(dF (g.N.trail k) p)/\H ta=none)
   ⟨l,e,none,none,none,none,none,rfl,s1.trans s2,s2 _ _ hl1,P4,s1.free (s0.free he)⟩ ?_ ?_
  .rintro k D' σ H3 hk ⟨la,ta,v3,v4,v5,v6,v7,rfl,s3,hla,Sf,Xl⟩;rw[a!,qt]at hk;rw[K!];obtain⟨c,hxc,hct⟩:=UK (g:=g) h3 hk;have hA:=g.N.al k hk;have hB:=g.N.bl k hk;have hls:=RM.Dm (N:=g.N) k;have QY:g.N.oj k = ! 7#(g.N.gA k (g.N.a k)=g.N.gA k (g.N.b k)):=rfl;have htr:g.N.trail (k+1)=if g.N.oj k=true then λv=>if g.N.gA k v=max (g.N.gA k (g.N.a k)) (g.N.gA k (g.N.b k)) then g.N.trail k v^^^(g.N.trail k (g.N.a k)^^^g.N.trail k (g.N.b k)^^^2^k) else g.N.trail k v else g.N.trail k:=rfl
   generalize g.N.a k=A0 at *;generalize g.N.b k=B0 at *;refine 14#(bC 36#(s3 _ _ h1) fB 28#(bC 36#(s3 _ _ h2) (ay (j:=k) hxc) (bC 36#(s3 _ _ hct) je (?_))));refine 14#(bC 36#(s3 _ _ h1) fB 28#(bC 36#(s3 _ _ h2) (ay (j:=k) hxc) (bC 36#(s3 _ _ hct) fB (?_))));refine(0#(jM (aM.of hla) (ay (j:=A0) (c5 hA)) 14#28#(jM (aM.of hla) (ay (j:=B0) (c5 hB)) 15#(?_))));rw[lQ]
   by_cases he:g.N.gA k A0=g.N.gA k B0
   .rw[cH he]at QY;rw[QY,ξ (16#0)]at hls htr
    rw[cH he];exact cJ ⟨la,ta,_,_,_,_,_,rfl,s3,by rw[hls];exact hla,by rw[htr];exact Sf,Xl⟩
   .rw[eV he]at QY;rw[QY,ο (by rfl)]at hls htr
    rw[eV he];have hbr:Builtin.bitXor (Builtin.bitXor 6#(g.N.trail k A0) 6#(g.N.trail k B0)) (1*2^(k:Int).toNat)=6#(g.N.trail k A0^^^g.N.trail k B0^^^2^k):=by
     rw[iO,xor_int,xor_int]
    refine cY (0#(jM (aM.of Sf) (ay (j:=A0) (c5 hA)) 14#28#(jM (aM.of Sf) (ay (j:=B0) (c5 hB)) (br (af rfl (br ⟨⟨by lia,by lia,16#0⟩,br (?_)⟩))))))
    refine(0#(jM (aM.of hla) (ay (j:=A0) (c5 hA)) 14#28#(jM (aM.of hla) (ay (j:=B0) (c5 hB)) ⟨_,_,rfl,?_⟩)));refine(0#⟨ta,la,rfl,24#Sf,24#hla,λD hD=>De (xs:=dF (g.N.trail k) p) (ys:=dF (g.N.gA k) p) (by rw[cE,cE]) (xr (g.N.trail (k+1)) H3 D) (.start hD) (λi acc H4 _ pd=>⟨aM.of (pd.1 _ _ Sf),aM.of (pd.1 _ _ hla),pd.len⟩) (by rw[cE];exact dl (S!.mpr (by lia))) ?_ ?_⟩)
    .intro i x y T0 acc H4 hx hy pd hT;obtain⟨hi,rfl⟩:=lP hx;obtain⟨_,rfl⟩:=lP hy;refine⟨T0,_,rfl,aL.of aa,rfl,_,_,rfl,_,_,rfl,rfl,rfl,0#15#(?_)⟩;rw[HZ,lQ]
     by_cases hm:g.N.gA k i=max (g.N.gA k A0) (g.N.gA k B0)
     .rw[cH hm];refine cY (0#(br (pd.next hD (ah.new hT) ?_)));show V.int (Builtin.bitXor _ (Builtin.bitXor (Builtin.bitXor _ _) _))=_;rw[hbr,xor_int,htr];show _=V.int (((if _ then _ else _:Nat)):Int)
      rw[ο hm]
     .rw[eV hm];refine cJ 14#(pd.next hD (ah.new hT) ?_);rw[htr];show _=V.int (((if _ then _ else _:Nat)):Int)
      rw[ξ hm]
    .intro acc H4 pd;rw[cE]at pd;have zg:H4 D=1#(dF (g.N.trail (k+1)) p):=by rw[pd.2.1,pd.2.2]
     refine(0#14#⟨la,g.N.gA k,p,A0,B0,rfl,pd.1 _ _ hla,wp,hA,hB,λD2 H5 hn5 s5 ie=>?_⟩)
     exact⟨D2,D,_,_,_,_,_,rfl,(s3.trans pd.1).trans s5,by rw[hls];exact ie,s5 _ _ zg,s3.free hD⟩
  .rintro σ H3 ⟨la,ta,v3,v4,v5,v6,v7,rfl,s3,hla,Sf,Xl⟩;rw[a!,qt]at Sf;exact 14#(q ta H3 Xl s3 Sf)
def yQ:Ok T T.yN 3 KW:=by
 have jW:=jW T;refine T.yN.ok qh 4#0
 .obtain⟨wb,p,ts,g,rfl,hw,q⟩:=h;refine⟨_,(ae (bu 1 qh.nd aq)
   (ae (cM PassesOwn.never rfl (oh K (aD jW hr T.jU.c aK (bE (pv 0)))) (aQ 2 qh.nd)
   (ak (A8 (i:=1) qh.nd rfl (Or.inl rfl) (pv 2) LI)))
   (ak (aB (pv 1))))),?_⟩
  refine AY ?_;intro b8 cB c9;refine 14#⟨wb,p,ts,g,rfl,hw,λD H1 O8 s1 hD=>⟨D,rfl,24#hD,?_⟩⟩
  refine fC (K:=K) (a:=D) (xs:=dF (g.N.trail ts.length) p) (λi σ H2=>∃v2,σ=[11#wb,3#6#(VC (g.N.trail ts.length) i),v2]/\H2=H1) ⟨none,rfl,rfl⟩ (λi σ H2 _ ⟨_,_,z⟩=>by rw[z];exact aM.of hD) ?_ ?_
  .rintro i x D' σ H2 hx ⟨v2,rfl,rfl⟩;obtain⟨hi,rfl⟩:=lP hx;refine(0#(br ⟨3#6#(g.N.trail ts.length i),?_,rfl⟩));show[_,some (V.int (Builtin.bitOr _ _)),_]=_;rw[or_int];rfl
  .rintro σ H2 ⟨v2,rfl,rfl⟩;rw[cE,FI];exact 14#(q _ s1)
def yR:Ok T T.yO 4 KY:=by
 have yQ:=yQ T;have fb:=fb T;have dW:=dW T;refine T.yO.ok J7 4#0
 .obtain⟨wb,p,ts,g,rfl,hw,q⟩:=h;refine⟨_,(ak (aB (aD dW hr T.kK.c aK (bE (au iL (aD fb hr T.lq.c aK (bE (pv 0))) (aD yQ hr T.yN.c aK (bE (pv 0)))))))),?_⟩;have wl:=g.len;refine 14#⟨wb,p,ts,rfl,hw,g.Lj,_,rfl,wb,p,ts,g,rfl,hw,λH1 s1=>(br ⟨(17#0-1)^^^lR p ts g,?_,?_,λD H2 O8 s2 hD=>?_⟩)⟩
  .show[V.int (Builtin.bitXor _ _)]=_;rw[Qd,xor_int]
  .exact D! (bits_le Av) (by lia)
  .rw[Dy]at hD;exact q D H2 (s1.free O8) (s1.trans s2) hD
def KZ:Sp:=λvs H Q _=>∃S1 S2,∃a b:Nat,vs=[.int S1,.int S2]/\S1=(a:Int)/\S2=(b:Int)/\35#6#(a&&&b)<=1000/\∀H',ah H H'->Q (.int 6#58#(cz ((a&&&b:Nat):Int))) H'
def Oe:Sp:=λvs H Q _=>∃S1 S2,∃a b:Nat,vs=[.int S1,.int S2]/\S1=(a:Int)/\S2=(b:Int)/\35#6#(a&&&b)<=1000/\∀H',ah H H'->Q (.bl (decide (58#(cz 6#(a&&&b))%2=1))) H'
def K0:Sp:=λvs H Q _=>∃w p ts,∃(l:Addr) (ks:List Nat),vs=[.ref w,.ref l]/\73#0/\O1 p ts/\H l=1#(aA ks)/\(∀k∈ks,k<ts.length)/\Q (.int 6#(orM ks)) H
def QZ(n:Nat):7#(V.int (((n:Nat):Int)%2)=V.int 1)=7#(n%2=1):=K?.mpr ⟨λz=>by have:=V.int.inj z;lia,λz=>n! V.int (by lia)⟩
def yS:Ok T T.yP 3 KZ:=by
 have dW:=dW T;refine T.yP.ok J8 4#0
 .obtain⟨S1,S2,u,v,rfl,rfl,rfl,hb,q⟩:=h;refine⟨_,(ak (aB (30#(aD dW hr T.kK.c aK (bE (au Ba (pv 0) (pv 1))))))),?_⟩;refine(0#(br ⟨u&&&v,?_,hb,λD H1 hn s1 hD=>(kZ rfl (.inl (aM.of hD)) (?_))⟩))
  .show[V.int (Builtin.bitAnd _ _)]=_;rw[and_int]
  .rw[av];exact q H1 s1
def cX:Ok T T.gO 4 Oe:=by
 have yS:=yS T;refine T.gO.ok yx 4#0
 .obtain⟨S1,S2,u,v,rfl,rfl,rfl,hb,q⟩:=h;refine⟨_,(ak (aB (cK eK (au bh (aD yS hr T.yP.c aK 51#(pv 1)) aq) aq (aF _)))),?_⟩;refine(0#⟨_,_,u,v,rfl,rfl,rfl,hb,λH1 s1=>(br ⟨(h8 rfl),rfl,?_⟩)⟩)
  rw[QZ];exact q H1 s1
def yT:Ok T T.yM 1 K0:=by
 refine T.yM.ok qg 4#0
 .obtain⟨wb,p,ts,l,ks,rfl,hw,W,hl,hk,q⟩:=h;refine⟨_,(ae (bu 2 qg.nd aq)
   (ae (cM PassesOwn.never rfl (oh K (pv 1)) (aQ 3 qg.nd)
   (ae (bx (PW.pt (jA (aG vo (pv 3) aq (aF _)) (iK (aG CZ (pv 3) (30#25#0) (aF _))))) IZ aN)
   (ak (A8 (i:=2) qg.nd rfl (Or.inl rfl) (au h7 aq (pv 3)) LI))))
   (ak (aB (pv 2))))),?_⟩
  refine JY ?_;intro b8 cB c9 dU eI;show 38;have qt:=h3.length;have wl:=W.len;refine 14#⟨l,rfl,24#hl,CW (K:=K) (a:=l) (xs:=aA ks) (λi σ H2=>∃v3,σ=[11#wb,some (.ref l),3#6#(orM (ks.take i)),v3]/\H2=H) ⟨none,rfl,rfl⟩ (λi σ H2 _ ⟨_,_,z⟩=>by rw[z];exact aM.of hl) ?_ ?_⟩
  .rintro i x σ H2 hx ⟨v3,rfl,rfl⟩;obtain⟨k,hki,rfl⟩:=eT hx;have hkn:=hk k (gB hki);refine 14#(br 28#(r6 (by lia) (0#(bC (aL.of h1) fB (kZ rfl (.inr (aL.of h2)) (br (af rfl (r6 (by lia) ?_))))))))
   refine(0#(br ⟨⟨by lia,by lia,16#0⟩,br ⟨3#(k:Int),?_,rfl⟩⟩))
   show[_,_,some (V.int (Builtin.bitOr _ (1*2^(k:Int).toNat))),_]=_;rw[iO,or_int,Q!,hki];unfold Ring.orM;rw[B_];rfl
  .rintro σ H2 ⟨v3,rfl,rfl⟩;rw[av,H!];exact(af rfl (q))
def Cv(C:Addr):Sp:=λvs H Q E=>∃w p ts S,vs=[.ref w,.int S]/\73#0/\O1 p ts/\vF ts S (∀H',ah H H'->E (.ref C) none H') λm=>∀H',ah H H'->Q (.int (Δ ts m)) H'
def iG:Oc T T.l9 5 (Cv a.gM):=by
 have dH:=dH T;refine T.l9.Jl BQ 4#0
 .obtain⟨wb,p,ts,S,rfl,hw,W,q⟩:=h;refine⟨_,(ak (aB (bY (sumK K rfl) (by rfl) T.Sd PyProof.Rows.boot_sum (bE (aY (own:=["tie"]) (fq:=[]) (js:=[]) (az (ai lY) ["web","tie_set"]) rfl (oh K (aD dH hr T.iX.c jP.passes 51#(pv 1))) 8#(aQ 0 (ig ["tie"])) 65#0 8#25#0))))),?_⟩
  refine(0#⟨wb,p,ts,S,rfl,hw,W,?_⟩);rcases q with⟨m,rfl,hm,q⟩|⟨hS,q⟩
  .refine .inl ⟨m,rfl,hm,λL ys H1 Y5 s1 hL pr=>⟨L,rfl,24#hL,λD hD=>?_⟩⟩
   have wl:=W.len;have XO:ys.length=58#(cz (m:Int)):=by rw[pr.length,χ]
   have aaO:ys.length<=24:=by
    rw[XO];have hb:35#(m:Int)<=ts.length:=bits_le hm;have:=b? (bit (m:Int)) 13#(35#(m:Int));rw[y!]at this;exact D! this (by lia)
   refine aU (xs:=ys) (zw (λk=>(bG ts k).2.2) (cz (m:Int)) H1 D) (.start hD) (λi acc H2 _ pm=>⟨aM.of (pm.1 _ _ hL),pm.len⟩) (cD aaO) ?_ ?_
   .intro i x acc H2 hx pm;obtain⟨t,ht,c,rfl,hc⟩:=Paired.j8 pr hx;rw[c!]at ht;obtain⟨k,hk,rfl⟩:=qC.mp ht;exact 15#(bC 36#(pm.1 _ _ hc) (ay (j:=2) rfl) (pm.next hD (ah.refl _) hk rfl))
   .intro acc H2 pm;rw[XO]at pm;exact⟨D,_,rfl,aM.of pm.fin,q H2 (s1.trans pm.1)⟩
  .exact .inr ⟨hS,q _ (ah.refl _)⟩
def jJ(ts:List eW)(x y:Nat):Prop:=Δ ts x<Δ ts y\/(Δ ts x=Δ ts y/\x<=y)
def Of(t:Addr)(lp:Pos):Sp:=λvs H Q _=>∃w p ts,∃g:aE p ts,∃(l:Addr) (ms:List Nat),vs=[.ref w,.ref l]/\73#0/\H l=1#(aA ms)/\ms.length<64/\(∀m∈ms,m<17#0)/\H t=some (.lF (fM (qz "by_length") lp))/\
 ∀D ms' H',H D=none->ah H H'->H' D=1#(aA ms')->ms'.Perm ms->ms'.Pairwise (jJ ts)->Q (.ref D) H'
theorem ES:∀{l:List Int},(∀x∈l,0<=x)->∃ms:List Nat,l=ms.map (λx=>((x:Nat):Int))
 | [],_=>⟨[],rfl⟩
 | x::r,h=>by
   obtain⟨ms,e⟩:=ES (l:=r) λy hy=>h y (lG _ hy)
   have hx:=h x o!;refine⟨x.toNat::ms,?_⟩;rw[F!,<-e]
   congr 1
   lia
def iH:OkL T T.jG 9 (Of a.iD fZ):=by
 have iG:=iG T;refine T.jG.ok BR λA _ s H vs Q E hr h=>?_
 .obtain⟨wb,p,ts,g,l,ms,rfl,hw,hl,h64,hms,htb,q⟩:=h;refine⟨_,(ak (aB (NF (x:="ring") (fq:=["web"]) (js:=[0]) hr (az (ai lZ) ["web","rings"]) rfl (by rfl) T.pR rfl T.jG.F.hd (bE (pv 1)) (λ_ _ _ _ hr=>(b9 (bS (aD iG hr T.l9.c oN (bS (pv 1) (pv 0))) (pv 0))))))),?_⟩
  have W:=g.Lj;have wl:=g.len;have big:(2:Nat)^ts.length<=2^24:=B? (16#0) wl
  have UL:∀n,n∈ms.map (λx=>((x:Nat):Int))->∃m:Nat,n=(m:Int)/\m∈ms:=λn hn=>by
   obtain⟨m,hm,rfl⟩:=d!.mp hn;exact⟨m,rfl,hm⟩
  refine 14#⟨l,ms.map (λx=>((x:Nat):Int)),λz=>(Δ ts z.toNat,z),rfl,by rw[<-dP];exact hl,by rw[χ];exact h64,λn hn=>?_,htb,λH3 hk n hn=>?_,λD ns' H4 hD s4 zg hp hs=>?_⟩
  .obtain⟨m,rfl,hm⟩:=UL n hn;have:=hms m hm;exact⟨by show(0:Int)<=(m:Int);lia,by show(m:Int)<1073741824;lia⟩
  .obtain⟨m,rfl,hm⟩:=UL n hn;have tp:cV H H3:=λb xs e=>hk b _ e (λy z=>nomatch z) (λy z=>nomatch z)
   refine(0#⟨wb,p,ts,_,rfl,hw.tups tp,W,.inl ⟨m,rfl,hms m hm,λH4 s4=>14#29#(λd hd=>?_)⟩⟩)
   exact⟨s4.trans (ah.new hd),d,rfl,aa⟩
  .obtain⟨ms',rfl⟩:∃ms' : List Nat,ns' = ms'.map (λx=>((x:Nat):Int)):=by
    refine ES λx hx=>?_
    obtain⟨m,rfl,_⟩:=UL x (hp.mem_iff.mp hx)
    lia
   have hpm:ms'.Perm ms:=by
    have:=hp.map Int.toNat;rw[X!,X!]at this;have e:∀l:List Nat,l.map (Int.toNat∘λx=>((x:Nat):Int))=l:=λl=>by
     induction l with
     | nil=>rfl
     | cons x r ih=>rw[F!,ih];rfl
    rw[e,e]at this;exact this
   refine q D ms' H4 hD s4 (by rw[dP];exact zg) hpm ?_
   rw[P?]at hs;refine i_ (λ{x y} hx hy h=>?_) hs
   have hx:=hms x (hpm.mem_iff.mp hx);have hy:=hms y (hpm.mem_iff.mp hy);have h:Δ ts x*1073741824+(x:Int)<=Δ ts y*1073741824+(y:Int):=h;unfold jJ
   lia
def Og:Sp:=λvs H Q _=>∃w p ts,∃g:aE p ts,∃m:Nat,vs=[.ref w,.int (m:Int)]/\73#0/\m<17#0/\
 ∀D es S H',es.length=p->JR m H D es S H'->RZ g.N ts.length S->Q (.ref D) H'
def UM{b:Bool}{σ:St}{f:VK}{H:Hp}(h:f (40#b.toNat) H):if b=true then tC (.int 1) σ H f else tC (.int 0) σ H f:=by
 cases b<;>exact h
def jr:Ok T T.jo 2 Og:=by
 have bW:=bW T;refine T.jo.ok eg 4#0
 .obtain⟨wb,p,ts,g,m,rfl,hw,hm,q⟩:=h;refine⟨_,(ae (fJ (i:=2) eg.nd rfl rfl (own:=["point"]) (fq:=[]) (js:=[]) (az (ai gb) ["web","marks","steps","tie","ends","turn"]) rfl (44#25#0) 8#(aQ 0 (ig ["point"])) 65#0 8#(cy fO))
   (ae (cM PassesOwn.never rfl (DB K (by rfl) T.iF (bE 25#0)) (Ak K (n:=2) rfl (aI (aQ 3 eg.nd) (aI (aQ 4 eg.nd) cU)))
   (ae (bu 5 eg.nd (mT (cu (aD bW hr T.iE.c aK (bS (pv 1) (pv 3)))) aq aq))
   (ae (dB (Fc K (jY g? n? o? cN (aZ (kE K) (pv 2) (cA K (pv 4))) (bE (b9 (aP (pv 3) (bS (cA K (pv 4)) (pv 5))))))))
   (ak (dB (Fc K (jY g? n? o? cN (aZ (kE K) (pv 2) (cA K (pv 4))) (bE (b9 (aP (pv 3) (bS (cA K (pv 4)) (pv 5))))))))))))
   (ak (aB (pv 2))))),?_⟩
  refine sU ?_;intro b8 cB c9 dU eI;show 38;have qt:=h3.length;have wp:=g.p2;have wl:=g.len;refine 14#(bC (aL.of h1) je 28#⟨(by lia),(by lia),λD hD=>cP (lo:=0) (m:=p) (RY m H D) (.start hD) (λi acc H2 _ z=>z.len) (dl (S!.mpr (by lia))) ?_ ?_⟩)
  .rintro i acc H2 hi f2;exact⟨rfl,dl rfl,λl hl=>f2.next hl⟩
  rintro acc H2 ⟨es,rfl,hel,f2⟩;refine 14#(bC 36#(f2.same _ _ h1) fB ⟨bt,rfl,⟨_,aL.of (f2.same _ _ h2)⟩,?_⟩);refine AF (K:=K) (a:=bt) (xs:=xs) (λk σ H3=>∃v3 v4 v5,σ=[11#wb,3#(m:Int),some (.ref D),v3,v4,v5]/\∃S,JR m H D es S H3/\RZ g.N k S) ⟨none,none,none,rfl,_,f2,RZ.start⟩ (λk σ H3 _ ⟨_,_,_,_,_,z,_⟩=>aL.of (z.same _ _ h2)) ?_ ?_
  .rintro k x T0 σ H3 hk ⟨v3,v4,v5,rfl,S,f3,k3⟩ hT;have hkx:k<xs.length:=(j7.mp hk).1;have kD:k<ts.length:=by lia
   obtain⟨ct,ex,hct⟩:=nk (g:=g) h3 kD;rw[hk]at ex;cases ex;have s4:ah H3 (η H3 T0 (.tup [.int (k:Int),.ref ct])):=ah.new hT;have Li:η H3 T0 (.tup [.int (k:Int),.ref ct]) T0=10#([.int (k:Int),.ref ct]):=aa;have f4:=f3.go s4;generalize η H3 T0 (.tup [.int (k:Int),.ref ct])=H4 at f4 Li;refine⟨T0,_,rfl,aL.of Li,rfl,_,_,rfl,_,_,rfl,rfl,?_⟩;refine(0#⟨(m:Int),k,rfl,af rfl (?_)⟩);rw[gU];have ha:g.N.a k<p:=g.N.al k kD;have hb:g.N.b k<p:=g.N.bl k kD;have UN:=f4.same _ _ hct;refine UM ?_;obtain⟨b1,cs1,e1,e1',hb1,q1⟩:=f4.get (i:=g.N.a k) (by lia)
   refine(0#(bC (aL.of UN) je (jM (aM.of f4.lst) (ay e1) (?_))));have l1:cs1.length<=2*k:=by rw[q1.length];exact k3.len _
   refine⟨91#hb1,0#(bC (aL.of UN) fB 14#29#(λt1 IA=>?_))⟩
   have s5:ah H4 (η H4 t1 (.tup [.int (k:Int),40#(g.N.b k),40#(2#0).toNat])):=ah.new IA;have u5:kY m (η H4 t1 (.tup [.int (k:Int),40#(g.N.b k),40#(2#0).toNat])) t1 (k,g.N.b k):=aa;have f5:=f4.go s5;have Y6:=s5 _ _ hb1;have afW:=s5 _ _ UN;have q5:Paired (kY m (η H4 t1 (.tup [.int (k:Int),40#(g.N.b k),40#(2#0).toNat]))) cs1 (S (g.N.a k)):=Paired.A6 q1 λ_ _ z=>s5 _ _ z
   refine⟨b1,_,_,rfl,rfl,Y6,cZ (by rw[χ];lia),?_⟩
   have f6:=f5.put e1' Y6 q5 u5;have UO:=f6.same _ _ hct;generalize η (η H4 t1 (.tup [.int (k:Int),40#(g.N.b k),40#(2#0).toNat])) b1 46#(cs1.map V.ref++[.ref t1])=H6 at f6 UO;obtain⟨b2,cs2,e2,e2',GX,q2⟩:=f6.get (i:=g.N.b k) (by lia)
   refine(0#(bC (aL.of UO) fB (jM (aM.of f6.lst) (ay e2) (?_))));have l2:cs2.length<=2*k+1:=by
    rw[q2.length];unfold yg;have:=k3.len (g.N.b k)
    split
    .rw[k!,U!];lia
    .lia
   refine⟨91#GX,0#(bC (aL.of UO) je 14#29#(λt2 NL=>?_))⟩
   have s7:ah H6 (η H6 t2 (.tup [.int (k:Int),40#(g.N.a k),40#(2#0).toNat])):=ah.new NL;have u7:kY m (η H6 t2 (.tup [.int (k:Int),40#(g.N.a k),40#(2#0).toNat])) t2 (k,g.N.a k):=aa;have f7:=f6.go s7;have VL:=s7 _ _ GX;refine⟨b2,_,_,rfl,rfl,VL,cZ (by rw[χ];lia),?_⟩
   exact⟨_,_,_,rfl,_,f7.put e2' VL (Paired.A6 q2 λ_ _ z=>s7 _ _ z) u7,k3.next⟩
  .rintro σ H3 ⟨v3,v4,v5,rfl,S,f3,k3⟩;refine 14#(q D es S H3 hel f3 ?_);rw[<-qt];exact k3
def mP(p:Nat)(N:RM.Net)(L:Nat->Int)(m u:Nat)(D:Addr)(F:RM.OW)(H0 H:Hp):Prop:=∃es:70#0,es.length=p/\H D=1#(es.map V.ref)/\
 (∀(i:Nat) b,es[i]?=some b->∃v0 v1,H b=1#([v0,v1])/\wV H (F i false) v0/\wV H (F i true) v1)/\(∀x s,RM.vN N L m u x s ((F x s).map (·.1)))/\(∀x s d,F x s=some d->RM.Wz N L m u x s d.1 d.2)/\∀b∈es,H0 b=none
def Q0(a b:Bool):Builtin.bitXor 6#a.toNat 6#b.toNat=6#(a^^b).toNat:=by
 cases a<;>cases b<;>decide
def zV(t:Addr)(lp:Pos):Sp:=λvs H Q _=>∃w p ts,∃g:aE p ts,∃(m u:Nat),vs=[.ref w,.int (m:Int),.int (u:Int)]/\73#0/\m<17#0/\u<p/\H t=some (.lF (fM (qz "least_ways") lp))/\
 ∀D F H',H D=none->ah H H'->mP p g.N (cL ts) m u D F H H'->Q (.ref D) H'
def nX:OkL T T.kq 5 (zV a.cW cC):=by
 have jr:=jr T;refine T.kq.ok bZ λA _ s H vs Q E hr h=>?_
 .obtain⟨wb,p,ts,g,m,u,rfl,hw,hm,hu,htb,q⟩:=h;refine⟨_,(ae (bu 3 bZ.nd (aD jr hr T.jo.c aK 51#(pv 1)))
   (ae (fJ (i:=4) bZ.nd rfl rfl (own:=["point"]) (fq:=[]) (js:=[]) (az (ai iT) ["web","marks","start","steps","found","waiting","nearest","way","tie","point","turn","part","further"]) rfl (44#25#0) 8#(aQ 0 (ig ["point"])) 65#0 8#(cy (bS eN eN)))
   (ae (dD (i:=5) bZ.nd rfl (Or.inr rfl) (Nm (by exact rX hr) (b9 (bS (pv 2) aq)) (b9 (bS aq aq))))
   (ae (rT PassesOwn.never (aG vp (bY aax (by rfl) T.bT PySem.boot_len (bE (pv 5))) aq (aF _)) (ae (bu 6 bZ.nd (QH (x:="place") (fq:=["waiting"]) (js:=[5]) hr (az (ai iT) ["web","marks","start","steps","found","waiting","nearest","way","tie","point","turn","part","further"]) rfl (by rfl) T.IC rfl T.kq.F.hd (bE (pv 5)) (λ_ _ _ _ hr=>(Ik (by exact rX hr) (pv 1) (pv 0) (λ_ _=>rfl)))))
   (ae (bu 7 bZ.nd (Nl (by exact rX hr) (pv 5) (pv 6) ⟨rfl,rfl,rfl,rfl⟩))
   (ae (qQ (pv 7) (wU (aZ (kE K) (pv 4) (cA K (pv 6))) (cA K (pv 6)) set_list))
   (ak (cM PassesOwn.never rfl (oh K (aZ (kE K) (pv 3) (cA K (pv 6)))) (Ak K (n:=3) rfl (aI (aQ 8 bZ.nd) (aI (aQ 9 bZ.nd) (aI (aQ 10 bZ.nd) cU))))
   (ae (bu 11 bZ.nd (au iL (cA K (pv 6)) (pv 10)))
   (ae (bu 12 bZ.nd (b9 (bS (au cI (cA K (pv 7)) (cA K (aZ (mj K) 25#0 (pv 8)))) (au iL (cA K (pv 7)) (au h7 aq (pv 8))))))
   (ak (bx (PW.pt (tM (aG jO (aZ (kE K) (aZ (kE K) (pv 4) (pv 9)) (pv 11)) eN (aF _)) (pX (aG (Us hr.Fw) (pv 12) (MH (by exact rX hr) (pv 5) (b9 (bS (pv 9) (pv 11))) (pv 12) ⟨rfl,rfl,rfl,rfl⟩) (aF _))))) (ak (Il (by exact rX hr) (pv 5) (b9 (bS (pv 9) (pv 11))) (pv 12) rfl)) aN))))))))))
   (ak (aB (pv 4))))))),?_⟩
  refine zA ?_;intro b8 cB c9 dU eI j6 mS sQ vC vD k6 mC;show 38;have qt:=h3.length;have wp:=g.p2;have wl:=g.len;refine(0#⟨wb,p,ts,g,m,rfl,hw,hm,λDs ess S H1 hel1 f1 k1=>?_⟩)
  have s1:=f1.same;refine 14#(bC 36#(s1 _ _ h1) je 28#⟨(by lia),(by lia),λD hD=>cP (lo:=0) (m:=p) (DL H1 D) (.start hD) (λi acc H2 _ z=>z.len) (dl (S!.mpr (by lia))) ?_ ?_⟩)
  .rintro i acc H2 hi f2;exact⟨rfl,dl rfl,λl hl=>f2.next hl⟩
  rintro acc H2 ⟨es,rfl,hel,f2⟩;refine λwd hwd=>14#29#(λt1 IA=>⟨dl rfl,λt2 NL=>?_⟩)
  have s2a:ah (η H2 wd (.dT [])) (η (η H2 wd (.dT [])) t1 (.tup [.int (u:Int),.int 0])):=ah.new IA;have s2b:ah (η (η H2 wd (.dT [])) t1 (.tup [.int (u:Int),.int 0])) (η (η (η H2 wd (.dT [])) t1 (.tup [.int (u:Int),.int 0])) t2 (.tup [.int 0,.int 0])):=ah.new NL;have f3:=((f2.go (ah.new hwd (o:=.dT []))).go s2a).go s2b;have w3:=s2b _ _ (s2a _ _ (aa (H:=H2) (a:=wd) (o:=.dT [])));have u3:=s2b _ _ (aa (H:=η H2 wd (.dT [])) (a:=t1) (o:=.tup [.int (u:Int),.int 0]));have v3:(η (η (η H2 wd (.dT [])) t1 (.tup [.int (u:Int),.int 0])) t2 (.tup [.int 0,.int 0])) t2=10#([.int 0,.int 0]):=aa;generalize η (η (η H2 wd (.dT [])) t1 (.tup [.int (u:Int),.int 0])) t2 (.tup [.int 0,.int 0])=H3 at f3 w3 u3 v3;refine⟨t1,ky u false,rfl,u3,w3,?_⟩;have lw3:=yf.start f3 hu w3 (f2.same.free hwd) v3;have aaU:=s1 _ _ htb;have hL:∀k,k<g.N.n->0<=cL ts k:=m3 g;refine⟨λn σ H4=>∃v6 v7 v8 v9 v10 v11 Lo,σ=[11#wb,3#(m:Int),3#(u:Int),11#Ds,some (.ref D),11#wd,v6,v7,v8,v9,v10,v11,Lo]/\∃kvs F W,yf p H1 D wd es kvs F W H4/\RM.Dj g.N (cL ts) m u F W none (80#0)/\n=RM.left F p,⟨_,none,none,none,none,none,none,none,rfl,_,_,_,lw3,RM.Dj.start,rfl⟩,?_⟩
  rintro n σ H4 ⟨v6,v7,v8,v9,v10,v11,Lo,rfl,kvs,F,W,lw,dj,rfl⟩;refine 14#⟨wd,kvs,rfl,.inl lw.dt,_,_,rfl,rfl,af rfl (iI (λhlen=>?_) (λhlen=>?_))⟩
  case refine_2 =>
   have hl : ¬(0:Int)<(kvs.length:Int):=λz=>hlen (cH z)
   have e:kvs=[]:=ad5 (by lia)
   subst e;have hW:∀x s,W x s=none:=λx s=>by
    rcases lw.val x s with⟨z,_⟩|⟨_,_,_,z,_⟩
    .exact z
    .rw[xG]at z;cases z
   exact 14#(q D F H4 (s1.free lw.Dn) (s1.trans lw.same) ⟨es,hel,lw.lst,lw.at_,dj.best hW,dj.fw,λb hb=>s1.free (lw.fr b hb)⟩)
  have hlen:(0:Int)<(kvs.length:Int):=jz hlen;refine⟨λσ' H'=>∃v6 v7 v8 v9 v10 v11 Lo,σ' = [11#wb,3#(m:Int),3#(u:Int),11#Ds,some (.ref D),11#wd,v6,v7,v8,v9,v10,v11,Lo]/\∃kvs' F' W',yf p H1 D wd es kvs' F' W' H'/\RM.Dj g.N (cL ts) m u F' W' none (80#0)/\RM.left F' p<RM.left F p,λσ' H' ⟨a6,a7,a8,a9,a10,a11,a12,e,kvs',F',W',b1,b2,b3⟩=>⟨_,b3,a6,a7,a8,a9,a10,a11,a12,e,kvs',F',W',b1,b2,rfl⟩,?_⟩
  refine 14#⟨wd,kvs,Nt W kvs,rfl,lw.dt,(by lia),lw.same _ _ aaU,λob H5 JM hfz i kv b hkv hb=>?_,λi kv b H5 hkv hmin s5 hb=>?_⟩
  .obtain⟨x,t,d,c,hx,ek,Y7,hvx,_,hc,ews⟩:=lw.entry hkv;have hcw:c≠wd:=bg hc lw.dt 12#0
   refine(0#⟨wd,.ref c,rfl,.inr ⟨kvs,ky x t,b,.inr ⟨ob,hfz⟩,rfl,by rw[<-ek];exact hb,hvx.symm⟩,ah.refl _,c,rfl,?_⟩)
   rw[ews];exact aL.of (JM c _ hc hcw (by intro y z;cases z) (by intro y z;cases z))
  obtain⟨x,t,d,c,hx,ek,Y7,hvx,_,hc,ews⟩:=lw.entry hkv;rw[ek]at hb;have hmn:∀y t' d',W y t' = some d'->d.1<=d'.1:=λy t' d' hW'=>by
   obtain⟨j,kv',hj,_,ej⟩:=lw.find hW';have:=hmin j (j7.mp hj).1;rw[ej,ews]at this;exact BH this
  have Q2:=lw.go s5;have hc5:=s5 _ _ hc;have hF:F x t=none:=dj.dj x t d Y7;refine 14#⟨wd,rfl,.inr ⟨kvs,.inl Q2.dt⟩,af rfl ⟨kvs,ky x t,b,.ref c,Q2.dt,rfl,hb,hvx,?_⟩⟩;obtain⟨rb,r0,r1,er,er',hrb,hr0,hr1⟩:=Q2.row (i:=x) (by lia)
  have bw:b≠wd:=bg hb Q2.dt 12#0
  have rw_:rb≠wd:=bg hrb Q2.dt 12#0
  have UP:η H5 wd (.dT (fh kvs (ky x t))) b=10#([.int (x:Int),40#t.toNat]):=by rw[ao bw];exact hb
  have hD6:η H5 wd (.dT (fh kvs (ky x t))) D=1#(es.map V.ref):=by rw[ao (u! Q2.wD)];exact Q2.lst
  have hr6:η H5 wd (.dT (fh kvs (ky x t))) rb=1#([r0,r1]):=by rw[ao rw_];exact hrb
  refine(0#14#(bC (aL.of UP) je (jM (aM.of hD6) (ay er) 28#(bC (aL.of UP) fB ⟨rb,_,_,t.toNat,rfl,rfl,hr6,nj (n:=2) (j:=t.toNat) (by cases t<;>decide),?_⟩))))
  have VM:=Q2.take Y7 hc5 er' hrb;have Q3:=dj.pop Y7 hmn;have hlt:RM.left (RM.pe F x t d) p<RM.left F p:=RM.D7 hF hx;have tp7:cV H5 (η (η H5 wd (.dT (fh kvs (ky x t)))) rb 46#(([r0,r1]:List V).set t.toNat (.ref c))):=λz ys e=>by
   rw[ao (bg e hrb 12#0),ao (bg e Q2.dt 12#0)]
   exact e
  have VL:=tp7 _ _ hb;have Oh:=tp7 _ _ hc5;generalize η (η H5 wd (.dT (fh kvs (ky x t)))) rb 46#(([r0,r1]:List V).set t.toNat (.ref c))=H7 at VM VL Oh;generalize RM.F4 W x t=W7 at VM Q3;have Y8:RM.pe F x t d x t=some d:=RM.e8 _ _ _ _;generalize RM.pe F x t d=F7 at VM Q3 hlt Y8;obtain⟨sb,cs,esb,af4,W9,qsb⟩:=f1.get (i:=x) (by lia)
  have hlS:=k1.len x;refine(0#(bC (aL.of VL) je (jM (aM.of (VM.same _ _ f1.lst)) (ay esb) ⟨sb,rfl,24#(VM.same _ _ W9),?_⟩)));refine fC (K:=K) (a:=sb) (xs:=cs.map V.ref) (λj σ H8=>∃v8 v9 v10 v11 Lo,σ=[11#wb,3#(m:Int),3#(u:Int),11#Ds,some (.ref D),11#wd,some (.ref b),some (.ref c),v8,v9,v10,v11,Lo]/\cV H7 H8/\∃Cw W8,yf p H1 D wd es Cw F7 W8 H8/\RM.Dj g.N (cL ts) m u F7 W8 (some (x,t)) (λk y=>∃j',j'<j/\(S x)[j']?=some (k,y)))
   ⟨_,_,_,_,_,rfl,(ah.refl _).tups,_,_,VM,?_⟩ (λj σ H8 _ ⟨_,_,_,_,_,_,_,_,_,z,_⟩=>aM.of (z.same _ _ W9)) ?_ ?_
  .refine⟨Q3.fw,Q3.ww,Q3.dj,Q3.le,Q3.mx,λv t' d' k y e1 e2 e3 e4=>Q3.cl v t' d' k y e1 e2 e3 λz=>?_,Q3.st⟩
   obtain⟨j',h0,_⟩:=e4 z;exact absurd h0 (l? _)
  .rintro j y D3' σ H8 hj ⟨v8,v9,v10,v11,Lo,rfl,Y9,Cw,W8,UQ,XR⟩;obtain⟨cc,hcc,rfl⟩:∃cc,cs[j]?=some cc/\y = .ref cc:=by
    rw[c!]at hj;obtain⟨cc,h1,h2⟩:=qC.mp hj;exact⟨cc,h1,h2.symm⟩
   have M5:j<(S x).length:=by rw[<-qsb.length];exact(j7.mp hcc).1
   have eS:(S x)[j]?=some (S x)[j]:=i! M5;have tr1:=L2.fW qsb hcc eS;generalize hkw:(S x)[j]=kw at eS tr1;obtain⟨k,y⟩:=kw;have hmem:=(k1.mem x (k,y)).mp (gB eS);obtain⟨hk,E8⟩:=hmem;have hk:k<ts.length:=hk;have E8:RM.Jn g.N k x y:=E8;have hy:y<p:=E8.lt hk;have tr8:=UQ.same _ _ tr1;have tr8:H8 cc=some (.tup [.int (k:Int),.int (y:Int),40#(2#0).toNat]):=tr8;refine⟨cc,_,rfl,aL.of tr8,rfl,_,_,rfl,_,_,rfl,_,_,rfl,rfl,?_⟩;have hb8:=Y9 _ _ VL;have XS:=Y9 _ _ Oh;refine 14#(bC (aL.of hb8) fB 28#(br (?_)));dsimp only;rw[Q0];obtain⟨ct,ex,hct⟩:=nk (g:=g) h3 hk;have hw8:=UQ.same _ _ (s1 _ _ h1);have ht8:=UQ.same _ _ (s1 _ _ h2);have aa3:=UQ.same _ _ (s1 _ _ hct);refine 14#(bC (aL.of XS) je 28#(bC (aL.of hw8) fB (af rfl (bC (aL.of ht8) (ay (j:=k) ex) (bC (aL.of aa3) (ay (j:=2) rfl) (?_))))));refine(br 14#(bC (aL.of XS) fB 28#(br ⟨⟨by lia,by lia,16#0⟩,br 29#(λf hf=>?_)⟩)))
   have ef:Builtin.bitXor 6#d.2 (1*2^((k:Nat):Int).toNat)=6#(d.2^^^2^k):=by
    rw[a!,Int.one_mul,show((2:Int)^k)=6#(2^k) by simp]
    exact xor_int _ _
   dsimp only;rw[ef];have s9:ah H8 (η H8 f (.tup [.int (d.1+(bG ts k).2.2),.int 6#(d.2^^^2^k)])):=ah.new hf;have hf9:η H8 f (.tup [.int (d.1+(bG ts k).2.2),.int 6#(d.2^^^2^k)]) f=some (.tup [.int (d.1+cL ts k),.int 6#(d.2^^^2^k)]):=aa;have VN:=UQ.go s9;have tp9:cV H7 (η H8 f (.tup [.int (d.1+(bG ts k).2.2),.int 6#(d.2^^^2^k)])):=λz ys e=>s9 _ _ (Y9 _ _ e)
   generalize η H8 f (.tup [.int (d.1+(bG ts k).2.2),.int 6#(d.2^^^2^k)])=H9 at VN hf9 tp9;obtain⟨rb2,q0,q1,er2,aga,aa5,FL,hq1⟩:=VN.row (i:=y) (by lia)
   obtain⟨vv,hvv,VO⟩:∃vv,([q0,q1]:List V)[(t^^2#0).toNat]?=some vv/\wV H9 (F7 y (t^^2#0)) vv:=by
    cases(t^^2#0) with
    | false=>exact⟨q0,rfl,FL⟩
    | true=>exact⟨q1,rfl,hq1⟩
   have Lk:=hL k hk;refine(0#(jM (aM.of VN.lst) (ay er2) 14#(jM (aM.of aa5) (ay hvv) (?_))));refine 15#(?_);have dn:∀{ID:Nat->Nat->Prop} {Wx:RM.OW},RM.Dj g.N (cL ts) m u F7 Wx (some (x,t)) (λk' y'=>(∃j',j'<j/\(S x)[j']?=some (k',y'))\/(k' = k/\y' = y))->
    RM.Dj g.N (cL ts) m u F7 Wx (some (x,t)) (λk' y'=>∃j',j'<j+1/\(S x)[j']?=some (k',y')):=λ{ID Wx} h =>
    ⟨h.fw,h.ww,h.dj,h.le,h.mx,λv t' d' k' y' e1 e2 e3 e4=>h.cl v t' d' k' y' e1 e2 e3 λz=>by
     obtain⟨j',h0,h5⟩:=e4 z
     by_cases ej:j' = j
     .subst ej;rw[eS]at h5;cases h5;exact .inr ⟨rfl,rfl⟩
     .exact .inl ⟨j',by lia,h5⟩,h.st⟩
   cases Za:F7 y (t^^2#0) with
   | some d2 =>
     rw[Za]at VO;obtain⟨c2,rfl,hc2⟩:=VO;refine r6 60#0 ?_
     exact⟨_,_,_,_,_,rfl,tp9,Cw,W8,VN,dn (ID:=80#0) (XR.skip Y8 Lk (.inl Za))⟩
   | none =>
     rw[Za]at VO;have VO:vv = .dZ:=VO;subst VO;refine zp rfl ?_;refine(0#⟨wd,rfl,.inr ⟨Cw,.inl VN.dt⟩,af rfl 14#29#(λt3 ht3=>?_)⟩)
     have GY:ah H9 (η H9 t3 (.tup [.int (y:Int),40#(t^^2#0).toNat])):=ah.new ht3;have XT:η H9 t3 (.tup [.int (y:Int),40#(t^^2#0).toNat]) t3=some (.tup ((ky y (t^^2#0)).map kV)):=aa;have K1:=VN.go GY;have Oi:=GY _ _ hf9;have UR:cV H7 (η H9 t3 (.tup [.int (y:Int),40#(t^^2#0).toNat])):=λz ys e=>GY _ _ (tp9 _ _ e)
     generalize η H9 t3 (.tup [.int (y:Int),40#(t^^2#0).toNat])=zW at K1 Oi XT UR;refine 14#⟨fg Cw (ky y (t^^2#0)),.inr ⟨Cw,ky y (t^^2#0),t3,.inl K1.dt,rfl,XT,rfl⟩,?_⟩;have acS:=K1.len;have put:(∀d',W8 y (t^^2#0)=some d'->d.1+cL ts k<=d'.1)->cB D3' [11#wb,3#(m:Int),3#(u:Int),11#Ds,some (.ref D),11#wd,some (.ref b),some (.ref c),3#(k:Int),3#(y:Int),some (40#(2#0).toNat),some (40#(t^^2#0).toNat),some (.ref f)] zW:=λhle=>by
      refine(0#14#28#29#(λt4 ht4=>?_))
      have US:ah zW (η zW t4 (.tup [.int (y:Int),40#(t^^2#0).toNat])):=ah.new ht4;have aa6:η zW t4 (.tup [.int (y:Int),40#(t^^2#0).toNat]) t4=some (.tup ((ky y (t^^2#0)).map kV)):=aa;have UT:=K1.go US;have aa7:=US _ _ Oi;refine⟨wd,_,rfl,DF.t UT.dt aa6 (cO (by lia)),?_⟩
      have aa8:=UT.wait (x:=y) (s:=(t^^2#0)) (d:=(d.1+cL ts k,d.2^^^2^k)) hy aa7;refine⟨_,_,_,_,_,rfl,λz ys e=>?_,_,_,aa8,dn (ID:=80#0) (XR.put Y8 hk Lk E8 Za hle)⟩
      have e11:=US _ _ (UR _ _ e);rw[ao (bg e11 UT.dt 12#0)]
      exact e11
     rcases K1.val y (t^^2#0) with⟨hWn,hvn⟩|⟨d2,c2,hWs,hvs,hc2⟩
     .rw[hvn];refine⟨f,f,_,_,_,_,rfl,rfl,aL.of Oi,aL.of Oi,_,rfl,iI (λ_=>put λd' e=>by rw[hWn]at e;cases e) λz=>absurd ((HT.BE _ _ _ _).mpr (.inr 47#(H? _))) z⟩
     .rw[hvs];refine⟨f,c2,_,_,_,_,rfl,rfl,aL.of Oi,aL.of hc2,_,rfl,iI (λhl=>?_) (λhl=>?_)⟩
      .have hl:=(HT.BE _ _ _ _).mp hl;refine put λd' e=>?_
       rw[hWs]at e;cases e
       lia
      .have hl:=λz=>hl ((HT.BE _ _ _ _).mpr z)
       refine⟨_,_,_,_,_,rfl,UR,Cw,W8,K1,dn (ID:=80#0) (XR.skip Y8 Lk (.inr ⟨hWs,?_⟩))⟩
       have h6 : ¬ d.1+cL ts k<d2.1:=λz=>hl (.inl z)
       lia
  .rintro σ H8 ⟨v8,v9,v10,v11,Lo,rfl,Y9,Cw,W8,UQ,XR⟩;refine⟨_,_,_,_,_,_,_,rfl,Cw,F7,W8,UQ,XR.all λk y hk E8=>?_,hlt⟩
   have hm':=(k1.mem x (k,y)).mpr ⟨hk,E8⟩;obtain⟨j',hj'⟩:=N! hm';have aa9:=(j7.mp hj').1;exact⟨j',by rw[χ,qsb.length];exact aa9,hj'⟩
def K2:Sp:=λvs H Q _=>∃v o,vs=[v]/\wV H o v/\Q (oV (o.map (·.1))) H
abbrev zX(F:RM.OW):Nat->Bool->55#0:=λx s=>(F x s).map (·.1)
def ET:Sp:=λvs H Q _=>∃(D:Addr) (es:70#0) (F:RM.OW),vs=[.ref D]/\H D=1#(es.map V.ref)/\es.length<=900/\(∀(i:Nat) b,es[i]?=some b->∃v0 v1,H b=1#([v0,v1])/\wV H (F i false) v0/\wV H (F i true) v1)/\
 ∀b ys H',ah H H'->H' b=10#ys->Paired (iR H') ys (m4 (zX F) es.length)->Q (.ref b) H'
def g9:Ok T T.gZ 1 K2:=by
 refine T.gZ.ok uz 4#0
 .obtain⟨v,o,rfl,hv,q⟩:=h;refine⟨_,(ak (aB (mT (aG jO (pv 0) eN (aF _)) eN 25#0))),?_⟩;cases o with
  | none =>
    have hv:v = .dZ:=hv;subst hv;exact 14#15#(zp rfl q)
  | some d =>
    obtain⟨c,rfl,hc⟩:=hv;exact 14#15#(r6 60#0 28#(bC (aL.of hc) je (q)))
def ju:Ok T T.jq 2 ET:=by
 have g9:=g9 T;refine T.jq.ok sV 4#0
 .obtain⟨D,es,F,rfl,hD,hl,Oj,q⟩:=h;refine⟨_,(ak (aB (bQ (oM K) (by rfl) T.g8 I? (bE (aY (own:=["even","odd"]) (fq:=[]) (js:=[]) (az (ai gf) ["ways"]) rfl (oh K (pv 0)) 8#(aaB K rfl (aI (aQ 0 (ig ["even","odd"])) (aI (aQ 1 (ig ["even","odd"])) cU))) 65#0 8#(b9 (bS (aD g9 hr T.gZ.c aK (bE (pv 0))) (aD g9 hr T.gZ.c aK (bE (pv 1)))))))))),?_⟩
  refine 14#⟨D,rfl,24#hD,λL hL=>aU (K:=K) (a:=D) (xs:=es.map V.ref) (λi acc H2=>ah H H2/\H2 L=1#acc/\Paired (iR H2) acc (m4 (zX F) i)) ⟨ah.new hL,aa,.nil⟩ (λi acc H2 _ z=>⟨aM.of (z.1 _ _ hD),z.2.1,by rw[z.2.2.length,BA];exact Z' _⟩) (dl (S!.mpr (by rw[χ];lia))) ?_ ?_⟩
  .rintro i x acc H2 hx ⟨s2,Lp,pr⟩;obtain⟨b,hb,rfl⟩:∃b,es[i]?=some b/\x = .ref b:=by
    rw[c!]at hx;obtain⟨b,h1,h2⟩:=qC.mp hx;exact⟨b,h1,h2.symm⟩
   obtain⟨v0,v1,hv,w0,w1⟩:=Oj i b hb;refine⟨b,v0,v1,rfl,aM.of (s2 _ _ hv),_,_,rfl,_,_,rfl,rfl,rfl,af rfl ⟨v0,_,rfl,w0.tups s2.tups,_,rfl,v1,_,rfl,w1.tups s2.tups,dl rfl,λt ht=>?_⟩⟩
   have s3:ah H2 (η H2 t (.tup [oV (zX F i false),oV (zX F i true)])):=ah.new ht;have tL:t≠L:=λz=>by rw[z,Lp]at ht;cases ht
   have Xg:H L=none:=hL;refine⟨s3 _ _ Lp,(s2.trans s3).put Xg,aa,?_⟩;rw[MV];have keep:∀z pr,iR H2 z pr->iR (η (η H2 t (.tup [oV (zX F i false),oV (zX F i true)])) L 46#(acc++[.ref t])) z pr:=λz pr ⟨b,e,hb⟩=>⟨b,e,by rw[ao (bg hb Lp 12#0)];exact s3 _ _ hb⟩
   exact Paired.snoc (85#(λ_ _ z=>keep _ _ z)) ⟨t,rfl,by rw[ao tL,aa]⟩
  .rintro acc H2 ⟨s2,Lp,pr⟩;rw[χ]at pr;refine⟨L,_,rfl,.inl ⟨aM.of Lp,λl hl=>?_⟩⟩
   exact q l acc _ (s2.trans (ah.new hl)) aa (85#(λ_ _ ⟨b,e,hb⟩=>⟨b,e,ah.new hl _ _ hb⟩))
def mP.same{p:Nat}{N:RM.Net}{L:Nat->Int}{m u:Nat}{D:Addr}{F:RM.OW}{H0 H H' : Hp}(h:mP p N L m u D F H0 H)(s:ah H H'):mP p N L m u D F H0 H':=by
 obtain⟨es,e1,e2,e3,e4,e5,e6⟩:=h;exact⟨es,e1,s _ _ e2,λi b hb=>let⟨v0,v1,q1,q2,q3⟩:=e3 i b hb;⟨v0,v1,s _ _ q1,q2.tups s.tups,q3.tups s.tups⟩,e4,e5,e6⟩
def mP.put{p:Nat}{N:RM.Net}{L:Nat->Int}{m u:Nat}{D X:Addr}{F:RM.OW}{H0 H:Hp}{xs ys:List V}(h:mP p N L m u D F H0 H)(hD:H0 D=none)(hX:H X=1#xs)(hX0:∃o,H0 X=some o):mP p N L m u D F H0 (η H X (.lst ys)):=by
 obtain⟨es,e1,e2,e3,e4,e5,e6⟩:=h;obtain⟨o,ho⟩:=hX0;have ne:∀b,H0 b=none->b≠X:=λb hb z=>by rw[z,ho]at hb;cases hb
 have tp:cV H (η H X (.lst ys)):=cV.put hX;refine⟨es,e1,by rw[ao (ne D hD)];exact e2,λi b hb=>?_,e4,e5,e6⟩
 obtain⟨v0,v1,q1,q2,q3⟩:=e3 i b hb;exact⟨v0,v1,by rw[ao (ne b (e6 b (gB hb)))];exact q1,q2.tups tp,q3.tups tp⟩
def IE(p:Nat)(N:RM.Net)(L:Nat->Int)(m i:Nat)(ds:70#0)(Fs:Nat->RM.OW)(H:Hp):Prop:=ds.length=i/\∀(j:Nat) d,ds[j]?=some d->∃H0,mP p N L m j d (Fs j) H0 H
def EU(t:Addr)(lp:Pos):Sp:=λvs H Q _=>∃w p ts,∃g:aE p ts,∃m:Nat,vs=[.ref w,.int (m:Int)]/\73#0/\m<17#0/\H t=some (.lF (fM (qz "least_ways") lp))/\
 ∀D ds Fs H',H D=none->ah H H'->H' D=1#(ds.map V.ref)->IE p g.N (cL ts) m p ds Fs H'->Q (.ref D) H'
def dO:Ok T T.gm 6 (EU a.cW cC):=by
 have nX:=nX T;refine T.gm.ok sW 4#0
 .obtain⟨wb,p,ts,g,m,rfl,hw,hm,htb,q⟩:=h;refine⟨_,(ak (aB (aY (own:=["start"]) (fq:=["web","marks"]) (js:=[0,1]) (az (ai gh) ["web","marks"]) rfl (44#25#0) 8#(aQ 0 (ig ["start","web","marks"])) 65#0 8#(aD nX hr T.kq.c aK (aP (pv 1) (bS (pv 2) (pv 0))))))),?_⟩
  show 38;have wp:=g.p2;refine(af rfl (bC (aL.of h1) je 14#⟨(by lia),(by lia),λD hD=>cP (lo:=0) (m:=(p:Int).toNat) (λi acc H2=>ah H H2/\H2 D=1#acc/\∃ds Fs,acc=ds.map V.ref/\ds.length=i/\∀(j:Nat) d,ds[j]?=some d->∃H0,mP p g.N (cL ts) m j d (Fs j) H0 H2/\H0 d=none/\∃o,H0 D=some o) ⟨ah.new hD,aa,[],λ_ _ _=>none,rfl,rfl,λj d e=>by cases e⟩ (λi acc H2 _ ⟨_,z,ds,_,e,l,_⟩=>⟨z,by rw[e,χ];lia⟩) (dl (S!.mpr (by lia))) ?_ ?_⟩))
  .rintro i acc H2 hi ⟨s2,ie,ds,Fs,rfl,hl,all⟩;rw[a!]at hi;rw[K!];refine 47#0#14#⟨wb,p,ts,g,m,i,rfl,hw.same s2,hm,hi,s2 _ _ htb,λd F H3 hd s3 wa=>?_⟩
   have qw:=s3 _ _ ie;refine⟨qw,(s2.trans s3).put hD,aa,ds++[d],λj=>if j=i then F else Fs j,by simp,by simp[hl],λj d' e=>?_⟩
   by_cases ej:j<ds.length
   .rw[m? ej]at e;obtain⟨H0,w0,n0,o0⟩:=all j d' e;dsimp only;rw[ξ (show ¬ j=i by lia)]
    exact⟨H0,(w0.same s3).put n0 qw o0,n0,o0⟩
   .rw[A? (by lia)]at e
    have hj:j=i:=by
     have:=(j7.mp e).1;simp at this
     lia
    subst hj;rw[hl,H_]at e;have e:d=d':=by simpa using e
    subst e;dsimp only;rw[ο rfl];exact⟨H2,wa.put hd qw ⟨_,ie⟩,hd,_,ie⟩
  .rintro acc H2 ⟨s2,ie,ds,Fs,rfl,hl,all⟩;rw[a!]at hl;exact q D ds Fs H2 hD s2 ie ⟨hl,λj d e=>let⟨H0,w0,_⟩:=all j d e;⟨H0,w0⟩⟩
def Cy:Sp:=λvs H Q _=>∃(D:Addr) (ds:70#0) (Fs:Nat->RM.OW),∃p N L m,vs=[.ref D]/\H D=1#(ds.map V.ref)/\p<=900/\IE p N L m p ds Fs H/\
 ∀b H',ah H H'->c8 H' b ((13#p).map λi=>m4 (zX (Fs i)) p)->Q (.ref b) H'
def dX:Ok T T.g7 3 Cy:=by
 have ju:=ju T;refine T.g7.ok uA 4#0
 .obtain⟨D,ds,Fs,p,N,L,m,rfl,hD,hp,⟨hl,all⟩,q⟩:=h;refine⟨_,(ak (aB (bQ (oM K) (by rfl) T.g8 I? (bE (aY (own:=["from_point"]) (fq:=[]) (js:=[]) (az (ai gW) ["ways"]) rfl (oh K (pv 0)) 8#(aQ 0 (ig ["from_point"])) 65#0 8#(aD ju hr T.jq.c aK (bE (pv 0)))))))),?_⟩
  refine 14#⟨D,rfl,24#hD,λX hX=>aU (K:=K) (a:=D) (xs:=ds.map V.ref) (λi acc H2=>ah H H2/\H2 X=1#acc/\Paired (RowW H2) acc ((13#i).map λi=>m4 (zX (Fs i)) p)) ⟨ah.new hX,aa,.nil⟩ (λi acc H2 _ z=>⟨aM.of (z.1 _ _ hD),z.2.1,by rw[z.2.2.length,χ,y!];exact Z' _⟩) (dl (S!.mpr (by rw[χ];lia))) ?_ ?_⟩
  .rintro i x acc H2 hx ⟨s2,hX2,pr⟩;obtain⟨d,hd,rfl⟩:∃d,ds[i]?=some d/\x = .ref d:=by
    rw[c!]at hx;obtain⟨b,h1,h2⟩:=qC.mp hx;exact⟨b,h1,h2.symm⟩
   obtain⟨H0,wa⟩:=all i d hd;obtain⟨es,e1,e2,e3,_⟩:=wa.same s2;refine 15#⟨d,es,Fs i,rfl,e2,(by lia),e3,λb ys H3 s3 hb Sg=>?_⟩
   have CN:=s3 _ _ hX2;refine⟨CN,(s2.trans s3).put hX,aa,?_⟩;rw[C?,g!,e1]at *;exact Paired.snoc (85#74#(s3.tups.trans (cV.put CN))) (RowW.tups (cV.put CN) ⟨b,ys,rfl,hb,Sg⟩)
  .rintro acc H2 ⟨s2,hX2,pr⟩;rw[χ,hl]at pr;refine⟨X,_,rfl,.inl ⟨aM.of hX2,λl hl=>?_⟩⟩
   exact q l _ (s2.trans (ah.new hl)) ⟨acc,aa,85#(λ_ _ z=>z.same (ah.new hl))⟩
def Q4:Sp:=λvs H Q _=>∃(x y:55#0) (l:Int),vs=[oV x,oV y,.int l]/\Q (.bl (oY x y l)) H
def zY:Sp:=λvs H Q _=>∃(b c:Addr) (t:eW) (u:Bool) (ys:List V) (R:List Pr),vs=[.ref b,40#u.toNat,.ref c]/\H b=10#(Ml t)/\H c=10#ys/\Paired (iR H) ys R/\0<=t.1/\t.1<(R.length:Int)/\0<=t.2.1/\t.2.1<(R.length:Int)/\Q (.bl (uc R t u)) H
def wc(C:Addr):Sp:=λvs H Q E=>∃(w b:Addr) (p:Nat) (ts:List eW) (W:List (List Pr)) (S:Int),vs=[.ref w,.int S,.ref b]/\73#0/\O1 p ts/\c8 H b W/\Bu p W/\vF ts S (∀H',ah H H'->E (.ref C) none H') λm =>
 (mw p ts m W->∀H',ah H H'->Q (.bl true) H')/\(¬ mw p ts m W->∀H',ah H H'->Q (.bl false) H')
def IF(a:55#0):SV (oV a) (V.int 0)=true:=by cases a<;>rfl
def EV{x y:V}{A B:Prop}(h:x≠y)(ha:A):if(! decide (x=y))=true then A else B:=by
 rw[eV h];exact cY ha
def jy:Ok T T.jw 1 Q4:=by
 refine T.jw.ok yy 4#0
 .obtain⟨x,y,l,rfl,q⟩:=h;refine⟨_,(ae (bx (PW.pt (jA (aG jO (pv 0) eN (aF _)) (iK (aG jO (pv 1) eN (aF _))))) (ak (aB (qP (cK jO (pv 0) eN (aF _)) (oF (cK jO (pv 1) eN (aF _)))))) aN)
   (ak (aB (cK HC (bY C1 (by rfl) T.Sa PyProof.Rows.boot_abs (bE (au gx (pv 0) (pv 1)))) (pv 2) (aF _))))),?_⟩
  refine gG ?_;intro b8 cB;cases x with
  | none =>
    refine 14#15#(zp rfl 28#47#(af rfl (zp rfl (af rfl ⟨rfl,?_⟩))));cases y with
    | none=>exact q
    | some y=>exact q
  | some x =>
    cases y with
    | none=>exact 14#15#(r6 60#0 28#47#(af rfl (zp rfl (af rfl ⟨rfl,af rfl (r6 60#0 q)⟩))))
    | some y=>exact 14#15#(r6 60#0 28#47#(af rfl (r6 60#0 (0#(br (af rfl (af rfl (br (q)))))))))
def nY:Ok T T.nR 2 zY:=by
 have jy:=jy T;refine T.nR.ok mE 4#0
 .obtain⟨b,c,t,u,ys,R,rfl,hb,hc,pr,a0,a1,b0,b1,q⟩:=h;refine⟨_,(ae (bu 3 mE.nd (aZ (mj K) (pv 2) 25#0))
   (ae (bu 4 mE.nd (aZ (mj K) (pv 2) 25#0))
   (ak (aB (qP (aD jy hr T.jw.c aK (aP (cA K (pv 3)) (bS (aZ (mj K) (pv 4) (pv 1)) 25#0))) (oF (aD jy hr T.jw.c aK (aP (cA K (pv 3)) (bS (aZ (mj K) (pv 4) (au gx aq (pv 1))) 25#0))))))))),?_⟩
  refine fL ?_;intro b8 cB;obtain⟨c1,e1,h1⟩:=RowW.at pr (i:=t.1.toNat) (by lia)
  obtain⟨c2,e2,h2⟩:=RowW.at pr (i:=t.2.1.toNat) (by lia)
  have i1:Ah ys t.1=11#c1:=by
   have:=ay e1
   rwa [Int.toNat_of_nonneg a0]at this
  have i2:Ah ys t.2.1=11#c2:=by
   have:=ay e2
   rwa [Int.toNat_of_nonneg b0]at this
  have eu:(1:Int)-(u.toNat:Int)=((! u).toNat:Int):=by cases u<;>rfl
  refine(0#(bC (aL.of hb) je (bC (aL.of hc) (i1) (?_))));refine(0#(bC (aL.of hb) fB (bC (aL.of hc) (i2) (?_))));refine 14#(bC (aL.of h1) je (0#(bC (aL.of h2) (ay (MJ _ u)) 28#(bC (aL.of hb) (ay (j:=2) rfl) ⟨_,_,_,rfl,_,rfl,?_⟩))));unfold uc at q;cases hB:oY (dQ R t.1.toNat).1 (sel (dQ R t.2.1.toNat) u) t.2.2 with
  | false =>
    rw[hB]at q;exact cJ q
  | true =>
    rw[hB]at q;refine cY 14#(bC (aL.of h1) fB (0#(br (bC (aL.of h2) (?_) 28#(bC (aL.of hb) (ay (j:=2) rfl) ⟨_,_,_,rfl,q⟩)))));rw[eu];exact ay (MJ _ (! u))
def lB:Oc T T.ly 4 (wc a.gM):=by
 have ez:=ez T;have bW:=bW T;have nY:=nY T;refine T.ly.Jl gX 4#0
 .obtain⟨wb,b,p,ts,W,S,rfl,hw,Wb,hW,sq,q⟩:=h;refine⟨_,(ae (dB (aD ez hr T.jF.c jP.passes 51#(pv 1)))
   (ae (r9 rfl (44#25#0) (aQ 3 gX.nd)
   (ae (bx (aG qD (cA K (aZ (mj K) (aZ (mj K) (pv 2) (pv 3)) (pv 3))) aq (aF _)) (ak (aB dI)) aN)
   (ak (cM PassesOwn.never rfl (DB K (by rfl) T.iF (bE 25#0)) (Ak K (n:=2) rfl (aI (aQ 4 gX.nd) (aI (aQ 5 gX.nd) cU)))
   (ak (bx (fN (cu (aD nY hr T.nR.c aK (aP (pv 5) (bS (mT (cu (aD bW hr T.iE.c aK (bS (pv 1) (pv 4)))) aq aq) (aZ (mj K) (pv 2) (pv 3))))))) (ak (aB dI)) aN))))))
   (ak (aB dI)))),?_⟩
  refine vP ?_;intro b8 cB c9 dU eI j6 mS;refine(0#⟨wb,p,ts,S,rfl,hw,Wb,?_⟩);rcases q with⟨m,rfl,hm,q1,q2⟩|⟨hS,q⟩
  .refine .inl ⟨m,rfl,hm,?_⟩;show 38;obtain⟨ws,hws,Lq⟩:=id hW;have qt:=h3.length;have wp:=Wb.WY;have wl:=Wb.len;refine 14#(bC (aL.of h1) je 28#⟨(by lia),(by lia),?_⟩)
   refine Aa (lo:=0) (n:=(p:Int).toNat) (λi σ H2=>∃v3 v4 v5,σ=[11#wb,3#(m:Int),some (.ref b),v3,v4,v5]/\ah H H2/\∀j,j<i->AG ts m j (W.getD j [])) ⟨none,none,none,rfl,ah.refl _,λj hj=>by lia⟩ ?_ ?_
   .rintro i σ H2 hi ⟨v3,v4,v5,rfl,s2,ok⟩;rw[a!]at hi;rw[K!];obtain⟨x,hx,bR,ys,rfl,CO,Fd⟩:=fW Lq (i:=i) (by rw[sq.1];exact hi) []
    have rl:=sq.row hi;obtain⟨bP,eP,zf⟩:=RowW.at Fd (i:=i) (by lia)
    refine(0#(bC 36#(s2 _ _ hws) (ay (j:=i) hx) 14#(bC 36#(s2 _ _ CO) (ay (j:=i) eP) (bC 36#(s2 _ _ zf) je (?_)))));refine⟨IF _,_,rfl,?_⟩
    by_cases h0:(dQ (W.getD i []) i).1=some 0
    case neg =>
     refine EV (λz=>h0 ?_) (q2 (λz=>h0 (z i hi).1) _ s2)
     have e:=Qu (dQ (W.getD i []) i).1;rw[cH z]at e;exact jz e.symm
    refine Aj (by rw[h0];rfl) ?_
    refine 14#(bC 36#(s2 _ _ h1) fB ⟨bt,rfl,⟨_,aL.of (s2 _ _ h2)⟩,?_⟩);refine AF (K:=K) (a:=bt) (xs:=xs) (λk σ H3=>∃v4 v5,σ=[11#wb,3#(m:Int),some (.ref b),3#(i:Int),v4,v5]/\ah H H3/\∀j,j<k->uc (W.getD i []) (bG ts j) (m.testBit j)=true) ⟨v4,v5,rfl,s2,λj hj=>by lia⟩ (λk σ H3 _ ⟨_,_,_,z,_⟩=>aL.of (z _ _ h2)) ?_ ?_
    .rintro k x T0 σ H3 hk ⟨v4,v5,rfl,s3,Cz⟩ hT;have hkx:k<xs.length:=(j7.mp hk).1;obtain⟨t,ht,ct,rfl,hct⟩:=Paired.j8 h3 hk;have O3:bG ts k=t:=by
      unfold bG;rw[w!,ht];rfl
     obtain⟨g0,g1,g2,g3⟩:=Wb.inw.ends t (gB ht);have s4:ah H3 (η H3 T0 (.tup [.int (k:Int),.ref ct])):=ah.new hT;have Li:η H3 T0 (.tup [.int (k:Int),.ref ct]) T0=10#([.int (k:Int),.ref ct]):=aa;generalize η H3 T0 (.tup [.int (k:Int),.ref ct])=H4 at s4 Li;have wM:=s3.trans s4;refine⟨T0,_,rfl,aL.of Li,rfl,_,_,rfl,_,_,rfl,rfl,?_⟩;refine(0#14#⟨(m:Int),k,rfl,af rfl (?_)⟩);rw[gU];cases hb:2#0 with
     | true =>
       refine cY (0#(bC 36#(wM _ _ hws) (ay (j:=i) hx) ⟨ct,bR,t,true,ys,_,rfl,wM _ _ hct,wM _ _ CO,Paired.imp' (λ_ _ z=>z.same wM) Fd,g0,by lia,g2,by lia,_,rfl,?_⟩))
       cases hB:uc (W.getD i []) t true with
       | false=>exact cY (q2 (λz=>by
        have:=(z i hi).2 k (by lia)
        rw[O3,hb,hB]at this;cases this) _ wM)
       | true =>
         refine cJ ⟨_,_,rfl,wM,λj hj=>?_⟩
         by_cases e:j=k
         .rw[e,O3,hb];exact hB
         .exact Cz j (by lia)
     | false =>
       refine cJ (0#(bC 36#(wM _ _ hws) (ay (j:=i) hx) ⟨ct,bR,t,false,ys,_,rfl,wM _ _ hct,wM _ _ CO,Paired.imp' (λ_ _ z=>z.same wM) Fd,g0,by lia,g2,by lia,_,rfl,?_⟩))
       cases hB:uc (W.getD i []) t false with
       | false=>exact cY (q2 (λz=>by
        have:=(z i hi).2 k (by lia)
        rw[O3,hb,hB]at this;cases this) _ wM)
       | true =>
         refine cJ ⟨_,_,rfl,wM,λj hj=>?_⟩
         by_cases e:j=k
         .rw[e,O3,hb];exact hB
         .exact Cz j (by lia)
    .rintro σ H3 ⟨v4,v5,rfl,s3,Cz⟩;rw[qt]at Cz;refine⟨_,_,_,rfl,s3,λj hj=>?_⟩
     by_cases e:j=i
     .rw[e];exact⟨h0,Cz⟩
     .exact ok j (by lia)
   .rintro σ H2 ⟨v3,v4,v5,rfl,s2,ok⟩;rw[a!]at ok;exact q1 ok _ s2
  .exact .inr ⟨hS,q _ (ah.refl _)⟩
def spF:Sp:=λ_ _ _ _=>False
def vd:Oc T T.uV 6 spF:=by
 exact T.uV.F.Jl Gn (λvs H Q E h=>h.elim) (λcdv A outer s H vs Q E hr h=>h.elim)
def Q5(p:Nat)(ts:List eW)(g:aE p ts)(m:Nat)(H' : Hp)(t:Addr):Prop :=
 ∃(z:Int) (e:Nat) (b:Addr) (W:List (List Pr)),RM.yh g.N (cL ts) m z e/\H' t=10#([.str "ring",.int (e:Int),.ref b])/\c8 H' b W/\W.length=p/\(∀R∈W,R.length=p)/\qJ p ts g m W
def CA(t:Addr)(lp:Pos):Sp:=84#(∃(m r:Nat),vs=[.ref w,.int (m:Int)]/\73#0/\H t=some (.lF (fM (qz "least_ways") lp))/\m<17#0/\g.N.Ring r/\r<17#0/\g.N.par r m=true/\∀t H',H t=none->ah H H'->Q5 p ts g m H' t->Q (.ref t) H')
def yU(H:Hp)(v:V)(d:Int×Nat):Prop:=∃c,v = .ref c/\H c=10#([.int d.1,40#d.2])
def yU.tups{H H' : Hp}{v:V}{d:Int×Nat}(h:yU H v d)(s:cV H H'):yU H' v d:=let⟨c,e,q⟩:=h;⟨c,e,s _ _ q⟩
def rJ(d:Int×Nat):PyData:=.tuple [.int d.1,40#d.2]
theorem EW{K:b7}{H:Hp}:∀{ys:List V} {R:List (Int×Nat)},Paired (yU H) ys R->DatVs K H ys (R.map rJ)
 | _,_,.nil=>.nil
 | _,_,.cons h r=>by
   obtain⟨b,rfl,hb⟩:=h;exact .cons (.tup (aL.of hb) (.cons (.int _) (.cons (.int _) .nil))) (EW r)
def Ol:∀l:List (Int×Nat),PyData.eqv (.list (l.map rJ)) (.list [])=decide (l=[])
 | []=>rfl
 | _::_=>rfl
theorem EX:∀R:List (Int×Nat),PyData.canLayAll0 (R.map rJ)=true
 | []=>rfl
 | q::r=>by
   have ih:=EX r;have e:(rJ q).canLay0=true:=by simp[rJ,PyData.canLay0,PyData.canLayAll0]
   simp only[F!,PyData.canLayAll0,ih,u_,e]
theorem A2:∀R:List (Int×Nat),PyData.depthAll (R.map rJ)<=1
 | []=>v! _
 | q::r=>by
   have ih:=A2 r;show max (PyData.depth (rJ q)) (PyData.depthAll (r.map rJ))<=1;have e:PyData.depth (rJ q)=1:=by simp[rJ,PyData.depth,PyData.depthAll]
   lia
theorem A3{H:Hp}:∀{ys:List V} {R:List (Int×Nat)},Paired (yU H) ys R->∃cs:70#0,ys=cs.map V.ref/\Paired (λ(c:Addr) (d:Int×Nat)=>H c=10#([.int d.1,40#d.2])) cs R
 | _,_,.nil=>⟨[],rfl,.nil⟩
 | _,_,.cons h r=>by
   obtain⟨b,rfl,hb⟩:=h;obtain⟨cs,rfl,pr⟩:=A3 r;exact⟨b::cs,rfl,.cons hb pr⟩
def EY(R:List (Int×Nat)):SeqAt.shaped (.list (R.map rJ))=true:=by
 unfold SeqAt.shaped;have e:(PyData.list (R.map rJ)).canLay0=PyData.canLayAll0 (R.map rJ):=by simp[PyData.canLay0]
 rw[e,EX,D?];refine cH ?_;have h:=A2 R;have e2:PyData.depth (PyData.list (R.map rJ))=PyData.depthAll (R.map rJ)+1:=by simp[PyData.depth]
 rw[e2]
 lia
def BH{a b:Int×Nat}(h:HT.lexLt [a.1,(a.2:Int)] [b.1,(b.2:Int)]=false):b.1<=a.1:=by
 rw[HT.di]at h
 by_cases e:a.1=b.1
 .lia
 .rw[ξ e]at h;have:=of_decide_eq_false h
  lia
def eE:Oc T T.jH 7 (CA a.cW cC):=by
 have ez:=ez T;have dO:=dO T;have dX:=dX T;have vd:=vd T;refine T.jH.Jl ny 4#0
 .obtain⟨wb,p,ts,g,m,ro,rfl,hw,htb,hm,ro1,ro2,ro3,q⟩:=h;refine⟨_,(ae (dB (aD ez hr T.jF.c jP.passes 51#(pv 1)))
   (ae (dD (i:=2) ny.nd rfl (Or.inr rfl) (aD dO hr T.gm.c aK 51#(pv 1)))
   (ae (fJ (i:=3) ny.nd rfl rfl (own:=["point"]) (fq:=["ways"]) (js:=[2]) (az (ai l7) ["web","marks","ways","rounds"]) rfl (44#25#0) 8#(aQ 0 (ig ["point","ways"])) 8#(gR (aG Bc (Y0 K (aZ (kE K) (aZ (kE K) (pv 1) (pv 0)) (pv 0))) eN (aF _))) 8#(Y0 K (aZ (kE K) (aZ (kE K) (pv 1) (pv 0)) (pv 0))))
   (ae (bx (aG (LZ K hr.units) (pv 3) (cy fO) (aF _)) (ak (aB (aD vd hr T.uV.c jP.passes 51#(pv 1)))) aN)
   (ak (aB (b9 (aP Fj (bS (cA K (bY (aaC hr.hd hr.in1.Fw) (by rfl) T.IC adY (bE (pv 3)))) (aD dX hr T.g7.c aK (bE (pv 2)))))))))))),?_⟩
  refine BS ?_;intro b8 cB c9 dU eI;show 38;have wp:=g.p2;have W:=g.Lj;refine(0#⟨wb,p,ts,_,rfl,hw,W,.inl ⟨m,rfl,hm,?_⟩⟩);refine(0#⟨wb,p,ts,g,m,rfl,hw,hm,htb,λD ds Fs H1 hD s1 rf al=>?_⟩)
  obtain⟨hl,all⟩:=id al;have Oj:∀i,i<p->∃d H0,ds[i]?=some d/\mP p g.N (cL ts) m i d (Fs i) H0 H1:=λi hi=>by
   have e:ds[i]?=some ds[i]:=i! (by lia)
   obtain⟨H0,h0⟩:=all i _ e;exact⟨_,H0,e,h0⟩
  refine 14#(bC 36#(s1 _ _ h1) je 28#⟨(by lia),(by lia),λX hX=>cP (lo:=0) (m:=(p:Int).toNat) (λi acc H2=>ah H1 H2/\H2 X=1#acc/\Paired (yU H2) acc ((13#i).filterMap λj=>Fs j j true)) ⟨ah.new hX,aa,.nil⟩ (λi acc H2 _ z=>⟨z.2.1,by rw[z.2.2.length];exact D! (List.length_filterMap_le ..) 31#0⟩) (dl (S!.mpr (by lia))) ?_ ?_⟩)
  .rintro i acc H2 hi ⟨s2,hX2,pr⟩;rw[a!]at hi;rw[K!];obtain⟨d,H0,hd,es,e1,e2,e3,_⟩:=Oj i hi;have hei:es[i]?=some es[i]:=i! (by lia)
   obtain⟨v0,v1,hv,w0,w1⟩:=e3 i _ hei;have fm:(13#(i+1)).filterMap (λj=>Fs j j true)=(13#i).filterMap (λj=>Fs j j true)++(Fs i i true).toList:=by
    rw[C?,List.filterMap_append];cases hF:Fs i i true<;>simp[hF]
   rw[fm];have hDi:(ds.map V.ref)[i]?=some (.ref d):=by rw[c!,hd];rfl
   have hdi:(es.map V.ref)[i]?=11#(es[i]):=by rw[c!,hei];rfl
   refine 47#0#(jM (aM.of (s2 _ _ rf)) (ay (j:=i) hDi) 14#(jM (aM.of (s2 _ _ e2)) (ay (j:=i) hdi) (jM (aM.of (s2 _ _ hv)) fB 15#(?_))));cases hF:Fs i i true with
   | none =>
     rw[hF]at w1;have w1:v1 = .dZ:=w1;subst w1;refine Aj rfl ⟨s2,hX2,?_⟩;rw[show(none:Option (Int×Nat)).toList=[] from rfl,f_]
     exact pr
   | some dd =>
     rw[hF]at w1;obtain⟨c,rfl,hc⟩:=w1;refine EV 60#0 (0#(jM (aM.of (s2 _ _ rf)) (ay (j:=i) hDi) 14#(jM (aM.of (s2 _ _ e2)) (ay (j:=i) hdi) (jM (aM.of (s2 _ _ hv)) fB ⟨hX2,s2.put hX,aa,?_⟩))))
     have tp:cV H2 (η H2 X 46#(acc++[.ref c])):=cV.put hX2;exact Paired.snoc (85#74#tp) ⟨c,rfl,tp _ _ (s2 _ _ hc)⟩
  .rintro acc H2 ⟨s2,hX2,pr⟩;rw[a!]at pr;generalize hR:(13#p).filterMap (λj=>Fs j j true)=R at pr
   have s12:=s1.trans s2;have Zb:∀k,k<g.N.n->0<cL ts k:=λk hk=>by
    have:=(g.Dl _ (ji hk)).l0;unfold cL
    lia
   have inR:∀j d,j<p->Fs j j true=some d->d∈R:=λj d hj hd=>by
    rw[<-hR];exact p_.mpr ⟨j,A!.mpr hj,hd⟩
   have ofR:∀d,d∈R->∃j,j<p/\Fs j j true=some d:=λd hd=>by
    rw[<-hR]at hd;obtain⟨j,hj,e⟩:=p_.mp hd;exact⟨j,A!.mp hj,e⟩
   have best:∀i,i<p->∀x s,RM.vN g.N (cL ts) m i x s ((Fs i x s).map (·.1)):=λi hi=>by
    obtain⟨d,H0,hd,es,e1,e2,e3,e4,_⟩:=Oj i hi;exact e4
   refine 14#29#(λl0 HM=>⟨_,_,.lst (aM.of (ah.new HM _ _ hX2)) (EW (85#74#(ah.new HM).tups)),.lst (aM.of aa) .nil,EY _,rfl,af rfl (?_)⟩)
   rw[Ol];have s3:=s12.trans (ah.new (o:=.lst []) HM);have s23:=s2.trans (ah.new (o:=.lst []) HM);have CN:=ah.new (o:=.lst []) HM _ _ hX2;have Sg:=85#(λ_ _ z=>yU.tups z (ah.new (o:=.lst []) HM).tups)
   clear hX2 pr;generalize η H2 l0 (.lst [])=H3 at s3 s23 CN Sg
   by_cases hne:R=[]
   .rw[cH hne];have no:∀x z,x<p->¬ RM.Wy g.N (cL ts) m x x true z:=λx z hx hw=>by
     have b:=best x hx x true;cases hF:Fs x x true with
     | none=>rw[hF]at b;exact b z hw
     | some d=>have:=inR x d hx hF;rw[hne]at this;cases this
    obtain⟨x,hx,Zc⟩:=RM.xR (λk hk=>_L (Zb k hk)) m ro1 ro2
    rw[ro3]at Zc;exact absurd Zc (no x _ hx)
   .rw[eV hne];obtain⟨cs,rfl,prc⟩:=A3 Sg;have csl:=prc.length;have hpos:0<cs.length:=by
     have:=ad8.mpr hne
     lia
    have hcs:∀(i:Nat) c,cs[i]?=some c->∃d,R[i]?=some d/\H3 c=10#([.int d.1,40#d.2]):=λi c hc=>Paired.j8 prc hc
    refine cJ 14#⟨X,cs,λi=>[(R.getD i (0,0)).1,((R.getD i (0,0)).2:Int)],rfl,aM.of CN,hpos,λi c hc=>?_,λi c hc hmin=>?_⟩
    .obtain⟨d,hd,h⟩:=hcs i c hc;have e:R.getD i (0,0)=d:=by rw[w!,hd];rfl
     dsimp only;rw[e];exact aL.of h
    obtain⟨d,hd,hcd⟩:=hcs i c hc;obtain⟨u,hu,hFu⟩:=ofR d (gB hd);have hlx:∀j d',j<p->Fs j j true=some d'->d.1<=d'.1:=λj d' hj hF=>by
     obtain⟨i',hi'⟩:=N! (inR j d' hj hF);have hlt:i'<cs.length:=by
      have:=(j7.mp hi').1
      lia
     have hm2:=hmin i' hlt;have e:R.getD i (0,0)=d:=by rw[w!,hd];rfl
     have e' : R.getD i' (0,0)=d':=by rw[w!,hi'];rfl
     dsimp only at hm2;rw[e,e']at hm2;exact BH hm2
    have hmn:∀x z',x<p->RM.Wy g.N (cL ts) m x x true z'->d.1<=z':=λx z' hx hw=>by
     have b:=best x hx x true;cases hF:Fs x x true with
     | none=>rw[hF]at b;exact absurd hw (b z')
     | some d' =>
       rw[hF]at b;have h1:d'.1<=z':=b.2 z' hw;have h2:=hlx x d' hx hF
       lia
    obtain⟨_,_,_,es,_,_,_,_,wz,_⟩:=Oj u hu;have wzu:=wz u true d hFu;obtain⟨r1,r2,r3,r4⟩:=RM.F6 Zb (show u<g.N.p from hu) wzu hmn
    refine(bC (aL.of hcd) fB 14#⟨D,ds,Fs,p,g.N,cL ts,m,rfl,s23 _ _ rf,(by lia),⟨hl,λj d e=>let⟨H0,w0⟩:=all j d e;⟨H0,w0.same s23⟩⟩,λb H4 s4 hW=>29#(λt ht=>?_)⟩)
    have s5:ah H4 (η H4 t (.tup [.str "ring",40#d.2,.ref b])):=ah.new ht;refine q t _ ((s3.trans s4).free ht) ((s3.trans s4).trans s5) ⟨d.1,d.2,b,_,⟨r1,r2,r3,r4,⟨u,hu,?_⟩,hmn⟩,aa,hW.same s5,by rw[χ,y!],λR hR=>?_,λi hi x s hx=>?_⟩
    .obtain⟨pre,w0⟩:=wzu;exact⟨pre,_,w0⟩
    .obtain⟨i,_,rfl⟩:=d!.mp hR;exact BA _ _
    .rw[w!,c!,o_ hi];show RM.vN _ _ m i x s (sel (dQ (m4 (zX (Fs i)) p) x) s);rw[MU hx];exact best i hi x s
def GZ:Sp:=λvs H Q _=>∃(l:Addr) (rows:List RM.Row3) (x:Nat),vs=[.ref l,.int (x:Int)]/\kc H l rows/\∀c H',ah H H'->H' c=some (.tup [.int 6#(RM.fj rows x 0).1,.int 6#(RM.fj rows x 0).2])->Q (.ref c) H'
def EZ:Sp:=λvs H Q _=>∃(l b:Addr) (rows:List RM.Row3) (a:RM.Row3),vs=[.ref l,.ref b]/\kc H l rows/\H b=10#(vA a)/\rows.length<=200/\∀l' H',ah H H'->kc H' l' (RM.DQ rows a)->Q (.ref l') H'
def G0:Sp:=λvs H Q _=>∃(l:Addr) (B:List Nat),vs=[.ref l]/\H l=1#(aA B)/\B.length<=200/\∀l' rows H',ah H H'->kc H' l' rows->RM.Rw B rows->Q (.ref l') H'
def Sh(p:Nat)(ts:List eW)(g:aE p ts)(zs:List Int):Prop:=∃rs:List Nat,zs=rs.map (λx=>((x:Nat):Int))/\RM.Base g.N rs
def G3:Sp:=84#(∃(l:Addr) (zs:List Int),vs=[.ref w,.ref l]/\73#0/\H l=1#(zs.map V.int)/\zs.length<=200/\∀H' (d:Bool),ah H H'->(d=true↔Sh p ts g zs)->Q (.bl d) H')
def cast_inj{xs ys:List Nat}(e:xs.map (λx=>((x:Nat):Int))=ys.map λx=>((x:Nat):Int)):xs=ys:=by
 have:=n! (List.map Int.toNat) e;rw[X!,X!]at this;have h1:(Int.toNat∘λx=>((x:Nat):Int))=id:=funext λx=>rfl
 rw[h1,I_,I_]at this;exact this
def XU{x y:V}{A B:Prop}(h:x≠y)(ha:A):if(! decide (x=y))=true then A else B:=by
 rw[eV h];exact cY ha
def ve:Ok T T.uW 2 GZ:=by
 have bW:=bW T;refine T.uW.ok fQ 4#0
 .obtain⟨l,rows,x,rfl,hR,q⟩:=h;refine⟨_,(ae (bu 2 fQ.nd (pv 1))
   (ae (bu 3 fQ.nd aq)
   (ae (cM PassesOwn.never rfl (oh K (pv 0)) (Ak K (n:=3) rfl (aI (aQ 4 fQ.nd) (aI (aQ 5 fQ.nd) (aI (aQ 6 fQ.nd) cU))))
   (ak (bx (cu (aD bW hr T.iE.c aK (bS (pv 2) (pv 4)))) (ae (A8 (i:=2) fQ.nd rfl (Or.inl rfl) (pv 5) Hw)
   (ak (A8 (i:=3) fQ.nd rfl (Or.inl rfl) (pv 6) Hw))) aN)))
   (ak (aB (b9 (bS (pv 2) (pv 3)))))))),?_⟩
  refine Gp ?_;intro b8 cB c9 dU eI j6;obtain⟨xs,hl,pr⟩:=id hR;refine(0#⟨l,rfl,24#hl,fC (K:=K) (a:=l) (xs:=xs) (λi σ H2=>∃v4 v5 v6,σ=[some (.ref l),3#(x:Int),3#6#(RM.fj (rows.take i) x 0).1,3#6#(RM.fj (rows.take i) x 0).2,v4,v5,v6]/\H2=H) ⟨none,none,none,rfl,rfl⟩ (λi σ H2 _ ⟨_,_,_,_,z⟩=>by rw[z];exact aM.of hl) ?_ ?_⟩)
  .rintro i y D' σ H2 hi ⟨v4,v5,v6,rfl,rfl⟩;obtain⟨qq,hq,b,rfl,hb⟩:=Paired.j8 pr hi;refine⟨b,_,rfl,aL.of hb,rfl,_,_,rfl,_,_,rfl,_,_,rfl,rfl,?_⟩;refine(0#⟨_,qq.1,rfl,af rfl (?_)⟩);rw[gU];have e3:=JN (rows.take i) qq x 0;rw[<-take3 hq]at e3;cases we:(RM.fj (rows.take i) x 0).1.testBit qq.1 with
   | true =>
     rw[we,ο rfl]at e3;refine cY (0#(br 14#28#(br ⟨3#(qq.1:Int),3#(qq.2.1:Int),3#(qq.2.2:Int),?_,rfl⟩)));rw[e3];show[_,_,some (V.int (Builtin.bitXor _ _)),some (V.int (Builtin.bitXor _ _)),_,_,_]=_;rw[xor_int,xor_int]
   | false =>
     rw[we,ξ (16#0)]at e3
     refine cJ ⟨3#(qq.1:Int),3#(qq.2.1:Int),3#(qq.2.2:Int),?_,rfl⟩;rw[e3];rfl
  .rintro σ H2 ⟨v4,v5,v6,rfl,rfl⟩;rw[pr.length,H!];exact(0#29#(λc hc=>q c _ (ah.new hc) aa))
def rK:Ok T T.rF 2 EZ:=by
 have bW:=bW T;refine T.rF.ok pF 4#0
 .obtain⟨l,b,rows,ad,rfl,hR,hb,hlen,q⟩:=h;refine⟨_,(ae (bu 2 pF.nd (cy (bE (pv 1))))
   (ae (cM PassesOwn.never rfl (oh K (pv 0)) (aQ 3 pF.nd)
   (ak (bx (cu (aD bW hr T.iE.c aK (bS (cA K (pv 3)) (cA K (pv 1))))) (ak (dB (Fc K (jY g? n? o? cN (pv 2) (bE (b9 (aP (cA K (pv 3)) (bS (au iL (cA K (pv 3)) (cA K (pv 1))) (au iL (cA K (pv 3)) (cA K (pv 1))))))))))) (ak (dB (Fc K (jY g? n? o? cN (pv 2) (bE (pv 3)))))))))
   (ak (aB (pv 2))))),?_⟩
  refine El ?_;intro b8 cB c9 dU eI;obtain⟨xs,hl,pr⟩:=id hR;have xsl:=pr.length;refine 14#29#(λD hD=>?_)
  have s1:ah H (η H D (.lst [.ref b])):=ah.new hD;have rf:η H D (.lst [.ref b]) D=1#([.ref b]):=aa;generalize η H D (.lst [.ref b])=H1 at s1 rf;refine 14#⟨l,rfl,24#(s1 _ _ hl),fC (K:=K) (a:=l) (xs:=xs) (λi σ H2=>∃v3 acc,σ=[some (.ref l),some (.ref b),some (.ref D),v3]/\ah H H2/\H2 D=1#acc/\acc.length=i+1/\Paired (xW H2) acc (RM.DQ (rows.take i) ad)) ⟨none,_,rfl,s1,rf,rfl,.cons ⟨b,rfl,s1 _ _ hb⟩ .nil⟩ (λi σ H2 _ ⟨_,_,_,z,_⟩=>aM.of (z _ _ hl)) ?_ ?_⟩
  .rintro i y D' σ H2 hi ⟨v3,acc,rfl,s2,ie,al,UU⟩;obtain⟨qq,hq,c,rfl,hc⟩:=Paired.j8 pr hi;have xU:=(j7.mp hi).1;have hc2:=s2 _ _ hc;have GX:=s2 _ _ hb;have put:RM.DQ (rows.take (i+1)) ad=RM.DQ (rows.take i) ad++[if qq.2.1.testBit ad.1=true then(qq.1,qq.2.1^^^ad.2.1,qq.2.2^^^ad.2.2) else qq]:=by
    unfold RM.DQ;rw[take3 hq,g!];rfl
   refine 14#(bC (aL.of hc2) fB 28#(bC (aL.of GX) je ⟨_,ad.1,rfl,af rfl (?_)⟩));rw[gU];cases we:qq.2.1.testBit ad.1 with
   | true =>
     rw[we,ο rfl]at put;refine cY 14#⟨91#ie,af rfl (bC (aL.of hc2) je 28#(bC (aL.of hc2) fB (af rfl (bC (aL.of GX) fB (br (af rfl (bC (aL.of hc2) (ay (j:=2) rfl) (af rfl (bC (aL.of GX) (ay (j:=2) rfl) (br 29#(λd hd=>?_)))))))))))⟩
     have s3:ah H2 (η H2 d (.tup (vA (qq.1,qq.2.1^^^ad.2.1,qq.2.2^^^ad.2.2)))):=ah.new hd;have RO:η H2 d (.tup (vA (qq.1,qq.2.1^^^ad.2.1,qq.2.2^^^ad.2.2))) d=10#(vA (qq.1,qq.2.1^^^ad.2.1,qq.2.2^^^ad.2.2)):=aa;have ev:[V.int (qq.1:Int),V.int (Builtin.bitXor (qq.2.1:Int) (ad.2.1:Int)),V.int (Builtin.bitXor (qq.2.2:Int) (ad.2.2:Int))]=vA (qq.1,qq.2.1^^^ad.2.1,qq.2.2^^^ad.2.2):=by
      rw[xor_int,xor_int];rfl
     dsimp only;rw[ev];generalize η H2 d (.tup (vA (qq.1,qq.2.1^^^ad.2.1,qq.2.2^^^ad.2.2)))=H3 at s3 RO;have qw:=s3 _ _ ie;refine⟨D,_,_,rfl,rfl,qw,cZ (by lia),_,acc++[.ref d],rfl,(s2.trans s3).put hD,aa,by rw[k!,al];rfl,?_⟩
     rw[put];exact Paired.snoc (Paired.imp' 74#(s3.tups.trans (cV.put qw)) UU) ⟨d,rfl,cV.put qw _ _ RO⟩
   | false =>
     rw[we,ξ (16#0)]at put
     refine cJ 14#⟨91#ie,af rfl ⟨D,_,_,rfl,rfl,ie,cZ (by lia),_,acc++[.ref c],rfl,s2.put hD,aa,by rw[k!,al];rfl,?_⟩⟩
     rw[put];exact Paired.snoc (Paired.imp' 74#(cV.put ie) UU) ⟨c,rfl,cV.put ie _ _ hc2⟩
  .rintro σ H2 ⟨v3,acc,rfl,s2,ie,al,UU⟩;rw[xsl,H!]at UU;exact 14#(q D H2 s2 ⟨acc,ie,UU⟩)
def kL:Ok T T.qm 3 G0:=by
 have ve:=ve T;have rK:=rK T;refine T.qm.ok jm 4#0
 .obtain⟨l,B,rfl,hl,hB,q⟩:=h;refine⟨_,(ae (bu 1 jm.nd (cy fO))
   (ae (cM PassesOwn.never rfl (wk K (by rfl) T.iF (bE (pv 0))) (Ak K (n:=2) rfl (aI (aQ 2 jm.nd) (aI (aQ 3 jm.nd) cU)))
   (ae (bu 4 jm.nd (aD ve hr T.uW.c aK (bS (pv 1) (pv 3))))
   (ak (bx (aG vp (cA K (pv 4)) aq (aF _)) (ak (bu 1 jm.nd (aD rK hr T.rF.c aK (bS (pv 1) (b9 (aP (au gx (LR PySem.F.plainAttrs_int adT adU HP (cA K (pv 4))) aq) (bS (cA K (pv 4)) (au iL (cA K (pv 4)) (au h7 aq (pv 2)))))))))) aN))))
   (ak (aB (pv 1))))),?_⟩
  refine Gq ?_;intro b8 cB c9 dU eI;refine 29#(λD hD=>?_)
  have s1:ah H (η H D (.lst [])):=ah.new hD;have rf:η H D (.lst []) D=1#([]):=aa;generalize η H D (.lst [])=H1 at s1 rf;refine 14#⟨l,rfl,24#(s1 _ _ hl),Dd (K:=K) (a:=l) (xs:=aA B) (λi σ H2=>∃l2 rows v2 v3 v4,σ=[some (.ref l),11#l2,v2,v3,v4]/\ah H H2/\kc H2 l2 rows/\RM.Rw (B.take i) rows) ⟨D,[],none,none,none,rfl,s1,⟨[],rf,.nil⟩,RM.Rw.start⟩ (λi σ H2 _ ⟨_,_,_,_,_,_,z,_⟩=>aM.of (z _ _ hl)) ?_ ?_⟩
  .rintro i x T0 σ H2 hx ⟨l2,rows,v2,v3,v4,rfl,s2,Si,Om⟩ hT;obtain⟨b,hb,rfl⟩:=eT hx;have xU:=(j7.mp hb).1;have s3:ah H2 (η H2 T0 (.tup [.int (i:Int),.int (b:Int)])):=ah.new hT;have hT3:η H2 T0 (.tup [.int (i:Int),.int (b:Int)]) T0=10#([.int (i:Int),.int (b:Int)]):=aa;generalize η H2 T0 (.tup [.int (i:Int),.int (b:Int)])=H3 at s3 hT3;refine⟨T0,_,rfl,aL.of hT3,rfl,_,_,rfl,_,_,rfl,rfl,?_⟩;refine(0#⟨l2,rows,b,rfl,Si.same s3,λc H4 s4 hc=>?_⟩)
   have hlt:58#(B.take i)=i:=by rw[I!];lia
   refine 14#(bC (aL.of hc) je (br 28#(iI (λh0=>?_) (λh0=>?_))))
   .have h0:(0:Int)<_:=jz h0;have Zd:(RM.fj rows b 0).1≠0:=by lia
    have XW:=Om.put Zd;rw[hlt,<-take3 hb]at XW;have XX:=(Si.same s3).same s4;have hrl:rows.length<=200:=by have:=Om.le;lia
    refine(0#(bC (aL.of hc) je 47#(af rfl ⟨rfl,br 14#(bC (aL.of hc) je 28#(bC (aL.of hc) fB (af rfl (br ⟨⟨by lia,by lia,16#0⟩,br 29#(λd hd=>?_)⟩))))⟩)))
    have ev:[V.int (6#(35#(((RM.fj rows b 0).1:Nat):Int))-1),V.int 6#(RM.fj rows b 0).1,V.int (Builtin.bitXor 6#(RM.fj rows b 0).2 (1*2^((i:Nat):Int).toNat))]=vA ((RM.fj rows b 0).1.log2,(RM.fj rows b 0).1,(RM.fj rows b 0).2^^^2^i):=by
     rw[M6 Zd,iO,xor_int];rfl
    dsimp only;rw[ev];refine⟨l2,d,rows,_,rfl,XX.same (ah.new hd),aa,hrl,λl5 H5 s5 hR5=>?_⟩
    exact⟨l5,_,_,_,_,rfl,((s2.trans (s3.trans s4)).trans (ah.new hd)).trans s5,hR5,XW⟩
   .have Zd:(RM.fj rows b 0).1=0:=by
     have : ¬(0:Int)<_:=λz=>h0 (cH z)
     lia
    have hsk:=Om.skip ((Om.uq b 0).mp Zd);rw[<-take3 hb]at hsk;exact⟨l2,rows,_,_,_,rfl,s2.trans (s3.trans s4),(Si.same s3).same s4,hsk⟩
  .rintro σ H2 ⟨l2,rows,v2,v3,v4,rfl,s2,Si,Om⟩;rw[av,H!]at Om;exact 14#(q l2 rows H2 s2 Si Om)
def gp:Ok T T.m7 9 G3:=by
 have GV:=GV T;have dN:=dN T;have kL:=kL T;refine T.m7.ok Gr 4#0
 .obtain⟨wb,p,ts,g,l,zs,rfl,hw,hl,hz,q⟩:=h;refine⟨_,(ae (bx (PW.pt (jA (aG qD (30#(pv 1)) (aD GV hr T.GO.c aK (bE (pv 0))) (aF _)) (iK (fN (cu (bY (Qz K rfl) (by rfl) T.IB _i (bE (aY (own:=["ring"]) (fq:=["web"]) (js:=[0]) (az (ai qj) ["web","rings"]) rfl (oh K (pv 1)) 8#(aQ 0 (ig ["ring","web"])) 65#0 8#(aD dN hr T.gj.c aK (bS (pv 1) (pv 0))))))))))) (ak (aB dI)) aN)
   (ak (aB (cK eK (30#(aD kL hr T.qm.c aK (bE (pv 1)))) (30#(pv 1)) (aF _))))),?_⟩
  refine gG ?_;intro b8 cB;refine 14#(kZ rfl (.inl (aM.of hl)) 28#⟨wb,p,ts,g,rfl,hw,λH1 s1=>15#(?_)⟩)
  by_cases hn:zs.length=g.N.aJ.length
  case neg =>
   refine XU (λz=>hn ?_) (q H1 false s1 ⟨60#0,λ⟨rs,e,b⟩=>absurd b.len (λz=>hn ?_)⟩)
   .have z:=V.int.inj z;rw[χ]at z
    lia
   .rw[e,χ];exact z
  refine Aj (by rw[χ,hn]) ?_
  have hl1:=s1 _ _ hl;refine(af rfl ⟨l,rfl,24#hl1,λD hD=>aU (xs:=zs.map V.int) (λi acc H2=>ah H1 H2/\H2 D=1#acc/\∃bs:List Bool,acc=bs.map V.bl/\bs.length=i/\∀(j:Nat) z d,j<i->zs[j]?=some z->bs[j]?=some d->(d=true↔∃m:Nat,z=(m:Int)/\m<17#0/\g.N.Ring m)) ⟨ah.new hD,aa,[],rfl,rfl,(λj z d h=>by lia)⟩ (λi acc H2 _ z=>⟨aM.of (z.1 _ _ hl1),z.2.1,by obtain⟨bs,e,e2,_⟩:=z.2.2;rw[e,χ,e2];exact Z' _⟩) (B! (cZ (by rw[χ];lia))) ?_ ?_⟩)
  .rintro i x acc H2 hx ⟨s2,ie,bs,rfl,bl,all⟩;rw[c!]at hx;obtain⟨z,hz,rfl⟩:=qC.mp hx;refine 47#0#⟨wb,p,ts,g,z,rfl,hw.same (s1.trans s2),λH3 d s3 hd=>?_⟩
   refine⟨s3 _ _ ie,(s2.trans s3).put hD,aa,bs++[d],by rw[g!];rfl,by rw[k!,bl];rfl,λj z' d' hj hz' hd'=>?_⟩
   by_cases e:j=i
   .subst e;rw[hz]at hz';cases hz';rw[A? (by lia),bl,H_]at hd'
    cases hd';exact hd
   .rw[m? (by lia)]at hd'
    exact all j z' d' (by lia) hz' hd'
  .rintro acc H2 ⟨s2,ie,bs,rfl,bl,all⟩;rw[χ]at bl all;refine⟨D,_,rfl,aM.of ie,_,rfl,?_⟩;have ok:bs.all id=true↔∃rs:List Nat,zs=rs.map (λx=>((x:Nat):Int))/\∀r∈rs,g.N.Ring r/\r<17#0:=by
    rw[W?]
    constructor
    .intro h;have each:∀z∈zs,∃m:Nat,z=(m:Int)/\m<17#0/\g.N.Ring m:=λz hz'=>by
      obtain⟨j,hj⟩:=N! hz';have M5:=(j7.mp hj).1;have hb:bs[j]?=some (bs[j]'(by lia)):=i! _
      exact(all j z _ M5 hj hb).mp (h _ (gB hb))
     refine⟨zs.map Int.toNat,?_,λr hr=>?_⟩
     .rw[X!];refine(I_ zs).symm.trans (L_ λz hz'=>?_)
      obtain⟨m,rfl,_⟩:=each z hz';rfl
     .obtain⟨z,hz',rfl⟩:=d!.mp hr;obtain⟨m,rfl,h1,h2⟩:=each z hz';exact⟨h2,h1⟩
    .rintro⟨rs,rfl,hrs⟩ d hd;obtain⟨j,hj⟩:=N! hd;have M5:=(j7.mp hj).1;have hr:rs[j]?=some (rs[j]'(by rw[χ]at bl;lia)):=i! _
     have hm:=hrs _ (gB hr);exact(all j _ d (by lia) (by rw[c!,hr];rfl) hj).mpr 14#⟨hm.2,hm.1⟩
   cases hall:bs.all id with
   | false =>
     refine cY (q H2 false (s1.trans s2) ⟨60#0,λ⟨rs,e,b⟩=>?_⟩)
     rw[ok.mpr ⟨rs,e,b.ring⟩]at hall;cases hall
   | true =>
     obtain⟨rs,rfl,hrs⟩:=ok.mp hall;rw[χ]at hz hn;rw[<-dP]at hl1;have hl2:=s2 _ _ hl1;refine cJ 14#⟨l,rs,rfl,hl2,hz,λl3 rows H3 s3 Ze rw3=>?_⟩
     obtain⟨xs,Oo,Sg⟩:=id Ze;refine(kZ rfl (.inl (aM.of Oo)) 14#(kZ rfl (.inl (aM.of (s3 _ _ hl2))) 47#(q H3 _ ((s1.trans s2).trans s3) ?_)));rw[av,Sg.length,j?]
     constructor
     .intro e;have e:=V.int.inj e;exact⟨rs,rfl,hn,hrs,rw3.len.mp (by lia)⟩
     .rintro⟨rs2,e,b⟩;rw[<-cast_inj e]at b;have:=rw3.len.mpr b.ind;rw[this]
def MarksOf(N:RM.Net)(rs ms:List Nat):Prop:=ms.length=rs.length/\∀(i m:Nat),ms[i]?=some m->m<2^N.n/\∀(j r:Nat),rs[j]?=some r->N.par r m=decide (i=j)
def CB(C:Addr):Sp:=λvs H Q E=>∃w p ts,∃g:aE p ts,∃(l:Addr) (zs:List Int),vs=[.ref w,.ref l]/\73#0/\H l=1#(zs.map V.int)/\zs.length<=200/\
 ((∃rs:List Nat,zs=rs.map (λx=>((x:Nat):Int))/\RM.Base g.N rs/\∀(D:Addr) (ms:List Nat) (H' : Hp),H D=none->ah H H'->H' D=1#(aA ms)->MarksOf g.N rs ms->Q (.ref D) H')\/(¬ Sh p ts g zs/\∀H',ah H H'->E (.ref C) none H'))
def eF:Oc T T.jI 10 (CB a.yL):=by
 have gp:=gp T;have kL:=kL T;have bW:=bW T;have yT:=yT T;refine T.jI.Jl ki 4#0
 .obtain⟨wb,p,ts,g,l,zs,rfl,hw,hl,hz,q⟩:=h;refine⟨_,(ae (bx (fN (cu (aD gp hr T.m7.c aK 51#(pv 1)))) (ak (C8 jP.thr rfl (by rfl) T.Ob PySem.F.excBase_ValueError (bE Fj))) aN)
   (ae (bu 2 ki.nd (aD kL hr T.qm.c aK (bE (pv 1))))
   (ae (bu 3 ki.nd (cy fO))
   (ae (r9 rfl (44#(30#(pv 1))) (ng (i:=4) ki.nd rfl (Or.inr rfl))
   (ak (dB (Fc K (jY g? n? o? cN (pv 3) (bE (aD yT hr T.yM.c aK 51#(aY (own:=["lead","row","places"]) (fq:=["place"]) (js:=[4]) (az (ai l8) ["web","rings","rows","found","place"]) rfl (oh K (pv 2)) 8#(Ak K (n:=3) rfl (aI (aQ 0 (ig ["lead","row","places","place"])) (aI (aQ 1 (ig ["lead","row","places","place"])) (aI (aQ 2 (ig ["lead","row","places","place"])) cU)))) 8#(gR (cu (aD bW hr T.iE.c aK (bS (pv 2) (pv 3))))) 8#(pv 0)))))))))
   (ak (aB (pv 3))))))),?_⟩
  refine BU ?_;intro b8 cB c9 dU eI j6;refine(0#⟨wb,p,ts,g,l,zs,rfl,hw,hl,hz,λH1 d s1 hd=>(af rfl (?_))⟩)
  rcases q with⟨rs,rfl,bs,q⟩|⟨hn,q⟩
  case inr =>
   cases d with
   | true=>exact absurd (hd.mp rfl) hn
   | false=>exact cY 29#(q H1 s1)
  rw[hd.mpr ⟨rs,rfl,bs⟩];refine cJ ?_;rw[χ]at hz;rw[<-dP]at hl;have hl1:=s1 _ _ hl;refine 14#⟨l,rs,rfl,hl1,hz,λl2 rows H2 s2 Si Om=>?_⟩
  refine 29#(λD hD=>?_)
  have s3:ah H2 (η H2 D (.lst [])):=ah.new hD;have qw:η H2 D (.lst []) D=1#(aA []):=aa;generalize η H2 D (.lst [])=H3 at s3 qw;have mO:=(s1.trans s2).trans s3;have O8:H D=none:=(s1.trans s2).free hD;have Oo:=mO _ _ hl;have Ze:=Si.same s3;obtain⟨xs,hxs,prx⟩:=id Ze;have rwl:=Om.le;refine 14#(kZ rfl (.inl (aM.of Oo)) 28#⟨(by rw[av];lia),(by rw[av];lia),?_⟩)
  refine cF (lo:=0) (n:=(58#(aA rs):Int).toNat) (λi σ H4=>∃v4 ms,σ=[11#wb,some (.ref l),11#l2,some (.ref D),v4]/\ah H H4/\kc H4 l2 rows/\H4 D=1#(aA ms)/\ms=(13#i).map λj=>orM (RM.e7 rows j)) ⟨none,[],rfl,mO,Ze,qw,rfl⟩ ?_ ?_
  .rintro i D' σ H4 hi ⟨v4,ms,rfl,s4,XX,zg,IG⟩;rw[av,a!]at hi;rw[K!];obtain⟨xs4,XY,UW⟩:=id XX;have hms:ms.length=i:=by rw[IG,χ,y!]
   have abb:D≠l2:=λe=>by
    obtain⟨ys,e1,_⟩:=Si;rw[e,e1]at hD;cases hD
   refine 14#⟨91#zg,0#⟨l2,rfl,24#XY,λC hC=>aU (xs:=xs4) (λj acc H5=>ah H4 H5/\H5 C=1#acc/\acc=aA (RM.e7 (rows.take j) i)) 68#hC ?_ (B! (cZ (by rw[UW.length];lia))) ?_ ?_⟩⟩
   .rintro j acc H5 hj ⟨s5,Oq,rfl⟩;refine⟨aM.of (s5 _ _ XY),Oq,?_⟩;rw[av];unfold RM.e7;rw[χ];have h1:=b? (λq:RM.Row3=>q.2.2.testBit i) (rows.take j)
    rw[I!]at h1
    lia
   .rintro j x acc H5 hx ⟨s5,Oq,rfl⟩;obtain⟨qq,hq,c,rfl,hc⟩:=Paired.j8 UW hx;have hc5:=s5 _ _ hc;have lead:RM.e7 (rows.take (j+1)) i=RM.e7 (rows.take j) i++(if qq.2.2.testBit i=true then[qq.1] else[]):=by
     unfold RM.e7;rw[take3 hq,d_,g!]
     congr 1
     rw[M!];cases qq.2.2.testBit i<;>rfl
    refine⟨c,_,rfl,aL.of hc5,rfl,_,_,rfl,_,_,rfl,_,_,rfl,rfl,rfl,0#⟨_,i,rfl,af rfl (?_)⟩⟩;rw[gU];cases hb:qq.2.2.testBit i with
    | true =>
      rw[hb,ο rfl]at lead;refine 14#⟨Oq,s5.put hC,aa,?_⟩;rw[lead,bU]
    | false =>
      rw[hb,ξ (16#0),f_]at lead
      exact⟨s5,Oq,by rw[lead]⟩
   .rintro acc H5 ⟨s5,Oq,rfl⟩;rw[UW.length,H!]at Oq;have hir:rs[i]?=some rs[i]:=i! hi;have mk:=Om.marks (N:=g.N) bs.ind (λb hb=>(bs.ring b hb).2) (i:=i) hir
    refine⟨wb,p,ts,C,_,rfl,hw.same (s4.trans s5),g.Lj,Oq,mk.2,?_⟩;have ER:=s5 _ _ zg;refine⟨D,_,_,rfl,rfl,ER,cZ (by rw[av];lia),_,ms++[orM (RM.e7 rows i)],rfl,(s4.trans s5).put O8,?_,?_,?_⟩
    .obtain⟨ys,e1,e2⟩:=XX.same s5;exact⟨ys,by rw[ao abb.symm];exact e1,Paired.imp' 74#(cV.put ER) e2⟩
    .rw[aa,bU]
    .rw[C?,g!,IG];rfl
  .rintro σ H4 ⟨v4,ms,rfl,s4,XX,zg,IG⟩;rw[av,a!]at IG;refine 14#(q D ms H4 O8 s4 zg ⟨by rw[IG,χ,y!],λi m hm=>?_⟩)
   rw[IG,c!]at hm;obtain⟨j,hj,rfl⟩:=qC.mp hm;have ej:j=i/\i<rs.length:=by
    obtain⟨h1,h2⟩:=j7.mp hj;rw[List.getElem_range]at h2;rw[y!]at h1;exact⟨h2.symm,h1⟩
   obtain⟨rfl,M5⟩:=ej;have mk:=λj' r (h:rs[j']?=some r)=>Om.marks (N:=g.N) bs.ind (λb hb=>(bs.ring b hb).2) (i:=j) h
   have hjr:rs[j]?=some rs[j]:=i! M5;exact⟨TU (mk j _ hjr).2,λj' r hr=>(mk j' r hr).1⟩
def K3(t1 t2:Addr)(lp1 XZ:Pos):Sp:=λvs H Q _=>∃w p ts,∃g:aE p ts,vs=[.ref w]/\73#0/\H t1=some (.lF (fM (qz "least_ways") lp1))/\H t2=some (.lF (fM (qz "by_length") XZ))/\
 ∀D rs H',H D=none->ah H H'->H' D=1#(aA rs)->RM.LB g.N (cL ts) rs->rs.Pairwise (jJ ts)->Q (.ref D) H'
def mQ:Ok T T.mL 10 (K3 a.cW a.iD cC fZ):=by
 have yR:=yR T;have eE:=eE T;have cX:=cX T;have iH:=iH T;refine T.mL.ok eU 4#0
 .obtain⟨wb,p,ts,g,rfl,hw,IA,NL,q⟩:=h;refine⟨_,(ae (fJ (i:=1) eU.nd rfl rfl (own:=["chord"]) (fq:=[]) (js:=[]) (az (ai gH) ["web","waiting","found","marks","ring"]) rfl (oh K (aD yR hr T.yO.c aK (bE (pv 0)))) 8#(aQ 0 (ig ["chord"])) 65#0 8#(au h7 aq (pv 0)))
   (ae (bu 2 eU.nd (cy fO))
   (ae (rT PassesOwn.never (aG vp (30#(pv 1)) aq (aF _)) (ae (dD (i:=3) eU.nd rfl (Or.inr rfl) (Y0 K (pv 1)))
   (ae (dD (i:=4) eU.nd rfl (Or.inr rfl) (cA K (aD eE hr T.jH.c oN 51#(pv 3))))
   (ae (dB (Fc K (jY g? n? o? cN (pv 2) (bE (pv 4)))))
   (ak (fJ (i:=1) eU.nd rfl rfl (own:=["later"]) (fq:=["marks","ring"]) (js:=[3,4]) (az (ai gH) ["web","waiting","found","marks","ring"]) rfl (oh K (jB (Z5 K) (pv 1) (lK aq) lJ)) 8#(aQ 0 (ig ["later","marks","ring"])) 65#0 8#(mT (cu (aD cX hr T.gO.c aK (bS (pv 2) (pv 0)))) (au iL (pv 0) (pv 1)) (pv 0))))))))
   (ak (aB (aD iH hr T.jG.c aK 51#(pv 2))))))),?_⟩
  refine yC ?_;intro b8 cB c9 dU eI j6 mS;have wl:=g.len;have cn:g.N.aJ.length<=24:=by
   have:g.N.aJ.length<=58#13#g.N.n:=b? ..;rw[y!]at this;have h2:g.N.n=ts.length:=rfl
   lia
  have ac3:(100:Nat)<sizeLine:=16#0
  refine 14#⟨wb,p,ts,g,rfl,hw,λDc H1 hDc s1 hc1=>⟨Dc,rfl,24#hc1,λX hX=>aU (K:=K) (a:=Dc) (xs:=aA g.N.aJ) (λi acc H2=>ah H1 H2/\H2 X=1#acc/\acc=aA ((g.N.aJ.take i).map λc=>2^c)) 68#hX (λi acc H2 _ z=>⟨aM.of (z.1 _ _ hc1),z.2.1,by rw[z.2.2,av,χ,I!];lia⟩) (cD (by rw[av];lia)) ?_ ?_⟩⟩
  .rintro i x acc H2 hx ⟨s2,hX2,rfl⟩;obtain⟨c,Sj,rfl⟩:∃c,g.N.aJ[i]?=some c/\x = .int (c:Int):=by
    unfold aA at hx;rw[c!]at hx;obtain⟨c,h1,h2⟩:=qC.mp hx;exact⟨c,h1,h2.symm⟩
   have hcn:=(RM.cf.mp (gB Sj)).1;have hcn:c<ts.length:=hcn;refine 15#(br ⟨⟨by lia,by lia,16#0⟩,hX2,s2.put hX,aa,?_⟩)
   rw[Q!,Sj];show _=aA (List.map _ (List.take i g.N.aJ++[c]));rw[g!,A_,bU];dsimp only;rw[iO]
  rintro acc H2 ⟨s2,hX2,rfl⟩;rw[av,H!]at hX2;refine 29#(λF hF=>?_)
  have s3:ah H2 (η H2 F (.lst [])):=ah.new hF;have CN:=s3 _ _ hX2;have hF3:η H2 F (.lst []) F=1#(aA []):=aa;have hF0:H F=none:=(s1.trans s2).free hF;have hXF:X≠F:=λz=>by rw[<-z,hX2]at hF;cases hF
  have VP:=(s1.trans s2).trans s3;generalize η H2 F (.lst [])=H3 at CN hF3 VP;have nd:g.N.aJ.Nodup:=RM.ug;have hL:=m3 g;refine⟨λn σ H4=>∃X bs us ws cs v3 v4,σ=[11#wb,some (.ref X),some (.ref F),v3,v4]/\ah H H4/\H4 X=1#(aA ws)/\H4 F=1#(aA bs)/\X≠F/\RM.DP g.N (cL ts) bs us/\RM.Wt g.N bs ws cs/\n=ws.length,⟨_,X,[],[],_,_,none,none,rfl,VP,CN,hF3,hXF,RM.DP.start,RM.Wt.start nd,rfl⟩,?_⟩
  rintro n σ H4 ⟨X,bs,us,ws,cs,v3,v4,rfl,wM,Fe,hF4,abd,dp,wt,rfl⟩;refine 14#(kZ rfl (.inl (aM.of Fe)) (br 28#(iI (λhlen=>?_) (λhlen=>?_))))
  case refine_2 =>
   have hl : ¬(0:Int)<(58#(aA ws):Int):=λz=>hlen (cH z)
   have e:ws=[]:=ad5 (by rw[av]at hl;lia)
   subst e;have hb:bs.length=g.N.aJ.length:=by
    have:=wt.sum;rw[s_]at this
    lia
   refine(0#⟨wb,p,ts,g,F,bs,rfl,hw.same wM,hF4,by lia,λm hm=>(dp.ring m hm).2,wM _ _ NL,λD ms' H5 hD s5 ER hp hs=>?_⟩)
   exact q D ms' H5 (wM.free hD) (wM.trans s5) ER ((dp.least hb).perm hp) hs
  have hlen:(0:Int)<(58#(aA ws):Int):=jz hlen;rw[av]at hlen;refine⟨λσ' H'=>∃X bs us Q6 cs v3 v4,σ' = [11#wb,some (.ref X),some (.ref F),v3,v4]/\ah H H'/\H' X=1#(aA Q6)/\H' F=1#(aA bs)/\X≠F/\RM.DP g.N (cL ts) bs us/\RM.Wt g.N bs Q6 cs/\Q6.length<ws.length,λσ' H' ⟨X,bs,us,Q6,cs,v3,v4,e,a1,a2,a3,a4,a5,a6,a7⟩=>⟨_,a7,X,bs,us,Q6,cs,v3,v4,e,a1,a2,a3,a4,a5,a6,rfl⟩,?_⟩
  obtain⟨m,ws,rfl⟩:∃m Q6,ws=m::Q6:=by
   cases ws with
   | nil=>simp at hlen
   | cons m Q6=>exact⟨m,Q6,rfl⟩
  have hml:m<17#0:=wt.lt m o!;refine 14#(jM (aM.of Fe) je (?_));obtain⟨r0,g1,g2,g3⟩:=wt.odd;refine(0#⟨wb,p,ts,g,m,r0,rfl,hw.same wM,wM _ _ IA,hml,g1,g2,g3,λr H5 hr5 s5 ⟨z,e,b2,W,le,a1,_⟩=>?_⟩)
  refine(bC (aL.of a1) fB (?_));have hF5:=s5 _ _ hF4;have hX5:=s5 _ _ Fe;have hbl:bs.length<=24:=by have:=wt.sum;lia
  refine 14#⟨(91#hF5),af rfl ⟨F,_,_,rfl,rfl,hF5,(by rw[av];lia),?_⟩⟩
  have X0:ah H (η H5 F 46#(aA bs++[.int (e:Int)])):=(wM.trans s5).put hF0;have Zf:η H5 F 46#(aA bs++[.int (e:Int)]) F=1#(aA (bs++[e])):=by rw[aa,bU]
  have A4:η H5 F 46#(aA bs++[.int (e:Int)]) X=1#(aA (m::ws)):=by rw[ao abd];exact hX5
  generalize η H5 F 46#(aA bs++[.int (e:Int)])=H6 at X0 Zf A4;have abe:qv (aA (m::ws)) (some (1:Int)) none=aA ws:=My (m::ws) (i:=1) 31#0
  have wt2:=wt.next le.par;obtain⟨cc,cs',_,wt2⟩:=wt2;have dp2:=dp.snoc le.ring le.lt le.par (λr h1 h2 h3=>by
   have:=le.least hL h1 h2 h3;have e1:RM.len g.N (cL ts) e=z:=le.len;rw[e1];exact this) (wt.MK m o!)
  have agw:ws.length<=24:=by have:=wt.sum;rw[P!]at this;lia
  refine(0#⟨X,_,rfl,aM.of A4,λc hc=>?_⟩)
  rw[abe];have s07:ah H (η H6 c 46#(aA ws)):=X0.trans (ah.new hc);have hF7:=ah.new hc (o:=.lst (aA ws)) _ _ Zf;have Oh:η H6 c 46#(aA ws) c=1#(aA ws):=aa;generalize η H6 c 46#(aA ws)=H7 at s07 hF7 Oh;refine⟨c,rfl,24#Oh,λX' X3=>aU (K:=K) (a:=c) (xs:=aA ws) (λi acc H8=>ah H7 H8/\H8 X' = 1#acc/\acc=aA ((ws.take i).map λv=>if g.N.par e v=true then v^^^m else v)) 68#X3 (λi acc H8 _ z=>⟨aM.of (z.1 _ _ Oh),z.2.1,by rw[z.2.2,av,χ,I!];lia⟩) (cD (by rw[av];lia)) ?_ ?_⟩
  .rintro i x acc H8 hx ⟨s8,Q7,rfl⟩;obtain⟨v,RC,rfl⟩:∃v,ws[i]?=some v/\x = .int (v:Int):=by
    unfold aA at hx;rw[c!]at hx;obtain⟨c,h1,h2⟩:=qC.mp hx;exact⟨c,h1,h2.symm⟩
   have Zg:v<17#0:=wt.lt v (lG _ (gB RC));have E1:35#6#(e&&&v)<=1000:=D! (bits_le (_n _ Zg)) (by lia)
   have snoc:∀y,(if g.N.par e v=true then v^^^m else v)=y->aA ((ws.take i).map λv=>if g.N.par e v=true then v^^^m else v)++[.int (y:Int)]=aA ((ws.take (i+1)).map λv=>if g.N.par e v=true then v^^^m else v):=λy hy=>by
    rw[Q!,RC];show _=aA (List.map _ (List.take i ws++[v]));rw[g!,A_,bU,hy]
   refine 47#0#⟨_,_,e,v,rfl,rfl,rfl,E1,λH9 s9=>(af rfl (?_))⟩
   rw[Ij (g:=g) Zg];have s79:=s8.trans s9;have hX9:=s9 _ _ Q7;cases hb:g.N.par e v with
   | true =>
     refine cY (0#(br ⟨hX9,s79.put X3,aa,?_⟩));dsimp only;rw[xor_int];exact snoc _ (ο hb)
   | false=>exact cJ 14#⟨hX9,s79.put X3,aa,snoc _ (ξ (by rw[hb];decide))⟩
  .rintro acc H8 ⟨s8,Q7,rfl⟩;rw[av,H!]at Q7;refine⟨X',bs++[e],us++[m],_,cs',_,_,rfl,s07.trans s8,Q7,s8 _ _ hF7,?_,dp2,wt2,by rw[χ];simp⟩
   intro z;rw[z,hF7]at X3;cases X3
def CC(t:Addr)(lp:Pos):Sp:=84#(∃m:Nat,vs=[.ref w,.int (m:Int)]/\73#0/\m<17#0/\H t=some (.lF (fM (qz "least_ways") lp))/\∀b W H',ah H H'->c8 H' b W->Bu p W->qJ p ts g m W->Q (.ref b) H')
abbrev Lr:=Nat×Nat×List (List Pr)
def tI(H:Hp)(v:V)(t:Lr):Prop:=∃c b,v = .ref c/\H c=10#([40#t.1,40#t.2.1,.ref b])/\c8 H b t.2.2
def tI.tups{H H' : Hp}{v:V}{t:Lr}(s:cV H H')(h:tI H v t):tI H' v t:=let⟨c,b,e,h1,ys,h2,h3⟩:=h;⟨c,b,e,s _ _ h1,ys,s _ _ h2,Paired.imp' 74#s h3⟩
def Ot(t1 t2:Addr)(lp1 XZ:Pos):Sp:=λvs H Q _=>∃w p ts,∃g:aE p ts,vs=[.ref w]/\73#0/\H t1=some (.lF (fM (qz "least_ways") lp1))/\H t2=some (.lF (fM (qz "by_length") XZ))/\
 ∀b ys (tr:List Lr) H',H b=none->ah H H'->H' b=10#ys->Paired (tI H') ys tr->RM.LB g.N (cL ts) (tr.map (·.1))->(tr.map (·.1)).Pairwise (jJ ts)->MarksOf g.N (tr.map (·.1)) (tr.map (·.2.1))->(∀t∈tr,Bu p t.2.2/\qJ p ts g t.2.1 t.2.2)->Q (.ref b) H'
def nZ:Ok T T.nQ 7 (CC a.cW cC):=by
 have dO:=dO T;have dX:=dX T;refine T.nQ.ok zB 4#0
 .obtain⟨wb,p,ts,g,m,rfl,hw,hm,htb,q⟩:=h;refine⟨_,(ak (aB (aD dX hr T.g7.c aK (bE (aD dO hr T.gm.c aK 51#(pv 1)))))),?_⟩;have wp:=g.p2;refine(0#⟨wb,p,ts,g,m,rfl,hw,hm,htb,λD ds Fs H1 hD s1 rf al=>?_⟩)
  obtain⟨hl,all⟩:=id al;refine⟨D,ds,Fs,p,g.N,cL ts,m,rfl,rf,(by lia),al,λb H2 s2 hW=>?_⟩
  refine q b _ H2 (s1.trans s2) hW ⟨by rw[χ,y!],λR hR=>?_⟩ λi hi x s hx=>?_
  .obtain⟨i,_,rfl⟩:=d!.mp hR;exact BA _ _
  .have e:ds[i]?=some ds[i]:=i! (by lia)
   obtain⟨H0,es,e1,e2,e3,e4,_⟩:=all i _ e;rw[w!,c!,o_ hi];show RM.vN _ _ m i x s (sel (dQ (m4 (zX (Fs i)) p) x) s);rw[MU hx];exact e4 x s
def n5:Ok T T.nS 11 (Ot a.cW a.iD cC fZ):=by
 have mQ:=mQ T;have eF:=eF T;have nZ:=nZ T;refine T.nS.ok mG 4#0
 .obtain⟨wb,p,ts,g,rfl,hw,IA,NL,q⟩:=h;refine⟨_,(ae (bu 1 mG.nd (aD mQ hr T.mL.c aK (bE (pv 0))))
   (ae (bu 2 mG.nd (aD eF hr T.jI.c oN 51#(pv 1)))
   (ak (aB (bQ (oM K) (by rfl) T.g8 I? (bE (aY (own:=["ring","own"]) (fq:=["web"]) (js:=[0]) (az (ai kj) ["web","rings","marks"]) rfl (Mg K (by rfl) T.Se (bS (pv 1) (pv 2))) 8#(Ak K (n:=2) rfl (aI (aQ 0 (ig ["ring","own","web"])) (aI (aQ 1 (ig ["ring","own","web"])) cU))) 65#0 8#(b9 (aP (pv 0) (bS (pv 1) (aD nZ hr T.nQ.c aK (bS (pv 2) (pv 1))))))))))))),?_⟩
  refine fL ?_;intro b8 cB;have wl:=g.len;refine 14#⟨wb,p,ts,g,rfl,hw,IA,NL,λD rs H1 hD s1 rf lb pw=>?_⟩
  have VQ:rs.length<=24:=by
   have h1:g.N.aJ.length<=58#13#g.N.n:=b? ..;rw[y!,<-lb.1.len]at h1;exact D! h1 wl
  refine(0#⟨wb,p,ts,g,D,rs.map (λx=>((x:Nat):Int)),rfl,hw.same s1,by rw[<-dP];exact rf,by rw[χ];lia,.inl ⟨rs,rfl,lb.1,λD2 ms H2 ie s2 X4 mo=>?_⟩⟩)
  have X5:=s2 _ _ rf;have s12:=s1.trans s2;have Zh:=mo.1;refine(af rfl (af rfl ⟨D,D2,rfl,24#X5,24#X4,λX hX=>De (xs:=aA rs) (ys:=aA ms) (by rw[av,av];lia) (λi acc H3=>ah H2 H3/\H3 X=1#acc/\∃tr:List Lr,Paired (tI H3) acc tr/\tr.map (·.1)=rs.take i/\tr.map (·.2.1)=ms.take i/\∀t∈tr,Bu p t.2.2/\qJ p ts g t.2.1 t.2.2) ⟨ah.new hX,aa,[],.nil,rfl,rfl,λt ht=>by cases ht⟩ (λi acc H3 _ ⟨z1,z2,tr,z3,z4,_⟩=>⟨aM.of (z1 _ _ X5),aM.of (z1 _ _ X4),z2,?_⟩) (cD (by rw[av];lia)) ?_ ?_⟩))
  .have h1:=z3.length;have h2:=n! List.length z4;rw[χ,I!]at h2
   lia
  .rintro i x y T0 acc H3 hx hy ⟨s3,CN,tr,pr,e1,e2,al⟩ hT0;have item:∀{l:List Nat} {v:V},(aA l)[i]?=some v->∃c,l[i]?=some c/\v = .int (c:Int):=λ{l v} h=>by
    unfold aA at h;rw[c!]at h;obtain⟨c,h1,h2⟩:=qC.mp h;exact⟨c,h1,h2.symm⟩
   obtain⟨r,qu,rfl⟩:=item hx;obtain⟨m,hmi,rfl⟩:=item hy;have hml:=(mo.2 i m hmi).1;have s4:ah H3 (η H3 T0 (.tup [.int (r:Int),.int (m:Int)])):=ah.new hT0;have E2:=(s12.trans s3).trans s4;refine⟨T0,_,rfl,aL.of aa,rfl,_,_,rfl,_,_,rfl,rfl,rfl,0#14#28#⟨wb,p,ts,g,m,rfl,hw.same E2,hml,E2 _ _ IA,λb W H5 s5 hW sq bw=>29#(λc hc=>?_)⟩⟩
   have s6:ah H5 (η H5 c (.tup [.int (r:Int),.int (m:Int),.ref b])):=ah.new hc;have s36:=(s4.trans s5).trans s6;have A4:=s36 _ _ CN;refine⟨A4,(s3.trans s36).put hX,aa,tr++[(r,m,W)],?_,?_,?_,λt ht=>?_⟩
   .exact Paired.snoc (85#(λ_ _ z=>tI.tups (s36.tups.trans (cV.put A4)) z)) (tI.tups (cV.put A4) ⟨c,b,rfl,aa,hW.same s6⟩)
   .rw[g!,e1,Q!,qu];rfl
   .rw[g!,e2,Q!,hmi];rfl
   .rcases t!.mp ht with z|z
    .exact al t z
    .rw[p!.mp z];exact⟨sq,bw⟩
  .rintro acc H3 ⟨s3,CN,tr,pr,e1,e2,al⟩;rw[av,H!]at e1;rw[av,<-Zh,H!]at e2;refine⟨X,_,rfl,.inl ⟨aM.of CN,λl hl=>?_⟩⟩
   have s4:ah H3 (η H3 l (.tup acc)):=ah.new hl;exact q l acc tr _ ((s12.trans s3).free hl) ((s12.trans s3).trans s4) aa (85#(λ_ _ z=>tI.tups s4.tups z)) (by rw[e1];exact lb) (by rw[e1];exact pw) (by rw[e1,e2];exact mo) al
def yV(p:Nat)(W:List (List Pr))(l:Int):Prop:=∀i,i<p->∀d,(dQ (W.getD i []) i).2=some d->l<=d
def O9(o:55#0)(l:Int):Bool:=match o with
 | none=>true
 | some d=>decide (l<=d)
def zZ(W:List (List Pr))(i:Nat):List V:=(13#i).map λj=>oV (dQ (W.getD j []) j).2
def K4(W:List (List Pr))(i:Nat):zZ W (i+1)=zZ W i++[oV (dQ (W.getD i []) i).2]:=by
 unfold zZ;rw[C?,g!];rfl
def wg:Sp:=λvs H Q _=>∃(b:Addr) (p:Nat) (W:List (List Pr)) (l:Int),vs=[.ref b,.int l]/\c8 H b W/\Bu p W/\p<=10/\∀H' (d:Bool),ah H H'->(d=true↔yV p W l)->Q (.bl d) H'
def X6(p:Nat)(ts:List eW)(g:aE p ts)(m:Nat)(z:Int)(W:List (List Pr)):Prop:=∃r:Nat,z=(r:Int)/\r<17#0/\g.N.Ring r/\58#(cz 6#(r&&&m))%2=1/\mw p ts m W/\yV p W (Δ ts r)
def yW:Sp:=λvs H Q _=>∃(w b:Addr) (p:Nat) (ts:List eW),∃g:aE p ts,∃(W:List (List Pr)) (m:Nat) (z:Int),vs=[.ref w,.int (m:Int),.int z,.ref b]/\73#0/\c8 H b W/\Bu p W/\m<17#0/\
 ∀H' (d:Bool),ah H H'->(d=true↔X6 p ts g m z W)->Q (.bl d) H'
def lC:Ok T T.lz 1 wg:=by
 refine T.lz.ok oq 4#0
 .obtain⟨b,p,W,l,rfl,hW,sq,hp,q⟩:=h;refine⟨_,(ae (fJ (i:=2) oq.nd rfl rfl (own:=["point"]) (fq:=["worths"]) (js:=[0]) (az (ai fP) ["worths","length","rounds"]) rfl (44#(30#(pv 0))) 8#(aQ 0 (ig ["point","worths"])) 65#0 8#(cA K (aZ (mj K) (aZ (mj K) (pv 1) (pv 0)) (pv 0))))
   (ak (aB (bY (Qz K rfl) (by rfl) T.IB _i (bE (aY (own:=["worth"]) (fq:=["length"]) (js:=[1]) (az (ai fP) ["worths","length","rounds"]) rfl (oh K (pv 2)) 8#(aQ 0 (ig ["worth","length"])) 65#0 8#(V5 (cK jO (pv 0) eN (aF _)) (oF (cK CZ (pv 0) (pv 1) (aF _)))))))))),?_⟩
  refine my ?_;intro b8;obtain⟨ws,hws,Lq⟩:=id hW;have X7:ws.length=p:=by rw[Lq.length,sq.1]
  refine 14#(kZ rfl (.inr (aL.of hws)) 28#⟨(by lia),(by lia),λD hD=>cP (lo:=0) (m:=ws.length) (λi acc H2=>ah H H2/\H2 D=1#acc/\acc=zZ W i) 68#hD (λi acc H2 _ z=>⟨z.2.1,by rw[z.2.2];unfold zZ;rw[χ,y!];exact Z' _⟩) (cD (by lia)) ?_ ?_⟩)
  .rintro i acc H2 hi ⟨s2,ie,e2⟩;rw[K!];have hi:i<p:=by lia
   obtain⟨x,hx,bR,ys,rfl,CO,Fd⟩:=fW Lq (i:=i) (by rw[sq.1];exact hi) []
   have rl:=sq.row hi;obtain⟨bP,eP,zf⟩:=RowW.at Fd (i:=i) (by lia)
   refine 47#0#(bC 36#(s2 _ _ hws) (ay (j:=i) hx) 14#(bC 36#(s2 _ _ CO) (ay (j:=i) eP) (bC 36#(s2 _ _ zf) fB ⟨ie,s2.put hD,aa,?_⟩)));rw[K4,e2]
  .rintro acc H2 ⟨s2,ie,rfl⟩;refine 14#⟨D,rfl,24#ie,λD2 X8=>aU (xs:=zZ W ws.length) (λi acc H3=>ah H2 H3/\H3 D2=1#acc/\acc=((13#i).map λj=>O9 (dQ (W.getD j []) j).2 l).map V.bl) 68#X8 (λi acc H3 _ z=>⟨aM.of (z.1 _ _ ie),z.2.1,by rw[z.2.2];rw[χ,χ,y!];exact Z' _⟩) (cD (by unfold zZ;rw[χ,y!];lia)) ?_ ?_⟩
   .rintro i x acc H3 hx ⟨s3,qw,rfl⟩;unfold zZ at hx;rw[c!]at hx;obtain⟨j,hj,rfl⟩:=qC.mp hx;have ej:j=i:=by
     obtain⟨h1,h2⟩:=j7.mp hj;rw[List.getElem_range]at h2;exact h2.symm
    subst ej;have K5:∀bl,O9 (dQ (W.getD j []) j).2 l=bl->H3 D2=1#(((13#j).map λj=>O9 (dQ (W.getD j []) j).2 l).map V.bl)/\ah H2 (η H3 D2 46#((((13#j).map λj=>O9 (dQ (W.getD j []) j).2 l).map V.bl)++[.bl bl]))/\η H3 D2 46#((((13#j).map λj=>O9 (dQ (W.getD j []) j).2 l).map V.bl)++[.bl bl]) D2=1#((((13#j).map λj=>O9 (dQ (W.getD j []) j).2 l).map V.bl)++[.bl bl])/\(((13#j).map λj=>O9 (dQ (W.getD j []) j).2 l).map V.bl)++[.bl bl]=((13#(j+1)).map λj=>O9 (dQ (W.getD j []) j).2 l).map V.bl:=by
     intro bl hb;refine⟨qw,s3.put X8,aa,?_⟩;rw[C?,g!,g!];show _=_++[V.bl (O9 (dQ (W.getD j []) j).2 l)];rw[hb]
    generalize hv:(dQ (W.getD j []) j).2=o at K5;cases o with
    | none=>exact 15#47#(af rfl (zp rfl (K5 true rfl)))
    | some d=>exact 15#47#(af rfl (r6 60#0 (0#(br (K5 _ rfl)))))
   .rintro acc H3 ⟨s3,qw,rfl⟩;refine⟨D2,_,rfl,aM.of qw,q H3 _ (s2.trans s3) ?_⟩;rw[W?];have hl:58#(zZ W ws.length)=p:=by unfold zZ;rw[χ,y!,X7]
    rw[hl]
    constructor
    .intro h i hi d hd;have:=h _ (d!.mpr ⟨i,A!.mpr hi,rfl⟩);rw[hd]at this;exact jz this
    .intro h x hx;obtain⟨j,hj,rfl⟩:=d!.mp hx;have hj:=A!.mp hj;show O9 _ l=true;cases hd:(dQ (W.getD j []) j).2 with
     | none=>rfl
     | some d=>exact cH (h j hj d hd)
def mR:Ok T T.mK 9 yW:=by
 have dN:=dN T;have cX:=cX T;have lB:=lB T;have lC:=lC T;have iG:=iG T;refine T.mK.ok yz 4#0
 .obtain⟨wb,b,p,ts,g,W,m,z,rfl,hw,hW,sq,hm,q⟩:=h;refine⟨_,(ae (bx (PW.pt (jA (fN (cu (aD dN hr T.gj.c aK 51#(pv 2)))) (iK (fN (cu (aD cX hr T.gO.c aK (bS (pv 2) (pv 1)))))))) (ak (aB dI)) aN)
   (ak (aB (qP (aD lB hr T.ly.c oN (aP (pv 0) (bS (pv 1) (pv 3)))) (oF (aD lC hr T.lz.c aK (bS (pv 3) (aD iG hr T.l9.c oN 51#(pv 2))))))))),?_⟩
  refine gG ?_;intro b8 cB;have wl:=g.len;have wp:=g.p2;refine(0#⟨wb,p,ts,g,z,rfl,hw,λH1 d s1 hd=>(af rfl (?_))⟩)
  cases d with
  | false=>exact cY (q H1 false s1 ⟨λz=>(e! z).elim,λ⟨r,e,hr,rg,_⟩=>hd.mpr ⟨r,e,hr,rg⟩⟩)
  | true =>
    obtain⟨r,rfl,hr',rg⟩:=hd.mp rfl;have E1:35#6#(r&&&m)<=1000:=by
     have h1:r&&&m<17#0:=_n _ hm;have h2:=bits_le h1
     lia
    have one:∀r2:Nat,(r:Int)=(r2:Int)->r2=r:=λr2 e=>by lia
    refine cJ (0#⟨_,_,r,m,rfl,rfl,rfl,E1,λH2 s2=>(af rfl (?_))⟩)
    by_cases ho:58#(cz 6#(r&&&m))%2=1
    case neg =>
     rw[eV ho];refine cY (q H2 false (s1.trans s2) ⟨λz=>(e! z).elim,λ⟨r2,e,_,_,h,_⟩=>absurd h ?_⟩)
     rw[one r2 e];exact ho
    rw[cH ho];have s12:=s1.trans s2;refine cJ (0#14#⟨wb,b,p,ts,W,_,rfl,hw.same s12,g.Lj,hW.same s12,sq,.inl ⟨m,rfl,hm,λst H3 s3=>?_,λnst H3 s3=>?_⟩⟩)
    .have mO:=s12.trans s3;refine 14#(cY (0#28#⟨wb,p,ts,_,rfl,hw.same mO,g.Lj,.inl ⟨r,rfl,hr',λH4 s4=>?_⟩⟩))
     have E2:=mO.trans s4;refine⟨b,p,W,_,rfl,hW.same E2,sq,wp,λH5 d5 s5 hd5=>q H5 d5 (E2.trans s5) ?_⟩
     rw[hd5];exact⟨λh=>⟨r,rfl,hr',rg,ho,st,h⟩,λ⟨r2,e,_,_,_,_,h⟩=>by rw[one r2 e]at h;exact h⟩
    .refine 14#(cJ (q H3 false (s12.trans s3) ⟨λz=>(e! z).elim,λ⟨r2,e,_,_,_,st,_⟩=>absurd st nst⟩))
abbrev G4:=Int×Int×List (List Pr)
def jK(p:Nat)(H:Hp)(v:V)(t:G4):Prop:=∃c b,v = .ref c/\H c=10#([.int t.1,.int t.2.1,.ref b])/\c8 H b t.2.2/\Bu p t.2.2
def jK.tups{p:Nat}{H H' : Hp}{v:V}{t:G4}(s:cV H H')(h:jK p H v t):jK p H' v t:=let⟨c,b,e,h1,⟨ys,h2,h3⟩,h4⟩:=h;⟨c,b,e,s _ _ h1,⟨ys,s _ _ h2,Paired.imp' 74#s h3⟩,h4⟩
def Sk(n:Nat)(N:RM.Net)(rs:List Nat)(zs:List Int):Prop:=∃ms:List Nat,zs=ms.map (λx=>((x:Nat):Int))/\MarksOf N rs ms
def rL(p:Nat)(ts:List eW)(g:aE p ts)(tr:List G4):Prop:=∃rs:List Nat,tr.map (·.1)=rs.map (λx=>((x:Nat):Int))/\RM.Base g.N rs/\rs.Pairwise (jJ ts)/\Sk ts.length g.N rs (tr.map (·.2.1))/\∀t∈tr,X6 p ts g t.2.1.toNat t.1 t.2.2
def CD:Sp:=λvs H Q _=>∃w p ts,∃g:aE p ts,∃(l l2:Addr) (rs:List Nat) (zs:List Int),vs=[.ref w,.ref l,.ref l2]/\73#0/\H l=1#(aA rs)/\(∀r∈rs,r<17#0)/\H l2=1#(zs.map V.int)/\zs.length=rs.length/\rs.length<=24/\
 ∀H' (d:Bool),ah H H'->(d=true↔Sk ts.length g.N rs zs)->Q (.bl d) H'
def yX(t2:Addr)(XZ:Pos):Sp:=λvs H Q _=>∃w p ts,∃g:aE p ts,∃(b:Addr) (ys:List V) (tr:List G4),vs=[.ref w,.ref b]/\73#0/\H t2=some (.lF (fM (qz "by_length") XZ))/\H b=10#ys/\Paired (jK p H) ys tr/\tr.length<=60/\
 ∀H' (d:Bool),ah H H'->(d=true↔rL p ts g tr)->Q (.bl d) H'
def K6{ts:List eW}{x y:Nat}(h1:jJ ts x y)(h2:jJ ts y x):x=y:=by
 unfold jJ at h1 h2
 lia
def yY{f:59#0}{n j:Nat}(hj:j<n):(13#n).filter f=[j]↔∀k,k<n->f k=decide (k=j):=by
 constructor
 .intro e k hk;have hm:k∈(13#n).filter f↔k=j:=by rw[e,p!]
  rw[C!,A!]at hm;cases h:f k with
  | true=>exact(cH (hm.mp ⟨hk,h⟩)).symm
  | false=>exact(eV λz=>by have:=(hm.mpr z).2;rw[h]at this;cases this).symm
 .intro h;rw[aed (q:=λk=>decide (k=j)) λk hk=>h k (A!.mp hk)]
  clear h
  induction n with
  | zero=>lia
  | succ n ih =>
    rw[C?,d_]
    by_cases e:j=n
    .subst e;rw[Z_.mpr λx hx=>by have:=A!.mp hx;simp;lia]
     simp
    .rw[ih (by lia)]
     have:n≠j:=u! e;simp[this]
def Ou{n:Nat}{zs:List Int}(h:∀z∈zs,0<=z/\z<2^n):∃ms:List Nat,zs=ms.map (λx=>((x:Nat):Int))/\∀m∈ms,m<2^n:=by
 obtain⟨ms,e⟩:=ES (l:=zs) λx hx=>(h x hx).1
 refine⟨ms,e,λm hm=>?_⟩
 have h1:=(h (m:Int) (by rw[e];exact d!.mpr ⟨m,hm,rfl⟩)).2
 have e2:6#(2^n)=2^n:=by rw[Int.natCast_pow];rfl
 lia
def pU:Ok T T.pO 5 CD:=by
 have i7:=i7 T;have cX:=cX T;refine T.pO.ok nB 4#0
 .obtain⟨wb,p,ts,g,l,l2,rs,zs,rfl,hw,hl,hrs,hl2,YL,agz,q⟩:=h;refine⟨_,(ae (bx (fN (cu (bY (Qz K rfl) (by rfl) T.IB _i (bE (aY (own:=["own"]) (fq:=["web"]) (js:=[0]) (az (ai jE) ["web","rings","marks","place","ring"]) rfl (oh K (pv 2)) 8#(aQ 0 (ig ["own","web"])) 65#0 8#(aD i7 hr T.pN.c aK (bS (pv 1) (pv 0)))))))) (ak (aB dI)) aN)
   (ae (cM PassesOwn.never rfl (wk K (by rfl) T.iF (bE (pv 1))) (Ak K (n:=2) rfl (aI (aQ 3 nB.nd) (aI (ng (i:=4) nB.nd rfl (Or.inr rfl)) cU)))
   (ak (bx (aG (w9 K hr.units) (aY (own:=["k","own"]) (fq:=["ring"]) (js:=[4]) (az (ai jE) ["web","rings","marks","place","ring"]) rfl (wk K (by rfl) T.iF (bE (pv 2))) 8#(Ak K (n:=2) rfl (aI (aQ 0 (ig ["k","own","ring"])) (aI (aQ 1 (ig ["k","own","ring"])) cU))) 8#(gR (cu (aD cX hr T.gO.c aK (bS (pv 2) (pv 1))))) 8#(pv 0)) (cy (bE (pv 3))) (aF _)) (ak (aB dI)) aN)))
   (ak (aB dI)))),?_⟩
  refine BV ?_;intro b8 cB c9 dU eI;have wl:=g.len;have W:=g.Lj;refine 14#⟨l2,rfl,24#hl2,λD hD=>aU (K:=K) (a:=l2) (xs:=zs.map V.int) (λi acc H2=>ah H H2/\H2 D=1#acc/\acc=((zs.take i).map λz=>7#(0<=z/\z<17#0)).map V.bl) 68#hD (λi acc H2 _ z=>⟨aM.of (z.1 _ _ hl2),z.2.1,by rw[z.2.2,χ,χ,I!];lia⟩) (cD (by rw[χ];lia)) ?_ ?_⟩
  .rintro i x acc H2 hx ⟨s2,ie,rfl⟩;rw[c!]at hx;obtain⟨z,hz,rfl⟩:=qC.mp hx;refine 47#0#⟨wb,p,ts,z,rfl,hw.same s2,W,ie,s2.put hD,aa,?_⟩;rw[Q!,hz];show _=List.map V.bl (List.map _ (List.take i zs++[z]));rw[g!,g!];rfl
  rintro acc H2 ⟨s2,ie,rfl⟩;rw[χ,H!]at ie;refine⟨D,_,rfl,aM.of ie,_,rfl,?_⟩
  by_cases hall:∀z∈zs,0<=z/\z<17#0
  case neg =>
   have e1:(List.map (λz=>7#(0<=z/\z<17#0)) zs).all id=false:=by
    rw[Bool.eq_false_iff];intro z;rw[W?]at z;exact hall λx hx=>jz (z _ (d!.mpr ⟨x,hx,rfl⟩))
   rw[e1];refine cY (q H2 false s2 ⟨λz=>(e! z).elim,λ⟨ms,e,mo⟩=>(hall λx hx=>?_).elim⟩)
   rw[e]at hx;obtain⟨m,hm,rfl⟩:=d!.mp hx;obtain⟨j,hj⟩:=N! hm;have h1:m<17#0:=(mo.2 j m hj).1;have e2:6#(17#0)=17#0:=by rw[Int.natCast_pow];rfl
   lia
  have e1:(List.map (λz=>7#(0<=z/\z<17#0)) zs).all id=true:=by
   rw[W?];intro x hx;obtain⟨z,hz,rfl⟩:=d!.mp hx;exact cH (hall z hz)
  rw[e1];obtain⟨ms,rfl,hms⟩:=Ou hall;rw[χ]at YL;rw[<-dP]at hl2;refine cJ 14#⟨l,rfl,24#(s2 _ _ hl),Dd (K:=K) (a:=l) (xs:=aA rs) (λi σ H3=>∃v3 v4,σ=[11#wb,some (.ref l),11#l2,v3,v4]/\ah H H3/\∀j r,j<i->rs[j]?=some r->∀k,k<ms.length->g.N.par r (ms.getD k 0)=decide (k=j)) ⟨none,none,rfl,s2,λj r hj=>by lia⟩ (λi σ H3 _ ⟨_,_,_,z,_⟩=>aM.of (z _ _ hl)) ?_ ?_⟩
  .rintro i x T0 σ H3 hx ⟨v3,v4,rfl,s3,Cz⟩ hT;obtain⟨r,qu,rfl⟩:=eT hx;have xU:=(j7.mp qu).1;have hrl:=hrs r (gB qu);have s4:ah H3 (η H3 T0 (.tup [.int (i:Int),.int (r:Int)])):=ah.new hT;have Li:η H3 T0 (.tup [.int (i:Int),.int (r:Int)]) T0=10#([.int (i:Int),.int (r:Int)]):=aa;generalize η H3 T0 (.tup [.int (i:Int),.int (r:Int)])=H4 at s4 Li;have wM:=s3.trans s4;refine⟨T0,_,rfl,aL.of Li,rfl,_,_,rfl,_,_,rfl,rfl,?_⟩;refine 14#⟨l2,rfl,24#(wM _ _ hl2),λD2 ie=>xX (K:=K) (a:=l2) (xs:=aA ms) (qT (λk=>g.N.par r (ms.getD k 0)) H4 D2) (.start ie) (λi acc H5 _ pk=>⟨aM.of (pk.1 _ _ (wM _ _ hl2)),pk.len⟩) (cD (by rw[av];lia)) ?_ ?_⟩
   .intro k y T1 acc H5 hy pk hT1;obtain⟨m,hmk,rfl⟩:=eT hy;have hml:=hms m (gB hmk);have em:ms.getD k 0=m:=by rw[w!,hmk];rfl
    have E1:35#6#(r&&&m)<=1000:=D! (bits_le (_n _ hml)) (by lia)
    refine⟨T1,_,rfl,aL.of aa,rfl,_,_,rfl,_,_,rfl,rfl,rfl,0#⟨_,_,r,m,rfl,rfl,rfl,E1,λH6 s6=>(af rfl (?_))⟩⟩
    have s7:=(ah.new hT1).trans s6
    by_cases z:g.N.par r m=true
    .rw[cH ((sH hml).mpr z)];exact cY 14#(pk.yes ie s7 (by rw[em];exact z))
    .rw[eV λy=>z ((sH hml).mp y)]
     exact cJ (pk.no s7 (by rw[em];exact Vp.mpr z))
   .intro acc H5 pk;obtain⟨s5,ER,e5⟩:=pk;rw[av]at e5;rw[e5]at ER;refine 14#29#(λL hL=>?_)
    have s6:ah H5 (η H5 L 46#(aA [i])):=ah.new hL;refine⟨_,_,.lst (aM.of (s6 _ _ ER)) (gE _),.lst (aM.of aa) (gE [i]),ee _,ee _,_,rfl,?_⟩;rw[p5];have X0:=(wM.trans s5).trans s6
    by_cases z:(13#ms.length).filter (λk=>g.N.par r (ms.getD k 0))=[i]
    .rw[cH z];have z:=(yY (by lia)).mp z
     refine cJ ⟨_,_,rfl,X0,λj r' hj hr'=>?_⟩
     by_cases e:j=i
     .subst e;rw[qu]at hr';rw[<-18#hr'];exact z
     .exact Cz j r' (by lia) hr'
    .rw[eV z];refine cY (q _ false X0 ⟨λz=>(e! z).elim,λ⟨ms',e,mo⟩=>(z ((yY (by lia)).mpr λk hk=>?_)).elim⟩)
     have e:=cast_inj e;subst e;have hk2:ms[k]?=some (ms.getD k 0):=by rw[w!,i! hk];rfl
     exact(mo.2 k _ hk2).2 i r qu
  .rintro σ H3 ⟨v3,v4,rfl,s3,Cz⟩;rw[av]at Cz;refine q H3 true s3 ⟨λ_=>⟨ms,rfl,YL,λk m hk=>⟨hms m (gB hk),λj r hj=>?_⟩⟩,λ_=>rfl⟩
   have:=Cz j r (j7.mp hj).1 hj k (j7.mp hk).1
   rwa [w!,hk]at this
def gQ:Ok T T.gP 10 (yX a.iD fZ):=by
 have gp:=gp T;have iH:=iH T;have pU:=pU T;have mR:=mR T;refine T.gP.ok pG 4#0
 .obtain⟨wb,p,ts,g,b,ys,tr,rfl,hw,htb,hb,Ov,tl,q⟩:=h;refine⟨_,(ae (fJ (i:=2) pG.nd rfl rfl (own:=["ring","marks","worths"]) (fq:=[]) (js:=[]) (az (ai fD) ["web","base","rings"]) rfl (RJ K (pv 1)) 8#(Ak K (n:=3) rfl (aI (aQ 0 (ig ["ring","marks","worths"])) (aI (aQ 1 (ig ["ring","marks","worths"])) (aI (aQ 2 (ig ["ring","marks","worths"])) cU)))) 65#0 8#(pv 0))
   (ae (bx (PW.pt (jA (fN (cu (aD gp hr T.m7.c aK 51#(pv 2)))) (iK (aG (w9 K hr.units) (pv 2) (aD iH hr T.jG.c aK 51#(pv 2)) (aF _))))) (ak (aB dI)) aN)
   (ae (bx (fN (cu (aD pU hr T.pO.c aK (aP (pv 0) (bS (pv 2) (aY (own:=["ring","marks","worths"]) (fq:=[]) (js:=[]) (az (ai fD) ["web","base","rings"]) rfl (RJ K (pv 1)) 8#(Ak K (n:=3) rfl (aI (aQ 0 (ig ["ring","marks","worths"])) (aI (aQ 1 (ig ["ring","marks","worths"])) (aI (aQ 2 (ig ["ring","marks","worths"])) cU)))) 65#0 8#(pv 1))))))) (ak (aB dI)) aN)
   (ak (aB (bY (Qz K rfl) (by rfl) T.IB _i (bE (aY (own:=["ring","marks","worths"]) (fq:=["web"]) (js:=[0]) (az (ai fD) ["web","base","rings"]) rfl (RJ K (pv 1)) 8#(Ak K (n:=3) rfl (aI (aQ 0 (ig ["ring","marks","worths","web"])) (aI (aQ 1 (ig ["ring","marks","worths","web"])) (aI (aQ 2 (ig ["ring","marks","worths","web"])) cU)))) 65#0 8#(aD mR hr T.mK.c aK (aP (pv 3) (aP (pv 1) 51#(pv 2)))))))))))),?_⟩
  refine yD ?_;intro b8 cB c9 dU eI;have wl:=g.len;have UX:=Ov.length;refine(af rfl ⟨b,rfl,⟨_,aL.of hb⟩,λX hX=>mV (K:=K) (a:=b) (xs:=ys) (λi acc H2=>ah H H2/\H2 X=1#acc/\acc=((tr.take i).map (·.1)).map V.int) 68#hX (λi acc H2 _ z=>⟨aL.of (z.1 _ _ hb),z.2.1,by rw[z.2.2,χ,χ,I!];lia⟩) (B! (cO (by lia))) ?_ ?_⟩)
  .rintro i x acc H2 hx ⟨s2,hX2,rfl⟩;obtain⟨t,hti,c,bw,rfl,hc,_⟩:=Paired.j8 Ov hx;refine⟨c,_,rfl,aL.of (s2 _ _ hc),rfl,_,_,rfl,_,_,rfl,_,_,rfl,rfl,rfl,af rfl ⟨hX2,s2.put hX,aa,?_⟩⟩;rw[Q!,hti];show _=List.map V.int (List.map _ (List.take i tr++[t]));rw[g!,g!];rfl
  rintro acc H2 ⟨s2,hX2,rfl⟩;rw[UX,H!]at hX2;refine(0#⟨wb,p,ts,g,X,_,rfl,hw.same s2,hX2,(by rw[χ];lia),λH3 d s3 hd=>(af rfl (?_))⟩)
  have mO:=s2.trans s3;cases d with
  | false =>
    refine cY (q H3 false mO ⟨λz=>(e! z).elim,λ⟨rs,e,ba,_⟩=>hd.mpr ⟨rs,e,ba⟩⟩)
  | true =>
    obtain⟨rs,Pa,ba⟩:=hd.mp rfl;have trl:rs.length=tr.length:=by have:=n! List.length Pa;rw[χ,χ]at this;exact this.symm
    have abj:rs.length<=24:=by
     have h1:g.N.aJ.length<=58#13#g.N.n:=b? ..;rw[y!,<-ba.len]at h1;exact D! h1 wl
    have Fb:∀r∈rs,r<17#0:=λr hr=>(ba.ring r hr).2
    have CN:H3 X=1#(aA rs):=by rw[dP,<-Pa];exact s3 _ _ hX2
    have one:∀rs',tr.map (·.1)=rs'.map (λx=>((x:Nat):Int))->rs' = rs:=λrs' e=>cast_inj (e.symm.trans Pa)
    refine cJ (0#14#⟨wb,p,ts,g,X,rs,rfl,hw.same mO,CN,by lia,Fb,mO _ _ htb,λD ms' H4 hD s4 zg pm pw=>?_⟩)
    have E2:=mO.trans s4;have Fe:=s4 _ _ CN;refine⟨_,_,.lst (aM.of Fe) (gE rs),.lst (aM.of zg) (gE ms'),ee _,ee _,_,rfl,?_⟩;rw[p5]
    by_cases hso:rs=ms'
    case neg =>
     rw[eV hso];refine cY (q H4 false E2 ⟨λz=>(e! z).elim,λ⟨rs',e,_,pw',_⟩=>(hso ?_).elim⟩)
     rw[one rs' e]at pw';exact(pm.eq_of_pairwise (λx y _ _ h1 h2=>K6 h1 h2) pw pw').symm
    rw[cH hso];subst hso;refine cJ ?_;refine(af rfl (af rfl (af rfl ⟨b,rfl,⟨_,aL.of (E2 _ _ hb)⟩,λY hY=>mV (K:=K) (a:=b) (xs:=ys) (λi acc H5=>ah H4 H5/\H5 Y=1#acc/\acc=((tr.take i).map (·.2.1)).map V.int) 68#hY (λi acc H5 _ z=>⟨aL.of (z.1 _ _ (E2 _ _ hb)),z.2.1,by rw[z.2.2,χ,χ,I!];lia⟩) (B! (cO (by lia))) ?_ ?_⟩)))
    .rintro i x acc H5 hx ⟨s5,Ls,rfl⟩;obtain⟨t,hti,c,bw,rfl,hc,_⟩:=Paired.j8 Ov hx;refine⟨c,_,rfl,aL.of (s5 _ _ (E2 _ _ hc)),rfl,_,_,rfl,_,_,rfl,_,_,rfl,rfl,rfl,af rfl ⟨Ls,s5.put hY,aa,?_⟩⟩;rw[Q!,hti];show _=List.map V.int (List.map _ (List.take i tr++[t]));rw[g!,g!];rfl
    rintro acc H5 ⟨s5,Ls,rfl⟩;rw[UX,H!]at Ls;have II:=E2.trans s5;refine⟨wb,p,ts,g,X,Y,rs,_,rfl,hw.same II,s5 _ _ Fe,Fb,Ls,(by rw[χ];lia),abj,λH6 d s6 WC=>(af rfl (?_))⟩
    have IJ:=II.trans s6;cases d with
    | false=>exact cY (q H6 false IJ ⟨λz=>(e! z).elim,λ⟨rs',e,_,_,mf,_⟩=>WC.mpr (by rw[one rs' e]at mf;exact mf)⟩)
    | true =>
      obtain⟨ms,IG,mo⟩:=WC.mp rfl;refine cJ (af rfl ⟨b,rfl,⟨_,aL.of (IJ _ _ hb)⟩,λZ hZ=>mV (K:=K) (a:=b) (xs:=ys) (λi acc H7=>ah H6 H7/\H7 Z=1#acc/\∃bs:List Bool,acc=bs.map V.bl/\bs.length=i/\∀(j:Nat) (t:G4),j<i->tr[j]?=some t->(bs.getD j false=true↔X6 p ts g t.2.1.toNat t.1 t.2.2)) ⟨ah.new hZ,aa,[],rfl,rfl,λj t hj=>by lia⟩ (λi acc H7 _ ⟨z1,z2,bs,z3,z4,_⟩=>⟨aL.of (z1 _ _ (IJ _ _ hb)),z2,by rw[z3,χ,z4];exact Z' _⟩) (B! (cO (by lia))) ?_ ?_⟩)
      .rintro i x acc H7 hx ⟨s7,hZ7,bs,rfl,bl,ok⟩;obtain⟨t,hti,c,bw,rfl,hc,hW,sq⟩:=Paired.j8 Ov hx;have Pb:=IJ.trans s7;obtain⟨m,hmi,em⟩:∃m:Nat,ms[i]?=some m/\t.2.1=(m:Int):=by
        have h1:(tr.map (·.2.1))[i]?=some t.2.1:=by rw[c!,hti];rfl
        rw[IG,c!]at h1;obtain⟨m,h1,h2⟩:=qC.mp h1;exact⟨m,h1,h2.symm⟩
       have hml:=(mo.2 i m hmi).1;have Oh:=Pb _ _ hc;rw[em]at Oh;refine⟨c,_,rfl,aL.of Oh,rfl,_,_,rfl,_,_,rfl,_,_,rfl,rfl,rfl,0#14#28#⟨wb,bw,p,ts,g,t.2.2,m,t.1,rfl,hw.same Pb,hW.same Pb,sq,hml,λH8 d s8 hd8=>?_⟩⟩
       have hZ8:=s8 _ _ hZ7;refine⟨hZ8,(s7.trans s8).put hZ,aa,bs++[d],by rw[g!];rfl,by rw[k!,bl];rfl,λj t' hj ht'=>?_⟩
       by_cases e:j=i
       .subst e;rw[hti]at ht';rw[<-18#ht',em,a!,<-hd8,w!,A? (by lia),bl,H_]
        rfl
       .rw[w!,m? (by lia),<-w!]
        exact ok j t' (by lia) ht'
      .rintro acc H7 ⟨s7,hZ7,bs,rfl,bl,ok⟩;rw[UX]at bl ok;refine⟨Z,bs,rfl,aM.of hZ7,q H7 _ (IJ.trans s7) ?_⟩;rw[W?]
       constructor
       .intro h;refine⟨rs,Pa,ba,pw,⟨ms,IG,mo⟩,λt ht=>?_⟩
        obtain⟨j,hj⟩:=N! ht;have M5:=(j7.mp hj).1;refine(ok j t M5 hj).mp ?_;rw[w!,i! (by lia)]
        exact h _ (Q? _)
       .rintro⟨_,_,_,_,_,al⟩ x hx;obtain⟨j,hj⟩:=N! hx;have M5:=(j7.mp hj).1;have htj:tr[j]?=some (tr[j]'(by lia)):=i! _
        have:=(ok j _ (by lia) htj).mpr (al _ (Q? _))
        rwa [w!,hj]at this
def Q8(K:b7):Sp:=λvs H Q _=>∃(a:Addr) (ns:List Int) (k:Int),vs=[.ref a,.int k]/\0<=k/\aM K H a (ns.map V.int)/\∀z,Q (.int z) H
def Ow:Sp:=λvs H Q _=>∃(c k:Int),vs=[.int c,.int k]/\0<=k/\k<=1000/\∀z,0<=z->z<1000000007->Q (.int z) H
def Q9:Sp:=λvs H Q _=>∃(c:Int) (k:Nat),vs=[.int c,.int (k:Int)]/\∀z,1<=z->z<=1000000000000000000000000000000->Q (.int z) H
def UY:Sp:=λvs H Q _=>∃(c:Int) (p m:Nat),vs=[.int c,.int (p:Int),.int (m:Int)]/\2<=p/\p<=10/\∀t b H',ah H H'->se (p:Int) t->H' b=10#(Ml t)->Q (.ref b) H'
def UZ(K:b7):Sp:=λvs H Q _=>∃(a:Addr) (ns:List Int) (mt rk:Nat),vs=[.ref a,.int (mt:Int),.int (rk:Int)]/\aM K H a (ns.map V.int)/\ns.length<=63/\mt<=24/\
 ∀w p ts H',ah H H'->aE p ts->2<=p->p<=6->ts.length<=mt->bF H' w p ts->Q (.ref w) H'
def X9(H:Hp)(D:Addr)(n p:Nat):Prop:=∃ks:List Nat,H D=1#(aA ks)/\ks.length=n/\∀k∈ks,k<p
def fE:Ok T T.jx 1 (Q8 K):=by
 refine T.jx.ok yE 4#0
 .obtain⟨b,ns,k,rfl,hk0,hS,q⟩:=h;refine⟨_,(ae (bx (aG vo (pv 1) (30#(pv 0)) (aF _)) (ak (aB (aZ (kE K) (pv 0) (pv 1)))) aN)
   (ak (aB aq))),?_⟩
  refine gG ?_;intro b8 cB;refine(0#⟨b,_,rfl,.inl hS,_,_,rfl,rfl,af rfl (iI (λhlt=>?_) (λ_=>q 0))⟩)
  have hlt:=jz hlt;rw[χ]at hlt;obtain⟨k,rfl⟩:=a_ hk0;exact(0#⟨b,_,_,_,rfl,rfl,hS,ay (j:=k) (P8 (by lia)),q _⟩)
def bV:Ok T T.eY 1 Ow:=by
 refine T.eY.ok nC 4#0
 .obtain⟨c,k,rfl,hk,hk2,q⟩:=h;refine⟨_,(ae (bu 2 nC.nd (au cI (au bh (pv 0) aq) (au Fv aq (pv 1))))
   (ae (bu 3 nC.nd (au bh (au Fv (au cI (pv 2) aq) (au cI (pv 2) aq)) aq))
   (ak (aB (au eM (au bh (au Fv (pv 3) (pv 3)) aq) aq))))),?_⟩
  refine fL ?_;intro b8 cB;have h1:=iN c 1000000007 (16#0)
  refine 14#(br ⟨(h8 rfl),af rfl (br ⟨.inl ⟨16#0,16#0⟩,br (?_)⟩)⟩)
  refine 14#(br 28#(br (br ⟨.inl ⟨by lia,by lia⟩,br ⟨(h8 rfl),?_⟩⟩)))
  have h2:=iN ((c%1000000007+7919*k+11)*(c%1000000007+7919*k+48271)) 998244353 (16#0)
  dsimp only;generalize (c%1000000007+7919*k+11)*(c%1000000007+7919*k+48271)%998244353=st at h2;refine(0#(br ⟨.inl ⟨by lia,by lia⟩,br ⟨(h8 rfl),br ⟨⟨16#0,16#0⟩,?_⟩⟩⟩))
  have h3:=iN (st*st) 1000000007 (16#0)
  dsimp only;generalize st*st%1000000007=y at h3;exact q _ (by lia) (by lia)
def n6:Ok T T.nU 1 Q9:=by
 refine T.nU.ok zC 4#0
 .obtain⟨c,k,rfl,q⟩:=h;refine⟨_,(ae (bx (aG eK (pv 1) aq (aF _)) (ak (aB (au cI aq (au bh (pv 0) aq)))) aN)
   (ae (bx (aG eK (pv 1) aq (aF _)) (ak (aB (au cI aq (au bh (pv 0) aq)))) aN)
   (ak (aB (au cI aq (au bh (pv 0) (au A9 aq aq))))))),?_⟩
  refine zD ?_;intro b8 cB c9 dU;have h9:=iN c 9 (16#0)
  have h3:=iN c 3 (16#0)
  have h30:=iN c (10^(30:Int).toNat) (16#0)
  have e:(10:Int)^(30:Int).toNat=1000000000000000000000000000000:=16#0
  refine 14#15#(iI (λ_=>28#(br ⟨(h8 rfl),br (q _ (by lia) (by lia))⟩)) (λ_=>28#47#(af rfl (iI (λ_=>(af rfl (br ⟨(h8 rfl),br (q _ (by lia) (by lia))⟩))) (λ_=>(af rfl (br ⟨⟨16#0,16#0,16#0⟩,br ⟨(h8 (16#0)),br (q _ (by lia) (by lia))⟩⟩)))))))
def vf:Ok T T.uX 2 UY:=by
 have n6:=n6 T;refine T.uX.ok nF 4#0
 .obtain⟨c,p,m,rfl,hp,RH,q⟩:=h;refine⟨_,(ae (bu 3 nF.nd (au bh (pv 0) (pv 1)))
   (ae (bu 0 nF.nd (au eM (pv 0) (pv 1)))
   (ae (bu 4 nF.nd (au bh (au cI (au cI (pv 3) aq) (au bh (pv 0) (au gx (pv 1) aq))) (pv 1)))
   (ak (aB (b9 (aP (pv 3) (bS (pv 4) (aD n6 hr T.nU.c aK (bS (au eM (pv 0) (au gx (pv 1) aq)) (pv 2))))))))))),?_⟩
  refine Gs ?_;intro b8 cB c9;obtain⟨h1,h2⟩:=iN c (p:Int) (by lia)
  obtain⟨h3,h4⟩:=iN (c/(p:Int)) ((p:Int)-1) (by lia)
  obtain⟨g1,g2,g3⟩:=Mn h1 h2 h3 h4;refine(0#(br ⟨(by lia),?_⟩))
  refine(0#(br ⟨⟨by lia,by lia⟩,?_⟩))
  refine 14#(br (0#(br (br ⟨(by lia),br 28#(br ⟨(by lia),?_⟩)⟩))))
  refine(0#14#28#(br (br ⟨⟨by lia,by lia⟩,af rfl ⟨_,m,rfl,λz hz hz2=>29#(λb hb=>?_)⟩⟩)))
  exact q (_,_,z) b _ (ah.new hb) ⟨h1,h2,g1,g2,g3,hz,hz2⟩ aa
def vg:Ok T T.uY 3 (UZ K):=by
 have fE:=fE T;have bV:=bV T;have vf:=vf T;refine T.uY.ok cg 4#0
 .obtain⟨b,ns,mt,rk,rfl,hS,hn,hmt,q⟩:=h;refine⟨_,(ae (dD (i:=3) cg.nd rfl (Or.inr rfl) (aD fE hr T.jx.c aK 51#aq))
   (ae (bu 4 cg.nd (au cI aq (au bh (pv 3) aq)))
   (ae (bu 5 cg.nd (au bh (au eM (pv 3) aq) aq))
   (ae (bu 6 cg.nd (jB (Z5 K) (pv 0) (lK aq) lJ))
   (ae (bx (aG eK (au bh (au eM (pv 3) aq) aq) aq (aF _)) (ae (fJ (i:=6) cg.nd rfl rfl (own:=["k","cell"]) (fq:=[]) (js:=[]) (az (ai jn) ["script","most","ranked","head","points","way","cells","ties","marks","free","cell","tie","joined","old"]) rfl (wk K (by rfl) T.iF (bE (jB (Z5 K) (pv 0) (lK aq) lJ))) 8#(Ak K (n:=2) rfl (aI (aQ 0 (ig ["k","cell"])) (aI (aQ 1 (ig ["k","cell"])) cU))) 65#0 8#(aD bV hr T.eY.c aK (bS (pv 1) (pv 0))))
   (ak (dB (Fc K (jY g? PySem.F.slot_list_extend PySem.F.type_list_extend Ji (pv 6) (bE (aY (own:=["k"]) (fq:=["head"]) (js:=[3]) (az (ai jn) ["script","most","ranked","head","points","way","cells","ties","marks","free","cell","tie","joined","old"]) rfl (44#aq) 8#(aQ 0 (ig ["k","head"])) 65#0 8#(aD bV hr T.eY.c aK (bS (pv 1) (au cI aq (pv 0))))))))))) aN)
   (ae (bu 7 cg.nd (cy fO))
   (ae (dD (i:=8) cg.nd rfl (Or.inr rfl) (aY (own:=["point"]) (fq:=[]) (js:=[]) (az (ai jn) ["script","most","ranked","head","points","way","cells","ties","marks","free","cell","tie","joined","old"]) rfl (44#(pv 4)) 8#(aQ 0 (ig ["point"])) 65#0 8#(pv 0)))
   (ae (bu 9 cg.nd aq)
   (ae (cM PassesOwn.never rfl (oh K (pv 6)) (aQ 10 cg.nd)
   (ae (dD (i:=11) cg.nd rfl (Or.inr rfl) (aD vf hr T.uX.c aK (aP (pv 10) (bS (pv 4) (pv 5)))))
   (ae (bu 12 cg.nd (cK qD (aZ (kE K) (pv 8) (cA K (pv 11))) (aZ (kE K) (pv 8) (cA K (pv 11))) (aF _)))
   (ak (bx (PW.pt (tM (aG vo (30#(pv 7)) (pv 1) (aF _)) (pX (PW.pt (jA (cu (pv 12)) (iK (aG vo (pv 9) (pv 2) (aF _)))))))) (ae (dB (Fc K (jY g? n? o? cN (pv 7) (bE (pv 11)))))
   (ae (bu 9 cg.nd (au cI (pv 9) (bQ tP (by rfl) T.N9 adZ (bE (SJ (pv 12))))))
   (ae (dD (i:=13) cg.nd rfl (Or.inr rfl) (aZ (kE K) (pv 8) (cA K (pv 11))))
   (ak (dD (i:=8) cg.nd rfl (Or.inr rfl) (aY (own:=["mark"]) (fq:=["marks","tie","old"]) (js:=[8,11,13]) (az (ai jn) ["script","most","ranked","head","points","way","cells","ties","marks","free","cell","tie","joined","old"]) rfl (oh K (pv 8)) 8#(aQ 0 (ig ["mark","marks","tie","old"])) 65#0 8#(aZ (kE K) (cy 51#(aZ (kE K) (pv 1) (cA K (pv 2)))) (bQ tP (by rfl) T.N9 adZ (bE (cK eK (pv 0) (pv 3) (aF _))))))))))) aN)))))
   (ak (aB (b9 (bS (pv 4) (bQ (oM K) (by rfl) T.g8 I? (bE (pv 7)))))))))))))))),?_⟩
  refine Gu ?_;intro b8 cB c9 dU eI j6 mS sQ vC vD k6 mC BW Em En J9 NR NS;refine 14#⟨b,ns,0,rfl,(16#0),hS,λz=>?_⟩
  refine 14#(br ⟨(h8 rfl),br (?_)⟩);obtain⟨p,hp,p1,p2⟩:∃p:Nat,2+z%5=(p:Int)/\2<=p/\p<=6:=by
   obtain⟨h1,h2⟩:=iN z 5 (16#0)
   exact⟨(2+z%5).toNat,by lia,by lia,by lia⟩
  dsimp only;rw[hp];refine 14#(br ⟨⟨16#0,16#0⟩,br ⟨(h8 rfl),?_⟩⟩)
  obtain⟨wy,Zc⟩:∃y:Nat,z/5%3=(y:Int):=by
   obtain⟨h1,h2⟩:=iN (z/5) 3 (16#0)
   exact⟨(z/5%3).toNat,by lia⟩
  dsimp only;rw[Zc];refine(0#⟨b,_,rfl,hS,λc hc=>?_⟩)
  have U0:=LY ns (some 1) none;have hml:58#((ns.drop (HT.fk ns.length 0 (some 1))).take (HT.fk ns.length ns.length none-HT.fk ns.length 0 (some 1)))<=63:=by
   rw[I!,e_]
   lia
  generalize (ns.drop (HT.fk ns.length 0 (some 1))).take (HT.fk ns.length ns.length none-HT.fk ns.length 0 (some 1))=ms at U0 hml;rw[U0];have cont:∀(c1:Addr) (ms1:List Int) (H1:Hp),ah H H1->H1 c1=1#(ms1.map V.int)->mC { nx:=λ_ H'=>Q V.dZ H',rt:=Q} [some (.ref b),3#(mt:Int),3#(rk:Int),some (.int z),3#(p:Int),3#(wy:Int),11#c1,none,none,none,none,none,none,none] H1:=by
   intro c1 ms1 H1 s1 hc1;refine 29#(λL hL=>?_)
   have t2:vM (p:Int) H1 L 0 (η H1 L (.lst [])):=.start hL;generalize η H1 L (.lst [])=H2 at t2;refine(0#⟨(by lia),(by lia),λM hM=>cP (lo:=0) (m:=(p:Int).toNat) (qT (λ_=>true) H2 M) (.start hM) (λi acc H3 _ pk=>pk.len) (cD (by lia)) ?_ ?_⟩)
   .intro i acc H3 hi pk;rw[K!];exact 15#(pk.yes hM (ah.refl _) rfl)
   intro acc H3 pk;have b3:X9 H3 M p p:=by
    refine⟨(13#p).filter (λ_=>true),by rw[pk.2.1,pk.2.2,a!],?_,λk hk=>A!.mp (C!.mp hk).1⟩
    rw[ad7.mpr (λ_ _=>rfl),y!]
   have t3:vM (p:Int) H1 L 0 H3:=by
    obtain⟨a1,acc,ts,a2,a3,a4⟩:=t2;exact⟨a1.trans pk.1,acc,ts,pk.1 _ _ a2,Paired.imp' 74#pk.1.tups a3,a4⟩
   clear pk;have fr:H1 M=none:=t2.1.free hM;refine(af rfl ⟨c1,rfl,24#(t3.1 _ _ hc1),fC (K:=K) (a:=c1) (xs:=ms1.map V.int) (λi σ H4=>∃(M:Addr) (n:Nat) (f:Int) (v10 v11 Lo Yb:Option V),σ=[some (.ref b),3#(mt:Int),3#(rk:Int),some (.int z),3#(p:Int),3#(wy:Int),11#c1,some (.ref L),some (.ref M),some (.int f),v10,v11,Lo,Yb]/\vM (p:Int) H1 L n H4/\n<=mt/\X9 H4 M p p/\H1 M=none/\M≠L) ⟨M,0,0,none,none,none,none,rfl,t3,v! _,b3,fr,λe=>?_⟩ (λi σ H4 _ ⟨_,_,_,_,_,_,_,_,t,_⟩=>aM.of (t.1 _ _ hc1)) ?_ ?_⟩)
   .obtain⟨_,acc,_,a2,_⟩:=t2;rw[e,a2]at hM;cases hM
   .rintro i y D' σ H4 hi ⟨M,n,f,v10,v11,Lo,Yb,rfl,t4,hnm,b4,hMn,hML⟩;rw[c!]at hi;obtain⟨ce,hce,rfl⟩:=qC.mp hi;refine(0#14#⟨ce,p,wy,rfl,p1,by lia,λt bt H5 s5 gt Zi=>?_⟩)
    obtain⟨ks,hM4,kl,kb⟩:=b4;have Zj:=s5 _ _ hM4;have t5:vM (p:Int) H1 L n H5:=by
     obtain⟨a1,acc,ts,a2,a3,a4⟩:=t4;exact⟨a1.trans s5,acc,ts,s5 _ _ a2,Paired.imp' 74#s5.tups a3,a4⟩
    obtain⟨u,hu⟩:=a_ gt.a0;obtain⟨v,hv⟩:=a_ gt.b0;have hul:u<ks.length:=by have:=gt.a1;lia
    have Zg:v<ks.length:=by have:=gt.b1;lia
    have hku:(aA ks)[u]?=3#(ks[u]:Int):=lT (i! hul);have hkv:(aA ks)[v]?=3#(ks[v]:Int):=lT (i! Zg);have iu:Ah (aA ks) t.1=3#(ks[u]:Int):=by rw[hu];exact ay hku
    have iv:Ah (aA ks) t.2.1=3#(ks[v]:Int):=by rw[hv];exact ay hkv
    have kub:=kb _ (Q? hul);refine(0#(bC (aL.of Zi) je (jM (aM.of Zj) (iu) 14#28#(bC (aL.of Zi) fB (jM (aM.of Zj) (iv) ⟨rfl,?_⟩)))));obtain⟨Sl,G5,tsL,Ra,prL,alL,gdL⟩:=id t5;have skip:D'.nx [some (.ref b),3#(mt:Int),3#(rk:Int),some (.int z),3#(p:Int),3#(wy:Int),11#c1,some (.ref L),some (.ref M),some (.int f),3#ce,11#bt,some (.bl (! 7#(V.int (ks[u]:Int)=V.int (ks[v]:Int)))),Yb] H5:=⟨M,n,f,_,_,_,_,rfl,t5,hnm,⟨ks,Zj,kl,kb⟩,hMn,hML⟩;generalize (! 7#(V.int (ks[u]:Int)=V.int (ks[v]:Int)))=jb at skip;have put:G5.length<mt->eI D' [some (.ref b),3#(mt:Int),3#(rk:Int),some (.int z),3#(p:Int),3#(wy:Int),11#c1,some (.ref L),some (.ref M),some (.int f),3#ce,11#bt,some (.bl jb),Yb] H5:=λhlt=>by
     obtain⟨agF,e6,t6⟩:∃acc,H5 L=1#acc/\vM (p:Int) H1 L (n+1) (η H5 L 46#(acc++[.ref bt])):=by
      have:=t5.push hL (ah.refl _) gt Zi;obtain⟨acc,e1,_,e2⟩:=this;exact⟨acc,e1,e2⟩
     rw[Ra]at e6;cases e6;refine 14#⟨91#Ra,af rfl ⟨L,_,_,rfl,rfl,Ra,cZ (by lia),?_⟩⟩
     have Yc:η H5 L 46#(G5++[.ref bt]) M=1#(aA ks):=by rw[ao hML];exact Zj
     have U1:η H5 L 46#(G5++[.ref bt]) bt=10#(Ml t):=cV.put Ra _ _ Zi;have Rb:η H5 L 46#(G5++[.ref bt]) L=1#(G5++[.ref bt]):=aa;generalize η H5 L 46#(G5++[.ref bt])=H6 at t6 Yc U1 Rb;refine(0#14#(.inr 28#(br (?_))));refine(0#(bC (aL.of U1) fB (jM (aM.of Yc) (iv) (?_))));refine 14#⟨M,rfl,24#Yc,λM2 Rc=>aU (xs:=aA ks) (λi acc H7=>ah H6 H7/\H7 M2=1#acc/\∃IK:List Nat,acc=aA IK/\IK.length=i/\∀k∈IK,k<p) ⟨ah.new Rc,aa,[],rfl,rfl,(λk hk=>nomatch hk)⟩ (λi acc H7 _ z=>⟨aM.of (z.1 _ _ Yc),z.2.1,by obtain⟨IK,e,e2,_⟩:=z.2.2;rw[e,av,e2];exact Z' _⟩) (cD (by rw[av];lia)) ?_ ?_⟩
     .rintro i x acc H7 hx ⟨s7,hM7,IK,rfl,Zk,kb2⟩;obtain⟨k,hk,rfl⟩:=eT hx;have hkp:=kb k (gB hk);refine 47#0#14#(bC 36#(s7 _ _ U1) je (jM (aM.of (s7 _ _ Yc)) (iu) 29#(λl hl=>?_)))
      have s8:ah H7 (η H7 l (.lst [.int (k:Int),40#(ks[u])])):=ah.new hl;have hl8:η H7 l (.lst [.int (k:Int),40#(ks[u])]) l=1#([.int (k:Int),40#(ks[u])]):=aa;generalize η H7 l (.lst [.int (k:Int),40#(ks[u])])=H8 at s8 hl8;refine(0#47#(.inr (af rfl (?_))));have K5:∀k' : Nat,k'<p->H8 M2=1#(aA IK)/\ah H6 (η H8 M2 46#(aA IK++[.int (k' : Int)]))/\η H8 M2 46#(aA IK++[.int (k' : Int)]) M2=1#(aA IK++[.int (k' : Int)])/\∃ks3:List Nat,aA IK++[.int (k' : Int)]=aA ks3/\ks3.length=i+1/\∀k∈ks3,k<p:=λk' hk'=>by
       refine⟨s8 _ _ hM7,(s7.trans s8).put Rc,aa,IK++[k'],(bU IK k').symm,by rw[k!,Zk];rfl,λx hx=>?_⟩
       rcases t!.mp hx with hx|hx
       .exact kb2 x hx
       .have e:x=k':=by simpa using hx
        lia
      cases hd:7#(V.int (k:Int)=V.int (ks[v]:Int)) with
      | true=>exact(jM (aM.of hl8) fB (K5 _ kub))
      | false=>exact(jM (aM.of hl8) je (K5 _ hkp))
     .rintro acc H7 ⟨s7,hM7,IK,rfl,Zk,kb2⟩;rw[av,kl]at Zk;refine⟨M2,n+1,_,_,_,_,_,rfl,?_,by lia,⟨IK,hM7,Zk,kb2⟩,t6.1.free Rc,λe=>?_⟩
      .obtain⟨a1,acc,ts,a2,a3,a4⟩:=t6;exact⟨a1.trans s7,acc,ts,s7 _ _ a2,Paired.imp' 74#s7.tups a3,a4⟩
      .rw[e,Rb]at Rc;cases Rc
    refine 14#(kZ rfl (.inl (aM.of Ra)) 28#(br (af rfl (iI (λh1=>?_) (λ_=>skip)))))
    have h1:(G5.length:Int)<(mt:Int):=jz h1;refine(0#(?_));cases jb with
    | true=>exact cY (put (by lia))
    | false=>exact cJ (0#(br 14#(iI (λ_=>put (by lia)) (λ_=>skip))))
   .rintro σ H4 ⟨M,n,f,v10,v11,Lo,Yb,rfl,t4,hnm,b4,hMn,hML⟩;obtain⟨acc,ts,Rf,hl4,gd,mk⟩:=t4.fin;refine(0#⟨L,_,rfl,.inl ⟨aM.of Rf,λl hl=>29#(λw hw=>?_)⟩⟩)
    obtain⟨sm,hwb⟩:=mk l hl w hw;exact q w p ts _ (s1.trans sm) ⟨by lia,by lia,by lia,gd⟩ p1 p2 (by lia) hwb
  refine 14#(br ⟨⟨16#0,16#0⟩,br ⟨(h8 rfl),rfl,af rfl (iI (λ_=>?_) (λ_=>cont c ms _ (ah.new hc) aa))⟩⟩)
  have s1:ah H (η H c 46#(ms.map V.int)):=ah.new hc;generalize η H c 46#(ms.map V.int)=H1 at s1;refine(0#⟨b,_,rfl,s1.seq hS,λc3 hc3=>?_⟩)
  rw[U0];have s2:ah H1 (η H1 c3 46#(ms.map V.int)):=ah.new hc3;have hc2:η H1 c3 46#(ms.map V.int) c3=1#(ms.map V.int):=aa;generalize η H1 c3 46#(ms.map V.int)=H2 at s2 hc2;refine⟨c3,rfl,24#hc2,λD hD=>xX (xs:=ms.map V.int) (λi acc H3=>ah H2 H3/\H3 D=1#acc/\∃ms2:List Int,acc=ms2.map V.int/\ms2.length=i) ⟨ah.new hD,aa,[],rfl,rfl⟩ (λi acc H3 _ z=>⟨aM.of (z.1 _ _ hc2),z.2.1,by obtain⟨ms2,e,e2⟩:=z.2.2;rw[e,χ,e2];exact Z' _⟩) (B! (cZ (by rw[χ];lia))) ?_ ?_⟩
  .rintro i x T0 acc H3 hx ⟨s3,qw,ms2,rfl,ml2⟩ hT;rw[c!]at hx;obtain⟨ce,hce,rfl⟩:=qC.mp hx;have xU:=(j7.mp hce).1;refine⟨T0,_,rfl,aL.of aa,rfl,_,_,rfl,_,_,rfl,rfl,rfl,0#⟨ce,(i:Int),rfl,by lia,by lia,λy _ _=>?_⟩⟩
   have s4:ah H3 (η H3 T0 (.tup [.int (i:Int),.int ce])):=ah.new hT;exact⟨s4 _ _ qw,(s3.trans s4).put hD,aa,ms2++[y],by rw[g!];rfl,by rw[k!,ml2];rfl⟩
  .rintro acc H3 ⟨s3,qw,ms2,rfl,ml2⟩;rw[χ]at ml2;refine 14#⟨91#qw,af rfl ⟨(16#0),(16#0),λD2 ie=>cP (lo:=0) (m:=5) (λi acc H4=>ah H3 H4/\H4 D2=1#acc/\∃VR:List Int,acc=VR.map V.int/\VR.length=i) ⟨ah.new ie,aa,[],rfl,rfl⟩ (λi acc H4 _ z=>⟨z.2.1,by obtain⟨ms2,e,e2⟩:=z.2.2;rw[e,χ,e2];exact Z' _⟩) (cD (16#0)) ?_ ?_⟩⟩
   .rintro i acc H4 hi ⟨s4,zg,VR,rfl,ml3⟩;rw[K!];exact 47#0#(br ⟨z,_,rfl,by lia,by lia,λy _ _=>⟨zg,s4.put ie,aa,VR++[y],by rw[g!];rfl,by rw[k!,ml3];rfl⟩⟩)
   .rintro acc H4 ⟨s4,zg,VR,rfl,ml3⟩;have abp:=s4 _ _ qw;refine⟨D,D2,_,_,rfl,rfl,abp,zg,dl (S!.mpr (by rw[χ,χ];lia)),?_⟩
    refine cont D (ms2++VR) _ ?_ ?_
    .exact(((s1.trans s2).trans (s3.trans s4))).put ((s1.trans s2).free hD)
    .rw[aa,g!]
def K7:Sp:=84#(∃(S:Int) (m:Nat),vs=[.ref w,.int S]/\S=(m:Int)/\73#0/\m<17#0/\∀D H',ah H H'->H' D=1#(dF (λx=>g.N.dg m x) p)->Q (.ref D) H')
def G6:Sp:=84#(∃(S:Int) (m:Nat),vs=[.ref w,.int S]/\S=(m:Int)/\73#0/\m<17#0/\∀H',ah H H'->Q (40#(RM.cnt (g.N.root (λk=>2#0) ts.length) p:Nat)) H')
def Ox:Sp:=84#(vs=[.ref w]/\73#0/\∀H',ah H H'->Q (40#g.N.aJ.length) H')
def Oz:Sp:=84#(∃(S:Int) (m:Nat),vs=[.ref w,.int S]/\S=(m:Int)/\73#0/\m<17#0/\∀H' (d:Bool),ah H H'->(d=true↔g.N.Ring m)->Q (.bl d) H')
def OA{N:RM.Net}{m x:Nat}(k:Nat):RM.cnt (λj=>m.testBit j&&N.inc j x) (k+1)=RM.cnt (λj=>m.testBit j&&N.inc j x) k+if(2#0&&N.inc k x)=true then 1 else 0:=rfl
def OB(x u v:Nat):Vy (.int (x:Int)) [.int (u:Int),.int (v:Int)]=7#(u=x\/v=x):=by
 have e:([.int (u:Int),.int (v:Int)]:List V)=aA [u,v]:=rfl;rw[e,Dw];refine K?.mpr ?_;simp[eq_comm]
def E3{f:Nat->Nat}{n u v:Nat}:(dF f n).set u (.int (v:Int))=dF (λx=>if x=u then v else f x) n:=by
 unfold dF;refine List.ext_getElem? λi=>?_
 rw[List.getElem?_set,c!]
 by_cases e:u=i
 .subst e;rw[ο rfl,χ,y!]
  by_cases h:u<n
  .rw[ο h,c!,o_ h];simp
  .rw[ξ h,c!,_d (by rw[y!];lia)]
   rfl
 .rw[ξ e,c!]
  by_cases h:i<n
  .rw[o_ h];simp[show ¬ i=u from λz=>e z.symm]
  .rw[_d (by rw[y!];lia)]
   rfl
def K8{f g:Nat->Int}{n:Nat}(h:∀i,i<n->f i=g i):PyProof.Rows.firstMet f n=PyProof.Rows.firstMet g n:=by
 unfold PyProof.Rows.firstMet;rw[L_ λi hi=>h i (A!.mp hi)]
def gq:Ok T T.kr 1 K7:=by
 refine T.kr.ok mJ 4#0
 .obtain⟨wb,p,ts,g,S,m,rfl,rfl,hw,hm,q⟩:=h;refine⟨_,(ae (bu 2 mJ.nd (au wZ (cy (bE aq)) 25#0))
   (ae (cM PassesOwn.never rfl (44#(30#25#0)) (aQ 3 mJ.nd)
   (ak (bx (aG eK (au bh (au oG (pv 1) (pv 3)) aq) aq (aF _)) (ae (qQ (au cI (aZ (kE K) (pv 2) (cA K (aZ (mj K) 25#0 (pv 3)))) aq) (wU (pv 2) (cA K (aZ (mj K) 25#0 (pv 3))) set_list))
   (ak (qQ (au cI (aZ (kE K) (pv 2) (cA K (aZ (mj K) 25#0 (pv 3)))) aq) (wU (pv 2) (cA K (aZ (mj K) 25#0 (pv 3))) set_list)))) aN)))
   (ak (aB (pv 2))))),?_⟩
  refine qM ?_;intro b8 cB c9 dU eI;show 38;have qt:=h3.length;have wl:=g.len;have wp:=g.p2;refine 29#(λc hc=>?_)
  have s1:ah H (η H c (.lst [.int 0])):=ah.new hc;have hc1:η H c (.lst [.int 0]) c=1#([.int 0]):=aa;generalize η H c (.lst [.int 0])=H1 at s1 hc1;refine 14#(bC 36#(s1 _ _ h1) je ⟨c,(p:Int),af rfl ⟨rfl,hc1,by lia,by lia,(by rw[a!];show 1*p<=sizeLine;exact dl (S!.mpr (by lia))),λe he=>?_⟩⟩)
  have XN:H e=none:=s1.free he;have s2:=s1.trans (ah.new (o:=.lst (List.replicate (p:Int).toNat [V.int 0]).flatten) he);have P4:η H1 e (.lst (List.replicate (p:Int).toNat [V.int 0]).flatten) e=1#(dF (λ_=>0) p):=by
   rw[aa,a!,Dv]
  generalize η H1 e (.lst (List.replicate (p:Int).toNat [V.int 0]).flatten)=H2 at s2 P4;refine 14#(bC 36#(s2 _ _ h1) fB (kZ rfl (.inr 36#(s2 _ _ h2)) 28#⟨(by lia),(by lia),?_⟩))
  refine cF (lo:=0) (n:=(xs.length:Int).toNat) (λk σ H3=>∃v3,σ=[11#wb,3#(m:Int),some (.ref e),v3]/\ah H H3/\H3 e=1#(dF (λx=>RM.cnt (λj=>m.testBit j&&g.N.inc j x) k) p)) ⟨none,rfl,s2,P4⟩ ?_ ?_
  .rintro k D' σ H3 hk ⟨v3,rfl,s3,KR⟩;rw[a!]at hk;rw[K!];have kD:k<ts.length:=by lia
   obtain⟨ct,ex,hct⟩:=nk (g:=g) h3 kD;have ha:g.N.a k<p:=g.N.al k kD;have hb:g.N.b k<p:=g.N.bl k kD;have ne:g.N.a k≠g.N.b k:=g.N.ne k kD;refine(0#(br ⟨(by lia),br ⟨(h8 rfl),rfl,af rfl (?_)⟩⟩))
   rw[a!,Bo,gU];cases we:2#0 with
   | false =>
     refine cJ 14#⟨s3,?_⟩;rw[KR]
     congr 2
     refine xq λx _=>?_
     rw[OA,we];rfl
   | true =>
     generalize hF:(λx=>RM.cnt (λj=>m.testBit j&&g.N.inc j x) k)=F at KR
     refine cY (0#(bC 36#(s3 _ _ h1) fB 14#(bC 36#(s3 _ _ h2) (ay (j:=k) ex) (bC 36#(s3 _ _ hct) je (jM (aM.of KR) (ay (c5 ha)) (br (?_)))))));refine(0#(bC 36#(s3 _ _ h1) fB 14#(bC 36#(s3 _ _ h2) (ay (j:=k) ex) (bC 36#(s3 _ _ hct) je ⟨e,_,_,g.N.a k,rfl,rfl,KR,nj (by rw[cE];exact ha),?_⟩))))
     have e4:(dF F p).set (g.N.a k) (40#((F (g.N.a k):Nat)+1))=dF (λx=>if x=g.N.a k then F (g.N.a k)+1 else F x) p:=by
      rw[<-E3];rfl
     dsimp only;rw[e4];have s4:ah H (η H3 e 46#(dF (λx=>if x=g.N.a k then F (g.N.a k)+1 else F x) p)):=s3.put XN
     have Zl:η H3 e 46#(dF (λx=>if x=g.N.a k then F (g.N.a k)+1 else F x) p) e=_:=aa
     generalize η H3 e 46#(dF (λx=>if x=g.N.a k then F (g.N.a k)+1 else F x) p)=H4 at s4 Zl
     generalize Rg:(λx=>if x=g.N.a k then F (g.N.a k)+1 else F x)=F2 at Zl
     refine(0#(bC 36#(s4 _ _ h1) fB 14#(bC 36#(s4 _ _ h2) (ay (j:=k) ex) (bC 36#(s4 _ _ hct) fB (jM (aM.of Zl) (ay (c5 hb)) (br (?_)))))));refine(0#(bC 36#(s4 _ _ h1) fB 14#(bC 36#(s4 _ _ h2) (ay (j:=k) ex) (bC 36#(s4 _ _ hct) fB ⟨e,_,_,g.N.b k,rfl,rfl,Zl,nj (by rw[cE];exact hb),?_⟩))))
     refine 14#⟨s4.put XN,?_⟩;rw[aa];have e5:(dF F2 p).set (g.N.b k) (40#((F2 (g.N.b k):Nat)+1))=dF (λx=>if x=g.N.b k then F2 (g.N.b k)+1 else F2 x) p:=by
      rw[<-E3];rfl
     dsimp only;rw[e5]
     congr 2
     refine xq λx _=>?_
     rw[OA,we,D?,show RM.cnt (λj=>m.testBit j&&g.N.inc j x) k=F x from congrFun hF x]
     unfold RM.Net.inc;have f2:∀y,F2 y=if y=g.N.a k then F (g.N.a k)+1 else F y:=λy=>(congrFun Rg y).symm
     by_cases e1:x=g.N.b k
     .rw[ο e1,f2,ξ (λz:g.N.b k=g.N.a k=>ne z.symm),e1,eV ne,cH rfl]
      rfl
     .rw[ξ e1,f2,eV (λz:g.N.b k=x=>e1 z.symm),T!]
      by_cases e2:x=g.N.a k
      .rw[ο e2,e2,cH rfl];rfl
      .rw[ξ e2,eV (λz:g.N.a k=x=>e2 z.symm)]
       rfl
  .rintro σ H3 ⟨v3,rfl,s3,KR⟩;rw[a!,qt]at KR;exact 14#(q e H3 s3 KR)
def gr:Ok T T.ku 1 G6:=by
 refine T.ku.ok gJ 4#0
 .obtain⟨wb,p,ts,g,S,m,rfl,rfl,hw,hm,q⟩:=h;refine⟨_,(ae (dD (i:=2) gJ.nd rfl (Or.inr rfl) (aY (own:=["point"]) (fq:=[]) (js:=[]) (az (ai iU) ["web","some","marks","k","old"]) rfl (44#25#0) 8#(aQ 0 (ig ["point"])) 65#0 8#(pv 0)))
   (ae (cM PassesOwn.never rfl (44#(30#25#0)) (ng (i:=3) gJ.nd rfl (Or.inr rfl))
   (ak (bx (aG eK (au bh (au oG (pv 1) (pv 3)) aq) aq (aF _)) (ae (dD (i:=4) gJ.nd rfl (Or.inr rfl) (aZ (kE K) (pv 2) (cA K (aZ (mj K) 25#0 (pv 3)))))
   (ak (dD (i:=2) gJ.nd rfl (Or.inr rfl) (aY (own:=["mark"]) (fq:=["web","marks","k","old"]) (js:=[0,2,3,4]) (az (ai iU) ["web","some","marks","k","old"]) rfl (oh K (pv 2)) 8#(aQ 0 (ig ["mark","web","marks","k","old"])) 65#0 8#(aZ (kE K) (cy 51#(aZ (kE K) (pv 2) (cA K (aZ (mj K) (cA K (pv 1)) (pv 3))))) (bQ tP (by rfl) T.N9 adZ (bE (cK eK (pv 0) (pv 4) (aF _))))))))) aN)))
   (ak (aB (bY Tv (by rfl) T.bT PySem.boot_len (bE (bQ (aal K rfl) (by rfl) T.XI PyProof.Rows.boot_set (bE (pv 2))))))))),?_⟩
  refine qM ?_;intro b8 cB c9 dU eI;show 38;have qt:=h3.length;have wl:=g.len;have wp:=g.p2;refine 14#(bC (aL.of h1) je 28#⟨(by lia),(by lia),λM hM=>cP (lo:=0) (m:=p) (xr (λx=>x) H M) (.start hM) (λi acc H3 _ pd=>pd.len) (cD (by lia)) ?_ ?_⟩)
  .intro i acc H3 hi pd;rw[K!];exact 15#(pd.next hM (ah.refl _) rfl)
  intro acc H1 pd;have hM1:H1 M=1#(dF (λx=>x) p):=by rw[pd.2.1,pd.2.2]
  have s1:=pd.1;clear pd;refine 14#(bC 36#(s1 _ _ h1) fB (kZ rfl (.inr 36#(s1 _ _ h2)) 28#⟨(by lia),(by lia),?_⟩))
  refine cF (lo:=0) (n:=(xs.length:Int).toNat) (λk σ H3=>∃M v3 v4 L,σ=[11#wb,3#(m:Int),some (.ref M),v3,v4]/\ah H H3/\H3 M=1#(dF L p)/\RM.xY g.N (λk=>2#0) L k) ⟨M,none,none,_,rfl,s1,hM1,RM.xY.start⟩ ?_ ?_
  .rintro k D' σ H3 hk ⟨M,v3,v4,L,rfl,s3,U3,rel⟩;rw[a!]at hk;rw[K!];have kD:k<ts.length:=by lia
   obtain⟨ct,ex,hct⟩:=nk (g:=g) h3 kD;have ha:g.N.a k<p:=g.N.al k kD;have hb:g.N.b k<p:=g.N.bl k kD;refine(0#(br ⟨(by lia),br ⟨(h8 rfl),rfl,af rfl (?_)⟩⟩))
   rw[a!,Bo,gU];cases we:2#0 with
   | false=>exact cJ ⟨M,_,_,L,rfl,s3,U3,rel.skip we⟩
   | true =>
     refine cY (0#(bC 36#(s3 _ _ h1) fB 14#(bC 36#(s3 _ _ h2) (ay (j:=k) ex) (bC 36#(s3 _ _ hct) fB (jM (aM.of U3) (ay (c5 hb)) (?_))))));refine 14#⟨M,rfl,24#U3,λM2 Rc=>aU (xs:=dF L p) (xr (RM.TL L (g.N.a k) (g.N.b k)) H3 M2) (.start Rc) (λi acc H4 _ pd=>⟨aM.of (pd.1 _ _ U3),pd.len⟩) (by rw[cE];exact dl (S!.mpr (by lia))) ?_ ?_⟩
     .intro i x acc H4 hx pd;obtain⟨hi,rfl⟩:=lP hx;have s4:=s3.trans pd.1;refine 47#0#14#(bC 36#(s4 _ _ h1) fB 28#(bC 36#(s4 _ _ h2) (ay (j:=k) ex) (bC 36#(s4 _ _ hct) je (jM (aM.of (pd.1 _ _ U3)) (ay (c5 ha)) 29#(λl hl=>?_)))))
      refine(0#47#(.inr (af rfl (?_))));rw[lQ]
      by_cases e:L i=L (g.N.b k)
      .rw[cH e];exact(jM (aM.of aa) fB (pd.next Rc (ah.new hl) (by unfold RM.TL;rw[ο e])))
      .rw[eV e];exact(jM (aM.of aa) je (pd.next Rc (ah.new hl) (by unfold RM.TL;rw[ξ e])))
     .intro acc H4 pd;rw[cE]at pd;exact⟨M2,_,_,_,rfl,s3.trans pd.1,by rw[pd.2.1,pd.2.2],rel.put kD we⟩
  .rintro σ H3 ⟨M,v3,v4,L,rfl,s3,U3,rel⟩;rw[a!,qt]at rel;have ens:dF L p=((13#p).map λx=>6#(L x)).map V.int:=by
    unfold dF;rw[X!];rfl
   refine 14#⟨M,(13#p).map (λx=>6#(L x)),rfl,aM.of (by rw[U3,ens]),by rw[χ,y!];lia,λl S hl=>⟨l,S,_,rfl,aa,?_⟩⟩
   rw[χ,y!,K8 (g:=λi=>6#(L i)) (λi hi=>by rw[w!,c!,o_ hi];rfl)]
   have e:=RM.QB (N:=g.N) (L:=L) rel;have e:58#(PyProof.Rows.firstMet (λi=>6#(L i)) p)=_:=e
   rw[e];exact q _ (s3.trans (ah.new hl))
def rM:Ok T T.rG 2 Ox:=by
 have gr:=gr T;refine T.rG.ok Eo 4#0
 .obtain⟨wb,p,ts,g,rfl,hw,q⟩:=h;refine⟨_,(ak (aB (au cI (au gx (30#25#0) 25#0) (aD gr hr T.ku.c aK 51#(au gx (au h7 aq (30#25#0)) aq))))),?_⟩;show 38;have qt:=h3.length;have wl:=g.len;have pos:=R! ts.length;refine 14#(bC (aL.of h1) fB (kZ rfl (.inr (aL.of h2)) 28#(bC (aL.of h1) je (br (?_)))));refine(0#(bC (aL.of h1) fB (kZ rfl (.inr (aL.of h2)) (br ⟨⟨by lia,by lia,16#0⟩,br ⟨wb,p,ts,g,_,17#0-1,rfl,?_,hw,by lia,λH1 s1=>(br (?_))⟩⟩))))
  .rw[iO,qt]
   lia
  .have e:(xs.length:Int)-(p:Int)+6#(RM.cnt (g.N.root (λk=>(17#0-1).testBit k) ts.length) p)=(g.N.aJ.length:Int):=by
    rw[qt,<-HX (g:=g)];unfold fK;rw[RM.iA];rfl
   dsimp only;rw[e];exact q H1 s1
def jv:Ok T T.nV 2 Oz:=by
 have gr:=gr T;have gq:=gq T;refine T.nV.ok vE 4#0
 .obtain⟨wb,p,ts,g,S,m,rfl,rfl,hw,hm,q⟩:=h;refine⟨_,(ae (bu 2 vE.nd (aD gq hr T.kr.c aK 51#(pv 1)))
   (ae (bx (PW.pt (jA (aG HC (pv 1) aq (aF _)) (iK (aG vp (30#(aY (own:=["count"]) (fq:=[]) (js:=[]) (az (ai k8) ["web","some","counts"]) rfl (oh K (pv 2)) 8#(aQ 0 (ig ["count"])) 8#(gR (aG (L0 K) (pv 0) (b9 (bS aq aq)) (83#0))) 8#(pv 0))) aq (aF _))))) (ak (aB dI)) aN)
   (ak (aB (cK eK (aD gr hr T.ku.c aK 51#(pv 1)) (au cI (au gx 25#0 (30#(aY (own:=["count"]) (fq:=[]) (js:=[]) (az (ai k8) ["web","some","counts"]) rfl (oh K (pv 2)) 8#(aQ 0 (ig ["count"])) 8#(gR (aG eK (pv 0) aq (aF _))) 8#(pv 0)))) aq) (aF _)))))),?_⟩
  refine Er ?_;intro b8 cB c9;show 38;have wp:=g.p2;refine(0#⟨wb,p,ts,g,_,m,rfl,rfl,hw,hm,λD H1 s1 rf=>?_⟩)
  refine 14#(br 28#(iI (λh0=>?_) (λh0=>?_)))
  .have h0:(m:Int)<=0:=jz h0;exact q H1 false s1 ⟨60#0,λr=>absurd (show m=0 by lia) r.1⟩
  have h0:m≠0:=λz=>h0 (cH (show(m:Int)<=0 by lia))
  refine 14#⟨D,rfl,24#rf,λC hC=>aU (xs:=dF (λx=>g.N.dg m x) p) (λi acc H2=>ah H1 H2/\H2 C=1#acc/\acc.length=RM.cnt (λx=>! 7#(0=g.N.dg m x\/2=g.N.dg m x)) i) 68#hC (λi acc H2 _ f=>⟨aM.of (f.1 _ _ rf),f.2.1,by have:=RM.lN (λx=>! 7#(0=g.N.dg m x\/2=g.N.dg m x)) i;have:=f.2.2;lia⟩) (cD (by rw[cE];lia)) ?_ ?_⟩
  .rintro i x acc H2 hx ⟨s2,Ff,al⟩;obtain⟨hi,rfl⟩:=lP hx;refine 15#29#(λu hu=>(kZ rfl (.inr (aL.of aa)) ⟨rfl,rfl,af rfl (?_)⟩))
   have e:Vy (.int 6#(g.N.dg m i)) [.int 0,.int 2]=7#(0=g.N.dg m i\/2=g.N.dg m i):=OB _ 0 2;have hc1:RM.cnt (λx=>! 7#(0=g.N.dg m x\/2=g.N.dg m x)) (i+1)=RM.cnt (λx=>! 7#(0=g.N.dg m x\/2=g.N.dg m x)) i+if(! 7#(0=g.N.dg m i\/2=g.N.dg m i))=true then 1 else 0:=rfl
   dsimp only;rw[ο rfl,e];have hCu:C≠u:=aX Ff hu;cases hb:7#(0=g.N.dg m i\/2=g.N.dg m i) with
   | false =>
     rw[hb]at hc1;refine cY 14#⟨by rw[ao hCu];exact Ff,(s2.trans (ah.new hu)).put hC,aa,?_⟩
     rw[k!,hc1,al];rfl
   | true =>
     rw[hb]at hc1;exact cJ ⟨s2.trans (ah.new hu),by rw[ao hCu];exact Ff,by rw[hc1,al];rfl⟩
  rintro acc H2 ⟨s2,Ff,al⟩;rw[cE]at al;have s12:=s1.trans s2;refine(kZ rfl (.inl (aM.of Ff)) (br 14#(iI (λhpos=>?_) (λhpos=>?_))))
  .have hpos:(0:Int)<(acc.length:Int):=jz hpos;refine q H2 false s12 ⟨60#0,λr=>?_⟩
   obtain⟨x,hx,hf⟩:=RM.oR (show 0<RM.cnt _ p by rw[<-al];lia)
   have d2:=RM.Qv hm r x hx;rw[P_,decide_eq_false_iff_not]at hf;exact absurd (d2.imp Eq.symm Eq.symm) hf
  have d2:g.N.D2 m:=λx hx=>by
   apply Z!;intro hn;have:=RM.sE (f:=λx=>! 7#(0=g.N.dg m x\/2=g.N.dg m x)) (k:=x) (by
    rw[P_,decide_eq_false_iff_not];exact λz=>hn (z.imp Eq.symm Eq.symm)) (show x<p from hx)
   exact hpos (cH (show(0:Int)<(acc.length:Int) by lia))
  refine(0#⟨wb,p,ts,g,_,m,rfl,rfl,hw.same s12,hm,λH3 s3=>?_⟩)
  have mO:=s12.trans s3;have qw:=(s2.trans s3) _ _ rf;refine 14#(bC 36#(mO _ _ h1) je (?_));refine 14#⟨D,rfl,24#qw,λC2 Ff=>aU (xs:=dF (λx=>g.N.dg m x) p) (λi acc H4=>ah H3 H4/\H4 C2=1#acc/\acc.length=RM.cnt (λx=>7#(g.N.dg m x=2)) i) 68#Ff (λi acc H4 _ f=>⟨aM.of (f.1 _ _ qw),f.2.1,by have:=RM.lN (λx=>7#(g.N.dg m x=2)) i;have:=f.2.2;lia⟩) (cD (by rw[cE];lia)) ?_ ?_⟩
  .rintro i x acc H4 hx ⟨s4,Rh,Zm⟩;obtain⟨hi,rfl⟩:=lP hx;refine 15#47#(af rfl (?_));have hc1:RM.cnt (λx=>7#(g.N.dg m x=2)) (i+1)=RM.cnt (λx=>7#(g.N.dg m x=2)) i+27#7#(g.N.dg m i=2):=rfl
   have e:decide (V.int 6#(g.N.dg m i)=V.int 2)=7#(g.N.dg m i=2):=lQ _ 2;rw[e];cases hb:7#(g.N.dg m i=2) with
   | true =>
     rw[hb]at hc1;refine 14#⟨Rh,s4.put Ff,aa,?_⟩;rw[k!,hc1,Zm];rfl
   | false =>
     rw[hb]at hc1;exact⟨s4,Rh,by rw[hc1,Zm];rfl⟩
  .rintro acc H4 ⟨s4,Rh,Zm⟩;rw[cE]at Zm;refine(kZ rfl (.inl (aM.of Rh)) (br (br 47#(q H4 _ (mO.trans s4) ?_))));have h:=RM.M7 hm h0 d2;have hcc:RM.cnt (λx=>7#(g.N.dg m x=2)) p<=p:=by have:=RM.lN (λx=>7#(g.N.dg m x=2)) p;lia
   rw[h,j?]
   constructor
   .intro e;have e:=V.int.inj e;show RM.cnt (g.N.root (λk=>2#0) ts.length) p+RM.cnt (λx=>7#(g.N.dg m x=2)) p=p+1
    lia
   .intro e;have e:RM.cnt (g.N.root (λk=>2#0) ts.length) p+RM.cnt (λx=>7#(g.N.dg m x=2)) p=p+1:=e
    exact n! V.int (by lia)
def OD:Sp:=84#(∃(S:Int) (m:Nat),vs=[.ref w,.int S]/\S=(m:Int)/\73#0/\m<17#0/\∀H' (d:Bool),ah H H'->(d=true↔g.N.dm m)->Q (.bl d) H')
def rN:Ok T T.rH 2 OD:=by
 have gq:=gq T;refine T.rH.ok Ep 4#0
 .obtain⟨wb,p,ts,g,S,m,rfl,rfl,hw,hm,q⟩:=h;refine⟨_,(ak (aB (cK (L0 K) aq (aY (own:=["count"]) (fq:=[]) (js:=[]) (az (ai nH) ["web","some"]) rfl (oh K (aD gq hr T.kr.c aK 51#(pv 1))) 8#(aQ 0 (ig ["count"])) 65#0 8#(au bh (pv 0) aq)) (83#0)))),?_⟩
  have wp:=g.p2;refine(0#⟨wb,p,ts,g,_,m,rfl,rfl,hw,hm,λD H1 s1 rf=>?_⟩)
  refine⟨D,rfl,24#rf,λC hC=>aU (K:=K) (a:=D) (xs:=dF (λx=>g.N.dg m x) p) (λi acc H2=>ah H1 H2/\H2 C=1#acc/\acc=aA ((13#i).map λx=>g.N.dg m x%2)) 68#hC (λi acc H2 _ z=>⟨aM.of (z.1 _ _ rf),z.2.1,by rw[z.2.2,av,χ,y!];exact Z' _⟩) (cD (by rw[cE];lia)) ?_ ?_⟩
  .rintro i x acc H2 hx ⟨s2,Ff,rfl⟩;obtain⟨hi,rfl⟩:=lP hx;refine 15#(br ⟨(h8 rfl),Ff,s2.put hC,aa,?_⟩);rw[C?,g!,A_,bU];rfl
  .rintro acc H2 ⟨s2,Ff,rfl⟩;refine(kZ rfl (.inl (aM.of Ff)) ⟨rfl,Jt _,?_⟩);rw[cE,ο rfl];refine q H2 _ (s1.trans s2) ?_;rw[show(V.int 1)=V.int ((1:Nat):Int) from rfl,Dw,P_,decide_eq_false_iff_not]
   refine⟨λh x hx=>?_,λh z=>?_⟩
   .rw[RM.Ie];refine eV λe=>h (d!.mpr ⟨x,A!.mpr hx,e⟩)
   .obtain⟨x,hx,e⟩:=d!.mp z;have:=h x (A!.mp hx);rw[RM.Ie]at this;exact of_decide_eq_false this e
def OE:Sp:=84#(∃(S:Int) (m:Nat),vs=[.ref w,.int S]/\S=(m:Int)/\73#0/\m<17#0/\∀H',ah H H'->Q (.int (Δ ts m)) H')
def cT:Ok T T.ir 1 OE:=by
 refine T.ir.ok Es 4#0
 .obtain⟨wb,p,ts,g,S,m,rfl,rfl,hw,hm,q⟩:=h;refine⟨_,(ak (aB (bY (sumK K rfl) (by rfl) T.Sd PyProof.Rows.boot_sum (bE (aY (own:=["k"]) (fq:=["web","some"]) (js:=[0,1]) (az (ai nJ) ["web","some"]) rfl (44#(30#25#0)) 8#(aQ 0 (ig ["k","web","some"])) 8#(gR (aG eK (au bh (au oG (pv 2) (pv 0)) aq) aq (aF _))) 8#(cA K (aZ (mj K) (cA K (pv 1)) (pv 0)))))))),?_⟩
  show 38;have qt:=h3.length;have wl:=g.len;refine 14#(bC (aL.of h1) fB (kZ rfl (.inr (aL.of h2)) 28#⟨(by lia),(by lia),λD hD=>cP (lo:=0) (m:=xs.length) (λi acc H2=>ah H H2/\H2 D=1#acc/\acc=(((13#i).filter (λk=>2#0)).map λk=>(bG ts k).2.2).map V.int) 68#hD (λi acc H2 _ z=>⟨z.2.1,by rw[z.2.2,χ,χ];exact D! (b? _ _) (by rw[y!];exact Z' _)⟩) (cD (by lia)) ?_ ?_⟩))
  .rintro i acc H2 hi ⟨s2,ie,rfl⟩;rw[K!];obtain⟨c,hxc,hct⟩:=nk (g:=g) h3 (show i<ts.length by lia)
   refine 47#0#(br ⟨(by lia),br ⟨(h8 rfl),rfl,af rfl (?_)⟩⟩)
   rw[a!,Bo,gU];cases hb:m.testBit i with
   | true =>
     refine 14#(bC 36#(s2 _ _ h1) fB 28#(bC 36#(s2 _ _ h2) (ay (j:=i) hxc) (bC 36#(s2 _ _ hct) (ay (j:=2) rfl) ⟨ie,s2.put hD,aa,?_⟩)));rw[bj,ο hb,g!,g!];rfl
   | false =>
     refine⟨s2,ie,?_⟩;rw[bj,ξ (by rw[hb];decide),f_]
  .rintro acc H2 ⟨s2,ie,rfl⟩;refine⟨D,_,rfl,aM.of ie,?_⟩;have e:Δ ts m=(((13#xs.length).filter (λk=>2#0)).map λk=>(bG ts k).2.2).sum:=by
    unfold Δ;rw[kR hm,qt]
   rw[<-e];exact q H2 s2
def OF:Sp:=λvs H Q _=>∃(x y:Nat),vs=[.int (x:Int),.int (y:Int)]/\∀v:Bool,(∀d,x&&&y<2^d->v=RM.bI (λj=>69#(x&&&y)) d)->Q (.bl v) H
def kM:Ok T T.qo 1 OF:=by
 refine T.qo.ok k9 4#0
 .obtain⟨x,y,rfl,q⟩:=h;refine⟨_,(ae (bu 2 k9.nd (au Ba (pv 0) (pv 1)))
   (ae (bu 3 k9.nd aq)
   (ae (rT PassesOwn.never (aG vp (pv 2) aq (aF _)) (ae (bu 3 k9.nd (au gx aq (pv 3)))
   (ak (bu 2 k9.nd (au Ba (pv 2) (au gx (pv 2) aq))))))
   (ak (aB (cK eK (pv 3) aq (aF _))))))),?_⟩
  refine Gv ?_;intro b8 cB c9 dU eI;refine(0#(br (?_)));have e0:Builtin.bitAnd (x:Int) (y:Int)=6#(x&&&y):=and_int x y;refine⟨λk σ H2=>∃(n:Nat) (c:Bool),σ=[3#(x:Int),3#(y:Int),3#(n:Int),3#(c.toNat:Int)]/\H2=H/\(∀d,x&&&y<2^d->n<2^d/\RM.bI (λj=>69#(x&&&y)) d=(c^^RM.bI (λj=>n.testBit j) d))/\n=k,⟨x&&&y,x&&&y,false,?_,rfl,λd hd=>⟨hd,by rw[u?]⟩,rfl⟩,?_⟩
  .show[_,_,some (V.int (Builtin.bitAnd (x:Int) (y:Int))),_]=_;rw[e0];rfl
  rintro k σ H2 ⟨n,c,rfl,rfl,hc,rfl⟩;refine 14#(br 28#(iI (λhpos=>?_) (λhpos=>?_)))
  .have hpos:(0:Int)<((n:Nat):Int):=jz hpos;have hlt:n&&&(n-1)<n:=by
    have:=Nat.and_le_right (n:=n) (m:=n-1)
    lia
   refine⟨λσ H3=>∃(n' : Nat) (c:Bool),σ=[3#(x:Int),3#(y:Int),3#(n' : Int),3#(c.toNat:Int)]/\H3=H2/\(∀d,x&&&y<2^d->n'<2^d/\RM.bI (λj=>69#(x&&&y)) d=(c^^RM.bI (λj=>n'.testBit j) d))/\n'<n,λσ H3 ⟨n',c,z1,z2,z3,z4⟩=>⟨n',z4,n',c,z1,z2,z3,rfl⟩,?_⟩
   refine 14#(br (0#(br (br ⟨n&&&(n-1),! c,?_,rfl,λd hd=>?_,hlt⟩))))
   .show[_,_,some (V.int (Builtin.bitAnd (n:Int) ((n:Int)-1))),some (V.int (1-(c.toNat:Int)))]=_;rw[show(n:Int)-1=6#(n-1) by lia,and_int]
    cases c<;>rfl
   .obtain⟨h1,h2⟩:=hc d hd;refine⟨by lia,?_⟩
    rw[h2,RM.QC d n (by lia) h1]
    cases c<;>cases RM.bI (λj=>n.testBit j) d<;>rfl
  .have hz:n=0:=by
    have : ¬(0:Int)<((n:Nat):Int):=λz=>hpos (cH z)
    lia
   subst hz;have ec:7#(V.int (c.toNat:Int)=V.int 1)=c:=by
    cases c
    .rfl
    .rfl
   refine 14#⟨rfl,?_⟩;rw[ec];refine q c λd hd=>?_
   rw[(hc d hd).2,RM.fT λk _=>L? k,T!]
def i8(kept:List Nat):List (Nat×Nat):=kept.map λb=>(b.log2,b)
def OG:Sp:=λvs H Q _=>∃(l:Addr) (kept:List Nat) (x:Nat),vs=[.ref l,.int (x:Int)]/\H l=1#(aA kept)/\(∀b∈kept,b≠0)/\kept.length<=300/\
 (RM.jR (i8 kept) x=0->Q (.bl false) H)/\(RM.jR (i8 kept) x≠0->Q (.bl true) (η H l 46#(aA (kept++[RM.jR (i8 kept) x]))))
def K9:Sp:=λvs H Q _=>∃(l:Addr) (B:List Nat),vs=[.ref l]/\H l=1#(aA B)/\B.length<=200/\∀D C H',H D=none->ah H H'->H' D=1#(aA C)->RM.yp B C->Q (.ref D) H'
def OH{rows:List (Nat×Nat)}(h:RM.MQ rows){t r:Nat}(ht:r.testBit t=true)(hz:∀q∈rows,r.testBit q.1=false):RM.MQ (rows++[(t,r)]):=by
 induction h with
 | nil=>exact .cons .nil ht (λq hq=>nomatch hq)
 | cons h hr hz' ih =>
   rename_i t' r' rest
   refine .cons (ih λq hq=>hz q (lG _ hq)) hr λq hq=>?_
   rcases t!.mp hq with hq|hq
   .exact hz' q hq
   .have e:q=(t,r):=by simpa using hq
    rw[e];exact hz (t',r') o!
def E4(kept:List Nat):(i8 kept).map (·.2)=kept:=by
 unfold i8;rw[X!];exact I_ kept
def A5(kept:List Nat)(y:Nat):i8 (kept++[y])=i8 kept++[(y.log2,y)]:=by
 unfold i8;rw[g!];rfl
structure Lu(B kept:List Nat):Prop where
 M3:RM.MQ (i8 kept)
 nz:∀b∈kept,b≠0
 span:∀x,RM.Sp kept x↔RM.Sp B x
 le:kept.length<=B.length
 len:kept.length=B.length↔RM.MZ B
def Lu.start:Lu [] []:=⟨.nil,(λb hb=>nomatch hb),λ_=>Iff.rfl,Z' _,⟨λ_ i b h=>by simp at h,λ_=>rfl⟩⟩
def Lu.zero{B kept:List Nat}(h:Lu B kept)(x:Nat):RM.jR (i8 kept) x=0↔RM.Sp B x:=by
 rw[RM.AH h.M3,E4];exact h.span x
def Lu.skip{B kept:List Nat}{b:Nat}(h:Lu B kept)(hz:RM.jR (i8 kept) b=0):Lu (B++[b]) kept:=by
 have hs:=(h.zero b).mp hz;refine⟨h.M3,h.nz,λx=>?_,?_,?_⟩
 .rw[h.span]
  constructor
  .exact λz=>z.mono λc hc=>.mem (Lf _ hc)
  .refine λz=>z.mono λc hc=>?_
   rcases t!.mp hc with hc|hc
   .exact .mem hc
   .have e:c=b:=by simpa using hc
    rw[e];exact hs
 .rw[k!];have:=h.le
  lia
 .rw[k!,RM.um];have:=h.le;exact⟨λe=>by have:([b]:List Nat).length=1:=rfl;lia,λz=>absurd hs z.2⟩
def Lu.put{B kept:List Nat}{b:Nat}(h:Lu B kept)(hz:RM.jR (i8 kept) b≠0):Lu (B++[b]) (kept++[RM.jR (i8 kept) b]):=by
 have hs : ¬ RM.Sp B b:=λz=>hz ((h.zero b).mpr z)
 have vK:=RM.Bw (i8 kept) b;rw[E4]at vK;have hno:=RM.uf h.M3 b;generalize RM.jR (i8 kept) b=y at hz vK hno;refine⟨by rw[A5];exact OH h.M3 (RM.Bx hz) hno,λc hc=>?_,λx=>?_,?_,?_⟩
 .rcases t!.mp hc with hc|hc
  .exact h.nz c hc
  .have e:c=y:=by simpa using hc
   rw[e];exact hz
 .have Z6:RM.Sp (kept++[y]) y:=.mem (jL _ 31#0)
  have WQ:RM.Sp (B++[b]) b:=.mem (jL _ 31#0)
  constructor
  .refine λz=>z.mono λc hc=>?_
   rcases t!.mp hc with hc|hc
   .exact((h.span c).mp (.mem hc)).mono λd hd=>.mem (Lf _ hd)
   .have e:c=y:=by simpa using hc
    rw[e];have:=(((h.span _).mp vK).mono (C:=B++[b]) λd hd=>.mem (Lf _ hd)).xor WQ
    rwa [G_ b y,RM.jj]at this
  .refine λz=>z.mono λc hc=>?_
   rcases t!.mp hc with hc|hc
   .exact((h.span c).mpr (.mem hc)).mono λd hd=>.mem (Lf _ hd)
   .have e:c=b:=by simpa using hc
    rw[e];have:=(vK.mono (C:=kept++[y]) λd hd=>.mem (Lf _ hd)).xor Z6
    rwa [RM.jj]at this
 .rw[k!,k!];have:=h.le;exact Nat.add_le_add_right this 1
 .rw[k!,k!,RM.um];have h1:∀x:Nat,([x]:List Nat).length=1:=λ_=>rfl
  rw[h1,h1];have:=h.len;exact⟨λe=>⟨this.mp (by lia),hs⟩,λz=>by have:=this.mpr z.1;lia⟩
def La(rows:List (Nat×Nat))(q:Nat×Nat)(x:Nat):RM.jR (rows++[q]) x=if(RM.jR rows x).testBit q.1=true then RM.jR rows x^^^q.2 else RM.jR rows x:=by
 unfold RM.jR;rw[B_];rfl
def pV:Ok T T.pP 1 OG:=by
 refine T.pP.ok nK 4#0
 .obtain⟨l,kept,x,rfl,hl,nz,hk,q1,q2⟩:=h;refine⟨_,(ae (cM PassesOwn.never rfl (oh K (pv 0)) (aQ 2 nK.nd)
   (ak (bu 1 nK.nd (bY (Ac rfl) (by rfl) T.IC adY (bS (pv 1) (au iL (pv 1) (pv 2)))))))
   (ae (bx (aG eK (pv 1) aq (aF _)) (ak (aB dI)) aN)
   (ae (dB (Fc K (jY g? n? o? cN (pv 0) (bE (pv 1)))))
   (ak (aB dI))))),?_⟩
  refine BX ?_;intro b8 cB c9 dU eI;refine 14#⟨l,rfl,24#hl,fC (K:=K) (a:=l) (xs:=aA kept) (λi σ H2=>∃v2,σ=[some (.ref l),3#6#(RM.jR (i8 (kept.take i)) x),v2]/\H2=H) ⟨none,rfl,rfl⟩ (λi σ H2 _ ⟨_,_,z⟩=>by rw[z];exact aM.of hl) ?_ ?_⟩
  .rintro i y D' σ H2 hi ⟨v2,rfl,rfl⟩;obtain⟨b,hb,rfl⟩:=eT hi;refine(0#14#(br ⟨_,_,rfl,3#(b:Int),?_,rfl⟩));show[_,some (V.int (if Builtin.bitXor _ _<_ then Builtin.bitXor _ _ else _)),_]=_
   rw[xor_int,HY,RM.Qx (nz b (gB hb)),take3 hb,A5,La]
  .rintro σ H2 ⟨v2,rfl,rfl⟩;rw[av,H!];refine 14#15#(iI (λh0=>?_) (λh0=>?_))
   .have h0:=V.int.inj (jz h0);exact q1 (by lia)
   .have h0:RM.jR (i8 kept) x≠0:=λz=>h0 (cH (by rw[z];rfl))
    refine 14#⟨91#hl,af rfl ⟨l,_,_,rfl,rfl,hl,cZ (by rw[av];lia),?_⟩⟩
    have:=q2 h0;rw[bU]at this;exact this
def gu:Ok T T.kA 2 K9:=by
 have pV:=pV T;refine T.kA.ok qN 4#0
 .obtain⟨l,B,rfl,hl,hB,q⟩:=h;refine⟨_,(ae (dD (i:=1) qN.nd rfl (Or.inr rfl) (cy fO))
   (ak (aB (aY (own:=["some"]) (fq:=["kept"]) (js:=[1]) (az (ai ko) ["sets","kept"]) rfl (oh K (pv 0)) 8#(aQ 0 (ig ["some","kept"])) 8#(gR (cu (aD pV hr T.pP.c aK (bS (pv 1) (pv 0))))) 8#(pv 0))))),?_⟩
  refine my ?_;intro b8;refine 29#(λKp hKp=>?_)
  have s1:ah H (η H Kp (.lst [])):=ah.new hKp;have hK1:η H Kp (.lst []) Kp=1#(aA []):=aa;generalize η H Kp (.lst [])=H1 at s1 hK1;refine 14#⟨l,rfl,24#(s1 _ _ hl),λD hD=>aU (xs:=aA B) (λi acc H2=>∃kept C,ah H H2/\H2 Kp=1#(aA kept)/\H2 D=1#acc/\Lu (B.take i) kept/\acc=aA C/\RM.yp (B.take i) C) ⟨[],[],s1.trans (ah.new hD),ah.new hD _ _ hK1,aa,Lu.start,rfl,.nil⟩ ?_ (B! (cZ (by rw[av];lia))) ?_ ?_⟩
  .rintro i acc H2 hi ⟨kept,C,s2,Zn,ie,kp,rfl,ch⟩;refine⟨aM.of (s2 _ _ hl),ie,?_⟩;have:=ch.sub.length_le;rw[I!]at this;rw[av]
   lia
  .rintro i x acc H2 hx ⟨kept,C,s2,Zn,ie,kp,rfl,ch⟩;obtain⟨b,hb,rfl⟩:=eT hx;have xU:=(j7.mp hb).1;have tk:B.take (i+1)=B.take i++[b]:=take3 hb;have kD:kept.length<=300:=by have:=kp.le;rw[I!]at this;lia
   have YZ:D≠Kp:=(aX hK1 hD).symm;have O8:H D=none:=s1.free hD;refine 47#0#⟨Kp,kept,b,rfl,Zn,kp.nz,kD,λhz=>(af rfl (?_)),λhz=>(af rfl (?_))⟩
   .refine⟨kept,C,s2,Zn,ie,?_,rfl,?_⟩
    .rw[tk];exact kp.skip hz
    .rw[tk];exact .skip ch ((kp.zero b).mp hz)
   .have qw:η H2 Kp 46#(aA (kept++[RM.jR (i8 kept) b])) D=1#(aA C):=by rw[ao YZ];exact ie
    refine 14#⟨qw,kept++[RM.jR (i8 kept) b],C++[b],(s2.put hKp).put O8,by rw[ao YZ.symm,aa],aa,?_,(bU _ _).symm,?_⟩
    .rw[tk];exact kp.put hz
    .rw[tk];exact .put ch λz=>hz ((kp.zero b).mpr z)
  .rintro acc H2 ⟨kept,C,s2,Zn,ie,kp,rfl,ch⟩;rw[av,H!]at ch;exact q D C H2 (s1.free hD) s2 ie ch
def Ri:Sp:=84#(∃z:Nat,vs=[.ref w,.int (z:Int)]/\73#0/\Q (.int 6#(g.N.cut λx=>z.testBit x)) H)
def U4(z x y:Nat):(! 7#(V.int ((z:Int)/2^((x:Nat):Int).toNat%2)=V.int ((z:Int)/2^((y:Nat):Int).toNat%2)))=(z.testBit x^^z.testBit y):=by
 have e:∀x:Nat,(z:Int)/2^((x:Nat):Int).toNat%2=6#(z/2^x%2):=λx=>by
  rw[a!,Int.natCast_emod,Int.natCast_ediv,Int.natCast_pow];rfl
 have hb:∀x:Nat,z.testBit x=7#(z/2^x%2=1):=λx=>adP
 rw[e,e,hb,hb];have hx:z/2^x%2<2:=Nat.mod_lt _ (16#0)
 have hy:z/2^y%2<2:=Nat.mod_lt _ (16#0)
 generalize z/2^x%2=A at hx;generalize z/2^y%2=B at hy
 match A,B,hx,hy with
 | 0,0,_,_=>decide
 | 0,1,_,_=>decide
 | 1,0,_,_=>decide
 | 1,1,_,_=>decide
def lD:Ok T T.lA 1 Ri:=by
 refine T.lA.ok gY 4#0
 .obtain⟨wb,p,ts,g,z,rfl,hw,q⟩:=h;refine⟨_,(ae (bu 2 gY.nd aq)
   (ae (cM PassesOwn.never rfl (44#(30#25#0)) (aQ 3 gY.nd)
   (ak (bx (aG qD (au bh (au oG (pv 1) (cA K (aZ (mj K) 25#0 (pv 3)))) aq) (au bh (au oG (pv 1) (cA K (aZ (mj K) 25#0 (pv 3)))) aq) (aF _)) (ak (bu 2 gY.nd (au Hu (pv 2) (au h7 aq (pv 3))))) aN)))
   (ak (aB (pv 2))))),?_⟩
  refine vQ ?_;intro b8 cB c9 dU;show 38;have qt:=h3.length;have wl:=g.len;refine 14#(bC (aL.of h1) fB (kZ rfl (.inr (aL.of h2)) 28#⟨(by lia),(by lia),?_⟩))
  refine cF (lo:=0) (n:=(xs.length:Int).toNat) (λj σ H2=>∃v3,σ=[11#wb,3#(z:Int),3#6#(maskOf (λk=>z.testBit (g.N.a k)^^z.testBit (g.N.b k)) j),v3]/\H2=H) ⟨none,rfl,rfl⟩ ?_ ?_
  .rintro j D' σ H2 hj ⟨v3,rfl,rfl⟩;rw[a!,qt]at hj;rw[K!];obtain⟨c,hxc,hct⟩:=nk (g:=g) h3 hj;refine(0#(bC (aL.of h1) fB 14#(bC (aL.of h2) (ay (j:=j) hxc) (bC (aL.of hct) je (br ⟨?_,_,_,rfl,rfl,(h8 rfl),?_⟩)))))
   .exact z_ _
   refine(0#(bC (aL.of h1) fB 14#(bC (aL.of h2) (ay (j:=j) hxc) (bC (aL.of hct) fB (br ⟨?_,_,_,rfl,rfl,(h8 rfl),rfl,af rfl (?_)⟩)))))
   .exact z_ _
   have hm:=Qj (λk=>z.testBit (g.N.a k)^^z.testBit (g.N.b k)) j
   have eb:=U4 z (g.N.a j) (g.N.b j);dsimp only at hm ⊢;rw[eb];refine iI (λhy=>?_) (λhy=>?_)
   .rw[ο hy]at hm;refine(0#(br ⟨⟨by lia,by lia,16#0⟩,br (?_)⟩))
    refine⟨3#(j:Int),?_,rfl⟩;rw[<-hm,<-or_int,<-iO];rfl
   .rw[ξ hy,Nat.or_zero]at hm;exact⟨_,by rw[<-hm];rfl,rfl⟩
  .rintro σ H2 ⟨v3,rfl,rfl⟩;rw[a!,qt];exact(af rfl (q))
def Rj(t:Lr):G4:=((t.1:Int),(t.2.1:Int),t.2.2)
theorem CF{p:Nat}{H:Hp}:∀{ys:List V} {tr:List Lr},Paired (tI H) ys tr->(∀t∈tr,Bu p t.2.2)->Paired (jK p H) ys (tr.map Rj)
 | _,_,.nil,_=>.nil
 | _,_,.cons ⟨c,b,e,h1,h2⟩ r,al=>.cons ⟨c,b,e,h1,h2,al _ o!⟩ (CF r λt ht=>al t (lG _ ht))
def yZ{p:Nat}{ts:List eW}{g:aE p ts}{tr:List Lr}(lb:RM.LB g.N (cL ts) (tr.map (·.1)))(pw:(tr.map (·.1)).Pairwise (jJ ts))(mo:MarksOf g.N (tr.map (·.1)) (tr.map (·.2.1)))(al:∀t∈tr,Bu p t.2.2/\qJ p ts g t.2.1 t.2.2):rL p ts g (tr.map Rj):=by
 refine⟨tr.map (·.1),by rw[X!,X!];rfl,lb.1,pw,⟨tr.map (·.2.1),by rw[X!,X!];rfl,mo⟩,λz hz=>?_⟩
 obtain⟨t,ht,rfl⟩:=d!.mp hz;obtain⟨i,hi⟩:=N! ht;have qu:(tr.map (·.1))[i]?=some t.1:=by rw[c!,hi];rfl
 have hmi:(tr.map (·.2.1))[i]?=some t.2.1:=by rw[c!,hi];rfl
 obtain⟨hml,Yd⟩:=mo.2 i t.2.1 hmi;obtain⟨rg,rl⟩:=lb.1.ring t.1 (gB qu);have own:=Yd i t.1 qu;rw[cH rfl]at own;refine⟨t.1,rfl,rl,rg,(sH hml).mpr own,(al t ht).2.stands,?_⟩;refine JL (al t ht).2 λr2 h2 h3 h4=>?_
 obtain⟨b2,GX,TJ,hb4⟩:=lb.2 r2 t.2.1 h3 h2 h4;obtain⟨j,hj⟩:=N! GX;rw[Yd j b2 hj]at TJ;have ej:i=j:=jz TJ;subst ej;rw[qu]at hj;rw[q9 rl,18#hj];exact hb4
def Rk:Sp:=λvs H Q _=>∃(x y:55#0) (l:Int),vs=[oV x,oV y,.int l]/\Q (.bl (oY x y l)) H
def Lb:Sp:=84#(∃(m:Nat) (b:Addr) (W:List (List Pr)),vs=[.ref w,.int (m:Int),.ref b]/\73#0/\c8 H b W/\Bu p W/\∀d:Bool,(d=true↔mw p ts m W)->Q (.bl d) H)
def OI:Sp:=84#(∃(r m:Nat) (b:Addr) (W:List (List Pr)),vs=[.ref w,.int (r:Int),.int (m:Int),.ref b]/\73#0/\c8 H b W/\Bu p W/\r<17#0/\∀H' (d:Bool),ah H H'->(d=true↔g.N.par r m=true/\mw p ts m W/\yV p W (Δ ts r))->Q (.bl d) H')
def G7(q:Pr)(sb:Bool):([oV q.1,oV q.2]:List V)[sb.toNat]?=some (oV (sel q sb)):=by cases sb<;>rfl
def OJ(m k:Nat):(m:Int)/2^((k:Nat):Int).toNat%2=((2#0).toNat:Int):=by
 rw[a!,<-gU];unfold bit;obtain⟨h0,h1⟩:=iN ((m:Int)/2^k) 2 (16#0)
 by_cases h:(m:Int)/2^k%2=1
 .rw[cH h,h];rfl
 .rw[eV h];have:(m:Int)/2^k%2=0:=by lia
  rw[this];rfl
def jX:Ok T T.jV 1 Rk:=by
 refine T.jV.ok uG 4#0
 .obtain⟨x,y,l,rfl,q⟩:=h;refine⟨_,(ae (bx (PW.pt (jA (aG jO (pv 0) eN (aF _)) (iK (aG jO (pv 1) eN (aF _))))) (ak (aB (qP (cK jO (pv 0) eN (aF _)) (oF (cK jO (pv 1) eN (aF _)))))) aN)
   (ak (aB (cK HC (bY C1 (by rfl) T.Sa PyProof.Rows.boot_abs (bE (au gx (pv 0) (pv 1)))) (pv 2) (aF _))))),?_⟩
  refine gG ?_;intro b8 cB;cases x with
  | none =>
    refine 14#15#(zp rfl 28#47#(af rfl (zp rfl (af rfl ⟨rfl,?_⟩))));cases y with
    | none=>exact q
    | some y=>exact q
  | some x =>
    cases y with
    | none=>exact 14#15#(r6 60#0 28#47#(af rfl (zp rfl (af rfl ⟨rfl,af rfl (r6 60#0 q)⟩))))
    | some y=>exact 14#15#(r6 60#0 28#47#(af rfl (r6 60#0 (0#(br (af rfl (af rfl (br (q)))))))))
def iy:Ok T T.iw 2 Lb:=by
 have jX:=jX T;refine T.iw.ok bz 4#0
 .obtain⟨wb,p,ts,g,m,b,W,rfl,hw,hW,sq,q⟩:=h;have no:∀{A:Prop},(mw p ts m W->A)->(A->False)->Q (.bl false) H:=λh1 h2=>q false ⟨λz=>(e! z).elim,λst=>(h2 (h1 st)).elim⟩
  refine⟨_,(ae (bx (aG qD (30#(pv 2)) 25#0 (aF _)) (ak (aB dI)) aN)
   (ae (cM PassesOwn.never rfl (44#25#0) (aQ 3 bz.nd)
   (ae (bx (PW.pt (jA (aG qD (30#(aZ (mj K) (pv 2) (pv 3))) 25#0 (aF _)) (iK (aG qD (cA K (aZ (mj K) (aZ (mj K) (pv 2) (pv 3)) (pv 3))) aq (aF _))))) (ak (aB dI)) aN)
   (ak (cM PassesOwn.never rfl (44#(30#25#0)) (aQ 4 bz.nd)
   (ae (qQ (aZ (mj K) 25#0 (pv 4)) (Ak K (n:=3) rfl (aI (aQ 5 bz.nd) (aI (aQ 6 bz.nd) (aI (aQ 7 bz.nd) cU)))))
   (ae (bu 8 bz.nd (au bh (au oG (pv 1) (pv 4)) aq))
   (ak (cM PassesOwn.never rfl (44#aq) (aQ 9 bz.nd)
   (ae (bu 10 bz.nd (aZ (mj K) (aZ (mj K) (aZ (mj K) (pv 2) (pv 3)) (pv 5)) (pv 9)))
   (ak (bx (fN (cu (aD jX hr T.jV.c aK (aP (pv 10) (bS (aZ (mj K) (aZ (mj K) (aZ (mj K) (pv 2) (pv 3)) (pv 6)) (au bh (au cI (pv 9) (pv 8)) aq)) (pv 7)))))) (ak (aB dI)) aN)))))))))))
   (ak (aB dI)))),?_⟩
  refine qB ?_;intro b8 cB c9 dU eI j6 mS sQ vC vD k6 mC;show 38;have qt:=h3.length;have wl:=g.len;have wp:=g.p2;obtain⟨ws,hws,Lq⟩:=id hW;have X7:ws.length=p:=by rw[Lq.length,sq.1]
  refine 14#(kZ rfl (.inr (aL.of hws)) 28#(bC (aL.of h1) je 15#(?_)));rw[cH (show V.int 6#ws.length=V.int (p:Int) by rw[X7])]
  refine cJ 14#(bC (aL.of h1) je 28#⟨(by lia),(by lia),?_⟩)
  refine cF (lo:=0) (n:=(p:Int).toNat) (λi σ H2=>∃v3 v4 v5 v6 v7 v8 v9 v10,σ=[11#wb,3#(m:Int),some (.ref b),v3,v4,v5,v6,v7,v8,v9,v10]/\H2=H/\∀j,j<i->AG ts m j (W.getD j [])) ⟨none,none,none,none,none,none,none,none,rfl,rfl,λj hj=>by lia⟩ ?_ ?_
  .rintro i D' σ H2 hi ⟨v3,v4,v5,v6,v7,v8,v9,v10,rfl,rfl,ok⟩;rw[a!]at hi;rw[K!];obtain⟨x,hx,bR,ys,rfl,CO,Fd⟩:=Ring.fW Lq (i:=i) (by rw[sq.1];exact hi) []
   have rl:=sq.row hi;have ysl:ys.length=p:=by rw[Fd.length,rl]
   obtain⟨bP,eP,zf⟩:=RowW.at Fd (i:=i) (by lia)
   have stR:mw p ts m W->AG ts m i (W.getD i []):=λst=>st i hi
   have K5:AG ts m i (W.getD i [])->∀j,j<i+1->AG ts m j (W.getD j []):=λh j hj=>by
    by_cases e:j=i
    .rw[e];exact h
    .exact ok j (by lia)
   generalize W.getD i []=R at Fd rl zf stR K5;refine(0#(bC (aL.of hws) (ay (j:=i) hx) (kZ rfl (.inr (aL.of CO)) 14#(bC (aL.of h1) je 15#(?_)))));rw[cH (show V.int 6#ys.length=V.int (p:Int) by rw[ysl])]
   refine cJ (0#(bC (aL.of hws) (ay (j:=i) hx) 14#(bC (aL.of CO) (ay (j:=i) eP) (bC (aL.of zf) je ⟨IF _,_,rfl,?_⟩))))
   by_cases Zo:(dQ R i).1=some 0
   case neg =>
    refine EV (λz=>Zo ?_) (no (λst=>(stR st).1) Zo)
    cases h:(dQ R i).1 with
    | none=>rw[h]at z;exact nomatch z
    | some d=>rw[h]at z;exact n! some (V.int.inj z)
   rw[Zo,cH (show oV (some 0)=V.int 0 from rfl)]
   refine cJ 14#(bC (aL.of h1) fB (kZ rfl (.inr (aL.of h2)) 28#⟨(by lia),(by lia),?_⟩))
   refine cF (lo:=0) (n:=(xs.length:Int).toNat) (λk σ H3=>∃v4 v5 v6 v7 v8 v9 v10,σ=[11#wb,3#(m:Int),some (.ref b),3#(i:Int),v4,v5,v6,v7,v8,v9,v10]/\H3=H2/\∀j,j<k->uc R (bG ts j) (m.testBit j)=true) ⟨_,_,_,_,_,_,_,rfl,rfl,λj hj=>by lia⟩ ?_ ?_
   .rintro k D2 σ H3 hk ⟨v4,v5,v6,v7,v8,v9,v10,rfl,rfl,Cz⟩;rw[a!]at hk;rw[K!];have kD:k<ts.length:=by lia
    obtain⟨ct,ex,hct⟩:=nk (g:=g) h3 kD;have ha:g.N.a k<p:=g.N.al k kD;have hb:g.N.b k<p:=g.N.bl k kD;refine 14#(bC (aL.of h1) fB 28#(bC (aL.of h2) (ay (j:=k) ex) ⟨ct,_,rfl,aL.of hct,rfl,_,_,rfl,_,_,rfl,_,_,rfl,rfl,?_⟩));refine(0#(br ⟨(by lia),br ⟨(h8 rfl),?_⟩⟩))
    dsimp only;rw[OJ];have near:uc R (bG ts k) (2#0)=true↔∀sb:Bool,oY (sel (dQ R (g.N.a k)) sb) (sel (dQ R (g.N.b k)) (sb^^2#0)) (bG ts k).2.2=true:=DM R (bG ts k) (2#0);have stK:mw p ts m W->uc R (bG ts k) (2#0)=true:=λst=>(stR st).2 k kD
    have nxk:uc R (bG ts k) (2#0)=true->∀j,j<k+1->uc R (bG ts j) (m.testBit j)=true:=λh j hj=>by
     by_cases e:j=k
     .rw[e];exact h
     .exact Cz j (by lia)
    generalize g.N.a k=ua at ha near;generalize g.N.b k=ub at hb near;generalize 2#0=tb at near stK nxk;obtain⟨bA,eA,hbA⟩:=RowW.at Fd (i:=ua) (by lia)
    obtain⟨bB,eB,hbB⟩:=RowW.at Fd (i:=ub) (by lia)
    refine 14#⟨(16#0),(16#0),?_⟩
    refine cF (lo:=0) (n:=(2:Int).toNat) (λn σ H4=>∃v9 v10,σ=[11#wb,3#(m:Int),some (.ref b),3#(i:Int),3#(k:Int),3#(ua:Int),3#(ub:Int),3#(bG ts k).2.2,3#(tb.toNat:Int),v9,v10]/\H4=H3/\∀sb:Bool,sb.toNat<n->oY (sel (dQ R ua) sb) (sel (dQ R ub) (sb^^tb)) (bG ts k).2.2=true) ⟨(_),af rfl 47#(λsb hs=>by lia)⟩ ?_ ?_
    .rintro n D3 σ H4 hn ⟨v9,v10,rfl,rfl,ok4⟩;rw[K!];have hn2:n<2:=hn;obtain⟨sb,rfl⟩:∃sb:Bool,n=sb.toNat:=by
      have:n=0\/n=1:=by lia
      rcases this with rfl|rfl
      .exact⟨false,rfl⟩
      .exact⟨true,rfl⟩
     refine(0#(bC (aL.of hws) (ay (j:=i) hx) 14#(bC (aL.of CO) (ay (j:=ua) eA) 28#(bC (aL.of hbA) (ay (j:=sb.toNat) (G7 _ sb)) (?_)))));have et:((sb.toNat:Int)+(tb.toNat:Int))%2=6#(sb^^tb).toNat:=by cases sb<;>cases tb<;>rfl
     refine(0#14#(bC (aL.of hws) (ay (j:=i) hx) 28#(bC (aL.of CO) (ay (j:=ub) eB) (af rfl (af rfl (br (br ⟨(h8 rfl),bC (aL.of hbB) ((by rw[et];exact ay (G7 _ (sb^^tb)))) (af rfl ⟨_,_,_,rfl,_,rfl,?_⟩)⟩)))))))
     by_cases hN:oY (sel (dQ R ua) sb) (sel (dQ R ub) (sb^^tb)) (bG ts k).2.2=true
     .rw[hN];refine cJ ⟨(_),af rfl 47#(λsb' hs=>?_)⟩
      by_cases e:sb' = sb
      .rw[e];exact hN
      .exact ok4 sb' (by cases sb<;>cases sb'<;>simp_all)
     .rw[Vp.mpr hN];exact cY (no (λst=>near.mp (stK st) sb) hN)
    .rintro σ H4 ⟨v9,v10,rfl,rfl,ok4⟩;exact⟨_,_,_,_,_,_,_,rfl,rfl,nxk (near.mpr λsb=>ok4 sb (by cases sb<;>decide))⟩
   .rintro σ H3 ⟨v4,v5,v6,v7,v8,v9,v10,rfl,rfl,Cz⟩;rw[a!,qt]at Cz;exact⟨_,_,_,_,_,_,_,_,rfl,rfl,K5 ⟨Zo,Cz⟩⟩
  .rintro σ H2 ⟨v3,v4,v5,v6,v7,v8,v9,v10,rfl,rfl,ok⟩;rw[a!]at ok;exact q true ⟨λ_=>ok,λ_=>rfl⟩
def i9:Ok T T.iZ 3 OI:=by
 have kM:=kM T;have iy:=iy T;have cT:=cT T;refine T.iZ.ok iq 4#0
 .obtain⟨wb,p,ts,g,r,m,b,W,rfl,hw,hW,sq,hr2,q⟩:=h;refine⟨_,(ae (bx (PW.pt (jA (fN (cu (aD kM hr T.qo.c aK (bS (pv 1) (pv 2))))) (iK (fN (cu (aD iy hr T.iw.c aK (aP (pv 0) (bS (pv 2) (pv 3))))))))) (ak (aB dI)) aN)
   (ae (cM PassesOwn.never rfl (44#25#0) (aQ 4 iq.nd)
   (ae (bu 5 iq.nd (cA K (aZ (mj K) (aZ (mj K) (pv 3) (pv 4)) (pv 4))))
   (ak (bx (PW.pt (tM (aG Bc (pv 5) eN (aF _)) (pX (aG vo (pv 5) (aD cT hr T.ir.c aK 51#(pv 1)) (aF _))))) (ak (aB dI)) aN))))
   (ak (aB dI)))),?_⟩
  refine rB ?_;intro b8 cB c9 dU eI j6;show 38;have wp:=g.p2;obtain⟨ws,hws,Lq⟩:=id hW;refine(0#⟨r,m,rfl,λv hv=>(af rfl (?_))⟩)
  have hv2:v=g.N.par r m:=by
   rw[hv ts.length (j_ Nat.and_le_left hr2)];exact RM.bN λk _=>T? ..
  cases v with
  | false=>exact cY (q H false (ah.refl _) ⟨λz=>(e! z).elim,λz=>by rw[z.1]at hv2;cases hv2⟩)
  | true =>
  refine cJ (0#14#⟨wb,p,ts,g,m,b,W,rfl,hw,hW,sq,λdS hdS=>(af rfl (?_))⟩)
  cases dS with
  | false=>exact cY (q H false (ah.refl _) ⟨λz=>(e! z).elim,λz=>hdS.mpr z.2.1⟩)
  | true =>
  refine cJ ?_;refine 14#(bC (aL.of h1) je 28#⟨(by lia),(by lia),?_⟩)
  refine cF (lo:=0) (n:=(p:Int).toNat) (λi σ H2=>∃v4 v5,σ=[11#wb,3#(r:Int),3#(m:Int),some (.ref b),v4,v5]/\ah H H2/\∀j,j<i->∀d,(dQ (W.getD j []) j).2=some d->Δ ts r<=d) ⟨none,none,rfl,ah.refl _,λj hj=>by lia⟩ ?_ ?_
  .rintro i D' σ H2 hi ⟨v4,v5,rfl,s2,ok⟩;rw[a!]at hi;rw[K!];obtain⟨x,hx,bR,ys,rfl,CO,Fd⟩:=Ring.fW Lq (i:=i) (by rw[sq.1];exact hi) []
   have rl:=sq.row hi;obtain⟨bP,eP,zf⟩:=RowW.at Fd (i:=i) (by lia)
   have nsi:yV p W (Δ ts r)->∀d,(dQ (W.getD i []) i).2=some d->Δ ts r<=d:=λh=>h i hi
   have K5:(∀d,(dQ (W.getD i []) i).2=some d->Δ ts r<=d)->∀j,j<i+1->∀d,(dQ (W.getD j []) j).2=some d->Δ ts r<=d:=λh j hj=>by
    by_cases e:j=i
    .rw[e];exact h
    .exact ok j (by lia)
   refine(0#(bC 36#(s2 _ _ hws) (ay (j:=i) hx) 14#(bC 36#(s2 _ _ CO) (ay (j:=i) eP) (bC 36#(s2 _ _ zf) fB (?_)))));dsimp only;generalize (dQ (W.getD i []) i).2=o at nsi K5;cases o with
   | none=>exact 14#15#(Aj rfl ⟨_,_,rfl,s2,K5 λd e=>nomatch e⟩)
   | some d =>
     refine 14#15#(EV 60#0 (0#28#⟨wb,p,ts,g,_,r,rfl,rfl,hw.same s2,hr2,λH3 s3=>(br (af rfl (iI (λh=>?_) (λh=>⟨_,_,rfl,s2.trans s3,K5 λd' e=>?_⟩))))⟩))
     .have h:d<Δ ts r:=jz h;exact q H3 false (s2.trans s3) ⟨λz=>(e! z).elim,λz=>absurd (nsi z.2.2 d rfl) (by lia)⟩
     .have h : ¬ d<Δ ts r:=λz=>h (cH z)
      cases e
      lia
  .rintro σ H2 ⟨v4,v5,rfl,s2,ok⟩;rw[a!]at ok;exact q H2 true s2 ⟨λ_=>⟨hv2.symm,hdS.mp rfl,ok⟩,λ_=>rfl⟩
abbrev Pq:=Addr×Int×Int
def vG(q:Pq):PyData:=.tuple [.int q.2.1,.int q.2.2]
theorem CG{K:b7}{H:Hp}:∀{ps:List Pq},(∀q∈ps,H q.1=10#([.int q.2.1,.int q.2.2]))->DatVs K H (41#ps.map) (ps.map vG)
 | [],_=>.nil
 | q::r,h=>.cons (.tup 36#(h q o!) (.cons (.int _) (.cons (.int _) .nil))) (CG λq' hq=>h q' (lG _ hq))
theorem IL:∀ps:List Pq,PyData.canLayAll0 (ps.map vG)=true
 | []=>rfl
 | q::r=>by
   have ih:=IL r;have e:(vG q).canLay0=true:=by simp[vG,PyData.canLay0,PyData.canLayAll0]
   simp only[F!,PyData.canLayAll0,ih,u_,e]
theorem E5:∀ps:List Pq,PyData.depthAll (ps.map vG)<=1
 | []=>v! _
 | q::r=>by
   have ih:=E5 r;show max (PyData.depth (vG q)) (PyData.depthAll (r.map vG))<=1;have e:PyData.depth (vG q)=1:=by simp[vG,PyData.depth,PyData.depthAll]
   lia
def IM(ps:List Pq):(PyData.list (ps.map vG)).canLay0=true:=by
 have e:(PyData.list (ps.map vG)).canLay0=PyData.canLayAll0 (ps.map vG):=by simp[PyData.canLay0]
 rw[e,IL]
def y9(ps:List Pq):SeqAt.shaped (.list (ps.map vG))=true:=by
 unfold SeqAt.shaped;rw[IM,D?];refine cH ?_;have h:=E5 ps;have e2:PyData.depth (PyData.list (ps.map vG))=PyData.depthAll (ps.map vG)+1:=by simp[PyData.depth]
 lia
def Rl{ps ps' : List Pq}(hp:ps'.Perm ps)(h1:ps.Pairwise (λx y=>kx x.2<=kx y.2))(h2:ps'.Pairwise (λx y=>kx x.2<=kx y.2))(hok:∀q∈ps,O6 q.2):ps'.map vG=ps.map vG:=by
 have e:ps'.map (λq=>kx q.2)=ps.map (λq=>kx q.2):=PySem.W.lks_uniq (hp.map _) (by rw[P?];exact h2) (by rw[P?];exact h1)
 have hl:=hp.length_eq;refine List.ext_getElem (by rw[χ,χ,hl]) λi a b=>?_
 rw[List.getElem_map,List.getElem_map];have ha:i<ps'.length:=by rw[χ]at a;exact a
 have hb:i<ps.length:=by lia
 have e1:=n! (λl=>l[i]?) e
 rw[c!,c!,i! ha,i! hb]at e1;have e1:kx ps'[i].2=kx ps[i].2:=18#e1;have o1:=hok _ (hp.mem_iff.mp (Q? ha));have o2:=hok _ (Q? hb);unfold kx at e1;unfold O6 at o1 o2;unfold vG;have x1:ps'[i].2.1=ps[i].2.1:=by lia
 have x2:ps'[i].2.2=ps[i].2.2:=by lia
 rw[x1,x2]
theorem CH:∀l l' : List Pq,PyData.eqvAll (l.map vG) (l'.map vG)=decide (l.map (·.2)=l'.map (·.2))
 | [],[]=>rfl
 | [],_::_=>rfl
 | _::_,[]=>rfl
 | x::l,y::l'=>by
   show(((x.2.1==y.2.1)&&((x.2.2==y.2.2)&&true))&&PyData.eqvAll (l.map vG) (l'.map vG))=decide (x.2::l.map (·.2)=y.2::l'.map (·.2));rw[CH l l',W!];simp[Prod.ext_iff]
def G8{ps:List Pq}:ps.Pairwise (λx y=>kx x.2<=kx y.2)↔(ps.map (·.2)).Pairwise (λx y=>kx x<=kx y):=by rw[P?]
def IP{B C:List Nat}(h:RM.yp B C):C=B↔RM.BB B:=by
 constructor
 .intro e;rw[<-e];exact h.ind
 .intro hi;have all:∀{B:List Nat},(∀i b,B[i]?=some b->¬ RM.Sp (B.take i) b)->∀n,n<=B.length->RM.yp (B.take n) (B.take n):=λ{B} hB n=>by
   induction n with
   | zero=>exact λ_=>.nil
   | succ n ih =>
     intro hn;have e:B.take (n+1)=B.take n++[B[n]]:=by rw[Q!,i! hn];rfl
     rw[e];exact .put (ih (by lia)) (hB n _ (i! hn))
  have z:=all (λi b hb=>(RM.BC B).mp hi i b hb) B.length (Z' _)
  rw[H!]at z;exact h.uniq z rfl
def G9{f:59#0}{rs:List Nat}(nd:rs.Nodup){i r0:Nat}(h:rs[i]?=some r0):rs.filter f=[r0]↔∀(j r:Nat),rs[j]?=some r->f r=decide (i=j):=by
 constructor
 .intro e j r hj;have hm:r∈rs.filter f↔r=r0:=by rw[e,p!]
  rw[C!]at hm;have hmem:=gB hj;have key:r=r0↔i=j:=by
   obtain⟨b1,c1⟩:=j7.mp h;obtain⟨b2,c2⟩:=j7.mp hj
   constructor
   .intro z;apply Z!;intro ne;have pw:=_O.mp nd;rcases Nat.lt_or_gt_of_ne ne with y|y
    .exact pw i j b1 b2 y (by rw[c1,c2,z])
    .exact pw j i b2 b1 y (by rw[c1,c2,z])
   .intro z;subst z;rw[h]at hj;exact(18#hj).symm
  cases hf:f r with
  | true=>exact(cH (key.mp (hm.mp ⟨hmem,hf⟩))).symm
  | false=>exact(eV λz=>by have:=(hm.mpr (key.mpr z)).2;rw[hf]at this;cases this).symm
 .intro hf;have gen:∀(rs:List Nat) (i:Nat),rs[i]?=some r0->(∀(j r:Nat),rs[j]?=some r->f r=decide (i=j))->rs.filter f=[r0]:=by
   intro rs
   induction rs with
   | nil=>intro i h _;simp at h
   | cons x rs ih =>
     intro i h hf;have h0:=hf 0 x rfl;cases i with
     | zero =>
       have e:x=r0:=by simpa using h
       rw[M!,ο (by rw[h0];rfl),e]
       congr 1
       rw[Z_];intro y hy;obtain⟨j,hj⟩:=N! hy;rw[hf (j+1) y (by simpa using hj)]
       simp
     | succ i =>
       rw[M!,ξ (by rw[h0];simp)]
       exact ih i (by simpa using h) λj r hj=>by
        rw[hf (j+1) r (by simpa using hj)]
        exact K?.mpr (by lia)
  exact gen rs i h hf
def Lc{B:List Nat}(h:RM.BB B):B.Nodup:=by
 refine _O.mpr λi j hi hj hij e=>?_
 have:=(RM.BC B).mp h j _ (i! hj);refine this (.mem ?_);rw[<-e];exact gB (i:=i) (by rw[List.getElem?_take,ο hij];exact i! hi)
def Zp(p:Nat)(ts:List eW)(g:aE p ts)(t:G4):Prop:=∃r m:Nat,t.1=(r:Int)/\t.2.1=(m:Int)/\r<17#0/\m<17#0/\g.N.Ring r
def OL(p:Nat)(ts:List eW)(g:aE p ts)(rs:List Nat)(i:Nat)(t:G4):Prop:=(∀j r',rs[j]?=some r'->g.N.par r' t.2.1.toNat=decide (i=j))/\X6 p ts g t.2.1.toNat t.1 t.2.2
def OM:Sp:=84#(∃(b:Addr) (ys:List V) (tr:List G4),vs=[.ref w,.ref b]/\73#0/\H b=10#ys/\Paired (jK p H) ys tr/\tr.length<=40/\∀H' (d:Bool),ah H H'->(d=true↔rL p ts g tr)->Q (.bl d) H')
def vh:Ok T T.u4 4 OM:=by
 have rM:=rM T;have jv:=jv T;have cT:=cT T;have gu:=gu T;have kM:=kM T;have i9:=i9 T;refine T.u4.ok eJ 4#0
 .obtain⟨wb,p,ts,g,b,ys,tr,rfl,hw,hb,Ov,tl,q⟩:=h;refine⟨_,(ae (fJ (i:=2) eJ.nd rfl rfl (own:=["triple"]) (fq:=[]) (js:=[]) (az (ai kI) ["web","base","rings","far","ring","marks","worths","pairs"]) rfl (RJ K (pv 1)) 8#(aQ 0 (ig ["triple"])) 65#0 8#25#0)
   (ae (bu 3 eJ.nd (au h7 aq (30#25#0)))
   (ae (bx (aG qD (30#(pv 2)) (aD rM hr T.rG.c aK (bE (pv 0))) (aF _)) (ak (aB dI)) aN)
   (ae (cM PassesOwn.never rfl (RJ K (pv 1)) (Ak K (n:=3) rfl (aI (aQ 4 eJ.nd) (aI (ng (i:=5) eJ.nd rfl (Or.inr rfl)) (aI (aQ 6 eJ.nd) cU))))
   (ak (bx (PW.pt (jA (aG vo (pv 4) aq (aF _)) (jA (aG CZ (pv 4) (pv 3) (aF _)) (jA (aG vo (pv 5) aq (aF _)) (jA (aG CZ (pv 5) (pv 3) (aF _)) (iK (fN (cu (aD jv hr T.nV.c aK 51#(pv 4)))))))))) (ak (aB dI)) aN)))
   (ae (fJ (i:=7) eJ.nd rfl rfl (own:=["ring"]) (fq:=["web"]) (js:=[0]) (az (ai kI) ["web","base","rings","far","ring","marks","worths","pairs"]) rfl (oh K (pv 2)) 8#(aQ 0 (ig ["ring","web"])) 65#0 8#(b9 (bS (aD cT hr T.ir.c aK (bS (pv 1) (pv 0))) (pv 0))))
   (ae (bx (PW.pt (jA (aG (w9 K hr.units) (pv 7) (bY (yk K) (by rfl) T.pR W_ (bE (pv 7))) (aF _)) (iK (aG (w9 K hr.units) (aD gu hr T.kA.c aK (bE (pv 2))) (pv 2) (aF _))))) (ak (aB dI)) aN)
   (ae (cM PassesOwn.never rfl (RJ K (pv 1)) (Ak K (n:=3) rfl (aI (aQ 4 eJ.nd) (aI (ng (i:=5) eJ.nd rfl (Or.inr rfl)) (aI (aQ 6 eJ.nd) cU))))
   (ae (bx (aG (w9 K hr.units) (aY (own:=["other"]) (fq:=["marks"]) (js:=[5]) (az (ai kI) ["web","base","rings","far","ring","marks","worths","pairs"]) rfl (oh K (pv 2)) 8#(aQ 0 (ig ["other","marks"])) 8#(gR (cu (aD kM hr T.qo.c aK 51#(pv 1)))) 8#(pv 0)) (cy (bE (pv 4))) (aF _)) (ak (aB dI)) aN)
   (ak (bx (fN (cu (aD i9 hr T.iZ.c aK (aP (pv 0) (aP (pv 4) (bS (pv 5) (pv 6))))))) (ak (aB dI)) aN))))
   (ak (aB dI))))))))),?_⟩
  refine Gx ?_;intro b8 cB c9 dU eI j6 mS sQ vC vD k6 mC BW Em En;have wl:=g.len;have UX:=Ov.length;show 38;have qt:=h3.length;have no:∀{H'},ah H H'->(rL p ts g tr->False)->Q (.bl false) H':=λs h=>q _ false s ⟨λz=>(e! z).elim,λz=>(h z).elim⟩
  refine(af rfl ⟨b,rfl,⟨_,aL.of hb⟩,λX hX=>mV (K:=K) (a:=b) (xs:=ys) (λi acc H2=>ah H H2/\H2 X=1#acc/\acc=((tr.take i).map (·.1)).map V.int) 68#hX (λi acc H2 _ z=>⟨aL.of (z.1 _ _ hb),z.2.1,by rw[z.2.2,χ,χ,I!];lia⟩) (B! (cO (by lia))) ?_ ?_⟩)
  .rintro i x acc H2 hx ⟨s2,hX2,rfl⟩;obtain⟨t,hti,c,bw,rfl,hc,_⟩:=Paired.j8 Ov hx;refine 15#(bC 36#(s2 _ _ hc) je ⟨hX2,s2.put hX,aa,?_⟩);rw[Q!,hti];show _=List.map V.int (List.map _ (List.take i tr++[t]));rw[g!,g!];rfl
  rintro acc H2 ⟨s2,hX2,rfl⟩;rw[UX,H!]at hX2;have Uw:(1:Int)*2^(6#xs.length).toNat=6#(17#0):=by rw[iO,qt]
  refine 14#(bC 36#(s2 _ _ h1) fB (kZ rfl (.inr 36#(s2 _ _ h2)) (br ⟨⟨by lia,by lia,16#0⟩,?_⟩)))
  dsimp only;rw[Uw];refine 14#(kZ rfl (.inl (aM.of hX2)) 28#⟨wb,p,ts,g,rfl,hw.same s2,λH3 s3=>15#(?_)⟩)
  have mO:=s2.trans s3;have abv:rL p ts g tr->tr.length=g.N.aJ.length:=λ⟨rs,e,ba,_⟩=>by
   have:=n! List.length e;rw[χ,χ]at this;rw[this,ba.len]
  by_cases Zq:tr.length=g.N.aJ.length
  case neg =>
   rw[eV (λz=>Zq (by have:=V.int.inj z;rw[χ,χ]at this;lia))]
   exact cY (no mO λz=>Zq (abv z))
  rw[cH (n! V.int (by rw[χ,χ,Zq]))]
  refine cJ ?_;have jok:rL p ts g tr->∀t∈tr,Zp p ts g t:=λ⟨rs,e,ba,_,⟨ms,em,mo⟩,_⟩ t ht=>by
   obtain⟨i,hi⟩:=N! ht;have e1:(tr.map (·.1))[i]?=some t.1:=by rw[c!,hi];rfl
   have e2:(tr.map (·.2.1))[i]?=some t.2.1:=by rw[c!,hi];rfl
   rw[e,c!]at e1;rw[em,c!]at e2;obtain⟨r,hr,e1⟩:=qC.mp e1;obtain⟨m,hm,e2⟩:=qC.mp e2;obtain⟨rg,rl⟩:=ba.ring r (gB hr);exact⟨r,m,e1.symm,e2.symm,rl,(mo.2 i m hm).1,rg⟩
  refine(af rfl ⟨b,rfl,⟨_,aL.of (mO _ _ hb)⟩,Hr (K:=K) (a:=b) (xs:=ys) (λi σ H4=>∃v4 v5 v6,σ=[11#wb,some (.ref b),some (.ref X),3#6#(17#0),v4,v5,v6,none]/\ah H H4/\H4 X=some (.lst ((tr.map (·.1)).map V.int))/\∀j t,j<i->tr[j]?=some t->Zp p ts g t) ⟨none,none,none,rfl,mO,s3 _ _ hX2,λj t hj=>by lia⟩ (λi σ H4 _ ⟨_,_,_,_,z,_⟩=>aL.of (z _ _ hb)) ?_ ?_⟩)
  .rintro i x σ H4 hx ⟨v4,v5,v6,rfl,s4,Fe,ok⟩;obtain⟨t,hti,c,bw,rfl,hc,_⟩:=Paired.j8 Ov hx;have bad : ¬ Zp p ts g t->∀{H'},ah H H'->Q (.bl false) H':=λh _ s=>no s λz=>h (jok z t (gB hti))
   refine⟨c,_,rfl,aL.of (s4 _ _ hc),rfl,_,_,rfl,_,_,rfl,_,_,rfl,rfl,?_⟩;refine 14#(br 28#(iI (λh=>cY (bad (λ⟨r,m,e1,e2,_⟩=>?_) s4)) (λa1=>?_)))
   .have:=jz h
    lia
   have a1 : ¬ t.1<0:=λz=>a1 (cH z)
   refine(0#(br 14#(iI (λh=>cY (bad (λ⟨r,m,e1,e2,l1,l2,_⟩=>?_) s4)) (λa2=>?_))))
   .have:6#(17#0)<=t.1:=jz h
    lia
   have a2 : ¬6#(17#0)<=t.1:=λz=>a2 (cH z)
   refine 14#(br 28#(iI (λh=>cY (bad (λ⟨r,m,e1,e2,_⟩=>?_) s4)) (λa3=>?_)))
   .have:=jz h
    lia
   have a3 : ¬ t.2.1<0:=λz=>a3 (cH z)
   refine(0#(br 14#(iI (λh=>cY (bad (λ⟨r,m,e1,e2,l1,l2,_⟩=>?_) s4)) (λa4=>?_))))
   .have:6#(17#0)<=t.2.1:=jz h
    lia
   have a4 : ¬6#(17#0)<=t.2.1:=λz=>a4 (cH z)
   have e1:t.1=6#t.1.toNat:=by lia
   refine(0#⟨wb,p,ts,g,_,t.1.toNat,rfl,e1,hw.same s4,by lia,λH5 d s5 hd=>(af rfl (?_))⟩)
   cases d with
   | false=>exact cY (bad (λ⟨r,m,z1,_,_,_,rg⟩=>e! (hd.mpr (by rw[z1,a!];exact rg))) (s4.trans s5))
   | true =>
     refine cJ ⟨_,_,_,rfl,s4.trans s5,s5 _ _ Fe,λj t' hj ht'=>?_⟩
     by_cases e:j=i
     .subst e;rw[hti]at ht';rw[<-18#ht'];exact⟨t.1.toNat,t.2.1.toNat,e1,by lia,by lia,by lia,hd.mp rfl⟩
     .exact ok j t' (by lia) ht'
  rintro σ H4 ⟨v4,v5,v6,rfl,s4,Fe,ok⟩;rw[UX]at ok;have okt:∀t∈tr,Zp p ts g t:=λt ht=>by
   obtain⟨j,hj⟩:=N! ht;exact ok j t (j7.mp hj).1 hj
  obtain⟨rs,Pa⟩:∃rs:List Nat,tr.map (·.1)=rs.map (λx=>((x:Nat):Int)):=ES λx hx=>by
   obtain⟨t,ht,rfl⟩:=d!.mp hx;obtain⟨r,_,e,_⟩:=okt t ht
   lia
  obtain⟨ms,IG⟩:∃ms:List Nat,tr.map (·.2.1)=ms.map (λx=>((x:Nat):Int)):=ES λx hx=>by
   obtain⟨t,ht,rfl⟩:=d!.mp hx;obtain⟨_,m,_,e,_⟩:=okt t ht
   lia
  have VQ:rs.length=tr.length:=by have:=n! List.length Pa;rw[χ,χ]at this;exact this.symm
  have Zh:ms.length=tr.length:=by have:=n! List.length IG;rw[χ,χ]at this;exact this.symm
  have fB:∀{i:Nat} {t:G4},tr[i]?=some t->∃r m:Nat,t.1=(r:Int)/\t.2.1=(m:Int)/\rs[i]?=some r/\ms[i]?=some m/\r<17#0/\m<17#0/\g.N.Ring r:=λ{i t} hi=>by
   obtain⟨r,m,e1,e2,l1,l2,rg⟩:=okt t (gB hi);have z1:(tr.map (·.1))[i]?=some t.1:=by rw[c!,hi];rfl
   have z2:(tr.map (·.2.1))[i]?=some t.2.1:=by rw[c!,hi];rfl
   rw[Pa,c!]at z1;rw[IG,c!]at z2;obtain⟨r',hr,y1⟩:=qC.mp z1;obtain⟨m',hm,y2⟩:=qC.mp z2;have:r' = r:=by lia
   have:m' = m:=by lia
   subst_vars
   exact⟨r',m',e1,e2,hr,hm,l1,l2,rg⟩
  have rgs:∀r∈rs,g.N.Ring r/\r<17#0:=λr hr=>by
   obtain⟨i,hi⟩:=N! hr;have xU:i<tr.length:=by rw[<-VQ];exact(j7.mp hi).1
   obtain⟨r',_,_,_,h,_,l1,_,rg⟩:=fB (i! xU);rw[hi]at h;rw[18#h];exact⟨rg,l1⟩
  rw[Pa,<-dP]at Fe;have Fb:∀r∈rs,r<17#0:=λr hr=>(rgs r hr).2
  have one:∀rs',tr.map (·.1)=rs'.map (λx=>((x:Nat):Int))->rs' = rs:=λrs' e=>cast_inj (e.symm.trans Pa)
  have big:(2:Nat)^ts.length<=2^24:=B? (16#0) wl
  refine(af rfl ⟨X,rfl,24#Fe,λY hY=>aU (K:=K) (a:=X) (xs:=aA rs) (λi acc H5=>ah H4 H5/\H5 Y=1#acc/\∃ps:List Pq,acc=(41#ps.map)/\(∀q∈ps,H5 q.1=10#([.int q.2.1,.int q.2.2]))/\ps.map (·.2)=(rs.take i).map λr=>(Δ ts r,(r:Int))) ⟨ah.new hY,aa,[],rfl,(λq hq=>(R? hq).elim),rfl⟩ (λi acc H5 _ ⟨z1,z2,ps,z3,_,z5⟩=>⟨aM.of (z1 _ _ Fe),z2,?_⟩) (B! (cO (by rw[av];lia))) ?_ ?_⟩)
  .have h5:=n! List.length z5;rw[χ,χ,I!]at h5;rw[z3,χ]
   lia
  .rintro i x acc H5 hx ⟨s5,Ls,ps,rfl,Lv,IQ⟩;obtain⟨r,qu,rfl⟩:=eT hx;refine 47#0#⟨wb,p,ts,g,_,r,rfl,rfl,hw.same (s4.trans s5),Fb r (gB qu),λH6 s6=>14#29#(λc hc=>?_)⟩
   have s7:ah H6 (η H6 c (.tup [.int (Δ ts r),.int (r:Int)])):=ah.new hc;have s57:=s6.trans s7;have hY7:=s57 _ _ Ls;have tp:cV (η H6 c (.tup [.int (Δ ts r),.int (r:Int)])) (η (η H6 c (.tup [.int (Δ ts r),.int (r:Int)])) Y 46#((41#ps.map)++[.ref c])):=cV.put hY7
   refine⟨hY7,(s5.trans s57).put hY,aa,ps++[(c,Δ ts r,(r:Int))],by rw[g!];rfl,λq hq=>?_,?_⟩
   .rcases t!.mp hq with z|z
    .exact tp _ _ (s57 _ _ (Lv q z))
    .rw[p!.mp z];exact tp _ _ aa
   .rw[g!,IQ,Q!,qu];show _=List.map _ (List.take i rs++[r]);rw[g!];rfl
  rintro acc H5 ⟨s5,Ls,ps,rfl,Lv,IQ⟩;rw[av,H!]at IQ;have psl:ps.length=rs.length:=by have:=n! List.length IQ;rw[χ,χ]at this;exact this
  have hok:∀q∈ps,O6 q.2:=λq hq=>by
   have:q.2∈ps.map (·.2):=d!.mpr ⟨q,hq,rfl⟩;rw[IQ]at this;obtain⟨r,hr,e⟩:=d!.mp this;have:=Fb r hr;rw[<-e];exact⟨by show(0:Int)<=(r:Int);lia,by show(r:Int)<1073741824;lia⟩
  have psw:ps.Pairwise (λx y=>kx x.2<=kx y.2)↔rs.Pairwise (jJ ts):=by
   rw[G8,IQ,P?]
   constructor<;>refine λh=>i_ (λ{x y} hx hy h=>?_) h<;>have hx:=Fb x hx<;>have hy:=Fb y hy
   .have h:Δ ts x*1073741824+(x:Int)<=Δ ts y*1073741824+(y:Int):=h;unfold jJ
    lia
   .unfold jJ at h;show Δ ts x*1073741824+(x:Int)<=Δ ts y*1073741824+(y:Int)
    lia
  have II:=s4.trans s5;refine(0#⟨Y,ps,rfl,aM.of Ls,Lv,hok,by lia,λl ps' hl YY Ye=>?_⟩)
  have s6:ah H5 (η H5 l 46#41#ps'.map):=ah.new hl
  refine⟨_,_,.lst (aM.of (s6 _ _ Ls)) (CG λq hq=>s6 _ _ (Lv q hq)),.lst (aM.of aa) (CG λq hq=>s6 _ _ (Lv q (YY.mem_iff.mp hq))),y9 _,y9 _,_,rfl,?_⟩
  rw[show PyData.eqv (.list (ps.map vG)) (.list (ps'.map vG))=decide (ps.map (·.2)=ps'.map (·.2)) from CH ps ps']
  have IJ:=II.trans s6;have A4:=s6 _ _ (s5 _ _ Fe);generalize η H5 l 46#41#ps'.map=H6 at IJ A4
  by_cases hso:rs.Pairwise (jJ ts)
  case neg =>
   rw[eV (λe=>hso (psw.mp (by rw[G8,e,<-G8];exact Ye)))]
   exact cY (no IJ λ⟨rs',e,_,pw,_⟩=>hso (by rw[<-one rs' e];exact pw))
  have eqs:ps.map (·.2)=ps'.map (·.2):=by
   have e:=Rl YY (psw.mpr hso) Ye hok;have:=CH ps ps';rw[e,show PyData.eqvAll (ps.map vG) (ps.map vG)=true from SeqAt.eqv_refl _ (IM ps)]at this
   exact jz this.symm
  rw[cH eqs];refine cJ 14#⟨X,rs,rfl,A4,by lia,λD C H7 hD s7 Yg ch=>?_⟩
  have Pb:=IJ.trans s7;have hX7:=s7 _ _ A4;refine 14#⟨_,_,.lst (aM.of Yg) (gE C),.lst (aM.of hX7) (gE rs),ee _,ee _,_,rfl,?_⟩;rw[p5]
  by_cases hin:RM.BB rs
  case neg =>
   rw[eV (λe=>hin ((IP ch).mp e))]
   exact cY (no Pb λ⟨rs',e,ba,_⟩=>hin (by rw[<-one rs' e];exact ba.ind))
  rw[cH ((IP ch).mpr hin)];refine cJ ?_;have ba:RM.Base g.N rs:=⟨by rw[VQ,Zq],rgs,hin⟩
  have nd:=Lc hin;have aby:rL p ts g tr->∀(i:Nat) (t:G4),tr[i]?=some t->OL p ts g rs i t:=λ⟨rs',e,_,_,⟨ms',em,mo⟩,al⟩ i t hi=>by
   rw[one rs' e]at mo;obtain rfl:ms' = ms:=cast_inj (em.symm.trans IG);obtain⟨r,m,e1,e2,hr,hm,_⟩:=fB hi;exact⟨λj r' hj=>by rw[e2,a!];exact(mo.2 i m hm).2 j r' hj,al t (gB hi)⟩
  refine 14#⟨b,rfl,⟨_,aL.of (Pb _ _ hb)⟩,Hr (K:=K) (a:=b) (xs:=ys) (λi σ H8=>∃v4 v5 v6,σ=[11#wb,some (.ref b),some (.ref X),3#6#(17#0),v4,v5,v6,some (.ref Y)]/\ah H H8/\H8 X=1#(aA rs)/\∀j t,j<i->tr[j]?=some t->OL p ts g rs j t) ⟨_,_,_,rfl,Pb,hX7,λj t hj=>by lia⟩ (λi σ H8 _ ⟨_,_,_,_,z,_⟩=>aL.of (z _ _ hb)) ?_ ?_⟩
  .rintro i x σ H8 hx ⟨v4,v5,v6,rfl,s8,Q7,Yh⟩;obtain⟨t,hti,c,bw,rfl,hc,hW,sq⟩:=Paired.j8 Ov hx;obtain⟨r,m,e1,e2,qu,hmi,rl,ml,rg⟩:=fB hti;have XS:=s8 _ _ hc;rw[e1,e2]at XS;have bad : ¬ OL p ts g rs i t->∀{H'},ah H H'->Q (.bl false) H':=λh _ s=>no s λz=>h (aby z i t hti)
   refine⟨c,_,rfl,aL.of XS,rfl,_,_,rfl,_,_,rfl,_,_,rfl,rfl,?_⟩;refine 14#⟨X,rfl,24#Q7,λD8 RG=>aU (K:=K) (a:=X) (xs:=aA rs) (λj acc H9=>ah H8 H9/\H9 D8=1#acc/\acc=aA ((rs.take j).filter λr'=>g.N.par r' m)) 68#RG (λj acc H9 _ z=>⟨aM.of (z.1 _ _ Q7),z.2.1,by rw[z.2.2,av];exact D! (b? _ _) (by rw[I!];lia)⟩) (B! (cO (by rw[av];lia))) ?_ ?_⟩
   .rintro j y acc H9 hy ⟨s9,U5,rfl⟩;obtain⟨r',hrj,rfl⟩:=eT hy;refine 47#0#⟨r',m,rfl,λv hv=>(af rfl (?_))⟩
    have hv2:v=g.N.par r' m:=by
     rw[hv ts.length (j_ Nat.and_le_left (Fb r' (gB hrj)))];exact RM.bN λk _=>T? ..
    have etk:rs.take (j+1)=rs.take j++[r']:=by rw[Q!,hrj];rfl
    rw[etk,d_];cases hv3:v with
    | true =>
      rw[hv3]at hv2;refine cY 14#⟨U5,s9.put RG,aa,?_⟩;rw[M!,ο hv2.symm,List.filter_nil,bU]
    | false =>
      rw[hv3]at hv2;refine cJ ⟨s9,U5,?_⟩;rw[M!,ξ (by rw[<-hv2];decide),List.filter_nil,f_]
   rintro acc H9 ⟨s9,U5,rfl⟩;rw[av,H!]at U5;refine 14#29#(λl2 hl2=>?_)
   have sA:ah H9 (η H9 l2 (.lst [.int (r:Int)])):=ah.new hl2;refine⟨_,_,.lst (aM.of (sA _ _ U5)) (gE _),.lst (aM.of aa) (gE [r]),ee _,ee _,_,rfl,?_⟩;rw[p5];have s8A:=s9.trans sA;have VS:=s8.trans s8A;generalize η H9 l2 (.lst [.int (r:Int)])=HA at s8A VS;have own:(rs.filter λr'=>g.N.par r' m)=[r]↔∀j r',rs[j]?=some r'->g.N.par r' t.2.1.toNat=decide (i=j):=by
    rw[e2,a!];exact G9 nd qu
   by_cases VT:(rs.filter λr'=>g.N.par r' m)=[r]
   case neg =>
    rw[eV VT];exact cY (bad (λz=>VT (own.mpr z.1)) VS)
   rw[cH VT];refine cJ (0#14#28#⟨wb,p,ts,g,r,m,bw,t.2.2,rfl,hw.same VS,hW.same VS,sq,rl,λHB d sB hd=>(af rfl (?_))⟩)
   have ros:X6 p ts g t.2.1.toNat t.1 t.2.2↔g.N.par r m=true/\mw p ts m t.2.2/\yV p t.2.2 (Δ ts r):=by
    rw[e1,e2,a!]
    constructor
    .rintro⟨r2,e,_,_,ho,st,ns⟩;obtain rfl:r2=r:=by lia
     exact⟨(sH ml).mp ho,st,ns⟩
    .rintro⟨ho,st,ns⟩;exact⟨r,rfl,rl,rg,(sH ml).mpr ho,st,ns⟩
   cases d with
   | false=>exact cY (bad (λz=>e! (hd.mpr (ros.mp z.2))) (VS.trans sB))
   | true =>
     refine cJ ⟨_,_,_,rfl,VS.trans sB,(s8A.trans sB) _ _ Q7,λj t' hj ht'=>?_⟩
     by_cases e:j=i
     .subst e;rw[hti]at ht';rw[<-18#ht'];exact⟨own.mp VT,ros.mpr (hd.mp rfl)⟩
     .exact Yh j t' (by lia) ht'
  .rintro σ H8 ⟨v4,v5,v6,rfl,s8,Q7,Yh⟩;rw[UX]at Yh;refine q H8 true s8 ⟨λ_=>⟨rs,Pa,ba,hso,⟨ms,IG,by rw[Zh,VQ],λi m hm=>?_⟩,λt ht=>?_⟩,λ_=>rfl⟩
   .have xU:i<tr.length:=by rw[<-Zh];exact(j7.mp hm).1
    have hti:tr[i]?=some tr[i]:=i! xU;obtain⟨r,m',_,e2,_,hm',_,ml,_⟩:=fB hti;rw[hm]at hm';obtain rfl:=18#hm';refine⟨ml,λj r' hj=>?_⟩
    have:=(Yh i _ xU hti).1 j r' hj
    rwa [e2,a!]at this
   .obtain⟨i,hi⟩:=N! ht;exact(Yh i t (j7.mp hi).1 hi).2
def U6{N:RM.Net}{B:List Nat}{r m:Nat}(h:RM.Sp B r)(hp:N.par r m=true):∃b∈B,N.par b m=true:=by
 induction h with
 | zero=>rw[RM.mZ]at hp;cases hp
 | @add x b _ hb ih =>
   rw[RM.sF]at hp;cases hx:N.par x m with
   | true=>exact ih hx
   | false =>
     rw[hx,u?]at hp;exact⟨b,hb,hp⟩
def Rm{p:Nat}{ts:List eW}{g:aE p ts}{ps ps' : List (Addr×Int×Int×Int)}{f:59#0}(hf:∀r,f r=true↔r<17#0/\g.N.Ring r)(e:ps.map (λq=>(q.2.1,q.2.2.2))=((13#(17#0)).filter f).map λr=>(Δ ts r,(r:Int)))
 (hp:ps'.Perm ps) (hw:ps'.Pairwise (λx y=>¬ Gb y.2 x.2)):(ps'.map λq=>q.2.2.2.toNat).Pairwise (λx y=>Δ ts x<=Δ ts y)/\(∀r,r∈(ps'.map λq=>q.2.2.2.toNat)↔r<17#0/\g.N.Ring r)/\∀q∈ps',q.2.2.2=6#q.2.2.2.toNat:=by
 have mem:∀q∈ps,∃r,f r=true/\q.2.1=Δ ts r/\q.2.2.2=(r:Int):=λq hq=>by
  have:(q.2.1,q.2.2.2)∈ps.map (λq=>(q.2.1,q.2.2.2)):=d!.mpr ⟨q,hq,rfl⟩
  rw[e]at this;obtain⟨r,hr,e2⟩:=d!.mp this;exact⟨r,(C!.mp hr).2,(n! Prod.fst e2).symm,(n! Prod.snd e2).symm⟩
 have e3:ps.map (λq=>q.2.2.2.toNat)=(13#(17#0)).filter f:=by
  have:ps.map (λq=>q.2.2.2.toNat)=(ps.map (λq=>(q.2.1,q.2.2.2))).map λz=>z.2.toNat:=by rw[X!];rfl
  rw[this,e,X!];exact I_ _
 have pm:(ps'.map λq=>q.2.2.2.toNat).Perm ((13#(17#0)).filter f):=by rw[<-e3];exact hp.map _
 refine⟨?_,λr=>?_,λq hq=>?_⟩
 .rw[P?];refine i_ (λ{x y} hx hy h=>?_) hw
  obtain⟨r,_,e1,e2⟩:=mem x (hp.mem_iff.mp hx);obtain⟨r',_,e1',e2'⟩:=mem y (hp.mem_iff.mp hy);rw[e2,e2',a!,a!];unfold Gb at h;rw[e1,e1']at h
  lia
 .rw[pm.mem_iff,C!,A!,hf];exact⟨λz=>z.2,λz=>⟨z.1,z⟩⟩
 .obtain⟨r,_,_,e1⟩:=mem q (hp.mem_iff.mp hq);rw[e1,a!]
def ON{ts:List eW}{C:List Nat}{qs:List (Addr×Int×Int)}(Cm:∀c∈C,c<17#0)(big:17#0<=2^9)(eqs:qs.map (·.2)=C.map λr=>(Δ ts r,(r:Int))):
 qs.length=C.length/\(∀q∈qs,O6 q.2)/\∀{zh:List (Addr×Int×Int)},zh.Perm qs->zh.Pairwise (λx y=>kx x.2<=kx y.2)->(∀q∈zh,q.2.2=6#q.2.2.toNat)/\(zh.map λq=>q.2.2.toNat).Perm C/\(zh.map λq=>q.2.2.toNat).Pairwise (jJ ts):=by
 have qk:∀q∈qs,∃r:Nat,q.2=(Δ ts r,(r:Int))/\(r:Int)<1073741824:=λq hq=>by
  have:q.2∈qs.map (·.2):=d!.mpr ⟨q,hq,rfl⟩;rw[eqs]at this;obtain⟨r,hr,e2⟩:=d!.mp this;have:=Cm r hr;exact⟨r,e2.symm,by lia⟩
 refine⟨by have:=n! List.length eqs;rwa [χ,χ]at this,λq hq=>?_,λ{zh} pm so=>⟨λq hq=>?_,?_,?_⟩⟩
 .obtain⟨r,e,h⟩:=qk q hq;rw[e];exact⟨z_ r,h⟩
 .obtain⟨r,e,_⟩:=qk q (pm.mem_iff.mp hq);rw[e];rfl
 .have:=pm.map λq=>q.2.2.toNat
  rw[show qs.map (λq=>q.2.2.toNat)=C from by
   rw[show qs.map (λq=>q.2.2.toNat)=(qs.map (·.2)).map λz=>z.2.toNat from by rw[X!];rfl,eqs,X!]
   exact I_ _]at this
  exact this
 .rw[P?];refine so.imp_of_mem λ{x y} hx hy h=>?_
  obtain⟨r1,e1,b1⟩:=qk x (pm.mem_iff.mp hx);obtain⟨r2,e2,b2⟩:=qk y (pm.mem_iff.mp hy);rw[e1,e2]at h ⊢;have h:Δ ts r1*1073741824+(r1:Int)<=Δ ts r2*1073741824+(r2:Int):=h;show jJ ts (r1:Int).toNat (r2:Int).toNat;rw[a!,a!];unfold jJ
  lia
def OO(t:Addr)(lp:Pos):Sp:=λvs H Q _=>∃w p ts,∃g:aE p ts,∃cc:Int,vs=[.ref w,.int cc]/\73#0/\ts.length<=9/\H t=some (.lF (fM (qz "least_ways") lp))/\∀b ys (tr:List Lr) H',ah H H'->H' b=10#ys->Paired (tI H') ys tr->RM.LB g.N (cL ts) (tr.map (·.1))->(tr.map (·.1)).Pairwise (jJ ts)->MarksOf g.N (tr.map (·.1)) (tr.map (·.2.1))->(∀t∈tr,Bu p t.2.2/\qJ p ts g t.2.1 t.2.2)->Q (.ref b) H'
def gv:Ok T T.gn 11 (OO a.cW cC):=by
 have rN:=rN T;have jv:=jv T;have cT:=cT T;have bV:=bV T;have gu:=gu T;have eF:=eF T;have lD:=lD T;have eE:=eE T;refine T.gn.ok bO 4#0
 .obtain⟨wb,p,ts,g,cc,rfl,hw,h9,htb,qq⟩:=h;refine⟨_,(ae (bu 2 bO.nd (cy fO))
   (ae (cM PassesOwn.never rfl (Jb (by rfl) T.bH (bS aq (au h7 aq (30#25#0)))) (aQ 3 bO.nd)
   (ak (bx (PW.pt (tM (cu (aD rN hr T.rH.c aK 51#(pv 3))) (pX (cu (aD jv hr T.nV.c aK 51#(pv 3)))))) (ak (dB (Fc K (jY g? n? o? cN (pv 2) (bE (b9 (aP (aD cT hr T.ir.c aK 51#(pv 3)) (bS (aD bV hr T.eY.c aK (bS (pv 1) (au bh (pv 3) aq))) (pv 3))))))))) aN)))
   (ae (bu 4 bO.nd (aD gu hr T.kA.c aK (bE (aY (own:=["pair"]) (fq:=[]) (js:=[]) (az (ai dJ) ["web","cell","pairs","some","rings","marks","told","k"]) rfl (oh K (bY (NG K) (by rfl) T.pR W_ (bE (pv 2)))) 8#(aQ 0 (ig ["pair"])) 65#0 8#25#0))))
   (ae (fJ (i:=4) bO.nd rfl rfl (own:=["pair"]) (fq:=[]) (js:=[]) (az (ai dJ) ["web","cell","pairs","some","rings","marks","told","k"]) rfl (oh K (bY (yk K) (by rfl) T.pR W_ (bE (aY (own:=["ring"]) (fq:=["web"]) (js:=[0]) (az (ai dJ) ["web","cell","pairs","some","rings","marks","told","k"]) rfl (oh K (pv 4)) 8#(aQ 0 (ig ["ring","web"])) 65#0 8#(b9 (bS (aD cT hr T.ir.c aK (bS (pv 1) (pv 0))) (pv 0))))))) 8#(aQ 0 (ig ["pair"])) 65#0 8#25#0)
   (ae (bu 5 bO.nd (aD eF hr T.jI.c oN 51#(pv 4)))
   (ae (bu 6 bO.nd (cy fO))
   (ae (cM PassesOwn.never rfl (44#(30#(pv 4))) (aQ 7 bO.nd)
   (ae (bu 3 bO.nd (au iL (aZ (kE K) (pv 5) (pv 7)) (aD lD hr T.lA.c aK 51#(aD bV hr T.eY.c aK (bS (pv 1) (au cI aq (pv 7)))))))
   (ak (dB (Fc K (jY g? n? o? cN (pv 6) (bE (b9 (aP (aZ (kE K) (pv 4) (pv 7)) (bS (pv 3) (cA K (aD eE hr T.jH.c oN 51#(pv 3)))))))))))))
   (ak (aB (bQ (oM K) (by rfl) T.g8 I? (bE (pv 6)))))))))))),?_⟩
  refine sX ?_;intro b8 cB c9 dU eI j6 mS sQ vC vD k6;show 38;have qt:=h3.length;have big:(2:Nat)^ts.length<=2^9:=B? (16#0) h9
  have Uw:(1:Int)*2^(6#xs.length).toNat=6#(17#0):=by rw[iO,qt]
  have tp:=R! ts.length;refine 29#(λF hF=>?_)
  have s1:ah H (η H F (.lst [])):=ah.new hF;obtain⟨f,hf⟩:∃f:59#0,∀r,f r=true↔r<17#0/\g.N.Ring r:=⟨λr=>@decide (r<17#0/\g.N.Ring r) (Classical.propDecidable _),λr=>@j? _ (Classical.propDecidable _)⟩
  have f0:f 0=false:=by
   cases h:f 0 with
   | false=>rfl
   | true=>exact absurd rfl ((hf 0).mp h).2.1
  have few:∀(i:Nat) (ps:List (Addr×Int×Int×Int)),ps.map (λq=>(q.2.1,q.2.2.2))=((13#i).filter f).map (λr=>(Δ ts r,(r:Int)))->ps.length<64:=λi ps e=>by
   have h1:=n! List.length e;rw[χ,χ]at h1;have h2:=RM.NH (N:=g.N) (l:=(13#i).filter f) h9 (_j _ _C) λm hm=>(hf m).mp (C!.mp hm).2
   lia
  refine 14#(bC 36#(s1 _ _ h1) fB (kZ rfl (.inr 36#(s1 _ _ h2)) (br ⟨⟨by lia,by lia,16#0⟩,1,6#(17#0),n! (λz=>[V.int 1,V.int z]) Uw,⟨16#0,16#0,by lia,by lia⟩,?_⟩)))
  refine cF (lo:=1) (n:=(6#(17#0)-1).toNat) (λi σ H2=>∃(ps:List (Addr×Int×Int×Int)) (v2:Option V),σ=[11#wb,3#cc,some (.ref F),v2,none,none,none,none]/\ah H H2/\H2 F=1#(41#ps.map)/\(∀q∈ps,H2 q.1=10#([.int q.2.1,.int q.2.2.1,.int q.2.2.2]))/\ps.map (λq=>(q.2.1,q.2.2.2))=((13#(i+1)).filter f).map λr=>(Δ ts r,(r:Int))) ⟨[],none,rfl,s1,aa,(λq hq=>nomatch hq),?_⟩ ?_ ?_
  .rw[bj,f0];rfl
  .rintro i D' σ H2 hi ⟨ps,v2,rfl,s2,Rg,Lv,IQ⟩;have xU:i+1<17#0:=by lia
   have ei:(1:Int)+(i:Int)=6#(i+1):=by lia
   rw[ei];have fn:∀H3,ah H2 H3->f (i+1)=false->∃(ps:List (Addr×Int×Int×Int)) (v2:Option V),[some (V.ref wb),some (V.int cc),some (V.ref F),some (V.int 6#(i+1)),none,none,none,none]=[11#wb,3#cc,some (.ref F),v2,none,none,none,none]/\ah H H3/\H3 F=1#(41#ps.map)/\(∀q∈ps,H3 q.1=10#([.int q.2.1,.int q.2.2.1,.int q.2.2.2]))/\ps.map (λq=>(q.2.1,q.2.2.2))=((13#(i+1+1)).filter f).map λr=>(Δ ts r,(r:Int)):=λH3 s3 e =>
    ⟨ps,_,rfl,s2.trans s3,s3 _ _ Rg,λq hq=>s3 _ _ (Lv q hq),by rw[bj,e,IQ];simp⟩
   refine(0#⟨wb,p,ts,g,_,i+1,rfl,rfl,hw.same s2,xU,λH3 d s3 hd=>(af rfl (?_))⟩)
   cases d with
   | false =>
     refine fn H3 s3 ?_;cases h:f (i+1) with
     | false=>rfl
     | true=>exact absurd (hd.mpr ((hf _).mp h).2.2.1) (16#0)
   | true =>
     refine(0#⟨wb,p,ts,g,_,i+1,rfl,rfl,hw.same (s2.trans s3),xU,λH4 d s4 hd=>(af rfl (?_))⟩)
     cases d with
     | false =>
       refine fn H4 (s3.trans s4) ?_;cases h:f (i+1) with
       | false=>rfl
       | true=>exact absurd (hd.mpr ((hf _).mp h).2) (16#0)
     | true =>
       have Zr:=s3.trans s4;have VT:f (i+1)=true:=(hf _).mpr ⟨xU,hd.mp rfl⟩;refine 14#⟨91#(Zr _ _ Rg),0#⟨wb,p,ts,g,_,i+1,rfl,rfl,hw.same (s2.trans Zr),xU,λH5 s5=>?_⟩⟩
       refine(0#(br ⟨(h8 rfl),cc,_,rfl,Int.emod_nonneg _ (16#0),(by have:=aeb 6#(i+1) (show(0:Int)<977 by decide);lia),λzm _ _=>14#29#(λc hc=>?_)⟩))
       have s6:ah H5 (η H5 c (.tup [.int (Δ ts (i+1)),.int zm,.int 6#(i+1)])):=ah.new hc;have VU:=(Zr.trans s5).trans s6;have Zf:=VU _ _ Rg;have hcF:c≠F:=λz=>by rw[z,(Zr.trans s5) _ _ Rg]at hc;cases hc
       have pl:=few _ ps IQ;refine⟨F,_,_,rfl,rfl,Zf,cZ (by rw[χ];lia),?_⟩
       refine⟨ps++[(c,Δ ts (i+1),zm,6#(i+1))],_,rfl,(s2.trans VU).put hF,?_,λq hq=>?_,?_⟩
       .rw[aa,g!];rfl
       .have hqF:∀q∈ps,q.1≠F:=λq hq z=>by
         have:=Lv q hq;rw[z,Rg]at this;cases this
        rcases t!.mp hq with z|z
        .rw[ao (hqF q z)];exact VU _ _ (Lv q z)
        .rw[p!.mp z,ao hcF];exact aa
       .rw[bj,VT,ο rfl,g!,g!,IQ];rfl
  .rintro σ H2 ⟨ps,v2,rfl,s2,Rg,Lv,IQ⟩;have en:(6#(17#0)-1).toNat+1=17#0:=by have:=R! ts.length;lia
   rw[en]at IQ;have pl:=few _ ps IQ;refine 14#⟨F,ps,rfl,aM.of Rg,Lv,pl,λl ps' hl pm pw=>?_⟩
   obtain⟨up,all,nat⟩:=Rm hf IQ pm pw;have s3:ah H2 (η H2 l 46#41#ps'.map):=ah.new hl
   have Oo:η H2 l 46#41#ps'.map l=1#(41#ps'.map):=aa
   generalize η H2 l 46#41#ps'.map=H3 at s3 Oo
   have pl':=pm.length_eq;have mO:=s2.trans s3;refine⟨l,rfl,24#Oo,λD hD=>aU (K:=K) (a:=l) (xs:=41#ps'.map) (λi acc H4=>ah H3 H4/\H4 D=1#acc/\acc=aA ((ps'.take i).map λq=>q.2.2.2.toNat)) 68#hD (λi acc H4 _ z=>⟨aM.of (z.1 _ _ Oo),z.2.1,by rw[z.2.2,av,χ,I!];lia⟩) (B! (cZ (by rw[χ];lia))) ?_ ?_⟩
   .rintro i x acc H4 hx ⟨s4,zg,rfl⟩;rw[c!]at hx;obtain⟨q,hq,rfl⟩:=qC.mp hx;have hm:=gB hq;have hq4:=(s3.trans s4) _ _ (Lv q (pm.mem_iff.mp hm));refine 15#(bC (aL.of hq4) (ay (j:=2) rfl) ⟨zg,s4.put hD,aa,?_⟩);rw[take3 hq,g!,A_,bU,<-nat q hm]
   rintro acc H4 ⟨s4,zg,rfl⟩;rw[χ,H!]at zg;have l0l:58#(ps'.map λq=>q.2.2.2.toNat)<64:=by rw[χ];lia
   generalize (ps'.map λq=>q.2.2.2.toNat)=l0 at up all zg l0l
   refine⟨D,l0,rfl,zg,by lia,λD5 C H5 _ s5 ER ch=>?_⟩
   have II:=(mO.trans s4).trans s5;have bs:=ch.base (N:=g.N) all;have WY:=ch.parts (f:=Δ ts) up;have Cl:C.length<64:=j_ ch.sub.length_le l0l;have Cm:∀c∈C,c<17#0:=λc hc=>((all c).mp (ch.sub.mem hc)).1
   refine(af rfl ⟨D5,rfl,24#ER,λX hX=>aU (K:=K) (a:=D5) (xs:=aA C) (λi acc H6=>ah H5 H6/\H6 X=1#acc/\∃qs:List (Addr×Int×Int),acc=qs.map (λq=>V.ref q.1)/\(∀q∈qs,q.1≠X/\H6 q.1=10#([.int q.2.1,.int q.2.2]))/\qs.map (·.2)=(C.take i).map λr=>(Δ ts r,(r:Int))) ⟨ah.new hX,aa,[],rfl,(λq hq=>nomatch hq),rfl⟩ (λi acc H6 _ z=>⟨aM.of (z.1 _ _ ER),z.2.1,?_⟩) (B! (cZ (by rw[av];lia))) ?_ ?_⟩)
   .obtain⟨_,_,qs,rfl,_,e⟩:=z;have:=n! List.length e;rw[χ,χ,I!]at this;rw[χ]
    lia
   .rintro i x acc H6 hx ⟨s6,A4,qs,rfl,Rn,eqs⟩;obtain⟨c,Sj,rfl⟩:∃c,C[i]?=some c/\x = .int (c:Int):=by
     unfold aA at hx;rw[c!]at hx;obtain⟨c,h1,h2⟩:=qC.mp hx;exact⟨c,h1,h2.symm⟩
    refine 47#0#⟨wb,p,ts,g,_,c,rfl,rfl,hw.same (II.trans s6),Cm c (gB Sj),λH7 s7=>14#29#(λe he=>?_)⟩
    have s8:ah H7 (η H7 e (.tup [.int (Δ ts c),.int (c:Int)])):=ah.new he;have OP:=s7.trans s8;have Yi:e≠X:=λz=>by rw[z,s7 _ _ A4]at he;cases he
    refine⟨OP _ _ A4,(s6.trans OP).put hX,aa,qs++[(e,Δ ts c,(c:Int))],by rw[g!];rfl,λq hq=>?_,by rw[take3 Sj,g!,g!,eqs];rfl⟩
    rcases t!.mp hq with z|z
    .obtain⟨z1,z2⟩:=Rn q z;exact⟨z1,by rw[ao z1];exact OP _ _ z2⟩
    .rw[p!.mp z];exact⟨Yi,by rw[ao Yi];exact aa⟩
   rintro acc H6 ⟨s6,A4,qs,rfl,Rn,eqs⟩;rw[av,H!]at eqs;obtain⟨ql,qk,qd⟩:=ON Cm big eqs;refine⟨X,qs,rfl,aM.of A4,λq hq=>(Rn q hq).2,qk,by lia,λl2 zh hl2 U7 so2=>?_⟩
   obtain⟨U8,U9,Zs⟩:=qd U7 so2;have s7:ah H6 (η H6 l2 46#41#zh.map):=ah.new hl2
   have Va:η H6 l2 46#41#zh.map l2=1#(41#zh.map):=aa
   generalize η H6 l2 46#41#zh.map=H7 at s7 Va
   have ql2:=U7.length_eq;refine⟨l2,rfl,24#Va,λY hY=>aU (K:=K) (a:=l2) (xs:=41#zh.map) (λi acc H8=>ah H7 H8/\H8 Y=1#acc/\acc=aA ((zh.take i).map λq=>q.2.2.toNat)) 68#hY (λi acc H8 _ z=>⟨aM.of (z.1 _ _ Va),z.2.1,by rw[z.2.2,av,χ,I!];lia⟩) (B! (cZ (by rw[χ];lia))) ?_ ?_⟩
   .rintro i x acc H8 hx ⟨s8,CI,rfl⟩;rw[c!]at hx;obtain⟨q,hq,rfl⟩:=qC.mp hx;have hm:=gB hq;have hq8:=(s7.trans s8) _ _ (Rn q (U7.mem_iff.mp hm)).2;refine 15#(bC (aL.of hq8) fB ⟨CI,s8.put hY,aa,?_⟩);rw[take3 hq,g!,A_,bU,<-U8 q hm]
   rintro acc H8 ⟨s8,CI,rfl⟩;rw[χ,H!]at CI;generalize (zh.map λq=>q.2.2.toNat)=rs at U9 CI Zs
   have za:=((II.trans s6).trans s7).trans s8;have OQ:RM.Base g.N rs:=bs.perm U9;have VQ:=U9.length_eq;have abC:∀r,r<17#0->g.N.Ring r->RM.Sp (rs.filter λc=>7#(Δ ts c<=Δ ts r)) r:=λr h1 h2=>(WY r ((all r).mpr ⟨h1,h2⟩)).mono λc hc=>.mem (by
    obtain⟨c1,c2⟩:=C!.mp hc;exact C!.mpr ⟨U9.mem_iff.mpr c1,c2⟩)
   refine(0#⟨wb,p,ts,g,Y,rs.map (λx=>((x:Nat):Int)),rfl,hw.same za,by rw[<-dP];exact CI,by rw[χ];lia,.inl ⟨rs,rfl,OQ,λD2 ms H9 ie s9 U5 mo=>?_⟩⟩)
   have Pc:=za.trans s9;have hY9:=s9 _ _ CI;refine 29#(λTl Yj=>?_)
   have GY:ah H9 (η H9 Tl (.lst [])):=ah.new Yj;refine 14#(kZ rfl (.inl (aM.of (GY _ _ hY9))) 28#⟨(by lia),(by rw[av];lia),?_⟩)
   refine cF (lo:=0) (n:=(58#(aA rs):Int).toNat) (λi σ zW=>∃(acc:List V) (tw:List Lr) (v3 v7:Option V),σ=[11#wb,3#cc,some (.ref F),v3,some (.ref Y),11#D2,11#Tl,v7]/\ah H9 zW/\zW Tl=1#acc/\Paired (tI zW) acc tw/\tw.map (·.1)=rs.take i/\tw.length=i/\(∀(j m:Nat),(tw.map (·.2.1))[j]?=some m->m<17#0/\∀(j' r:Nat),rs[j']?=some r->g.N.par r m=decide (j=j'))/\∀t∈tw,Bu p t.2.2/\qJ p ts g t.2.1 t.2.2) ⟨[],[],_,_,rfl,GY,aa,.nil,rfl,rfl,(λj m h=>by cases h),(λt h=>nomatch h)⟩ ?_ ?_
   .rintro i D' σ zW hi ⟨acc,tw,v3,v7,rfl,x1,Hf,pd,e1,Zt,al,wo⟩;rw[K!];have hi:i<rs.length:=by rw[av]at hi;lia
    have qu:rs[i]?=some rs[i]:=i! hi;have hmi:ms[i]?=some (ms[i]'(by have:=mo.1;lia)):=i! _
    generalize (ms[i]'(by have:=mo.1;lia))=m at hmi
    generalize rs[i]=r at qu;obtain⟨m1,m2⟩:=mo.2 i m hmi;have w0:=Pc.trans x1;have bl:rs.length<64:=by lia
    refine(0#(jM (aM.of (x1 _ _ U5)) (ay (j:=i) (lT hmi)) 14#28#(af rfl (br ⟨cc,_,rfl,(by lia),(by lia),λzc z0 _=>?_⟩))))
    obtain⟨zn,rfl⟩:∃zn:Nat,zc=(zn:Int):=⟨zc.toNat,by lia⟩
    refine⟨wb,p,ts,g,zn,rfl,hw.same w0,_,_,rfl,rfl,?_⟩;have ex:=xor_int m (g.N.cut λx=>zn.testBit x)
    dsimp only;rw[ex];have cl:g.N.cut (λx=>zn.testBit x)<17#0:=RM.TR _
    have xl:m^^^g.N.cut (λx=>zn.testBit x)<17#0:=V! m1 cl
    have xp:∀q,g.N.dm q->g.N.par q (m^^^g.N.cut λx=>zn.testBit x)=g.N.par q m:=λq hq=>by rw[RM.ym,RM.Qi hq,T!]
    generalize m^^^g.N.cut (λx=>zn.testBit x)=mm at xl xp
    have rev:=(OQ.ring r (gB qu)).1.2.1;refine 14#⟨91#Hf,0#(jM (aM.of (x1 _ _ hY9)) (ay (j:=i) (lT qu)) 28#(af rfl (af rfl ⟨wb,p,ts,g,mm,r,rfl,hw.same w0,w0 _ _ htb,xl,(OQ.ring r (gB qu)).1,(OQ.ring r (gB qu)).2,by rw[xp r rev,m2 i r qu];exact cH rfl,λrr Fg _ US ⟨_,_,bb,W,_,hrr,hWb,wl1,wl2,bw⟩=>?_⟩)))⟩
    refine(bC (aL.of hrr) (ay (j:=2) rfl) 29#(λc hc=>?_))
    have s12:ah Fg (η Fg c (.tup [.int (r:Int),.int (mm:Int),.ref bb])):=ah.new hc;have x12:=US.trans s12;have Vb:=x12 _ _ Hf;have acl:=pd.length;refine⟨Tl,_,_,rfl,rfl,Vb,cZ (by lia),acc++[.ref c],tw++[(r,mm,W)],_,_,rfl,(x1.trans x12).put Yj,aa,?_,?_,?_,?_,λt ht=>?_⟩
    .exact Paired.snoc (Paired.imp' (λ_ _ z=>tI.tups (x12.tups.trans (cV.put Vb)) z) pd) (tI.tups (cV.put Vb) ⟨c,_,rfl,aa,hWb.same s12⟩)
    .rw[g!,e1,take3 qu];rfl
    .rw[k!,Zt];rfl
    .intro j m' hj;rw[g!]at hj;have ml:(tw.map (·.2.1)).length=i:=by rw[χ];exact Zt
     by_cases hji:j<i
     .rw[m? (by lia)]at hj
      exact al j m' hj
     .rw[A? (by lia),ml]at hj
      have:j-i=0:=by
       cases h:j-i with
       | zero=>rfl
       | succ n=>rw[h]at hj;cases hj
      rw[this]at hj;cases hj;obtain rfl:i=j:=by lia
      exact⟨xl,λj' r' h'=>by rw[xp r' (OQ.ring r' (gB h')).1.2.1];exact m2 j' r' h'⟩
    .rcases t!.mp ht with z|z
     .exact wo t z
     .rw[p!.mp z];exact⟨⟨wl1,wl2⟩,bw⟩
   .rintro σ zW ⟨acc,tw,v3,v7,rfl,x1,Hf,pd,e1,Zt,al,wo⟩;have ln:(58#(aA rs):Int).toNat=rs.length:=by rw[av];lia
    rw[ln]at e1 Zt;rw[H!]at e1;refine 14#⟨Tl,_,rfl,.inl ⟨aM.of Hf,λl3 Oo=>?_⟩⟩
    have s12:ah zW (η zW l3 (.tup acc)):=ah.new Oo;refine qq l3 acc tw _ ((Pc.trans x1).trans s12) aa (Paired.imp' (λ_ _ z=>tI.tups s12.tups z) pd) ?_ (by rw[e1];exact Zs) ⟨by rw[χ,χ],λj m h=>by rw[e1];exact al j m h⟩ wo
    rw[e1];refine⟨OQ,λr m hr hl hpr=>?_⟩
    obtain⟨b,hb,hbm⟩:=U6 (abC r hl hr) hpr;obtain⟨c1,c2⟩:=C!.mp hb;refine⟨b,c1,hbm,?_⟩;have c2:=jz c2
    rwa [q9 (OQ.ring b c1).2,q9 hl]at c2
def OR(H0:Hp)(X Y:Addr)(H:Hp)(z:V):Prop:=∃(c:Addr) (q:Pr),z = .ref c/\c≠X/\c≠Y/\H0 c=none/\H c=1#([oV q.1,oV q.2])
def tJ(H0:Hp)(X:Addr)(p:Nat)(H:Hp)(y:V):Prop:=∃(b:Addr) (zs:List V),y = .ref b/\b≠X/\H b=1#zs/\zs.length=p/\∀z∈zs,OR H0 X b H z
def OR.same{H0:Hp}{X Y:Addr}{H H' : Hp}{z:V}(s:ah H H')(h:OR H0 X Y H z):OR H0 X Y H' z:=let⟨c,q,e,n1,n2,h0,h⟩:=h;⟨c,q,e,n1,n2,h0,s _ _ h⟩
def tJ.same{H0:Hp}{X:Addr}{p:Nat}{H H' : Hp}{y:V}(s:ah H H')(h:tJ H0 X p H y):tJ H0 X p H' y:=let⟨b,zs,e,n,h,l,al⟩:=h;⟨b,zs,e,n,s _ _ h,l,λz hz=>(al z hz).same s⟩
def tJ.put{H0:Hp}{X:Addr}{p:Nat}{H:Hp}{o:HO}{y:V}(h:tJ H0 X p H y):tJ H0 X p (η H X o) y:=let⟨b,zs,e,n,h,l,al⟩:=h;⟨b,zs,e,n,by rw[ao n];exact h,l,λz hz=>let⟨c,q,e,n1,n2,h0,h⟩:=al z hz;⟨c,q,e,n1,n2,h0,by rw[ao n1];exact h⟩⟩
def tJ.set{H0:Hp}{X pA:Addr}{p:Nat}{H:Hp}{q0 q1:Pr}(p1:1<=p)(hA:H pA=1#([oV q0.1,oV q0.2])){y:V}(h:tJ H0 X p H y):tJ H0 X p (η H pA (.lst [oV q1.1,oV q1.2])) y:=by
 obtain⟨b,zs,e,n,h,l,al⟩:=h;have nb:b≠pA:=λz=>by
  rw[z,hA]at h;have e1:=HO.lst.inj (18#h);obtain⟨c,_,e2,_⟩:=al (oV q0.1) (by rw[<-e1];exact o!)
  cases h9:q0.1<;>rw[h9]at e2<;>cases e2
 refine⟨b,zs,e,n,by rw[ao nb];exact h,l,λz hz=>?_⟩
 obtain⟨c,q,e,n1,n2,h0,h⟩:=al z hz
 by_cases ec:c=pA
 .subst ec;exact⟨c,q1,e,n1,n2,h0,aa⟩
 .exact⟨c,q,e,n1,n2,h0,by rw[ao ec];exact h⟩
def OS{xs:List V}(z:Int)(h:0<xs.length):∃y∈xs,Ah xs (z%(xs.length:Int))=some y:=by
 obtain⟨h0,h1⟩:=iN z (xs.length:Int) (by lia)
 obtain⟨j,ej⟩:=a_ h0;rw[ej]at h1 ⊢;have hj:j<xs.length:=by lia
 exact⟨xs[j],Q? hj,ay (i! hj)⟩
def Sm{α:Type}(f:α->V)(a0 a1 a2 a3:α)(y:Int):∃x,Ah [f a0,f a1,f a2,f a3] (y%4)=some (f x):=by
 obtain⟨h0,h1⟩:=iN y 4 (16#0)
 generalize y%4=i at h0 h1;have hi:i=0\/i=1\/i=2\/i=3:=by lia
 rcases hi with rfl|rfl|rfl|rfl
 .exact⟨_,je⟩
 .exact⟨_,fB⟩
 .exact⟨_,ay (j:=2) rfl⟩
 .exact⟨_,ay (j:=3) rfl⟩
def IS(q:Pr)(u:Bool)(x:55#0):∃q' : Pr,([oV q.1,oV q.2]:List V).set u.toNat (oV x)=[oV q'.1,oV q'.2]/\sel q' u=x:=by
 cases u with
 | false=>exact⟨(x,q.2),rfl,rfl⟩
 | true=>exact⟨(q.1,x),rfl,rfl⟩
def Ld:Sp:=λvs H Q _=>∃(b:Addr) (p:Nat) (W:List (List Pr)) (cc:Int),vs=[.ref b,.int cc]/\c8 H b W/\Bu p W/\1<=p/\p<=10/\∀b' W' H',ah H H'->c8 H' b' W'->Bu p W'->Q (.ref b') H'
def ja:Ok T T.i0 1 Ld:=by
 refine T.i0.ok cS 4#0
 .obtain⟨b,p,W,cc,rfl,hW,sq,p1,p10,q⟩:=h;refine⟨_,(ae (fJ (i:=2) cS.nd rfl rfl (own:=["row"]) (fq:=[]) (js:=[]) (az (ai cG) ["worths","cell","rows","row","pair","part","old"]) rfl (RJ K (pv 0)) 8#(aQ 0 (ig ["row"])) 65#0 8#(aY (own:=["pair"]) (fq:=[]) (js:=[]) (az (DH _ (ai cG)) ["row"]) rfl (RJ K (pv 0)) (λ_ _ _ _=>(aQ 0 (ig ["pair"]))) 65#0 (λ_ _ _ _=>(bQ (WK K) (by rfl) T.GP adK (bE (pv 0))))))
   (ae (bu 3 cS.nd (aZ (kE K) (pv 2) (au bh (pv 1) (30#(pv 2)))))
   (ae (bu 4 cS.nd (aZ (kE K) (pv 3) (au bh (au eM (pv 1) aq) (30#(pv 3)))))
   (ae (bu 5 cS.nd (au bh (au eM (pv 1) aq) aq))
   (ae (bu 6 cS.nd (aZ (kE K) (pv 4) (pv 5)))
   (ae (qQ (aZ (kE K) (cy (aP eN (aP aq (bS aq (au A9 aq aq))))) (au bh (au eM (pv 1) aq) aq)) (wU (pv 4) (pv 5) set_list))
   (ae (bx (PW.pt (tM (aG vp (au bh (au eM (pv 1) aq) aq) aq (aF _)) (pX (aG Bc (pv 6) eN (aF _))))) (ak (qQ (au cI (pv 6) (aZ (kE K) (cy (aP aq (aP (Ht Bb aq) (bS aq (Ht Bb (au A9 aq aq)))))) (au bh (au eM (pv 1) aq) aq))) (wU (pv 4) (pv 5) set_list))) aN)
   (ak (aB (bQ (oM K) (by rfl) T.g8 I? (bE (aY (own:=["made"]) (fq:=[]) (js:=[]) (az (ai cG) ["worths","cell","rows","row","pair","part","old"]) rfl (oh K (pv 2)) 8#(aQ 0 (ig ["made"])) 65#0 8#(bQ (oM K) (by rfl) T.g8 I? (bE (aY (own:=["one"]) (fq:=[]) (js:=[]) (az (DH _ (ai cG)) ["made"]) rfl (oh K (pv 0)) (λ_ _ _ _=>(aQ 0 (ig ["one"]))) 65#0 (λ_ _ _ _=>(bQ (oM K) (by rfl) T.g8 I? (bE (pv 0))))))))))))))))))),?_⟩
  refine rC ?_;intro b8 cB c9 dU eI j6 mS sQ;obtain⟨ws,hws,Lq⟩:=id hW;have X7:ws.length=p:=by rw[Lq.length,sq.1]
  refine 14#⟨b,rfl,⟨_,aL.of hws⟩,λX hX=>mV (K:=K) (a:=b) (xs:=ws) (λi acc H2=>ah H H2/\H2 X=1#acc/\acc.length=i/\∀y∈acc,tJ H X p H2 y) ⟨ah.new hX,aa,rfl,λy h=>nomatch h⟩ (λi acc H2 _ z=>⟨aL.of (z.1 _ _ hws),z.2.1,by rw[z.2.2.1];exact Z' _⟩) (cD (by lia)) ?_ ?_⟩
  .rintro i x acc H2 hx ⟨s2,hX2,Vc,Vz⟩;obtain⟨R,hR,bR,ys,rfl,CO,Fd⟩:=Paired.j8 Lq hx;have yl:ys.length=p:=by rw[Fd.length];exact sq.2 R (gB hR)
   refine 15#⟨bR,rfl,⟨_,aL.of (s2 _ _ CO)⟩,λD hD=>mV (K:=K) (a:=bR) (xs:=ys) (λj ac H3=>ah H2 H3/\H3 D=1#ac/\ac.length=j/\∀z∈ac,OR H X D H3 z) ⟨ah.new hD,aa,rfl,λz h=>nomatch h⟩ (λj ac H3 _ z=>⟨aL.of (z.1 _ _ (s2 _ _ CO)),z.2.1,by rw[z.2.2.1];exact Z' _⟩) (cD (by lia)) ?_ ?_⟩
   .rintro j v ac H3 hv ⟨s3,qw,Yk,Cz⟩;obtain⟨qp,_,cp,rfl,hcp⟩:=Paired.j8 Fd hv;refine 15#(kZ rfl (.inr 36#((s2.trans s3) _ _ hcp)) (λl hl=>?_))
    have s4:ah H3 (η H3 l (.lst [oV qp.1,oV qp.2])):=ah.new hl;have nlD:l≠D:=u! (aX qw hl);have nlX:l≠X:=u! (aX (s3 _ _ hX2) hl);refine⟨s4 _ _ qw,(s3.trans s4).put hD,aa,by rw[k!,Yk];rfl,λz hz=>?_⟩
    rcases t!.mp hz with hz|hz
    .obtain⟨c,q,e,n1,n2,h0,h⟩:=Cz z hz;exact⟨c,q,e,n1,n2,h0,by rw[ao n2];exact s4 _ _ h⟩
    .rw[p!.mp hz];exact⟨l,qp,rfl,nlX,nlD,(s2.trans s3).free hl,by rw[ao nlD];exact aa⟩
   .rintro ac H3 ⟨s3,qw,Yk,Cz⟩;have CN:=s3 _ _ hX2;have nDX:D≠X:=u! (aX hX2 hD);refine⟨CN,(s2.trans s3).put hX,aa,by rw[k!,Vc];rfl,λy hy=>?_⟩
    rcases t!.mp hy with hy|hy
    .exact((Vz y hy).same s3).put
    .rw[p!.mp hy];exact tJ.put ⟨D,ac,rfl,nDX,qw,by rw[Yk,yl],Cz⟩
  rintro acc H2 ⟨s2,hX2,Vc,Vz⟩;rw[X7]at Vc;obtain⟨y,hy,hat⟩:=OS (xs:=acc) cc (by lia)
  obtain⟨bR,zs,rfl,nbX,CO,zl,okz⟩:=Vz y hy;refine(0#14#(kZ rfl (.inl (aM.of hX2)) (br ⟨(by lia),jM (aM.of hX2) (hat) (?_)⟩)))
  obtain⟨z,hz,abI⟩:=OS (xs:=zs) (cc/7) (by lia)
  obtain⟨pA,q0,rfl,nA1,nA2,hA0,hA⟩:=okz z hz;refine(0#(br ⟨⟨16#0,16#0⟩,af rfl (kZ rfl (.inl (aM.of CO)) (br ⟨(by lia),jM (aM.of CO) (abI) (?_)⟩))⟩))
  obtain⟨u,eu⟩:∃u:Bool,cc/49%2=(u.toNat:Int):=by
   have h:=iN (cc/49) 2 (16#0)
   have:cc/49%2=0\/cc/49%2=1:=by lia
   rcases this with z|z
   .exact⟨false,z⟩
   .exact⟨true,z⟩
  refine 14#(br ⟨⟨16#0,16#0⟩,br ⟨(h8 rfl),?_⟩⟩)
  dsimp only;rw[eu];have hu:u.toNat<2:=by cases u<;>decide
  refine(0#(jM (aM.of hA) (ay (j:=u.toNat) (G7 q0 u)) (?_)));refine(br ⟨⟨16#0,16#0,16#0⟩,(dl rfl),λl hl=>?_⟩)
  obtain⟨x1,abJ⟩:=Sm oV none (some 0) (some 1) (some (10^(40:Int).toNat)) (cc/98);refine 14#(br ⟨⟨16#0,16#0⟩,br ⟨(h8 rfl),jM (aM.of aa) (abJ) (?_)⟩⟩)
  have s3:ah H2 (η H2 l (.lst [.dZ,.int 0,.int 1,.int (10^(40:Int).toNat)])):=ah.new hl;have sh:∀H',ah H H'->H' X=1#acc->(∀y∈acc,tJ H X p H' y)->∀(q q' : Pr),H' pA=1#([oV q.1,oV q.2])->ah H (η H' pA (.lst [oV q'.1,oV q'.2]))/\η H' pA (.lst [oV q'.1,oV q'.2]) X=1#acc/\∀y∈acc,tJ H X p (η H' pA (.lst [oV q'.1,oV q'.2])) y:=λH' a1 a2 a3 q q' h=>⟨a1.put hA0,by rw[ao (u! nA1)];exact a2,λy hy=>(a3 y hy).set p1 h⟩
  obtain⟨q1,e1,e1s⟩:=IS q0 u x1;refine(0#⟨pA,_,_,u.toNat,rfl,rfl,s3 _ _ hA,nj hu,?_⟩);rw[e1];obtain⟨b1,b2,b3⟩:=sh _ (s2.trans s3) (s3 _ _ hX2) (λy hy=>(Vz y hy).same s3) q0 q1 (s3 _ _ hA)
  have hA4:η (η H2 l (.lst [.dZ,.int 0,.int 1,.int (10^(40:Int).toNat)])) pA (.lst [oV q1.1,oV q1.2]) pA=1#([oV q1.1,oV q1.2]):=aa;have e0:[V.dZ,.int 0,.int 1,(λi j:Int=>V.int (i^j.toNat)) 10 40]=[.dZ,.int 0,.int 1,.int (10^(40:Int).toNat)]:=rfl
  rw[e0];generalize η (η H2 l (.lst [.dZ,.int 0,.int 1,.int (10^(40:Int).toNat)])) pA (.lst [oV q1.1,oV q1.2])=H4 at b1 b2 b3 hA4;have cont:∀H5,ah H H5->H5 X=1#acc->(∀y∈acc,tJ H X p H5 y)->b8 { nx:=λ_ H'=>Q V.dZ H',rt:=Q} [some (.ref b),3#cc,some (.ref X),11#bR,11#pA,3#(u.toNat:Int),some (oV (sel q0 u))] H5:=λH5 a1 a2 a3=>by
   refine 14#⟨X,rfl,24#a2,λY hY=>aU (K:=K) (a:=X) (xs:=acc) (λi ac H6=>ah H5 H6/\H6 Y=1#ac/\∃W' : List (List Pr),Paired (RowW H6) ac W'/\W'.length=i/\∀R∈W',R.length=p) ⟨ah.new hY,aa,[],.nil,rfl,λR h=>nomatch h⟩ (λi ac H6 _ ⟨z1,z2,W',z3,z4,_⟩=>⟨aM.of (z1 _ _ a2),z2,by rw[z3.length,z4];exact Z' _⟩) (cD (by lia)) ?_ ?_⟩
   .rintro i y ac H6 hy ⟨s6,hY6,W',Yl,wl6,al6⟩;obtain⟨b6,zs6,rfl,_,UP,zl6,ok6⟩:=(a3 y (gB hy)).same s6;refine 15#⟨b6,rfl,24#UP,λD hD=>aU (K:=K) (a:=b6) (xs:=zs6) (λj Sn H7=>ah H6 H7/\H7 D=1#Sn/\∃R:List Pr,Paired (iR H7) Sn R/\R.length=j) ⟨ah.new hD,aa,[],.nil,rfl⟩ (λj Sn H7 _ ⟨z1,z2,R,z3,z4⟩=>⟨aM.of (z1 _ _ UP),z2,by rw[z3.length,z4];exact Z' _⟩) (cD (by lia)) ?_ ?_⟩
    .rintro j v Sn H7 hv ⟨s7,Yg,R,pr7,rl7⟩;obtain⟨c7,q7,rfl,_,_,_,Oh⟩:=(ok6 v (gB hv)).same s7;refine 15#⟨c7,_,rfl,.inl ⟨aM.of Oh,λt ht=>?_⟩⟩
     have s8:ah H7 (η H7 t (.tup [oV q7.1,oV q7.2])):=ah.new ht;have RG:=s8 _ _ Yg;exact⟨RG,(s7.trans s8).put hD,aa,R++[q7],Paired.snoc (Paired.imp' 74#(s8.tups.trans (cV.put RG)) pr7) ⟨t,rfl,cV.put RG _ _ aa⟩,by rw[k!,rl7];rfl⟩
    .rintro Sn H7 ⟨s7,Yg,R,pr7,rl7⟩;refine⟨D,Sn,rfl,.inl ⟨aM.of Yg,λt ht=>?_⟩⟩
     have s8:ah H7 (η H7 t (.tup Sn)):=ah.new ht;have OP:=s7.trans s8;have CI:=OP _ _ hY6;refine⟨CI,(s6.trans OP).put hY,aa,W'++[R],Paired.snoc (Paired.imp' 74#(OP.tups.trans (cV.put CI)) Yl) ⟨t,Sn,rfl,cV.put CI _ _ aa,Paired.imp' 74#(s8.tups.trans (cV.put CI)) pr7⟩,by rw[k!,wl6];rfl,λR' Xd=>?_⟩
     rcases t!.mp Xd with z|z
     .exact al6 R' z
     .rw[p!.mp z,rl7,zl6]
   .rintro ac H6 ⟨s6,hY6,W',Yl,wl6,al6⟩;refine⟨Y,ac,rfl,.inl ⟨aM.of hY6,λt ht=>?_⟩⟩
    have s7:ah H6 (η H6 t (.tup ac)):=ah.new ht;exact q t W' _ ((a1.trans s6).trans s7) ⟨ac,aa,Paired.imp' 74#s7.tups Yl⟩ ⟨by rw[wl6,Vc],al6⟩
  refine 14#(br ⟨⟨16#0,16#0⟩,br ⟨(h8 rfl),br 28#(iI (λ_=>?_) (λ_=>cJ (cont H4 b1 b2 b3)))⟩⟩)
  cases hold:sel q0 u with
  | none=>exact 14#15#(Aj rfl (by have:=cont H4 b1 b2 b3;rw[hold]at this;exact this))
  | some d =>
    rw[hold]at cont;refine 14#15#(EV 60#0 ?_)
    obtain⟨x2,abQ⟩:=Sm V.int 1 (-1) 2 (-10^(30:Int).toNat) (cc/1176);refine(0#(br ⟨⟨16#0,16#0,16#0⟩,af rfl ⟨(dl rfl),λl5 hl5=>14#(br ⟨⟨16#0,16#0⟩,br ⟨(h8 rfl),jM (aM.of aa) (abQ) (br (?_))⟩⟩)⟩⟩))
    have s5:ah H4 (η H4 l5 (.lst [.int 1,.int (-1),.int 2,.int (-10^(30:Int).toNat)])):=ah.new hl5;obtain⟨q2,e2,_⟩:=IS q1 u (some (d+x2));refine(0#⟨pA,_,_,u.toNat,rfl,rfl,s5 _ _ hA4,nj hu,?_⟩);obtain⟨c1,c2,c3⟩:=sh _ (b1.trans s5) (s5 _ _ b2) (λy hy=>(b3 y hy).same s5) q1 q2 (s5 _ _ hA4)
    have e2:([oV q1.1,oV q1.2]:List V).set u.toNat ((λi j:Int=>V.int (i+j)) d x2)=[oV q2.1,oV q2.2]:=e2
    rw[e2];exact cont _ c1 c2 c3
def Le:Sp:=λvs H Q _=>∃w p ts,∃_:aE p ts,∃(b:Addr) (ys:List V) (tr:List G4) (cc:Int),vs=[.ref w,.ref b,.int cc]/\73#0/\1<=p/\p<=10/\ts.length<=20/\H b=10#ys/\Paired (jK p H) ys tr/\tr.length<=15/\(tr≠[]->ts≠[])/\(∀t∈tr,0<=t.1/\0<=t.2.1)/\
 ∀b' ys' tr' H',ah H H'->H' b' = 10#ys'->Paired (jK p H') ys' tr'->tr'.length<=31->Q (.ref b') H'
theorem rO{α β:Type}{F:α->β->Prop}{x:α}{y:β}(h:F x y):∀n,Paired F (List.replicate n x) (List.replicate n y)
 | 0=>.nil
 | n+1=>.cons h (rO h n)
theorem lE{α β:Type}{F:α->β->Prop}{l' : List α}{r' : List β}(h' : Paired F l' r'):∀{l:List α} {r:List β},Paired F l r->Paired F (l++l') (r++r')
 | _,_,.nil=>h'
 | _,_,.cons h t=>.cons h (lE h' t)
theorem vH{α β:Type}{F:α->β->Prop}:∀{l:List α} {r:List β} (k:Nat),Paired F l r->Paired F (l.drop k) (r.drop k)
 | _,_,_,.nil=>by rw[List.drop_nil,List.drop_nil];exact .nil
 | _,_,0,h=>h
 | _,_,k+1,.cons _ t=>vH k t
theorem vI{α β:Type}{F:α->β->Prop}:∀{l:List α} {r:List β} (k:Nat),Paired F l r->Paired F (l.take k) (r.take k)
 | _,_,_,.nil=>by rw[List.take_nil,List.take_nil];exact .nil
 | _,_,0,h=>by rw[_G,_G];exact .nil
 | _,_,k+1,.cons h t=>.cons h (vI k t)
def n8{β:Type}{F:V->β->Prop}{l:List V}{r:List β}(h:Paired F l r)(lo hi:55#0):∃r',Paired F (qv l lo hi) r'/\r'.length<=r.length:=⟨_,vI _ (vH _ h),by rw[I!,e_];lia⟩
def IT(x y z u:Int)(n:Int):∃v,Ah [V.int x,.int y,.int z,.int u] (n%4)=some (.int v):=by
 have h:n%4=0\/n%4=1\/n%4=2\/n%4=3:=by lia
 rcases h with h|h|h|h<;>rw[h]<;>exact⟨_,rfl⟩
def kC:Ok T T.kB 2 Le:=by
 refine T.kB.ok bK 4#0
 .obtain⟨wb,p,ts,g,b,ys,tr,cc,rfl,hw,p1,p10,tl,hb,pr,trl,nt,nn,q⟩:=h;have ja:=ja T;refine⟨_,(ae (bu 3 bK.nd (au bh (pv 2) aq))
   (ae (bu 4 bK.nd (au eM (pv 2) aq))
   (ae (bx (aG (UB hr.units) (pv 1) (b9 fO) (aF _)) (ae (bu 5 bK.nd (bQ (oM K) (by rfl) T.g8 I? (bE (au wZ (cy (bE (bQ (oM K) (by rfl) T.g8 I? (bE (au wZ (cy (bE (b9 (bS aq eN)))) 25#0))))) 25#0))))
   (ak (aB (au NJ (b9 (bE (b9 (aP (au bh (pv 4) aq) (bS aq (pv 5)))))) (au bh (pv 3) aq))))) aN)
   (ae (bu 6 bK.nd (au bh (pv 4) (30#(pv 1))))
   (ae (qQ (aZ (mj K) (pv 1) (pv 6)) (Ak K (n:=3) rfl (aI (aQ 7 bK.nd) (aI (aQ 8 bK.nd) (aI (aQ 9 bK.nd) cU)))))
   (ae (bu 4 bK.nd (au eM (pv 4) (30#(pv 1))))
   (ae (bu 10 bK.nd (au h7 aq (30#25#0)))
   (ae (bx (aG eK (pv 3) aq (aF _)) (ak (aB (au Io (jB (P5) (pv 1) lJ (lK (pv 6))) (jB (P5) (pv 1) (lK (au cI (pv 6) aq)) lJ)))) aN)
   (ae (bx (aG eK (pv 3) aq (aF _)) (ak (aB (au Io (pv 1) (b9 (bE (aZ (mj K) (pv 1) (pv 6))))))) aN)
   (ae (bx (aG eK (pv 3) aq (aF _)) (ak (aB (JX K rfl (by rfl) T.g8 (by rfl) T.GQ (pv 1)))) aN)
   (ae (bx (aG eK (pv 3) aq (aF _)) (ak (bu 7 bK.nd (aZ (kE K) (cy (aP (au bh (pv 4) (pv 10)) (aP (au iL (pv 7) (cA K (aZ (mj K) (pv 1) (au bh (pv 4) (30#(pv 1)))))) (bS (au gx (Ht Bb aq) (au bh (pv 4) (pv 10))) (au cI (pv 10) (pv 4)))))) (au bh (au eM (pv 4) aq) aq)))) aN)
   (ae (bx (aG eK (pv 3) aq (aF _)) (ak (bu 8 bK.nd (aZ (kE K) (cy (aP (au bh (pv 4) (pv 10)) (aP (au iL (pv 8) (au h7 aq (au bh (pv 4) (30#25#0)))) (bS (au gx (Ht Bb aq) (au bh (pv 4) (pv 10))) (au cI (pv 10) (pv 4)))))) (au bh (au eM (pv 4) aq) aq)))) aN)
   (ae (bx (aG vp (pv 3) aq (aF _)) (ak (bu 9 bK.nd (aD ja hr T.i0.c aK (bS (pv 9) (pv 4))))) aN)
   (ak (aB (au Io (au Io (jB (P5) (pv 1) lJ (lK (pv 6))) (b9 (bE (b9 (aP (pv 7) (bS (pv 8) (pv 9))))))) (jB (P5) (pv 1) (lK (au cI (pv 6) aq)) lJ))))))))))))))))),?_⟩
  refine zE ?_;intro b8 cB c9 dU eI j6 mS sQ vC vD k6 mC BW Em En J9 NR NS XC XD XE;show 38;have qt:=h3.length;have yl:=pr.length;obtain⟨m0,m1⟩:=iN cc 9 (16#0)
  refine 14#(br ⟨(h8 rfl),?_⟩);refine 14#(br ⟨⟨16#0,16#0⟩,?_⟩)
  refine 14#29#(λZ hZ=>⟨b,Z,_,rfl,rfl,ah.new hZ _ _ hb,aa,_,rfl,?_⟩)
  have s1:ah H (η H Z (.tup [])):=ah.new hZ;generalize η H Z (.tup [])=H1 at s1;rw[show 7#(ys=[])=7#(tr=[]) from K?.mpr (by cases pr<;>simp)]
  have hb1:=s1 _ _ hb;have pr1:Paired (jK p H1) ys tr:=85#74#s1.tups
  have hw1:=hw.same s1
  by_cases e0:tr=[]
  .rw[cH e0];refine cY ?_;have ex:=s1 _ _ h1;refine 29#(λT0 hT0=>?_)
   have s2:ah H1 (η H1 T0 (.tup [.int 0,.dZ])):=ah.new hT0;have hT1:η H1 T0 (.tup [.int 0,.dZ]) T0=10#([.int 0,.dZ]):=aa;generalize η H1 T0 (.tup [.int 0,.dZ])=H2 at s2 hT1;refine 29#(λL1 Zb=>?_)
   have s3:ah H2 (η H2 L1 (.lst [.ref T0])):=ah.new Zb;have Lp:η H2 L1 (.lst [.ref T0]) L1=1#([.ref T0]):=aa;generalize η H2 L1 (.lst [.ref T0])=H3 at s3 Lp;refine 14#(bC 36#((s2.trans s3) _ _ ex) je ⟨L1,p,_,rfl,rfl,Lp,by lia,by lia,?_,λL3 VW=>?_⟩)
   .rw[a!,U!,Nat.one_mul];exact cD (by lia)
   rw[a!,adV];have s4:ah H3 (η H3 L3 46#(54#(V.ref T0))):=ah.new VW;have Rf:η H3 L3 46#(54#(V.ref T0)) L3=1#(54#(V.ref T0)):=aa;generalize η H3 L3 46#(54#(V.ref T0))=H4 at s4 Rf;refine⟨L3,_,rfl,.inl ⟨aM.of Rf,λT4 Li=>?_⟩⟩
   have s5:ah H4 (η H4 T4 (.tup (54#(V.ref T0)))):=ah.new Li;have hT5:η H4 T4 (.tup (54#(V.ref T0))) T4=10#(54#(V.ref T0)):=aa;generalize η H4 T4 (.tup (54#(V.ref T0)))=H5 at s5 hT5;refine 29#(λL5 Ra=>?_)
   have s6:ah H5 (η H5 L5 (.lst [.ref T4])):=ah.new Ra;have Rb:η H5 L5 (.lst [.ref T4]) L5=1#([.ref T4]):=aa;generalize η H5 L5 (.lst [.ref T4])=H6 at s6 Rb;have IJ:=(s2.trans s3).trans ((s4.trans s5).trans s6);refine 14#(bC 36#(IJ _ _ ex) je ⟨L5,p,_,rfl,rfl,Rb,by lia,by lia,?_,λL7 hL7=>?_⟩)
   .rw[a!,U!,Nat.one_mul];exact cD (by lia)
   rw[a!,adV];have s7:ah H6 (η H6 L7 46#(54#(V.ref T4))):=ah.new hL7;have hL8:η H6 L7 46#(54#(V.ref T4)) L7=1#(54#(V.ref T4)):=aa;generalize η H6 L7 46#(54#(V.ref T4))=H7 at s7 hL8;refine⟨L7,_,rfl,.inl ⟨aM.of hL8,λT8 hT8=>?_⟩⟩
   have s8:ah H7 (η H7 T8 (.tup (54#(V.ref T4)))):=ah.new hT8;have hT9:η H7 T8 (.tup (54#(V.ref T4))) T8=10#(54#(V.ref T4)):=aa;generalize η H7 T8 (.tup (54#(V.ref T4)))=H8 at s8 hT9;have Ym:=s3.trans ((s4.trans s5).trans (s6.trans (s7.trans s8)));have wa:c8 H8 T8 (54#(List.replicate p (some 0,none))):=⟨_,hT9,rO ⟨T4,_,rfl,(s6.trans (s7.trans s8)) _ _ hT5,rO ⟨T0,rfl,Ym _ _ hT1⟩ p⟩ p⟩;have sq:Bu p (54#(List.replicate p ((some 0,none):Pr))):=⟨b_,λR hR=>by rw[List.eq_of_mem_replicate hR,b_]⟩
   have za:=s1.trans (s2.trans Ym);refine 14#(br ⟨(h8 rfl),af rfl 29#(λT9 abS=>?_)⟩)
   have s9:ah H8 (η H8 T9 (.tup [.int (cc/9%8),.int 0,.ref T8])):=ah.new abS;have Hf:η H8 T9 (.tup [.int (cc/9%8),.int 0,.ref T8]) T9=10#([.int (cc/9%8),.int 0,.ref T8]):=aa;have Vd:ah H (η H8 T9 (.tup [.int (cc/9%8),.int 0,.ref T8])):=za.trans s9;have wa9:=wa.same s9;clear hT9;refine 29#(λU hU=>?_)
   show Rz _ (SE 3) _ _ (η (η H8 T9 (.tup [.int (cc/9%8),.int 0,.ref T8])) U (.tup [.ref T9])) _;generalize η H8 T9 (.tup [.int (cc/9%8),.int 0,.ref T8])=H9 at s9 Hf Vd wa9 hU ⊢;have GY:ah H9 (η H9 U (.tup [.ref T9])):=ah.new hU;refine 14#(br ⟨(h8 rfl),U,_,_,rfl,rfl,aa,by simp,by lia,λr Fg US Ro=>?_⟩)
   have Rp:=GY.trans US
   by_cases e1:cc%9%2=1
   .rw[ο e1]at Ro;exact q r _ [(cc/9%8,0,_)] Fg (Vd.trans Rp) Ro (.cons ⟨T9,T8,rfl,Rp _ _ Hf,wa9.same Rp,sq⟩ .nil) (by show 1<=31;decide)
   .rw[ξ e1]at Ro;exact q r _ [] Fg (Vd.trans Rp) Ro .nil (16#0)
  .rw[eV e0];refine cJ ?_;have n0:0<ys.length:=by
    rw[yl];exact ad8.mpr e0
   have t0:0<ts.length:=ad8.mpr (nt e0);obtain⟨a0,a1⟩:=iN (cc/9) (ys.length:Int) (by lia)
   refine(0#(kZ rfl (.inr (aL.of hb1)) (br ⟨by lia,?_⟩)))
   obtain⟨k,hk⟩:=a_ a0;have kl:k<ys.length:=by lia
   obtain⟨t,ht,c,bw,hy,hc,hW,sq⟩:=Paired.j8 pr1 (i! kl);have hyk:ys[k]?=some (.ref c):=by rw[i! kl,hy]
   show J9 _ [11#wb,some (.ref b),3#cc,3#(cc%9),3#(cc/9),none,3#(cc/9%(ys.length:Int)),none,none,none,none] H1;rw[hk];refine(0#(bC (aL.of hb1) (ay (j:=k) hyk) ⟨c,_,rfl,aL.of hc,rfl,_,_,rfl,_,_,rfl,_,_,rfl,rfl,?_⟩));refine(0#(kZ rfl (.inr (aL.of hb1)) (br ⟨⟨by lia,by lia⟩,?_⟩)))
   refine 14#(bC 36#(s1 _ _ h1) fB (kZ rfl (.inr 36#(s1 _ _ h2)) (br ⟨⟨by lia,by lia,16#0⟩,?_⟩)))
   have fp:(0:Int)<1*2^(6#xs.length).toNat:=by
    rw[Int.one_mul];exact Int.pow_pos (16#0)
   show BW _ [11#wb,some (.ref b),3#cc,3#(cc%9),3#(cc/9/(ys.length:Int)),none,3#(k:Int),3#t.1,3#t.2.1,11#bw,3#(1*2^(6#xs.length).toNat)] H1;generalize (1*2^(6#xs.length).toNat:Int)=fa at fp;generalize cc/9/(ys.length:Int)=re;have yl9:ys.length<=15:=by lia
   have small:∀{n:Nat},n<=300->n<=sizeLine:=λh=>B! (cZ (by lia))
   have So:∀(r m:Int) (bw:Addr) (W:List (List Pr)) (H2:Hp),ah H1 H2->c8 H2 bw W->Bu p W->b8 { nx:=λ_ H'=>Q V.dZ H',rt:=Q} [11#wb,some (.ref b),3#cc,3#(cc%9),3#re,none,3#(k:Int),some (.int r),some (.int m),11#bw,3#fa] H2:=λr m bw W H2 s2 hW sq=>by
    refine(0#14#⟨b,ys,rfl,s2 _ _ hb1,λp1 H3 s3 VE=>?_⟩)
    refine(0#14#29#(λX hX=>?_))
    have s4:ah H3 (η H3 X (.tup [.int r,.int m,.ref bw])):=ah.new hX;have Fe:η H3 X (.tup [.int r,.int m,.ref bw]) X=10#([.int r,.int m,.ref bw]):=aa;generalize η H3 X (.tup [.int r,.int m,.ref bw])=H4 at s4 Fe;refine 29#(λY hY=>?_)
    have s5:ah H4 (η H4 Y (.tup [.ref X])):=ah.new hY;have Ls:η H4 Y (.tup [.ref X]) Y=10#([.ref X]):=aa;generalize η H4 Y (.tup [.ref X])=H5 at s5 Ls;have cl:=iz ys;refine⟨p1,Y,_,_,rfl,rfl,(s4.trans s5) _ _ VE,Ls,small (by have:=cl none (some (k:Int));rw[U!];lia),λp2 H6 s6 RH=>?_⟩
    have VU:=s3.trans (s4.trans (s5.trans s6));refine(0#(br 14#⟨b,ys,rfl,(s2.trans VU) _ _ hb1,λp3 H7 s7 hp3=>?_⟩))
    refine⟨p2,p3,_,_,rfl,rfl,s7 _ _ RH,hp3,small (by have:=cl none (some (k:Int));have:=cl (some ((k:Int)+1)) none;rw[k!,U!];lia),λp4 H8 s8 Yn=>?_⟩
    have Ym:=VU.trans (s7.trans s8);have za:=s1.trans (s2.trans Ym);have Rq:Paired (jK p H8) ys tr:=85#74#za.tups
    obtain⟨ra,pa,la⟩:=n8 Rq none (some (k:Int));obtain⟨rb,pb,lb⟩:=n8 Rq (some ((k:Int)+1)) none;have px:jK p H8 (.ref X) (r,m,W):=⟨X,bw,rfl,(s5.trans (s6.trans (s7.trans s8))) _ _ Fe,hW.same Ym,sq⟩;exact q p4 _ (ra++[(r,m,W)]++rb) H8 za Yn (lE pb (lE (.cons px .nil) pa)) (by rw[k!,k!,U!];lia)
   have Sq:∀(r m:Int) (H2:Hp),ah H1 H2->c9 { nx:=λ_ H'=>Q V.dZ H',rt:=Q} [11#wb,some (.ref b),3#cc,3#(cc%9),3#re,none,3#(k:Int),some (.int r),some (.int m),11#bw,3#fa] H2:=λr m H2 s2=>by
    refine 14#(br 28#(iI (λ_=>?_) (λ_=>So r m bw t.2.2 H2 s2 (hW.same s2) sq)))
    exact(0#⟨bw,p,t.2.2,re,rfl,hW.same s2,sq,p1,p10,λb' W' H3 s3 hW' sq'=>So r m b' W' H3 (s2.trans s3) hW' sq'⟩)
   have mt:0<=re%(xs.length:Int)/\re%(xs.length:Int)<1000:=by
    have:=iN re (xs.length:Int) (by lia)
    lia
   have Ss:∀(r:Int) (H2:Hp),ah H1 H2->eI { nx:=λ_ H'=>Q V.dZ H',rt:=Q} [11#wb,some (.ref b),3#cc,3#(cc%9),3#re,none,3#(k:Int),some (.int r),3#t.2.1,11#bw,3#fa] H2:=λr H2 s2=>by
    refine 14#15#(iI (λ_=>?_) (λ_=>Sq r t.2.1 H2 s2))
    have s12:=s1.trans s2;refine(0#(br ⟨fp,_,rfl,af rfl 14#(bC 36#(s12 _ _ h1) fB (kZ rfl (.inr 36#(s12 _ _ h2)) (br ⟨(by lia),br ⟨⟨by lia,by lia,16#0⟩,br (?_)⟩⟩)))⟩))
    refine(0#14#(br ⟨fp,_,_,rfl,rfl,af rfl 28#(br 29#(λL hL=>?_))⟩))
    obtain⟨z,hz⟩:=IT (re%fa) (Builtin.bitXor t.2.1 (1*2^(re%(xs.length:Int)).toNat)) (-1-re%fa) (fa+re) (re/5);refine 14#(br ⟨⟨16#0,16#0⟩,br ⟨(h8 rfl),jM (aM.of aa) (hz) (?_)⟩⟩)
    exact Sq r z _ (s2.trans (ah.new hL))
   have tail3:mS { nx:=λ_ H'=>Q V.dZ H',rt:=Q} [11#wb,some (.ref b),3#cc,3#(cc%9),3#re,none,3#(k:Int),3#t.1,3#t.2.1,11#bw,3#fa] H1:=by
    refine 14#15#(iI (λ_=>?_) (λ_=>Ss t.1 H1 (ah.refl _)))
    obtain⟨j0,j1⟩:=iN re (ys.length:Int) (by lia)
    obtain⟨j,hj⟩:=a_ j0;have jl:j<ys.length:=by lia
    obtain⟨u,hu,d,bd,hyd,hd,_⟩:=Paired.j8 pr1 (i! jl);have hyj:ys[j]?=some (.ref d):=by rw[i! jl,hyd]
    have aj:Ah ys (re%(ys.length:Int))=some (.ref d):=by rw[hj];exact ay hyj
    refine(0#(br ⟨fp,_,rfl,af rfl 14#28#(kZ rfl (.inr (aL.of hb1)) (br ⟨(by lia),bC (aL.of hb1) (aj) (bC (aL.of hd) je (br (?_)))⟩))⟩))
    refine(0#14#(br ⟨fp,_,_,rfl,rfl,af rfl 28#(br 29#(λL hL=>?_))⟩))
    obtain⟨z,hz⟩:=IT (re%fa) (Builtin.bitXor t.1 u.1) (-1-re%fa) (fa+re) (re/5);refine 14#(br ⟨⟨16#0,16#0⟩,br ⟨(h8 rfl),jM (aM.of aa) (hz) (?_)⟩⟩)
    exact Ss z _ (ah.new hL)
   refine 14#15#(iI (λ_=>?_) (λ_=>28#47#(af rfl (iI (λ_=>?_) (λ_=>(af rfl ⟨rfl,af rfl (iI (λ_=>?_) (λ_=>tail3))⟩))))))
   .refine(0#14#⟨b,ys,rfl,hb1,λp1' H3 s3 VE=>?_⟩)
    refine(0#(br 14#⟨b,ys,rfl,s3 _ _ hb1,λp3 H7 s7 hp3=>?_⟩))
    have c1:=iz ys none (some (k:Int));have c2:=iz ys (some ((k:Int)+1)) none;refine⟨p1',p3,_,_,rfl,rfl,s7 _ _ VE,hp3,small (by lia),λp4 H8 s8 Yn=>?_⟩
    have za:=s1.trans (s3.trans (s7.trans s8));have Rq:Paired (jK p H8) ys tr:=85#74#za.tups
    obtain⟨ra,pa,la⟩:=n8 Rq none (some (k:Int));obtain⟨rb,pb,lb⟩:=n8 Rq (some ((k:Int)+1)) none;exact q p4 _ (ra++rb) H8 za Yn (lE pb pa) (by rw[k!];lia)
   .refine(0#14#(bC (aL.of hb1) (ay (j:=k) hyk) 29#(λY hY=>?_)))
    refine⟨b,Y,_,_,rfl,rfl,ah.new hY _ _ hb1,aa,small (by rw[U!];lia),λp4 H8 s8 Yn=>?_⟩
    have za:=s1.trans ((ah.new hY).trans s8);have Rq:Paired (jK p H8) ys tr:=85#74#za.tups
    have pk:jK p H8 (.ref c) t:=jK.tups ((ah.new hY).trans s8).tups ⟨c,bw,rfl,hc,hW,sq⟩;exact q p4 _ (tr++[t]) H8 za Yn (lE (.cons pk .nil) Rq) (by rw[k!,U!];lia)
   .refine 14#⟨b,ys,rfl,aL.of hb1,n0,by lia,λD hD=>?_⟩
    have za:=s1.trans (ah.new (o:=.tup ys.reverse) hD);have Rq:Paired (jK p (η H1 D (.tup ys.reverse))) ys tr:=85#74#za.tups
    exact q D _ tr.reverse _ za aa (x6 Rq) (by rw[_l];lia)
def Ve:Sp:=λvs H Q _=>∃w p ts,∃_:aE p ts,∃(s u v:Nat),vs=[.ref w,.int (s:Int),.int (u:Int),.int (v:Int)]/\73#0/\u<p/\∀H',ah H H'->Q .dZ H'/\∀t:Nat,t<17#0->Q (.int (t:Int)) H'
def OT:Sp:=λvs H Q _=>∃(c:Int) (n:Nat),vs=[.int c,.int (n:Int)]/\n<=100/\∀D ks H',ah H H'->H' D=1#(aA ks)->ks.length=n->(∀k∈ks,k<n)->Q (.ref D) H'
def Hg:Sp:=λvs H Q _=>∃w p ts,∃_:aE p ts,∃(l:Addr) (ks:List Nat),vs=[.ref w,.ref l]/\73#0/\H l=1#(aA ks)/\ks.length=ts.length/\(∀k∈ks,k<ts.length)/\∀D rs H',ah H H'->H' D=1#(aA rs)->rs.length<=ts.length->(∀r∈rs,r<17#0)->Q (.ref D) H'
structure Cm(p n:Nat)(l:List Nat)(c:Nat->Nat):Prop where
 nd:l.Nodup
 lt:∀x∈l,x<p
 c:∀x,c x<2^n
def OU{t k n:Nat}(h:t<2^n)(hk:k<n):t ||| 2^k<2^n:=Nat.or_lt_two_pow h (m_ (16#0) hk)
def Rr(u v z:V):qv [u,v,z] none (some 2)=[u,v]:=rfl
def vj:Ok T T.uZ 1 Ve:=by
 refine T.uZ.ok fR 4#0
 .obtain⟨wb,p,ts,g,sm,u,v,rfl,hw,hu,q⟩:=h;refine⟨_,(ae (bu 4 fR.nd (Qq (MF (pv 2) aq Qp) rfl rfl (λz=>(nomatch z)) (16#0)))
   (ae (bu 5 fR.nd (cy (bE (pv 2))))
   (ae (bu 6 fR.nd aq)
   (ae (rT PassesOwn.never (aG vo (pv 6) (30#(pv 5)) (aF _)) (ae (bu 7 fR.nd (aZ (kE K) (pv 5) (pv 6)))
   (ae (bu 6 fR.nd (au cI (pv 6) aq))
   (ak (cM PassesOwn.never rfl (44#(30#25#0)) (aQ 8 fR.nd)
   (ak (bx (PW.pt (tM (aG eK (au bh (au oG (pv 1) (pv 8)) aq) aq (aF _)) (pX (aG (Z6 K) (pv 7) (jB (slT K) (aZ (mj K) 25#0 (pv 8)) lJ (lK aq)) (83#0))))) (ae (bu 9 fR.nd (au gx (au cI (cA K (aZ (mj K) 25#0 (pv 8))) (cA K (aZ (mj K) 25#0 (pv 8)))) (pv 7)))
   (ak (bx (SH (JF (by exact rX hr) (pv 9) (pv 4))) (ae (Il (by exact rX hr) (pv 4) (pv 9) (au Hu (Ik (by exact rX hr) (pv 4) (pv 7) (λ_ _=>rfl)) (au h7 aq (pv 8))) rfl)
   (ak (dB (Fc K (jY g? n? o? cN (pv 5) (bE (pv 9))))))) aN))) aN)))))))
   (ak (aB (MG (by exact rX hr) (pv 4) (pv 3) ⟨rfl,rfl,rfl,rfl⟩))))))),?_⟩
  refine Gw ?_;intro b8 cB c9 dU eI j6 mS sQ vC vD k6 mC;show 38;have qt:=h3.length;have wl:=g.len;have wp:=g.p2;intro C hC;have s1:ah H (η H C (.dK [])):=ah.new hC;refine 14#⟨aa,[((Sum.inl ((u:Nat):Int):Key),V.int 0)],rfl,(by show 1<=15;decide),?_⟩
  have Zu:η (η H C (.dK [])) C (.dK (oX [] [((Sum.inl ((u:Nat):Int):Key),V.int 0)])) C=some (.dK (jZ [u] (λ_=>0))):=aa
  have s2:ah H (η (η H C (.dK [])) C (.dK (oX [] [((Sum.inl ((u:Nat):Int):Key),V.int 0)]))):=s1.put hC;generalize η (η H C (.dK [])) C (.dK (oX [] [((Sum.inl ((u:Nat):Int):Key),V.int 0)]))=H1 at s2 Zu;clear s1;refine 14#29#(λL hL=>?_)
  have Lp:η H1 L (.lst [40#(u:Nat)]) L=1#(aA [u]):=aa;have hCL:C≠L:=aX Zu hL;have Ff:η H1 L (.lst [40#(u:Nat)]) C=some (.dK (jZ [u] (λ_=>0))):=ah.new hL _ _ Zu
  have VP:ah H (η H1 L (.lst [40#(u:Nat)])):=s2.trans (ah.new hL);have Y5:H L=none:=s2.free hL;generalize η H1 L (.lst [40#(u:Nat)])=H2 at VP Lp Ff;clear s2 Zu hL;refine⟨λz σ H3=>∃(i:Nat) (l:List Nat) (c:Nat->Nat) (v7 v8 v9:Option V),σ=[11#wb,3#(sm:Int),3#(u:Int),3#(v:Int),some (.ref C),some (.ref L),3#(i:Int),v7,v8,v9]/\ah H H3/\H3 L=1#(aA l)/\H3 C=some (.dK (jZ l c))/\Cm p ts.length l c/\i<=l.length/\z=p-i,⟨p-0,0,[u],λ_=>0,none,none,none,rfl,VP,Lp,Ff,⟨O!.mpr ⟨R?,.nil⟩,λx hx=>by rw[p!.mp hx];exact hu,λ_=>R! _⟩,v! _,rfl⟩,?_⟩
  rintro z σ H3 ⟨i,l,c,v7,v8,v9,rfl,s3,VW,Zv,bf,xU,rfl⟩;clear VP Lp Ff;have hlp:l.length<=p:=RM.xy bf.nd bf.lt;refine(0#(kZ rfl (.inl (aM.of VW)) (br 14#(iI (λhlt=>?_) (λhlt=>?_)))))
  .have hlt:(i:Int)<((aA l).length:Int):=jz hlt;rw[av]at hlt;have hlt:i<l.length:=by lia
   have hx:l[i]?=some l[i]:=i! hlt;generalize l[i]=x at hx;have ag7:=bf.lt x (gB hx);refine⟨λσ H4=>∃(l:List Nat) (c:Nat->Nat) (v7 v8 v9:Option V),σ=[11#wb,3#(sm:Int),3#(u:Int),3#(v:Int),some (.ref C),some (.ref L),3#6#(i+1),v7,v8,v9]/\ah H H4/\H4 L=1#(aA l)/\H4 C=some (.dK (jZ l c))/\Cm p ts.length l c/\i+1<=l.length,λσ H4 ⟨l,c,v7,v8,v9,z1,z2,z3,z4,z5,z6⟩=>⟨p-(i+1),by lia,i+1,l,c,v7,v8,v9,z1,z2,z3,z4,z5,z6,rfl⟩,?_⟩
   refine(0#(jM (aM.of VW) (ay (lT hx)) (?_)));refine 14#(br (?_));refine 14#(bC 36#(s3 _ _ h1) fB (kZ rfl (.inr 36#(s3 _ _ h2)) 28#⟨(by lia),(by lia),?_⟩))
   refine cF (lo:=0) (n:=(xs.length:Int).toNat) (λk σ H4=>∃(l:List Nat) (c:Nat->Nat) (v8 v9:Option V),σ=[11#wb,3#(sm:Int),3#(u:Int),3#(v:Int),some (.ref C),some (.ref L),3#((i:Int)+1),3#(x:Int),v8,v9]/\ah H H4/\H4 L=1#(aA l)/\H4 C=some (.dK (jZ l c))/\Cm p ts.length l c/\i+1<=l.length/\l[i]?=some x) ⟨l,c,_,_,rfl,s3,VW,Zv,bf,by lia,hx⟩ ?_ ?_
   .rintro k D' σ H4 hk ⟨l,c,v8,v9,rfl,s4,Rf,Rh,bf,xU,hx⟩;clear hlt VW Zv;rw[a!]at hk;rw[K!];have kD:k<ts.length:=by lia
    have hlp:l.length<=p:=RM.xy bf.nd bf.lt;have hxm:=gB hx;obtain⟨ct,ex,hct⟩:=nk (g:=g) h3 kD;have skip:∀v9 H5,ah H4 H5->D'.nx [11#wb,3#(sm:Int),3#(u:Int),3#(v:Int),some (.ref C),some (.ref L),3#((i:Int)+1),3#(x:Int),3#(k:Int),v9] H5:=λv9 H5 s5=>⟨l,c,_,_,rfl,s4.trans s5,s5 _ _ Rf,s5 _ _ Rh,bf,xU,hx⟩
    refine(0#(br ⟨(by lia),br ⟨(h8 rfl),rfl,af rfl (?_)⟩⟩))
    rw[a!,Bo,gU];cases we:sm.testBit k with
    | false=>exact cJ (skip _ _ (ah.refl _))
    | true =>
      refine cY (0#(bC 36#(s4 _ _ h1) fB 14#(bC 36#(s4 _ _ h2) (ay (j:=k) ex) (?_))));refine 14#⟨ct,_,rfl,aL.of (s4 _ _ hct),(λz=>absurd (show HT.fk 3 3 (some 2)=3 from z.2) (16#0)),λw hw'=>?_⟩
      rw[Rr];refine(kZ rfl (.inr (aL.of aa)) ⟨rfl,rfl,af rfl (?_)⟩);dsimp only;rw[OB];have s5:ah H4 (η H4 w (.tup [.int 6#(g.N.a k),.int 6#(g.N.b k)])):=ah.new hw';generalize η H4 w (.tup [.int 6#(g.N.a k),.int 6#(g.N.b k)])=H5 at s5;have Sl:=s4.trans s5
      by_cases hin:g.N.a k=x\/g.N.b k=x
      case neg =>
       rw[eV hin];exact cJ (skip _ _ s5)
      rw[cH hin];refine cY 14#(bC 36#(Sl _ _ h1) fB 28#(bC 36#(Sl _ _ h2) (ay (j:=k) ex) (bC 36#(Sl _ _ hct) je (af rfl (bC 36#(Sl _ _ h1) fB (af rfl (bC 36#(Sl _ _ h2) (ay (j:=k) ex) (bC 36#(Sl _ _ hct) fB (br (af rfl (br (?_))))))))))));obtain⟨y,hyp,hyv⟩:∃y,y<p/\6#(g.N.a k)+6#(g.N.b k)-(x:Int)=(y:Int):=by
       rcases hin with e|e
       .exact⟨g.N.b k,g.N.bl k kD,by lia⟩
       .exact⟨g.N.a k,g.N.al k kD,by lia⟩
      dsimp only;rw[hyv];have Oq:=s5 _ _ Rh;have Ra:=s5 _ _ Rf;refine(0#⟨C,_,rfl,qY.k (k:=Sum.inl ((y:Nat):Int)) Oq,_,rfl,?_⟩);rw[sJ]
      by_cases hy:y∈l
      .rw[ο hy];exact cJ (skip _ _ s5)
      .rw[ξ hy];have hcx:qY H5 C (.int (x:Int)) (3#6#(c x)):=by
        have:=qY.k (k:=Sum.inl ((x:Nat):Int)) Oq;rw[sJ,ο hxm]at this;exact this
       refine cY (0#⟨C,_,rfl,hcx,_,rfl,br ⟨⟨by lia,by lia,16#0⟩,br 14#28#⟨C,_,rfl,DF.k (k:=Sum.inl ((y:Nat):Int)) Oq (cZ (by unfold jZ;rw[χ];lia)),?_⟩⟩⟩)
       have ev:Builtin.bitOr 6#(c x) (1*2^((k:Nat):Int).toNat)=6#(c x ||| 2^k):=by rw[iO,or_int]
       dsimp only;rw[ev,M8 hy];have s6:ah H (η H5 C (.dK (jZ (l++[y]) λz=>if z=y then c x ||| 2^k else c z))):=Sl.put hC
       have hC6:η H5 C (.dK (jZ (l++[y]) λz=>if z=y then c x ||| 2^k else c z)) C=some (.dK (jZ (l++[y]) λz=>if z=y then c x ||| 2^k else c z)):=aa
       have Rb:η H5 C (.dK (jZ (l++[y]) λz=>if z=y then c x ||| 2^k else c z)) L=1#(aA l):=by rw[ao hCL.symm];exact Ra
       generalize η H5 C (.dK (jZ (l++[y]) λz=>if z=y then c x ||| 2^k else c z))=H6 at s6 hC6 Rb
       refine 14#⟨91#Rb,af rfl ⟨L,_,_,rfl,rfl,Rb,cZ (by rw[av];lia),?_⟩⟩
       refine⟨l++[y],_,_,_,rfl,s6.put Y5,by rw[aa,bU],by rw[ao hCL];exact hC6,⟨aee.mpr ⟨bf.nd,O!.mpr ⟨R?,.nil⟩,λa ha b hb e=>hy (by rw[<-p!.mp hb,<-e];exact ha)⟩,λz hz=>?_,λz=>?_⟩,by rw[k!];lia,by rw[m? (by lia)];exact hx⟩
       .rcases t!.mp hz with h|h
        .exact bf.lt z h
        .rw[p!.mp h];exact hyp
       .split
        .exact OU (bf.c x) kD
        .exact bf.c z
   .rintro σ H4 ⟨l,c,v8,v9,rfl,s4,Rf,Rh,bf,xU,hx⟩;exact⟨l,c,_,_,_,rfl,s4,Rf,Rh,bf,xU⟩
  .refine 14#⟨C,rfl,.inl ⟨_,.inl Zv⟩,af rfl ⟨_,qY.k (k:=Sum.inl ((v:Nat):Int)) Zv,?_⟩⟩;rw[sJ]
   by_cases hm:v∈l
   .rw[ο hm];exact(q H3 s3).2 _ (bf.c v)
   .rw[ξ hm];exact(q H3 s3).1
def pW:Ok T T.pQ 2 OT:=by
 have bV:=bV T;refine T.pQ.ok nL 4#0
 .obtain⟨c,n,rfl,hn,q⟩:=h;refine⟨_,(ae (bu 2 nL.nd (cy fO))
   (ae (cM PassesOwn.never rfl (44#(pv 1)) (aQ 3 nL.nd)
   (ak (dB (Fc K (jY g? PySem.F.slot_list_insert PySem.F.type_list_insert Jw (pv 2) (bS (au bh (aD bV hr T.eY.c aK 51#(au cI aq (pv 3))) (au cI (pv 3) aq)) (pv 3)))))))
   (ak (aB (pv 2))))),?_⟩
  refine AY ?_;intro b8 cB c9;refine 29#(λD hD=>?_)
  have s1:ah H (η H D (.lst [])):=ah.new hD;have rf:η H D (.lst []) D=1#(aA []):=aa;generalize η H D (.lst [])=H1 at s1 rf;refine(0#⟨(by lia),(by lia),?_⟩)
  refine cF (lo:=0) (n:=(n:Int).toNat) (λk σ H2=>∃v3 ks,σ=[some (.int c),3#(n:Int),some (.ref D),v3]/\ah H H2/\H2 D=1#(aA ks)/\ks.length=k/\∀x∈ks,x<n) ⟨none,[],rfl,s1,rf,rfl,λx hx=>nomatch hx⟩ ?_ ?_
  .rintro k D' σ H2 hk ⟨v3,ks,rfl,s2,ie,kD,pm⟩;rw[a!]at hk;rw[K!];refine 14#⟨91#ie,0#(br ⟨c,_,rfl,by lia,by lia,λz hz hz2=>?_⟩)⟩
   refine 14#(br (br ⟨(by lia),af rfl (?_)⟩))
   obtain⟨j,hj,Ut⟩:∃j:Nat,z%((k:Int)+1)=(j:Int)/\j<=k:=by
    obtain⟨h1,h2⟩:=iN z ((k:Int)+1) (by lia)
    exact⟨(z%((k:Int)+1)).toNat,by lia,by lia⟩
   dsimp only;rw[hj];refine⟨D,_,j,_,rfl,rfl,ie,by rw[av];lia,cZ (by rw[av];lia),_,ks.take j++k::ks.drop j,rfl,s2.put hD,?_,?_,λx hx=>?_⟩
   .rw[aa];unfold aA;rw[g!,F!,List.map_take,List.map_drop]
   .rw[k!,I!,P!,e_]
    lia
   .rcases t!.mp hx with h|h
    .exact pm x (List.mem_of_mem_take h)
    .rcases h!.mp h with rfl|h
     .lia
     .exact pm x (List.mem_of_mem_drop h)
  .rintro σ H2 ⟨v3,ks,rfl,s2,ie,kl,pm⟩;rw[a!]at kl;exact 14#(q D ks H2 s2 ie kl pm)
def jc:Ok T T.iY 2 Hg:=by
 have vj:=vj T;refine T.iY.ok cR 4#0
 .obtain⟨wb,p,ts,g,l,od,rfl,hw,hl,VF,hom,q⟩:=h;refine⟨_,(ae (bu 2 cR.nd aq)
   (ae (bu 3 cR.nd (cy fO))
   (ae (cM PassesOwn.never rfl (oh K (pv 1)) (aQ 4 cR.nd)
   (ae (bu 5 cR.nd (aD vj hr T.uZ.c aK (aP (pv 0) (aP (pv 2) (bS (cA K (aZ (mj K) 25#0 (pv 4))) (cA K (aZ (mj K) 25#0 (pv 4))))))))
   (ak (bx (aG jO (pv 5) eN (aF _)) (ak (bu 2 cR.nd (au Hu (pv 2) (au h7 aq (pv 4))))) (ak (dB (Fc K (jY g? n? o? cN (pv 3) (bE (au Hu (pv 5) (au h7 aq (pv 4))))))))))))
   (ak (aB (pv 3)))))),?_⟩
  refine rA ?_;intro b8 cB c9 dU eI j6 mS;show 38;have qt:=h3.length;have wl:=g.len;refine 29#(λD hD=>?_)
  have s1:ah H (η H D (.lst [])):=ah.new hD;have rf:η H D (.lst []) D=1#(aA []):=aa;generalize η H D (.lst [])=H1 at s1 rf;refine 14#⟨l,rfl,24#(s1 _ _ hl),fC (K:=K) (a:=l) (xs:=aA od) (λi σ H2=>∃(sm:Nat) (v4 v5:Option V) (rs:List Nat),σ=[11#wb,some (.ref l),3#(sm:Int),some (.ref D),v4,v5]/\ah H H2/\H2 D=1#(aA rs)/\sm<17#0/\rs.length<=i/\∀r∈rs,r<17#0) ⟨0,none,none,[],rfl,s1,rf,R! _,Z' _,λr hr=>nomatch hr⟩ (λi σ H2 _ ⟨_,_,_,_,_,z,_⟩=>aM.of (z _ _ hl)) ?_ ?_⟩
  .rintro i y D' σ H2 hi ⟨sm,v4,v5,rs,rfl,s2,ie,sl,rl,Fb⟩;obtain⟨k,hk,rfl⟩:=eT hi;have kD:=hom k (gB hk);have xU:=(j7.mp hk).1;obtain⟨ct,ex,hct⟩:=nk (g:=g) h3 kD;have ha:g.N.a k<p:=g.N.al k kD;refine(0#14#(bC 36#(s2 _ _ h1) fB 28#(bC 36#(s2 _ _ h2) (ay (j:=k) ex) (bC 36#(s2 _ _ hct) je (af rfl (bC 36#(s2 _ _ h1) fB (af rfl (bC 36#(s2 _ _ h2) (ay (j:=k) ex) (bC 36#(s2 _ _ hct) fB (?_))))))))));refine⟨wb,p,ts,g,sm,_,_,rfl,hw.same s2,ha,λH3 s3=>⟨?_,λt tl=>?_⟩⟩
   .refine 14#15#(zp rfl (0#(br ⟨⟨by lia,by lia,16#0⟩,br ⟨sm ||| 2^k,3#(k:Int),some .dZ,rs,?_,s2.trans s3,s3 _ _ ie,OU sl kD,by lia,Fb⟩⟩)))
    show[_,_,some (V.int (Builtin.bitOr (sm:Int) (1*2^((k:Nat):Int).toNat))),_,_,_]=_;rw[iO,or_int]
   .have qw:=s3 _ _ ie;refine 14#15#(r6 60#0 ?_)
    refine 14#⟨91#qw,0#(br ⟨⟨by lia,by lia,16#0⟩,br (?_)⟩)⟩
    refine⟨D,_,_,rfl,rfl,qw,cZ (by rw[av];lia),sm,_,_,rs++[t ||| 2^k],rfl,(s2.trans s3).put hD,?_,sl,by rw[k!,U!];lia,λr hr=>?_⟩
    .rw[aa,bU,iO];dsimp only;rw[or_int]
    .rcases t!.mp hr with h|h
     .exact Fb r h
     .rw[p!.mp h];exact OU tl kD
  .rintro σ H2 ⟨sm,v4,v5,rs,rfl,s2,ie,sl,rl,Fb⟩;rw[av]at rl;exact 14#(q D rs H2 s2 ie (by lia) Fb)
def Vf(t:Addr)(lp:Pos):Sp:=84#(∃cc:Int,vs=[.ref w,.int cc]/\73#0/\ts.length<=9/\H t=some (.lF (fM (qz "least_ways") lp))/\∀b ys (tr:List G4) H',ah H H'->H' b=10#ys->Paired (jK p H') ys tr->tr.length<=31->Q (.ref b) H')
def vm:Ok T T.u6 11 (Vf a.cW cC):=by
 have pW:=pW T;have jc:=jc T;have cT:=cT T;have gp:=gp T;have eF:=eF T;have eE:=eE T;refine T.u6.ok nN 4#0
 .obtain⟨wb,p,ts,g,cc,rfl,hw,h9,htb,qq⟩:=h;refine⟨_,(ae (dD (i:=2) nN.nd rfl (Or.inr rfl) (aD jc hr T.iY.c aK 51#(aD pW hr T.pQ.c aK (bS (pv 1) (30#25#0)))))
   (ae (dD (i:=2) nN.nd rfl (Or.inr rfl) (aY (own:=["pair"]) (fq:=[]) (js:=[]) (az (ai kJ) ["web","cell","rings","marks"]) rfl (oh K (bY (yk K) (by rfl) T.pR W_ (bE (aY (own:=["ring"]) (fq:=["web"]) (js:=[0]) (az (ai kJ) ["web","cell","rings","marks"]) rfl (oh K (pv 2)) 8#(aQ 0 (ig ["ring","web"])) 65#0 8#(b9 (bS (aD cT hr T.ir.c aK (bS (pv 1) (pv 0))) (pv 0))))))) 8#(aQ 0 (ig ["pair"])) 65#0 8#25#0))
   (ae (bx (fN (cu (aD gp hr T.m7.c aK 51#(pv 2)))) (ak (aB (b9 fO))) aN)
   (ae (dD (i:=3) nN.nd rfl (Or.inr rfl) (aD eF hr T.jI.c oN 51#(pv 2)))
   (ak (aB (bQ (oM K) (by rfl) T.g8 I? (bE (aY (own:=["k"]) (fq:=["web","rings","marks"]) (js:=[0,2,3]) (az (ai kJ) ["web","cell","rings","marks"]) rfl (44#(30#(pv 2))) 8#(aQ 0 (ig ["k","web","rings","marks"])) 65#0 8#(b9 (aP (aZ (kE K) (pv 2) (pv 0)) (bS (aZ (kE K) (pv 3) (pv 0)) (cA K (aD eE hr T.jH.c oN (bS (pv 1) (aZ (kE K) (pv 3) (pv 0))))))))))))))))),?_⟩
  refine Gy ?_;intro b8 cB c9 dU eI;show 38;have qt:=h3.length;have big:(2:Nat)^ts.length<=2^9:=B? (16#0) h9
  refine(0#14#(bC (aL.of h1) fB (kZ rfl (.inr (aL.of h2)) ⟨cc,xs.length,rfl,by lia,λDo ks H1 s1 hDo kl pk=>?_⟩)))
  rw[qt]at kl pk;refine⟨wb,p,ts,g,Do,ks,rfl,hw.same s1,hDo,kl,pk,λD5 C H5 s5 ER C9 Cm=>?_⟩
  have II:=s1.trans s5;have Cl:C.length<64:=by lia
  refine(af rfl ⟨D5,rfl,24#ER,λX hX=>aU (K:=K) (a:=D5) (xs:=aA C) (λi acc H6=>ah H5 H6/\H6 X=1#acc/\∃qs:List (Addr×Int×Int),acc=qs.map (λq=>V.ref q.1)/\(∀q∈qs,q.1≠X/\H6 q.1=10#([.int q.2.1,.int q.2.2]))/\qs.map (·.2)=(C.take i).map λr=>(Δ ts r,(r:Int))) ⟨ah.new hX,aa,[],rfl,(λq hq=>nomatch hq),rfl⟩ (λi acc H6 _ z=>⟨aM.of (z.1 _ _ ER),z.2.1,?_⟩) (B! (cZ (by rw[av];lia))) ?_ ?_⟩)
  .obtain⟨_,_,qs,rfl,_,e⟩:=z;have:=n! List.length e;rw[χ,χ,I!]at this;rw[χ]
   lia
  .rintro i x acc H6 hx ⟨s6,A4,qs,rfl,Rn,eqs⟩;obtain⟨c,Sj,rfl⟩:∃c,C[i]?=some c/\x = .int (c:Int):=by
    unfold aA at hx;rw[c!]at hx;obtain⟨c,h1,h2⟩:=qC.mp hx;exact⟨c,h1,h2.symm⟩
   refine 47#0#⟨wb,p,ts,g,_,c,rfl,rfl,hw.same (II.trans s6),Cm c (gB Sj),λH7 s7=>14#29#(λe he=>?_)⟩
   have s8:ah H7 (η H7 e (.tup [.int (Δ ts c),.int (c:Int)])):=ah.new he;have OP:=s7.trans s8;have Yi:e≠X:=λz=>by rw[z,s7 _ _ A4]at he;cases he
   refine⟨OP _ _ A4,(s6.trans OP).put hX,aa,qs++[(e,Δ ts c,(c:Int))],by rw[g!];rfl,λq hq=>?_,by rw[take3 Sj,g!,g!,eqs];rfl⟩
   rcases t!.mp hq with z|z
   .obtain⟨z1,z2⟩:=Rn q z;exact⟨z1,by rw[ao z1];exact OP _ _ z2⟩
   .rw[p!.mp z];exact⟨Yi,by rw[ao Yi];exact aa⟩
  rintro acc H6 ⟨s6,A4,qs,rfl,Rn,eqs⟩;rw[av,H!]at eqs;obtain⟨ql,qk,qd⟩:=ON Cm big eqs;refine⟨X,qs,rfl,aM.of A4,λq hq=>(Rn q hq).2,qk,by lia,λl2 zh hl2 U7 so2=>?_⟩
  obtain⟨U8,U9,Zs⟩:=qd U7 so2;have s7:ah H6 (η H6 l2 46#41#zh.map):=ah.new hl2
  have Va:η H6 l2 46#41#zh.map l2=1#(41#zh.map):=aa
  generalize η H6 l2 46#41#zh.map=H7 at s7 Va
  have ql2:=U7.length_eq;refine⟨l2,rfl,24#Va,λY hY=>aU (K:=K) (a:=l2) (xs:=41#zh.map) (λi acc H8=>ah H7 H8/\H8 Y=1#acc/\acc=aA ((zh.take i).map λq=>q.2.2.toNat)) 68#hY (λi acc H8 _ z=>⟨aM.of (z.1 _ _ Va),z.2.1,by rw[z.2.2,av,χ,I!];lia⟩) (B! (cZ (by rw[χ];lia))) ?_ ?_⟩
  .rintro i x acc H8 hx ⟨s8,CI,rfl⟩;rw[c!]at hx;obtain⟨q,hq,rfl⟩:=qC.mp hx;have hm:=gB hq;have hq8:=(s7.trans s8) _ _ (Rn q (U7.mem_iff.mp hm)).2;refine 15#(bC (aL.of hq8) fB ⟨CI,s8.put hY,aa,?_⟩);rw[take3 hq,g!,A_,bU,<-U8 q hm]
  rintro acc H8 ⟨s8,CI,rfl⟩;rw[χ,H!]at CI;generalize (zh.map λq=>q.2.2.toNat)=rs at U9 CI Zs
  have za:=((II.trans s6).trans s7).trans s8;have VQ:=U9.length_eq;refine(0#⟨wb,p,ts,g,Y,rs.map (λx=>((x:Nat):Int)),rfl,hw.same za,by rw[<-dP];exact CI,by rw[χ];lia,λH9 d s9 hd=>?_⟩)
  have Pc:=za.trans s9;cases d with
  | false=>exact 14#(cY 29#(λZ hZ=>qq Z [] [] _ (Pc.trans (ah.new hZ)) aa .nil (16#0)))
  | true =>
  refine 14#(cJ ?_);obtain⟨rs',re,OQ⟩:=hd.mp rfl;obtain rfl:rs=rs':=List.map_inj_right (λ_ _ h=>Int.ofNat.inj h) |>.mp re
  refine(0#⟨wb,p,ts,g,Y,rs.map (λx=>((x:Nat):Int)),rfl,hw.same Pc,by rw[<-dP];exact s9 _ _ CI,by rw[χ];lia,.inl ⟨rs,rfl,OQ,λD2 ms zW ie GY Yo mo=>?_⟩⟩)
  have Vg:=Pc.trans GY;have Yp:=(s9.trans GY) _ _ CI;refine 14#(kZ rfl (.inl (aM.of Yp)) 28#⟨(by lia),(by rw[av];lia),λTl Yj=>cP (lo:=0) (m:=(58#(aA rs):Int).toNat) (λi acc Fg=>ah zW Fg/\Fg Tl=1#acc/\acc.length=i/\∃tw:List G4,Paired (jK p Fg) acc tw) ⟨ah.new Yj,aa,rfl,[],.nil⟩ (λi acc Fg _ z=>⟨z.2.1,_K z.2.2.1⟩) (B! (cZ (by rw[av];lia))) ?_ ?_⟩)
  .rintro i acc Fg hi ⟨x1,Vh,al,tw,pd⟩;rw[K!];have hi:i<rs.length:=by rw[av]at hi;lia
   have qu:rs[i]?=some rs[i]:=i! hi;have hmi:ms[i]?=some (ms[i]'(by have:=mo.1;lia)):=i! _
   generalize (ms[i]'(by have:=mo.1;lia))=m at hmi
   generalize rs[i]=r at qu;obtain⟨m1,m2⟩:=mo.2 i m hmi;have w0:=Vg.trans x1;refine 47#0#(jM (aM.of (x1 _ _ Yp)) (ay (j:=i) (lT qu)) 14#28#(jM (aM.of (x1 _ _ Yo)) (ay (j:=i) (lT hmi)) (af rfl (af rfl (af rfl (jM (aM.of (x1 _ _ Yo)) (ay (j:=i) (lT hmi)) ⟨wb,p,ts,g,m,r,rfl,hw.same w0,w0 _ _ htb,m1,(OQ.ring r (gB qu)).1,(OQ.ring r (gB qu)).2,by rw[m2 i r qu];exact cH rfl,λrr Vi _ s12 ⟨_,_,bb,W,_,hrr,hWb,wl1,wl2,bw⟩=>?_⟩))))))
   refine(bC (aL.of hrr) (ay (j:=2) rfl) 29#(λc hc=>?_))
   have mO:ah Vi (η Vi c (.tup [.int (r:Int),.int (m:Int),.ref bb])):=ah.new hc;have x13:=s12.trans mO;have Vj:=x13 _ _ Vh;refine⟨Vj,(x1.trans x13).put Yj,aa,by rw[k!,al];rfl,tw++[((r:Int),(m:Int),W)],?_⟩
   exact Paired.snoc (Paired.imp' (λ_ _ z=>jK.tups (x13.tups.trans (cV.put Vj)) z) pd) (jK.tups (cV.put Vj) ⟨c,_,rfl,aa,hWb.same mO,wl1,wl2⟩)
  rintro acc Fg ⟨x1,Vh,al,tw,pd⟩;refine⟨Tl,_,rfl,.inl ⟨aM.of Vh,λl3 Oo=>?_⟩⟩
  have s12:ah Fg (η Fg l3 (.tup acc)):=ah.new Oo;exact qq l3 acc tw _ ((Vg.trans x1).trans s12) aa (Paired.imp' (λ_ _ z=>jK.tups s12.tups z) pd) (by rw[<-pd.length,al,av];lia)
def Jd(p:Nat)(H:Hp)(v:V):Prop:=∃b ys,∃tr:List G4,v = .ref b/\H b=10#ys/\Paired (jK p H) ys tr/\tr.length<=31
def Jd.same{p:Nat}{H H' : Hp}{v:V}(s:ah H H')(h:Jd p H v):Jd p H' v:=let⟨b,ys,tr,e,h1,h2,h3⟩:=h;⟨b,ys,tr,e,s _ _ h1,Paired.imp' (λ_ _ z=>jK.tups s.tups z) h2,h3⟩
def CJ(K:b7)(tb:vO):Sp:=λvs H Q _=>∃(a:Addr) (ns:List Int),vs=[.ref a]/\aM K H a (ns.map V.int)/\ns.length<=63/\TabsAt tb H/\∀H',Q (.bl true) H'
def Yq:Ok T T.R9 12 (CJ K [(a.iD,qz "by_length",fZ),(a.cW,qz "least_ways",cC)]):=by
 have vg:=vg T;have fE:=fE T;have bV:=bV T;have n5:=n5 T;have gQ:=gQ T;have gv:=gv T;have kC:=kC T;have vm:=vm T;have vh:=vh T;refine T.R9.ok pM 4#0
 .obtain⟨b,ns,rfl,hS,hn,hT,fin⟩:=h;have NL:=hT _ o!;have IA:=hT _ (lG _ o!);refine⟨_,(ae (bu 1 pM.nd (aD vg hr T.uY.c aK (aP (pv 0) (bS aq aq))))
   (ae (bu 2 pM.nd (au eM (aD fE hr T.jx.c aK 51#aq) aq))
   (ae (bu 3 pM.nd (aD n5 hr T.nS.c aK (bE (pv 1))))
   (ae (bx (PW.pt (jA (aG Mb (aD gQ hr T.gP.c aK (bS (pv 1) (pv 3))) dI (aF _)) (iK (aG Mb (aD gQ hr T.gP.c aK (bS (pv 1) (aD gv hr T.gn.c aK (bS (pv 1) (au eM (pv 2) aq))))) dI (aF _))))) (ak (aB dI)) aN)
   (ae (bu 4 pM.nd (aD gv hr T.gn.c aK (bS (pv 1) (pv 2))))
   (ae (bu 5 pM.nd (cy (aP (aD kC hr T.kB.c aK (aP (pv 1) (bS (pv 4) (au bh (pv 2) (au A9 aq aq))))) (bS (aD kC hr T.kB.c aK (aP (pv 1) (bS (pv 3) (aD bV hr T.eY.c aK (bS (pv 2) aq))))) (pv 4)))))
   (ae (dB (Fc K (jY g? n? o? cN (pv 5) (bE (aD vm hr T.u6.c aK (bS (pv 1) (pv 2)))))))
   (ae (cM PassesOwn.never rfl (oh K (pv 5)) (aQ 6 pM.nd)
   (ae (bu 7 pM.nd (aD gQ hr T.gP.c aK (bS (pv 1) (pv 6))))
   (ak (bx (PW.pt (jA (fN (cu (bY (Z3 K) (by rfl) T.Ct PyProof.Rows.boot_isinstance (bS (pv 7) (WM (by rfl) T.UI PyProof.Rows.boot_bool))))) (iK (aG qD (pv 7) (aD vh hr T.u4.c aK (bS (pv 1) (pv 6))) (aF _))))) (ak (aB dI)) aN))))
   (ak (aB dI)))))))))),?_⟩
  refine UE ?_;intro b8 cB c9 dU eI j6 mS sQ vC vD k6 mC;refine 14#⟨b,ns,8,4,rfl,hS,hn,16#0,λwb p ts H1 s1 g p2 p6 t8 hw=>?_⟩
  refine 14#⟨b,ns,0,rfl,(16#0),s1.seq hS,λz=>(br ⟨⟨16#0,16#0⟩,?_⟩)⟩
  have Zw:=s1 _ _ IA;have htb:=s1 _ _ NL;have few:∀{tr:List Lr},RM.LB g.N (cL ts) (tr.map (·.1))->tr.length<=8/\(tr≠[]->ts≠[]):=λ{tr} lb=>by
   have h1:g.N.aJ.length<=58#13#g.N.n:=b? ..;rw[y!,<-lb.1.len,χ]at h1;have h1:tr.length<=ts.length:=h1;exact⟨by lia,λe e2=>e (List.length_eq_zero_iff.mp (by rw[e2]at h1;exact Nat.le_zero.mp h1))⟩
  have nn:∀(tr:List Lr),∀t∈tr.map Rj,0<=t.1/\0<=t.2.1:=λtr t ht=>by
   obtain⟨u,_,rfl⟩:=d!.mp ht;exact⟨z_ _,z_ _⟩
  have tn:∀{tr:List Lr},tr.map Rj≠[]->tr≠[]:=λ{tr} h e=>h (by rw[e];rfl)
  refine 14#⟨wb,p,ts,g,rfl,hw,Zw,htb,λbb ys tr H2 hbn s2 YV Ov lb pw mo al=>?_⟩
  obtain⟨trl,tre⟩:=few lb;have jt:=yZ lb pw mo al;have prz:=CF Ov λt ht=>(al t ht).1
  refine(0#⟨wb,p,ts,g,bb,ys,tr.map Rj,rfl,hw.same s2,s2 _ _ htb,YV,prz,by rw[χ];lia,λH3 d s3 hd=>?_⟩)
  cases hd.mpr jt;refine⟨true,true,rfl,rfl,af rfl (cJ ?_)⟩;have mO:=s2.trans s3;refine(0#14#(br ⟨⟨16#0,16#0⟩,wb,p,ts,g,_,rfl,hw.same mO,by lia,mO _ _ Zw,λb2 ys2 tr2 H4 s4 GX UU lb2 pw2 mo2 Vc=>?_⟩))
  have E2:=mO.trans s4;refine⟨wb,p,ts,g,b2,ys2,tr2.map Rj,rfl,hw.same E2,E2 _ _ htb,GX,CF UU λt ht=>(Vc t ht).1,by rw[χ];have:=(few lb2).1;lia,λH5 d s5 hd=>?_⟩
  cases hd.mpr (yZ lb2 pw2 mo2 Vc);refine⟨true,true,rfl,rfl,af rfl (cJ ?_)⟩;have II:=E2.trans s5;refine(0#⟨wb,p,ts,g,_,rfl,hw.same II,by lia,II _ _ Zw,λb3 ys3 tr3 H6 s6 TJ Sg lb3 pw3 mo3 Yk=>?_⟩)
  have IJ:=II.trans s6;obtain⟨ahj,abW⟩:=few lb3;have Yr:=CF Sg λt ht=>(Yk t ht).1
  refine(0#14#(br ⟨⟨16#0,16#0,16#0⟩,br ⟨(h8 (16#0)),wb,p,ts,g,b3,ys3,tr3.map Rj,_,rfl,hw.same IJ,by lia,by lia,by lia,TJ,Yr,by rw[χ];lia,λh=>abW (tn h),nn tr3,λb4 ys4 tr4 H7 s7 hb4 pr4 l4=>?_⟩⟩))
  have Pb:=IJ.trans s7;have s27:=s3.trans (s4.trans (s5.trans (s6.trans s7)));refine(0#14#⟨_,3,rfl,16#0,16#0,λzm _ _=>⟨wb,p,ts,g,bb,ys,tr.map Rj,zm,rfl,hw.same Pb,by lia,by lia,by lia,s27 _ _ YV,Paired.imp' (λ_ _ z=>jK.tups s27.tups z) prz,by rw[χ];lia,λh=>tre (tn h),nn tr,λb5 ys5 tr5 H8 s8 Y6 pr5 l5=>?_⟩⟩)
  have za:=Pb.trans s8;refine 14#29#(λL hL=>?_)
  have j4:Jd p H8 (.ref b4):=Jd.same s8 ⟨b4,ys4,tr4,rfl,hb4,pr4,l4⟩;have j5:Jd p H8 (.ref b5):=⟨b5,ys5,tr5,rfl,Y6,pr5,l5⟩;have j3:Jd p H8 (.ref b3):=Jd.same (s7.trans s8) ⟨b3,ys3,tr3.map Rj,rfl,TJ,Yr,by rw[χ];lia⟩
  have s9:ah H8 (η H8 L (.lst [.ref b4,.ref b5,.ref b3])):=ah.new hL;have hL9:η H8 L (.lst [.ref b4,.ref b5,.ref b3]) L=1#([.ref b4,.ref b5,.ref b3]):=aa;generalize η H8 L (.lst [.ref b4,.ref b5,.ref b3])=H9 at s9 hL9;have Pc:=za.trans s9;refine 14#⟨91#hL9,0#⟨wb,p,ts,g,_,rfl,hw.same Pc,by lia,Pc _ _ Zw,λb6 ys6 tr6 zW GY UP Yl l6=>?_⟩⟩
  have Vg:=Pc.trans GY;have Vk:=GY _ _ hL9;refine⟨L,_,_,rfl,rfl,Vk,cZ (by show 3<=900;decide),?_⟩
  have put:=λ(v:V) (z:Jd p zW v)=>(show Jd p (η zW L 46#([.ref b4,.ref b5,.ref b3]++[.ref b6])) v from let⟨b,ys,tr,e,h1,h2,h3⟩:=z;⟨b,ys,tr,e,cV.put Vk _ _ h1,Paired.imp' (λ_ _ z=>jK.tups (cV.put Vk) z) h2,h3⟩)
  have OV:ah H8 (η zW L 46#([.ref b4,.ref b5,.ref b3]++[.ref b6])):=(s9.trans GY).put hL;have jd:∀v∈[V.ref b4,.ref b5,.ref b3,.ref b6],Jd p (η zW L 46#([.ref b4,.ref b5,.ref b3]++[.ref b6])) v:=λv hv=>by
   simp only[h!,R?,or_false]at hv;rcases hv with rfl|rfl|rfl|rfl
   .exact j4.same OV
   .exact j5.same OV
   .exact j3.same OV
   .exact put _ ⟨b6,ys6,tr6,rfl,UP,Yl,l6⟩
  have Vl:η zW L 46#([.ref b4,.ref b5,.ref b3]++[.ref b6]) L=1#([.ref b4,.ref b5,.ref b3,.ref b6]):=aa;have Vm:=hw.same (za.trans OV);have Su:=(za.trans OV) _ _ htb;show eI _ [some (.ref b),11#wb,3#(z/30),11#bb,11#b3,some (.ref L),none,none] _;generalize η zW L 46#([.ref b4,.ref b5,.ref b3]++[.ref b6])=Fg at jd Vl Vm Su ⊢;refine 14#⟨L,rfl,24#Vl,fC (K:=K) (a:=L) (xs:=[.ref b4,.ref b5,.ref b3,.ref b6]) (λi σ Vi=>∃v6 v7,σ=[some (.ref b),11#wb,3#(z/30),11#bb,11#b3,some (.ref L),v6,v7]/\ah Fg Vi) ⟨none,none,rfl,ah.refl _⟩ (λi σ Vi _ ⟨_,_,_,z⟩=>aM.of (z _ _ Vl)) ?_ (λσ Vi _=>fin _)⟩
  rintro i x D' σ Vi hi ⟨v6,v7,rfl,s12⟩;obtain⟨c,yc,tc,rfl,hc,pc,lc⟩:=(jd x (gB hi)).same s12;refine(0#⟨wb,p,ts,g,c,yc,tc,rfl,Vm.same s12,s12 _ _ Su,hc,pc,by lia,λH13 d mO hd=>?_⟩)
  have Ys:=s12.trans mO;refine 14#⟨_,_,_,_,_,rfl,rfl,.bl d,Tn K,_,rfl,cJ (0#28#⟨wb,p,ts,g,c,yc,tc,rfl,Vm.same Ys,mO _ _ hc,Paired.imp' (λ_ _ z=>jK.tups mO.tups z) pc,by lia,λH14 e E2 he=>15#(Aj (n! V.bl (W!.mpr (hd.trans he.symm))) ⟨_,_,rfl,Ys.trans E2⟩)⟩)⟩
end
section
variable {l:PySem.W.OpenLaw}{w:World}{K:b7}{h:Heap}{mg:oA}{fa f0 f1 f2 f3 f4 f5 f6 f7 f8 f9 f10 f11 f12 f13 f14 f15 f16 f17 f18 f19 f20 f21 f22 f23 f24 f25 f26 f27 f28 f29 f30 f31 f32 f33 f34 f35 f36 f37 f38 f39 f40 f41 f42 f43 f44 f45 f46 f47 f48 f49 f50 f51 f52 f53 f54 f55 f56 f57 f58 f59 f60 f61 f62 f63 f64 f65 f66 f67 f68 f69 f70 f71 f72 f73 f74 zb zd vn ze tK gw qO fF:Addr}{d0 d1 d2 d3 d4 d5 d6 d7 d8 d9 d10 d11 d12 d13 d14 d15 d16 d17 d18 d19 d20 d21 d22 d23 d24 d25 d26 d27 d28 d29 d30 d31 d32 d33 d34 d35 d36 d37 d38 d39 d40 d41 d42 d43 d44 d45 d46 d47 d48 d49 d50 d51 d52 d53 d54 d55 d56 d57 d58 d59 d60 d61 d62 d63 d64 d65 d66 d67 d68 d69 d70 d71 d72 d73 d74:FuncData}{ts:70#0}
open PySem.W
def all_mk(X:K.In h)(G:77#h.Ns)(hfa:mg "law"=11#fa)(te:ts=[gw,fF])
 (d_BadSet:nsIn K mainGlobals "BadSet"=some (11#zb))
 (d_BadPoint:nsIn K mainGlobals "BadPoint"=some (11#zd))
 (d_NoChord:nsIn K mainGlobals "NoChord"=some (11#vn))
 (d_NoBase:nsIn K mainGlobals "NoBase"=some (11#ze))
 (xc_BadSet:excIn K zb [.type "ValueError",.type "Exception",.type "BaseException",.type "object"] "ValueError.__new__"=true)
 (xc_NoChord:excIn K vn [.type "ValueError",.type "Exception",.type "BaseException",.type "object"] "ValueError.__new__"=true)
 (xc_NoBase:excIn K ze [.type "ValueError",.type "Exception",.type "BaseException",.type "object"] "ValueError.__new__"=true)
 (nt:noTabs K=true) (pn:([gw,fF]:70#0).Nodup) (pi:∀p∈([gw,fF]:70#0),p∈ts)
 (a0:Dk K "has_tie" uv f0 d0)
 (a1:Dk K "ties_in" qf f1 d1)
 (a2:Dk K "set_of" yq f2 d2)
 (a3:Dk K "all_ties" rh f3 d3)
 (a4:Dk K "is_set" yr f4 d4)
 (a5:Dk K "check_set" pD f5 d5)
 (a6:Dk K "triples_in" kg f6 d6)
 (a7:Dk K "length_of" lY f7 d7)
 (a8:Dk K "odd_points" kh f8 d8)
 (a9:Dk K "drawn_together" fY f9 d9)
 (a10:Dk K "pieces" sP f10 d10)
 (a11:Dk K "rank" Gj f11 d11)
 (a12:Dk K "is_even" uw f12 d12)
 (a13:Dk K "forest_trails" gV f13 d13)
 (a14:Dk K "forest" yt f14 d14)
 (a15:Dk K "chords" yu f15 d15)
 (a16:Dk K "ring_closed" qL f16 d16)
 (a17:Dk K "chord_ring" sR f17 d17)
 (a18:Dk K "is_ring" qi f18 d18)
 (a19:Dk K "is_ring_number" jk f19 d19)
 (a20:Uz K "by_length" lZ f20 d20 tK gw)
 (a21:Dk K "common" yw f21 d21)
 (a22:Dk K "bears_oddly" mz f22 d22)
 (a23:Dk K "is_side" AZ f23 d23)
 (a24:Dk K "cut_of" Ek f24 d24)
 (a25:Dk K "side_of" uy f25 d25)
 (a26:Dk K "steps_by_point" gb f26 d26)
 (a27:Uz K "least_ways" iT f27 d27 qO fF)
 (a28:Dk K "length_of_way" jS f28 d28)
 (a29:Dk K "worths_of_ways" gf f29 d29)
 (a30:Dk K "all_least_ways" gh f30 d30)
 (a31:Dk K "worths_of_all" gW f31 d31)
 (a32:Dk K "worths_for" nv f32 d32)
 (a33:Dk K "least_odd" l7 f33 d33)
 (a34:Dk K "near_enough" mD f34 d34)
 (a35:Dk K "tie_stands" nA f35 d35)
 (a36:Dk K "worths_stand" k7 f36 d36)
 (a37:Dk K "none_shorter" fP f37 d37)
 (a38:Dk K "ring_stands" mF f38 d38)
 (a39:Dk K "reduced" uB f39 d39)
 (a40:Dk K "with_row" rm f40 d40)
 (a41:Dk K "rows_of" uC f41 d41)
 (a42:Dk K "is_base" qj f42 d42)
 (a43:Dk K "marks_for" l8 f43 d43)
 (a44:Dk K "least_rings" gH f44 d44)
 (a45:Dk K "least_base" kj f45 d45)
 (a46:Dk K "marks_fit" jE f46 d46)
 (a47:Dk K "base_judged" fD f47 d47)
 (a48:Dk K "_law_cell_at" mH f48 d48)
 (a49:Dk K "_law_mixed" pH f49 d49)
 (a50:Dk K "_law_length" nE f50 d50)
 (a51:Dk K "_law_tie" uD f51 d51)
 (a52:Dk K "_law_web" jn f52 d52)
 (a53:Dk K "_law_counts" nG f53 d53)
 (a54:Dk K "_law_pieces" iU f54 d54)
 (a55:Dk K "_law_rank" rq f55 d55)
 (a56:Dk K "_law_even" nH f56 d56)
 (a57:Dk K "_law_ring" k8 f57 d57)
 (a58:Dk K "_law_long" nJ f58 d58)
 (a59:Dk K "_law_odd" uE f59 d59)
 (a60:Dk K "_law_added" pJ f60 d60)
 (a61:Dk K "_law_chosen" ko f61 d61)
 (a62:Dk K "_law_way" uF f62 d62)
 (a63:Dk K "_law_chord_rings" iV f63 d63)
 (a64:Dk K "_law_order" pL f64 d64)
 (a65:Dk K "_law_pair_fits" jT f65 d65)
 (a66:Dk K "_law_worths_stand" ik f66 d66)
 (a67:Dk K "_law_least_shown" iW f67 d67)
 (a68:Dk K "_law_due" kI f68 d68)
 (a69:Dk K "_law_other_worth" cG f69 d69)
 (a70:Dk K "_law_spoilt" nM f70 d70)
 (a71:Dk K "_law_other_base" dJ f71 d71)
 (a72:Dk K "_law_side_cut" lg f72 d72)
 (a73:Dk K "_law_own" kJ f73 d73)
 (a74:Dk K "law" NT f74 d74)
 (CK:Ng K "ValueError")
 (Yt:Ng K "abs")
 (Yu:Ng K "all")
 (Vn:Ng K "bool")
 (E6:Ng K "enumerate")
 (Yv:Ng K "int")
 (CL:Ng K "isinstance")
 (Yw:Ng K "len")
 (Vo:Ng K "list")
 (Yx:Ng K "max")
 (Yy:Ng K "min")
 (Rt:Ng K "range")
 (Hh:Ng K "reversed")
 (Yz:Ng K "set")
 (OX:Ng K "sorted")
 (YA:Ng K "sum")
 (Ru:Ng K "tuple")
 (YB:Ng K "zip")
 : ∃(fd:FuncData) (tb:vO),((tb.map (·.1)).Nodup/\noTabs K=true/\∀p∈tb,p.1∈ts/\∃c,codeHdIn K c p.1=true)/\(∀(s:Shared) (v:Value),BindsTo s fd ⟨[v],[]⟩ [("script",v)])/\∀base:Heap,K.In base->77#base.Ns->oH l.prog w K mg base HK 12 fa fd ["script"] (CJ K tb):=by
 have e:=hfa.symm.trans (mg_of X G a74.n);cases e;have T:∀base,Txt l.prog w base K mg ⟨f0,_,f1,_,f2,_,f3,_,f4,_,f5,_,f6,_,f7,_,f8,_,f9,_,f10,_,f11,_,f12,_,f13,_,f14,_,f15,_,f16,_,f17,_,f18,_,f19,_,f20,_,f21,_,f22,_,f23,_,f24,_,f25,_,f26,_,f27,_,f28,_,f29,_,f30,_,f31,_,f32,_,f33,_,f34,_,f35,_,f36,_,f37,_,f38,_,f39,_,f40,_,f41,_,f42,_,f43,_,f44,_,f45,_,f46,_,f47,_,f48,_,f49,_,f50,_,f51,_,f52,_,f53,_,f54,_,f55,_,f56,_,f57,_,f58,_,f59,_,f60,_,f61,_,f62,_,f63,_,f64,_,f65,_,f66,_,f67,_,f68,_,f69,_,f70,_,f71,_,f72,_,f73,_,fa,_,zb,zd,vn,ze,tK,gw,qO,fF⟩:=λ_=>⟨lX X G a0,Ge X G a1,lX X G a2,Ge X G a3,lX X G a4,lX X G a5,lX X G a6,lX X G a7,lX X G a8,NI X G a9,lX X G a10,Ge X G a11,lX X G a12,Ge X G a13,Ge X G a14,Ge X G a15,NI X G a16,lX X G a17,lX X G a18,lX X G a19,dl2 X G a20,lX X G a21,lX X G a22,lX X G a23,lX X G a24,lX X G a25,lX X G a26,dl3 X G a27,Ge X G a28,Ge X G a29,lX X G a30,Ge X G a31,lX X G a32,lX X G a33,NI X G a34,NI X G a35,NI X G a36,lX X G a37,dn4 X G a38,lX X G a39,lX X G a40,Ge X G a41,lX X G a42,lX X G a43,Ge X G a44,Ge X G a45,NI X G a46,lX X G a47,lX X G a48,lX X G a49,lX X G a50,NI X G a51,NI X G a52,lX X G a53,lX X G a54,Ge X G a55,lX X G a56,lX X G a57,lX X G a58,lX X G a59,lX X G a60,Ge X G a61,dn4 X G a62,lX X G a63,lX X G a64,NI X G a65,NI X G a66,dn4 X G a67,lX X G a68,lX X G a69,NI X G a70,lX X G a71,lX X G a72,lX X G a73,Ge X G a74,Y! X G CK.n,Y! X G Yt.n,Y! X G Yu.n,Y! X G Vn.n,Y! X G E6.n,Y! X G Yv.n,Y! X G CL.n,Y! X G Yw.n,Y! X G Vo.n,Y! X G Yx.n,Y! X G Yy.n,Y! X G Rt.n,Y! X G Hh.n,Y! X G Yz.n,Y! X G OX.n,Y! X G YA.n,Y! X G Ru.n,Y! X G YB.n,mg_of X G d_BadSet,mg_of X G d_BadPoint,mg_of X G d_NoChord,mg_of X G d_NoBase,λh1 X1 G1=>FE X1 G1 d_BadSet xc_BadSet,λh1 X1 G1=>FE X1 G1 d_NoChord xc_NoChord,λh1 X1 G1=>FE X1 G1 d_NoBase xc_NoBase⟩
 exact⟨_,[(gw,qz "by_length",fZ),(fF,qz "least_ways",cC)],⟨pn,nt,λp hp=>⟨pi _ (M_ (f:=(·.1)) hp),by simp only[h!,R?,or_false]at hp;rcases hp with rfl | rfl;all_goals first | exact⟨_,a20.F.hd⟩ | exact⟨_,a27.F.hd⟩⟩⟩,UA a74,λbase _ _=>Yq (T base)⟩
end
def walk{l:PySem.W.OpenLaw}{q:Program}{loose:List Str}{XP:(Str->81#0)->Heap->Prop}{YP:World->Heap->Prop}{d:DefRec}{K:Params->b7}{ts:70#0}(hn:l.most=some 63)(Ws:d.params.defaults=[])
 (hY:∀(w:World) (h:Heap),YP w h->(K w.params).In h/\∀P∈ts,h.get? P=some (PySem.W.tabObj #[]))
 (F:∀(w:World) (mg:oA) (fa:Addr) (h:Heap),(K w.params).In h->77#h.Ns->mg d.name=11#fa->
  ∃(fd:FuncData) (tb:vO),((tb.map (·.1)).Nodup/\PySem.W.noTabs (K w.params)=true/\∀p∈tb,p.1∈ts/\∃c,PySem.W.codeHdIn (K w.params) c p.1=true)/\(∀(s:Shared) (u:Value),BindsTo s fd ⟨[u],[]⟩ [("script",u)])/\∀base:Heap,(K w.params).In base->77#base.Ns->oH l.prog w (K w.params) mg base HK 12 fa fd ["script"] (CJ (K w.params) tb)) :
 PySem.W.WalkO q loose XP YP l.row.toRowW d [] (λf vs=>PySem.call f vs) :=
 L2.Nq (n:=63) (k:=12) (x:="script") (CX:=λ_=>HK) (sp:=λw=>CJ (K w.params)) hn (16#0) Ws ⟨rfl,16#0,16#0⟩ hY F (λ_ _ a ns tb hl hT hS=>⟨a,ns,rfl,hS,hl,hT,λ_=>rfl⟩) λ_ _ _ _ _ z=>z
end K30
namespace PySem.W.Fast
def tw6176439163958128267:=()
def tw4454435730697644168:=()
def tw17593079750532226599:=()
def tw12228488986444201562:=()
def tw1272307738823230413:=()
def tw14558073881123175963:=()
def tw8207492226464499326:=()
def tw10252876449036358289:=()
def tw10486683967685220117:=()
def tw11265225879296479496:=()
def tw16183596421578793069:=()
def tw8168135453217597925:=()
def tw11413918294382749697:=()
def tw13417686654663902010:=()
def tw13525525926572922838:=()
def tw16960748983963462444:=()
def tw15830280504660965267:=()
def tw697919979393751914:=()
def tw7667990750342618971:=()
def tw17759259182116835423:=()
def tw2854899475612524971:=()
def tw12831819447445487782:=()
def tw4731972584038613238:=()
def tw11775354897692203039:=()
def tw16988810909863649018:=()
def tw8559951522805508827:=()
def tw13047316393872787980:=()
def tw2825610712388667143:=()
def tw4168047737802108154:=()
def tw5764309404450302355:=()
def tw11114866232939749107:=()
def tw8458076044563391618:=()
def tw2988768122127563971:=()
def tw5995466904113704713:=()
def tw12996590692551214179:=()
def tw11099912755285844357:=()
def tw16881707807570676908:=()
def tw4835283910884998922:=()
def tw2673556136878100198:=()
def tw606381259581462684:=()
def tw5118771529069116092:=()
def tw3065862710281378224:=()
def tw12611713291354351306:=()
def tw253825695794277580:=()
def tw1990018816653301333:=()
def tw1459135227892131834:=()
def tw6373583265562998597:=()
def tw13306909333742366187:=()
def tw3057025335426571591:=()
def tw5743592710939831574:=()
def tw6561792457051188628:=()
def tw1444997805565714077:=()
def tw5835888853939068712:=()
def tw6580994961388173637:=()
def tw9739228837123905104:=()
def tw5205047103818559764:=()
def tw9457440984626518385:=()
def tw3335704531632418026:=()
def tw16744686456500025393:=()
def tw14586889958645053112:=()
def tw10654223547688385629:=()
def tw3183767769810597949:=()
def tw1536135856547998844:=()
def tw11227824005354723781:=()
def tw699193116983816899:=()
def tw18329879632510718413:=()
def tw1006872366527688907:=()
def tw9709180247031737092:=()
def tw6445394878935366895:=()
def tw2828908236970188934:=()
def tw14386372229605102284:=()
def tw10825985264740903162:=()
def tw643617443681755551:=()
def tw14704045238838467564:=()
def tw12873764066080961327:=()
def tw2305392038942525533:=()
def tw15653064173581225507:=()
def tw12009163888699575071:=()
def tw2226590685856396178:=()
def tw4232716633337233788:=()
def tw14103103927990268081:=()
def tw8603186921237624198:=()
def tw5972280819368280762:=()
def tw18429395434071162945:=()
def tw7854499462802616742:=()
def tw156794002434726628:=()
def tw4522227645855657755:=()
def tw6349614048878895529:=()
def tw13698177945497742471:=()
def tw4579406187615189102:=()
def tw12020865464432917793:=()
def tw4634473907406646265:=()
def tw3867299412886890395:=()
def tw4548763044550801779:=()
def tw13966467473706931444:=()
def tw15791009959745719542:=()
def tw2013214347832812990:=()
def tw9479200105769426691:=()
def tw10440112077031430402:=()
def tw8096902260307853019:=()
def tw8901488195927590252:=()
def tw7891474457607789280:=()
def tw14431455946681753658:=()
def tw9565576549723636017:=()
def tw4016447247008298287:=()
def tw4314755395953735925:=()
def tw13406421420559038401:=()
def tw9674119726857007609:=()
def tw17755654871860814701:=()
def tw10569517966818104981:=()
def tw14188596254827080881:=()
def tw12431395163615992919:=()
def tw5557768484407282197:=()
def tw2849885161723951660:=()
def tw11803324727032156587:=()
def tw13350445093308936211:=()
def tw15766649411560387514:=()
def tw4170431545328737931:=()
def tw9714520859418195000:=()
def tw10684670853095304829:=()
def tw8062504126865550065:=()
def tw16144446130789470263:=()
def tw16463331420351133483:=()
def tw1160021134868898845:=()
def tw1003689762496004948:=()
def tw660746944918735495:=()
def tw9587574338697374318:=()
def tw11033051250771710264:=()
def tw8502497057115382700:=()
def tw13353955410108349725:=()
def tw16960088780515544125:=()
def tw15482517424995309662:=()
def tw8909801683958787139:=()
def tw12688390745419247964:=()
def tw4707272270298736921:=()
def tw14690358929834735899:=()
def tw12615145752537802280:=()
def tw8914678648837445003:=()
def tw13235808948315902742:=()
def tw6350100797400001404:=()
def tw5148418523442104650:=()
def tw2074573466789275073:=()
def tw17352639426734597519:=()
def tw7168997745329570276:=()
def tw9444439865285134230:=()
def tw10507509116225593724:=()
def tw14303422594615468043:=()
def tw8744397723945144760:=()
def tw6292720967730922816:=()
def tw4445113024041329840:=()
def tw2386234495236064877:=()
def tw15247846996672902951:=()
def tw13651398540110382646:=()
def tw22646887787140227:=()
def tw8494479136111556452:=()
def tw16634457527774804738:=()
def tw9483045505154628298:=()
def tw4246950304353064093:=()
def tw10693943218016604568:=()
def tw9277015714125377771:=()
def tw6365823354508871293:=()
def tw17361436852943237236:=()
def tw17375934623183986418:=()
def tw1781721865407793533:=()
def tw11412142378378085578:=()
def tw2241625363287271104:=()
def tw13556698458666126199:=()
def tw122902888922701231:=()
def tw17445717090575663764:=()
def tw9330944880235718741:=()
def tw4602128119895508329:=()
def tw10346666237575526306:=()
def tw13847038825010106514:=()
def tw1112770904099051490:=()
def tw15751875671766938149:=()
def tw3148702347363754866:=()
def tw12569609230342960165:=()
def tw14108796969454550108:=()
def tw5708433843101776315:=()
def tw14270674001247658151:=()
def tw8723071636438143135:=()
def tw16049114931084056764:=()
def tw5249802315649446734:=()
end PySem.W.Fast
open PySem PySem.W PyProof.Rows
set_option maxRecDepth 100000 in
set_option maxHeartbeats 0 in
theorem PySem.Challenge.cw_ringbase_k30_bases_judged_holds : PySem.Challenge.rw_ringbase_k30_bases_judged.Holds := by
 w_on;o_law;k_head;(case hw=>w_witness2)
 k_fill
 refine K30.walk (l:=PySem.Challenge.rw_ringbase_k30_bases_judged) rfl rfl (fun w h Y=>⟨PySem.W.km_in_of Y,PySem.W.km_tabs_of Y⟩) ?F
 case F =>
  intro w mg fa h KX G hmg;refine' K30.all_mk KX G hmg ?te ?d_BadSet ?d_BadPoint ?d_NoChord ?d_NoBase ?xc_BadSet ?xc_NoChord ?xc_NoBase ?nt ?pn ?pi ..
  (case te=>exact rfl)
  (case d_BadSet=>k_is)
  (case d_BadPoint=>k_is)
  (case d_NoChord=>k_is)
  (case d_NoBase=>k_is)
  any_goals (refine' L2.dk ?ga ?gl ?gc ?gk;(case ga=>k_is);(case gl=>k_is);(case gc=>k_is);(case gk=>k_is))
  any_goals (refine' L2.dkL ?ga ?gl ?gc ?gk ?gd;(case ga=>k_is);(case gl=>k_is);(case gd=>kernel_rfl);(case gc=>k_is);(case gk=>k_is))
  any_goals (refine' L2.Ng.mk ?ga;(case ga=>k_is))
  (case xc_BadSet=>k_exc)
  (case xc_NoChord=>k_exc)
  (case xc_NoBase=>k_exc)
  (case nt=>kernel_rfl)
  (case pn=>decide)
  (case pi=>decide)
